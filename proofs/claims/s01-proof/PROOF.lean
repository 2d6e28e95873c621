import PyProof.Rows.All
import Wide.All
import OpenK.AllK
import Wide.FinOn
import PyProof.EqAt
import PyProof.EqKinds
import PyProof.TupleCall
import KE.BitLaws
import Open.SpecLaws
import KE.OsHead
import KE.OsGo
import KE.SpHead
import KE.OsShapes
import PyProof.Wp
import PyProof.Rows.SortShellAny
import KE.KSortTupG
import KE.KSortTupAny
import KE.KDictList
import PyProof.TupleOfGen
import PyProof.ListRange
import PySem.Challenge.RW_flavourruns_s01_answers
set_option Elab.async false
set_option linter.all false
set_option maxRecDepth 100000
set_option maxHeartbeats 2000000
namespace L2
open PySem PySem.Spec PyProof.Rows
abbrev Key:=Sum Int Str
def keyIs:Key→Value→Bool
  | .inl k,v=>Value.isInt k v
  | .inr x,v=>Value.isStrOf x v
def keyH (w:World):Key→Int
  | .inl k=>hashInt k
  | .inr x=>hashStr w x
theorem keyIs_shape:∀ {k:Key} {v:Value},keyIs k v=true→(∃ i t,k=Sum.inl i∧v=Value.int i t)∨(∃ x t,k=Sum.inr x∧v=Value.str x t)
  | .inl i,v,h=>by
    obtain ⟨t,e⟩:=Value.isInt_shape (k:=i) (v:=v) h
    exact .inl ⟨i,t,rfl,e⟩
  | .inr x,v,h=>by
    obtain ⟨t,e⟩:=Value.isStrOf_shape (x:=x) (v:=v) h
    exact .inr ⟨x,t,rfl,e⟩
theorem keyIs_int (i:Int) (t:Tok):keyIs (.inl i) (.int i t)=true:=by simp [keyIs,Value.isInt]
theorem keyIs_str (x:Str) (t:Tok):keyIs (.inr x) (.str x t)=true:=by simp [keyIs,Value.isStrOf]
theorem key_ll (a b:Int):decide ((Sum.inl a:Key)=Sum.inl b)=(a == b):=by
  by_cases e:a=b
  · subst e; simp
  · have h:¬ (Sum.inl a:Key)=Sum.inl b:=fun q=>e (Sum.inl.inj q)
    rw [decide_eq_false h]
    exact (beq_eq_false_iff_ne.mpr e).symm
theorem key_rr (a b:Str):decide ((Sum.inr a:Key)=Sum.inr b)=decide (a=b):=by
  by_cases e:a=b
  · subst e; simp
  · have h:¬ (Sum.inr a:Key)=Sum.inr b:=fun q=>e (Sum.inr.inj q)
    rw [decide_eq_false h,decide_eq_false e]
theorem key_lr (a:Int) (b:Str):decide ((Sum.inl a:Key)=Sum.inr b)=false:=decide_eq_false (fun q=>nomatch q)
theorem key_rl (a:Str) (b:Int):decide ((Sum.inr a:Key)=Sum.inl b)=false:=decide_eq_false (fun q=>nomatch q)
def mixKind (prog:Program) (w:World):PySem.KeyKind prog w Key where
  is:=keyIs
  hash:=keyH w
  inj:=fun v a b ha hb=>by
    rcases keyIs_shape ha with ⟨i,t,rfl,rfl⟩ | ⟨x,t,rfl,rfl⟩
    · rcases keyIs_shape hb with ⟨j,u,rfl,e⟩ | ⟨y,u,rfl,e⟩
      · injection e with e1 _; rw [e1]
      · exact nomatch e
    · rcases keyIs_shape hb with ⟨j,u,rfl,e⟩ | ⟨y,u,rfl,e⟩
      · exact nomatch e
      · injection e with e1 _; rw [e1]
  byValue:=fun k v h=>by
    rcases keyIs_shape h with ⟨i,t,rfl,rfl⟩ | ⟨x,t,rfl,rfl⟩ <;> rfl
  pyHash:=fun hv h=>by
    rcases keyIs_shape hv with ⟨i,t,rfl,rfl⟩ | ⟨x,t,rfl,rfl⟩
    · exact wpAny_pyHash_int h
    · exact wpAny_pyHash_str h
  eqBool:=fun hu hv h=>by
    rcases keyIs_shape hu with ⟨i,t,rfl,rfl⟩ | ⟨x,t,rfl,rfl⟩
    · rcases keyIs_shape hv with ⟨j,u,rfl,rfl⟩ | ⟨y,u,rfl,rfl⟩
      · rw [key_ll] at h; exact wpAny_eqBool_int h
      · rw [key_lr] at h; exact SeqAt.EqAt.int_str i t y u _ _ _ _ h
    · rcases keyIs_shape hv with ⟨j,u,rfl,rfl⟩ | ⟨y,u,rfl,rfl⟩
      · rw [key_rl] at h; exact SeqAt.EqAt.str_int x t j u _ _ _ _ h
      · rw [key_rr] at h; exact wpAny_eqBool_str h
  «strs»:=fun k x t v h=>by
    rcases keyIs_shape h with ⟨i,u,rfl,e⟩ | ⟨y,u,rfl,e⟩
    · exact nomatch e
    · injection e with e1 _
      subst e1
      cases v <;> rfl
theorem mixKind_int (prog:Program) (w:World) (i:Int) (t:Tok):(mixKind prog w).is (.inl i) (.int i t)=true:=keyIs_int i t
theorem mixKind_str (prog:Program) (w:World) (x:Str) (t:Tok):(mixKind prog w).is (.inr x) (.str x t)=true:=keyIs_str x t
end L2
namespace L2
open PySem PySem.Spec PyProof.Rows
inductive V where
  | non | bl (b:Bool) | int (i:Int) | str (x:Str) | byt (b:Array UInt8) | flt (b:UInt64) | ref (a:Addr) | ty (n:String)
  deriving DecidableEq
def RelV:V→Value→Prop
  | .non,u=>u=Value.none
  | .bl b,u=>u=Value.bool b
  | .int i,u=>∃ t,u=Value.int i t
  | .str x,u=>∃ t,u=Value.str x t
  | .byt b,u=>∃ t,u=Value.bytes b t
  | .flt b,u=>∃ t,u=Value.float b t
  | .ref a,u=>u=Value.ref a
  | .ty n,u=>u=Value.type n
abbrev Vals:List V→List Value→Prop:=Paired RelV
theorem Vals.length {xs:List V} {us:List Value} (r:Vals xs us):xs.length=us.length:=Paired.length r
theorem Vals.get:∀ {xs:List V} {us:List Value} {i:Nat} {x:V},Vals xs us→xs[i]?=some x→∃ u,us[i]?=some u∧RelV x u
  | _,_,_,_,.nil,e=>by simp at e
  | _,_,0,_,.cons r _,e=>by simp at e; subst e; exact ⟨_,rfl,r⟩
  | _,_,i+1,x,.cons _ t,e=>by
    obtain ⟨u,h1,h2⟩:=Vals.get (i:=i) (x:=x) t (by simpa using e)
    exact ⟨u,by simpa using h1,h2⟩
theorem Vals.set {x:V} {u:Value} (r:RelV x u):∀ {xs:List V} {us:List Value} (i:Nat),Vals xs us→Vals (xs.set i x) (us.set i u)
  | _,_,_,.nil=>.nil
  | _,_,0,.cons _ t=>.cons r t
  | _,_,i+1,.cons q t=>.cons q (Vals.set r i t)
theorem Vals.append:∀ {xs ys:List V} {us ws:List Value},Vals xs us→Vals ys ws→Vals (xs++ys) (us++ws)
  | _,_,_,_,.nil,s=>s
  | _,_,_,_,.cons r t,s=>.cons r (Vals.append t s)
theorem Vals.take:∀ {xs:List V} {us:List Value} (n:Nat),Vals xs us→Vals (xs.take n) (us.take n)
  | _,_,0,_=>.nil
  | _,_,_+1,.nil=>.nil
  | _,_,n+1,.cons r t=>.cons r (Vals.take n t)
theorem Vals.drop:∀ {xs:List V} {us:List Value} (n:Nat),Vals xs us→Vals (xs.drop n) (us.drop n)
  | _,_,0,r=>r
  | _,_,_+1,.nil=>.nil
  | _,_,n+1,.cons _ t=>Vals.drop n t
def RelO:Option V→Option Value→Prop
  | some v,some u=>RelV v u
  | none,none=>True
  | _,_=>False
def KV {κ:Type}:List (κ×V)→List (κ×Value)→Prop:=Paired fun (p:κ×V) (q:κ×Value)=>p.1=q.1∧RelV p.2 q.2
def kV:Key→V
  | .inl i=>.int i
  | .inr x=>.str x
inductive HO where
  | lst (xs:List V)
  | tup (xs:List V)
  | dK (kvs:List (Key×V)) | dT (kvs:List (List Key×V))
  | set (S:Int→Bool) (n:Nat)
  | ins (C dx:Addr) (fs:List (Str×V))
  | own (x:Addr)
  | xd (fs:List (Str×V))
  | met (f x:Addr)
  | rng (lo hi:Int)
  | frz (o:Obj) (u:HO)
  | tbl (ps:Array Value)
  | ext (φ:Heap→Prop)
abbrev Hp:=Addr→Option HO
def upd (H:Hp) (a:Addr) (o:HO):Hp:=fun b=>if b=a then some o else H b
theorem upd_same {H:Hp} {a:Addr} {o:HO}:upd H a o a=some o:=by unfold upd; rw [if_pos rfl]
theorem upd_ne {H:Hp} {a b:Addr} {o:HO} (h:b≠a):upd H a o b=H b:=by unfold upd; rw [if_neg h]
theorem ne_of {H:Hp} {a b:Addr} {o u:HO} (h:H a=some o) (h':H b=some u) (d:o≠u):a≠b:=by
  intro e; subst e; rw [h] at h'; exact d (Option.some.inj h')
theorem ne_of_none {H:Hp} {a b:Addr} {o:HO} (h:H a=some o) (h':H b=none):a≠b:=by
  intro e; subst e; rw [h] at h'; cases h'
section
variable (P:Program) (w:World)
def ObjOk (H:Hp) (h:Heap) (a:Addr):HO→Prop
  | .lst xs=>xs.length≤sizeLine∧∃ (its:List Value) (n:Nat),Vals xs its∧h.get? a=some { cls:=.type "list",data:=.seq its.toArray n }
  | .tup xs=>xs.length≤sizeLine∧∃ its:List Value,Vals xs its∧IsTup h a its.toArray
  | .dK kvs=>kvs.length≤sizeLine∧(a == sysModules)=false∧∃ vs,KV kvs vs∧h.DictOf (mixKind P w) a vs
  | .dT kvs=>kvs.length≤sizeLine∧(a == sysModules)=false∧∃ xs:List (List Key×Addr×Value),
      Paired (fun (p:List Key×V) (q:List Key×Addr×Value)=>p.1=q.1∧H q.2.1=some (.tup (p.1.map kV))∧RelV p.2 q.2.2) kvs xs ∧
      ∃ o es ep,h.get? a=some o∧o.ExactDict∧o.data=.dict es ep∧es.toList=xs.map (entryOfKey (tupleKind (mixKind P w)))∧(xs.map (·.1)).Nodup
  | .set S n=>h.SetOf (intKind P w) a S n
  | .ins C dx fs=>H dx=some (.own a)∧fs.length≤1000∧dx≠a∧h.get? a=some (PySem.W.instObj C dx) ∧
      ∃ mA,h.Ns1 dx mA∧(∀ f,RelO (fs.lookup f) (mA f))∧PySem.Within mA (fs.map (·.1))
  | .own _=>∃ o,h.get? a=some o
  | .xd fs=>∃ mA,h.Ns1 a mA∧∀ f,RelO (fs.lookup f) (mA f)
  | .rng lo hi=>∃ t u v,h.get? a=some { cls:=.type "range",data:=.fields #[.int lo t,.int hi u,.int 1 v] }
  | .frz o u=>h.get? a=some o∧ObjOk H h a u
  | .tbl ps=>h.get? a=some { cls:=.none,data:=.fields ps }
  | .met f x=>h.get? a=some (PySem.W.methodObj (.ref f) (.ref x))
  | .ext φ=>φ h∧(∃ o,h.get? a=some o)∧∀ h1 h2:Heap,φ h1→(∀ o,h1.get? a=some o→h2.get? a=some o)→φ h2
def HOk (H:Hp) (h:Heap):Prop:=∀ a o,H a=some o→ObjOk P w H h a o
end
section
variable {P:Program} {w:World} {H H':Hp} {h h':Heap} {a:Addr} {o:HO}
theorem ObjOk.lt (x:ObjOk P w H h a o):a<h.objs.size:=by
  cases o with
  | lst xs=>obtain ⟨_,_,_,_,e⟩:=x; exact Heap.lt_size e
  | tup xs=>obtain ⟨_,_,_,p⟩:=x; exact p.lt
  | dK kvs=>obtain ⟨_,_,_,_,o,_,_,e,_⟩:=x; exact Heap.lt_size e
  | dT kvs=>obtain ⟨_,_,_,_,o,_,_,e,_⟩:=x; exact Heap.lt_size e
  | set S n=>obtain ⟨o,_,_,_,e,_⟩:=x; exact Heap.lt_size e
  | ins C dx fs=>obtain ⟨_,_,_,e,_⟩:=x; exact Heap.lt_size e
  | own y=>obtain ⟨_,e⟩:=x; exact Heap.lt_size e
  | xd fs=>obtain ⟨_,⟨_,_,_,e,_⟩,_⟩:=x; exact Heap.lt_size e
  | rng lo hi=>obtain ⟨_,_,_,e⟩:=x; exact Heap.lt_size e
  | frz ob u=>obtain ⟨e,_⟩:=x; exact Heap.lt_size e
  | tbl ps=>exact Heap.lt_size (show h.get? a=some _ from x)
  | met f y=>exact Heap.lt_size (show h.get? a=some _ from x)
  | ext φ=>obtain ⟨_,⟨_,e⟩,_⟩:=x; exact Heap.lt_size e
theorem Paired.mapP {α β:Type} {F G:α→β→Prop}:∀ {l₁:List α} {l₂:List β},Paired F l₁ l₂→(∀ a b,F a b→G a b)→Paired G l₁ l₂
  | _,_,.nil,_=>.nil
  | _,_,.cons r t,f=>.cons (f _ _ r) (Paired.mapP t f)
theorem ObjOk.stay (x:ObjOk P w H h a o) (k:∀ b u,(b=a∨H b=some (.own a))→h.get? b=some u→h'.get? b=some u)
    (ho:∀ b,H b=some (.own a)→H' b=some (.own a)) (ht:∀ b xs,H b=some (.tup xs)→H' b=some (.tup xs)):ObjOk P w H' h' a o:=by
  induction o with
  | lst xs=>obtain ⟨z,its,n,r,e⟩:=x; exact ⟨z,its,n,r,k _ _ (.inl rfl) e⟩
  | tup xs=>obtain ⟨z,its,r,ob,e,c⟩:=x; exact ⟨z,its,r,ob,k _ _ (.inl rfl) e,c⟩
  | dK kvs=>obtain ⟨z,y,vs,r,ob,es,ep,e,c⟩:=x; exact ⟨z,y,vs,r,ob,es,ep,k _ _ (.inl rfl) e,c⟩
  | dT kvs =>
    obtain ⟨z,y,xs,r,ob,es,ep,e,c⟩:=x
    exact ⟨z,y,xs,Paired.mapP r fun p q z=>⟨z.1,ht _ _ z.2.1,z.2.2⟩,ob,es,ep,k _ _ (.inl rfl) e,c⟩
  | set S n=>obtain ⟨ob,es,ep,t,e,c⟩:=x; exact ⟨ob,es,ep,t,k _ _ (.inl rfl) e,c⟩
  | ins C dx fs =>
    obtain ⟨d,z,ne,e,mA,⟨od,es,ep,e2,c⟩,r⟩:=x
    exact ⟨ho _ d,z,ne,k _ _ (.inl rfl) e,mA,⟨od,es,ep,k _ _ (.inr d) e2,c⟩,r⟩
  | own y=>obtain ⟨ob,e⟩:=x; exact ⟨ob,k _ _ (.inl rfl) e⟩
  | xd fs=>obtain ⟨mA,⟨od,es,ep,e,c⟩,r⟩:=x; exact ⟨mA,⟨od,es,ep,k _ _ (.inl rfl) e,c⟩,r⟩
  | rng lo hi=>obtain ⟨t,u,v,e⟩:=x; exact ⟨t,u,v,k _ _ (.inl rfl) e⟩
  | frz ob u ih=>obtain ⟨e,q⟩:=x; exact ⟨k _ _ (.inl rfl) e,ih q⟩
  | tbl ps =>
    have e:h.get? a=some { cls:=.none,data:=.fields ps }:=x
    show h'.get? a=some { cls:=.none,data:=.fields ps }
    exact k a _ (.inl rfl) e
  | met f y =>
    have e:h.get? a=some (PySem.W.methodObj (.ref f) (.ref y)):=x
    show h'.get? a=some (PySem.W.methodObj (.ref f) (.ref y))
    exact k a _ (.inl rfl) e
  | ext φ=>obtain ⟨p,⟨o,e⟩,st⟩:=x; exact ⟨st _ _ p fun o q=>k _ _ (.inl rfl) q,⟨o,k _ _ (.inl rfl) e⟩,st⟩
theorem HOk.lt (x:HOk P w H h) (e:H a=some o):a<h.objs.size:=(x a o e).lt
theorem HOk.fresh (x:HOk P w H h) (e:h.objs.size≤a):H a=none:=by
  cases q:H a with
  | none=>rfl
  | some u=>exact absurd (Nat.lt_of_lt_of_le (x.lt q) e) (Nat.lt_irrefl _)
theorem HOk.kept (x:HOk P w H h) (k:∀ b u,h.get? b=some u→h'.get? b=some u):HOk P w H h':=fun a o e =>
  (x a o e).stay (fun b u _ q=>k b u q) (fun _ q=>q) fun _ _ q=>q
theorem HOk.laid (x:HOk P w H h) (k:∀ b u,h.get? b=some u→h'.get? b=some u) (hp:h.objs.size≤a) (new:ObjOk P w (upd H a o) h' a o):HOk P w (upd H a o) h':=fun b u e=>by
  have hn:=x.fresh hp
  by_cases hb:b=a
  · subst hb; rw [upd_same] at e; cases e; exact new
  · rw [upd_ne hb] at e
    exact (x b u e).stay (fun c v _ q=>k c v q) (fun c q=>by rw [upd_ne (ne_of_none q hn)]; exact q) fun c xs q=>by rw [upd_ne (ne_of_none q hn)]; exact q
end
def Rd (H:Hp) (a:Addr) (u:HO):Prop:=H a=some u∨∃ o,H a=some (.frz o u)
theorem Rd.ok {P:Program} {w:World} {H:Hp} {h:Heap} {a:Addr} {u:HO} (r:Rd H a u) (x:HOk P w H h):ObjOk P w H h a u:=by
  rcases r with r | ⟨o,r⟩
  · exact x a u r
  · obtain ⟨_,q⟩:=x a _ r
    exact q
def Mut:Option HO→Prop
  | some (.lst _)=>True
  | some (.dK _)=>True
  | some (.dT _)=>True
  | some (.set _ _)=>True
  | some (.ins _ _ _)=>True
  | some (.ext _)=>True
  | _=>False
section
variable {P:Program} {w:World} {H:Hp} {h h':Heap} {x e:Addr} {o':HO}
theorem HOk.write (ok:HOk P w H h) (mu:Mut (H x)) (he:e=x∨H e=some (.own x)) (k:∀ b u,b≠e→h.get? b=some u→h'.get? b=some u) (heo:∃ u,h'.get? e=some u)
    (new:ObjOk P w (upd H x o') h' x o'):HOk P w (upd H x o') h':=fun b u q=>by
  have nown:∀ c y,H c=some (.own y)→c≠x:=fun c y r z=>by subst z; rw [r] at mu; exact mu
  have ntup:∀ c xs,H c=some (.tup xs)→c≠x:=fun c xs r z=>by subst z; rw [r] at mu; exact mu
  by_cases hb:b=x
  · subst hb; rw [upd_same] at q; cases q; exact new
  · rw [upd_ne hb] at q
    by_cases hbe:b=e
    · have q':H b=some (.own x):=by
        rcases he with z | z
        · exact absurd (hbe.trans z) hb
        · rw [hbe]; exact z
      rw [q] at q'; cases q'
      obtain ⟨v,hv⟩:=heo
      exact ⟨v,by rw [hbe]; exact hv⟩
    · refine (ok b u q).stay (fun c v hc r=>k c v ?_ r) (fun c r=>by rw [upd_ne (nown c b r)]; exact r) fun c xs r=>by rw [upd_ne (ntup c xs r)]; exact r
      rcases hc with rfl | hc
      · exact hbe
      · rintro rfl
        rcases he with z | z
        · exact nown c b hc z
        · rw [hc] at z; cases z; exact hb rfl
end
structure Un (fs ex:List Addr) (H H':Hp) (h h':Heap):Prop where
  keep:∀ b o,h.get? b=some o→H b=none→b ∉ fs→b ∉ ex→h'.get? b=some o
  slot:∀ b o,h.get? b=some o→H b=none→b ∈ fs→b ∉ ex→∃ sl,h'.get? b=some { o with slots:=sl }
  free:∀ b o,h.get? b=some o→H b=none→b ∉ ex→H' b=none
  there:∀ b o,h.get? b=some o→b ∉ ex→∃ o',h'.get? b=some o'
  tups:∀ b xs,H b=some (.tup xs)→H' b=some (.tup xs)
  frzs:∀ b o u,H b=some (.frz o u)→H' b=some (.frz o u)
  tbls:∀ b ps,H b=some (.tbl ps)→∃ more,H' b=some (.tbl (ps++more))
section
variable {fs fs' ex ex':List Addr} {H H1 H2:Hp} {h h1 h2 h':Heap} {a x e:Addr} {o:HO}
theorem Un.any (u:Un fs ex H H1 h h1) {b:Addr} {ob:Obj} (q:h.get? b=some ob) (n:H b=none) (hx:b ∉ ex):∃ sl,h1.get? b=some { ob with slots:=sl }:=by
  by_cases hb:b ∈ fs
  · exact u.slot b ob q n hb hx
  · exact ⟨ob.slots,u.keep b ob q n hb hx⟩
theorem Un.kept (k:∀ b u,h.get? b=some u→h'.get? b=some u):Un fs ex H H h h' :=
  ⟨fun b ob q _ _ _=>k b ob q,fun b ob q _ _ _=>⟨ob.slots,k b ob q⟩,fun _ _ _ n _=>n,fun b ob q _=>⟨ob,k b ob q⟩,fun _ _ q=>q,fun _ _ _ q=>q,fun _ ps q=>⟨#[],by rw [q]; simp⟩⟩
theorem Un.refl:Un fs ex H H h h:=Un.kept fun _ _ q=>q
theorem Un.laid (k:∀ b u,h.get? b=some u→h'.get? b=some u) (hp:h.objs.size≤a) (hn:H a=none):Un fs ex H (upd H a o) h h' where
  keep:=fun b u q _ _ _=>k b u q
  slot:=fun b u q _ _ _=>⟨u.slots,k b u q⟩
  free:=fun b u q n _=>by rw [upd_ne (Nat.ne_of_lt (Nat.lt_of_lt_of_le (Heap.lt_size q) hp))]; exact n
  there:=fun b u q _=>⟨u,k b u q⟩
  tups:=fun b xs q=>by rw [upd_ne (ne_of_none q hn)]; exact q
  frzs:=fun b u xs q=>by rw [upd_ne (ne_of_none q hn)]; exact q
  tbls:=fun b ps q=>⟨#[],by rw [upd_ne (ne_of_none q hn),q]; simp⟩
theorem Un.write (mu:Mut (H x)) (he:e=x∨H e=some (.own x)) (k:∀ b u,b≠e→h.get? b=some u→h'.get? b=some u) (heo:∃ u,h'.get? e=some u):Un fs ex H (upd H x o) h h':=by
  have hx:∀ b,H b=none→b≠x:=fun b n z=>by subst z; rw [n] at mu; exact mu
  have hb:∀ b,H b=none→b≠e:=fun b n z=>by
    subst z
    rcases he with r | r
    · exact hx b n r
    · rw [n] at r; cases r
  have hm:∀ b u,H b=some u→¬ Mut (some u)→b≠x:=fun b u q nm z=>by subst z; rw [q] at mu; exact nm mu
  refine ⟨fun b u q n _ _=>k b u (hb b n) q,fun b u q n _ _=>⟨u.slots,k b u (hb b n) q⟩,fun b u q n _=>by rw [upd_ne (hx b n)]; exact n,fun b u q _=>?_,
    fun b xs q=>by rw [upd_ne (hm b _ q fun z=>z)]; exact q,fun b u xs q=>by rw [upd_ne (hm b _ q fun z=>z)]; exact q,fun b ps q=>⟨#[],by rw [upd_ne (hm b _ q fun z=>z),q]; simp⟩⟩
  by_cases hbe:b=e
  · subst hbe; exact heo
  · exact ⟨u,k b u hbe q⟩
end
def trk (h:Heap) (H:Hp):List Addr:=(List.range h.objs.size).filter fun a=>(H a).isSome
def hidT (h:Heap) (H:Hp):Heap:=PySem.W.hideAll h (trk h H)
theorem hidT_size (h:Heap) (H:Hp):(hidT h H).objs.size=h.objs.size:=PySem.W.hideAll_size _ _
theorem hidT_get {h:Heap} {H:Hp} {b:Addr} {o:Obj} (e:h.get? b=some o) (n:H b=none):(hidT h H).get? b=some o :=
  PySem.W.hideAll_get _ e fun hm=>by
    have q:(H b).isSome=true:=(List.mem_filter.mp hm).2
    rw [n] at q; simp at q
theorem of_hidT {h:Heap} {H:Hp} {b:Addr} {o:Obj} (e:(hidT h H).get? b=some o):h.get? b=some o∧H b=none:=by
  have e':h.get? b=some o:=PySem.W.of_hideAll (trk h H) e
  refine ⟨e',?_⟩
  cases q:H b with
  | none=>rfl
  | some x =>
    have hm:b ∈ trk h H:=List.mem_filter.mpr ⟨List.mem_range.mpr (Heap.lt_size e'),by simp [q]⟩
    have z:(hidT h H).get? b=none:=PySem.W.hideAll_none (trk h H) hm
    rw [z] at e; cases e
end L2
namespace L2
open PySem PySem.Spec PyProof.Rows
structure Mod (K:PySem.W.Frag) (mg:Str→Option Value) (base:Heap):Prop where
  kin:K.In base
  glob:base.Ns mainGlobals mg
  blt:∃ mb,base.Ns builtinsNs mb∧∀ x:Str,x≠"__name__"→mb x=bootBuiltins x
  nolimit:base.NoLimit
structure Cx where
  prog:Program
  w:World
  K:PySem.W.Frag
  mg:Str→Option Value
  base:Heap
  A:Around
  N:List Str
  s_0:Shared
  H_0:Hp
  env:Env
  outer:List Env
  stack:List Env
  ex:List Addr
  fn:Str→Bool
  calm:Bool
  pn:List (Addr×Obj)
  xe:Value→Shared→Prop
def frs (l:List Env):List Addr:=l.filterMap (·.frame)
abbrev Cx.fs (X:Cx):List Addr:=frs X.outer
def Vis (sc:Scope) (x:Str):Prop:=sc.names.lookup x=some .local∨sc.names.lookup x=some .cell∨sc.names.lookup x=some .free
def Loc (sc:Scope) (x:Str):Prop:=sc.names.lookup x=some .local∨sc.names.lookup x=some .cell
def Look (env:Env) (h:Heap) (m:Str→Option Value) (x:Str) (u:Value):Prop :=
  (env.kindOf x=some .local∧m x=some u)∨((env.kindOf x=some .cell∨env.kindOf x=some .free)∧∃ c,env.cells.lookup x=some c∧h.IsCell c (some u))
structure Cx.Ok (X:Cx):Prop where
  mod:Mod X.K X.mg X.base
  kind:X.env.scope.kind=.function
  glob:X.env.globals=mainGlobals
  blt:X.env.builtins=builtinsNs
  above:X.s_0.heap.objs.size≤X.env.locals
  inj:∀ x y c,X.env.cells.lookup x=some c→X.env.cells.lookup y=some c→x=y
  has:∀ x,(X.env.kindOf x=some .cell∨X.env.kindOf x=some .free)→∃ c,X.env.cells.lookup x=some c
  cab:∀ x c,X.fn x=true→X.env.cells.lookup x=some c→X.s_0.heap.objs.size≤c
  hd:X.calm=true→X.A.handled=none
  frames:X.A.frames=some X.stack
  stk:X.stack=X.outer∨(X.stack=X.env::X.outer∧X.env.frame=some X.env.locals)
  exf:∀ b ∈ X.ex,b≠X.env.locals∧∀ x c,X.env.cells.lookup x=some c→c≠b
  bs:∀ b o,X.base.get? b=some o→X.s_0.heap.get? b=some o∧X.H_0 b=none
  bsz:X.base.objs.size≤X.s_0.heap.objs.size
  noex:∀ b o,X.base.get? b=some o→b ∉ X.ex
  exfs:∀ b ∈ X.ex,b ∉ X.fs
  funs:X.s_0.heap.FunFrames X.base X.outer
  frf:∀ b ∈ X.fs,X.H_0 b=none
structure Inv (X:Cx) (pins:List (Addr×Obj)) (σ:List (Option V)) (H:Hp) (s:Shared):Prop where
  ok:X.Ok
  os:s.os=X.s_0.os
  bare:AllBare s.gens
  base:Un X.fs X.ex X.H_0 H X.s_0.heap s.heap
  loc:∃ m,s.heap.Ns X.env.locals m∧∀ (i:Nat) (x:Str) (v:V),X.N[i]?=some x→σ[i]?=some (some v)→Vis X.env.scope x→∃ u,RelV v u∧Look X.env s.heap m x u
  cell:∀ x c,X.env.cells.lookup x=some c→∃ v,s.heap.IsCell c v
  free:H X.env.locals=none
  freeC:∀ x c,X.env.cells.lookup x=some c→H c=none
  pin:∀ p ∈ X.pn++pins,s.heap.get? p.1=some p.2∧H p.1=none∧p.1≠X.env.locals∧p.1 ∉ X.fs∧∀ v,p.2.data≠.cell v
  hok:HOk X.prog X.w H s.heap
  len:σ.length=X.N.length
section
variable {X:Cx} {pins:List (Addr×Obj)} {σ:List (Option V)} {H H':Hp} {s:Shared} {h':Heap}
theorem Cx.Ok.nofr (ok:X.Ok) {b:Addr} {o:Obj} (e:X.base.get? b=some o):b ∉ X.fs:=fun hb=>by
  have:=(ok.funs.mem hb).1
  rw [e] at this; cases this
theorem Inv.bs (I:Inv X pins σ H s):∀ b o,X.base.get? b=some o→s.heap.get? b=some o∧H b=none:=fun b o e =>
  ⟨I.base.keep b o (I.ok.bs b o e).1 (I.ok.bs b o e).2 (I.ok.nofr e) (I.ok.noex b o e),I.base.free b o (I.ok.bs b o e).1 (I.ok.bs b o e).2 (I.ok.noex b o e)⟩
theorem Inv.bk (I:Inv X pins σ H s):∀ b o,X.base.get? b=some o→s.heap.get? b=some o:=fun b o e=>(I.bs b o e).1
theorem Inv.mod (I:Inv X pins σ H s):Mod X.K X.mg X.base:=I.ok.mod
theorem Inv.kIn (I:Inv X pins σ H s):X.K.In s.heap:=I.ok.mod.kin.keeps I.bk
theorem Inv.fr (I:Inv X pins σ H s):∃ m,Fr X.base X.env.locals s.heap m :=
  let ⟨m,hn,_⟩:=I.loc
  ⟨m,hn,I.bk,Nat.le_trans I.ok.bsz I.ok.above⟩
theorem Inv.lt (I:Inv X pins σ H s):X.env.locals<s.heap.objs.size:=let ⟨_,hn,_⟩:=I.loc; hn.lt
theorem Inv.sz (I:Inv X pins σ H s):X.s_0.heap.objs.size≤s.heap.objs.size:=Nat.le_trans I.ok.above (Nat.le_of_lt I.lt)
theorem Inv.nofs (I:Inv X pins σ H s) {a:Addr} (h:s.heap.objs.size≤a):a ∉ X.fs:=fun hb=>by
  obtain ⟨_,o,ho,_⟩:=I.ok.funs.mem hb
  exact absurd (Nat.lt_of_lt_of_le (Heap.lt_size ho) (Nat.le_trans I.sz h)) (Nat.lt_irrefl _)
theorem Inv.cne (I:Inv X pins σ H s):∀ x c,X.env.cells.lookup x=some c→c≠X.env.locals:=fun x c e z=>by
  obtain ⟨v,o,ho,hd⟩:=I.cell x c e
  obtain ⟨m,⟨o',es,ep,ho',hd',_⟩,_⟩:=I.loc
  rw [z,ho'] at ho; cases ho; rw [hd'] at hd; cases hd
theorem Inv.funs (I:Inv X pins σ H s):s.heap.FunFrames X.base X.outer:=by
  have all:∀ (l:List Env),(∀ b ∈ frs l,b ∈ X.fs)→X.s_0.heap.FunFrames X.base l→s.heap.FunFrames X.base l:=by
    intro l
    induction l with
    | nil=>intro _ _; trivial
    | cons env r ih =>
      intro hs hl
      obtain ⟨hk,⟨L,o,hf,hn,ho,hd⟩,hr⟩:=hl
      have hL:L ∈ X.fs:=hs L (by unfold frs; rw [List.filterMap_cons,hf]; exact List.mem_cons_self)
      obtain ⟨sl,e⟩:=I.base.slot L o ho (I.ok.frf L hL) hL fun z=>I.ok.exfs L z hL
      exact ⟨hk,⟨L,_,hf,hn,e,hd⟩,ih (fun b hb=>hs b (by unfold frs; rw [List.filterMap_cons,hf]; exact List.mem_cons_of_mem _ hb)) hr⟩
  exact all X.outer (fun _ hb=>hb) I.ok.funs
theorem Inv.stack (I:Inv X pins σ H s):s.heap.FunFrames X.base X.stack:=by
  rcases I.ok.stk with e | ⟨e,hf⟩
  · rw [e]; exact I.funs
  · rw [e]
    obtain ⟨m,hn,_⟩:=I.loc
    refine .cons (by rw [I.ok.kind]; decide) hf hn ?_ I.funs
    exact Heap.get?_none_of_le (Nat.le_trans I.ok.bsz I.ok.above)
theorem Inv.stkSub (I:Inv X pins σ H s):∀ b ∈ frs X.stack,b ∈ X.env.locals::X.fs:=fun b hb=>by
  rcases I.ok.stk with e | ⟨e,hf⟩
  · rw [e] at hb; exact List.mem_cons_of_mem _ hb
  · rw [e] at hb
    unfold frs at hb
    rw [List.filterMap_cons,hf] at hb
    exact hb
theorem Inv.stkFree (I:Inv X pins σ H s):∀ b ∈ frs X.stack,H b=none:=fun b hb=>by
  rcases List.mem_cons.mp (I.stkSub b hb) with e | hb
  · rw [e]; exact I.free
  · obtain ⟨_,o,ho,_⟩:=I.ok.funs.mem hb
    exact I.base.free b o ho (I.ok.frf b hb) fun z=>I.ok.exfs b z hb
theorem Inv.step {g':Array GenState} {t':Nat} {d':Drawn} {ch:List Addr} (I:Inv X pins σ H s)
    (hch:∀ b ∈ ch,(b ∈ X.ex∨X.s_0.heap.objs.size≤b)∧b≠X.env.locals∧(∀ x c,X.env.cells.lookup x=some c→c≠b)∧∀ p ∈ X.pn++pins,p.1≠b)
    (keep:∀ b o,b≠X.env.locals→b ∉ X.fs→b ∉ ch→s.heap.get? b=some o→H b=none→h'.get? b=some o)
    (slot:∀ b o,b≠X.env.locals→b ∈ X.fs→b ∉ ch→s.heap.get? b=some o→H b=none→∃ sl,h'.get? b=some { o with slots:=sl }) (free:∀ b o,b ∉ ch→s.heap.get? b=some o→H b=none→H' b=none)
    (there:∀ b o,b ∉ ch→s.heap.get? b=some o→∃ o',h'.get? b=some o')
    (tups:∀ b xs,H b=some (.tup xs)→H' b=some (.tup xs)) (frzs:∀ b o u,H b=some (.frz o u)→H' b=some (.frz o u)) (tbls:∀ b ps,H b=some (.tbl ps)→∃ more,H' b=some (.tbl (ps++more)))
    (ns:∀ m,s.heap.Ns X.env.locals m→h'.Ns X.env.locals m) (hok:HOk X.prog X.w H' h') (hg:AllBare g') :
    Inv X pins σ H' { s with heap:=h',gens:=g',drawn:=d',toks:=t' }:=by
  have neL:∀ b o,X.s_0.heap.get? b=some o→b≠X.env.locals:=fun b o e=>Nat.ne_of_lt (Nat.lt_of_lt_of_le (Heap.lt_size e) I.ok.above)
  have neC:∀ b o,X.s_0.heap.get? b=some o→b ∉ X.ex→b ∉ ch:=fun b o e hx hb=>by
    rcases (hch b hb).1 with z | z
    · exact hx z
    · exact absurd (Nat.lt_of_lt_of_le (Heap.lt_size e) z) (Nat.lt_irrefl _)
  have cellK:∀ x c,X.env.cells.lookup x=some c→∀ v,s.heap.IsCell c v→h'.IsCell c v:=fun x c e v ⟨o,ho,hd⟩=>by
    have nch:c ∉ ch:=fun z=>(hch c z).2.2.1 x c e rfl
    by_cases hc:c ∈ X.fs
    · obtain ⟨sl,q⟩:=slot c o (I.cne x c e) hc nch ho (I.freeC x c e)
      exact ⟨_,q,hd⟩
    · exact ⟨o,keep c o (I.cne x c e) hc nch ho (I.freeC x c e),hd⟩
  refine ⟨I.ok,I.os,hg,⟨fun b o e n hb hx=>?_,fun b o e n hb hx=>?_,fun b o e n hx=>?_,fun b o e hx=>?_,fun b xs e=>tups b xs (I.base.tups b xs e),fun b o xs e=>frzs b o xs (I.base.frzs b o xs e),fun b ps e=>?_⟩,?_,fun x c e=>?_,?_,fun x c e=>?_,fun p hp=>?_,hok,I.len⟩
  · exact keep b o (neL b o e) hb (neC b o e hx) (I.base.keep b o e n hb hx) (I.base.free b o e n hx)
  · obtain ⟨sl,e1⟩:=I.base.slot b o e n hb hx
    obtain ⟨sl',e2⟩:=slot b _ (neL b o e) hb (neC b o e hx) e1 (I.base.free b o e n hx)
    exact ⟨sl',e2⟩
  · obtain ⟨o',e1⟩:=I.base.there b o e hx
    exact free b o' (neC b o e hx) e1 (I.base.free b o e n hx)
  · obtain ⟨o',e1⟩:=I.base.there b o e hx
    exact there b o' (neC b o e hx) e1
  · obtain ⟨m1,e1⟩:=I.base.tbls b ps e
    obtain ⟨m2,e2⟩:=tbls b _ e1
    exact ⟨m1++m2,by rw [e2,Array.append_assoc]⟩
  · obtain ⟨m,hn,hl⟩:=I.loc
    refine ⟨m,ns m hn,fun i x v e1 e2 e3=>?_⟩
    obtain ⟨u,r,l⟩:=hl i x v e1 e2 e3
    refine ⟨u,r,?_⟩
    rcases l with l | ⟨k,c,e,z⟩
    · exact .inl l
    · exact .inr ⟨k,c,e,cellK x c e _ z⟩
  · obtain ⟨v,z⟩:=I.cell x c e
    exact ⟨v,cellK x c e v z⟩
  · obtain ⟨m,⟨o,_,_,ho,_⟩,_⟩:=I.loc
    exact free _ o (fun z=>(hch _ z).2.1 rfl) ho I.free
  · obtain ⟨v,o,ho,hd⟩:=I.cell x c e
    exact free c o (fun z=>(hch c z).2.2.1 x c e rfl) ho (I.freeC x c e)
  · obtain ⟨e,n,ne,nf,d⟩:=I.pin p hp
    have nch:p.1 ∉ ch:=fun z=>(hch p.1 z).2.2.2 p hp rfl
    exact ⟨keep p.1 p.2 ne nf nch e n,free p.1 p.2 nch e n,ne,nf,d⟩
theorem Inv.un {t':Nat} (I:Inv X pins σ H s) (u:Un X.fs [] H H' s.heap h') (hok:HOk X.prog X.w H' h'):Inv X pins σ H' { s with heap:=h',toks:=t' }:=by
  obtain ⟨m,⟨o,es,ep,ho,r⟩,_⟩:=id I.loc
  obtain ⟨sl,hL⟩:=u.any ho I.free (by simp)
  exact I.step (g':=s.gens) (d':=s.drawn) (ch:=[]) (fun _ z=>nomatch z) (fun b o _ hb _ e n=>u.keep b o e n hb (by simp)) (fun b o _ hb _ e n=>u.slot b o e n hb (by simp)) (fun b o _ e n=>u.free b o e n (by simp)) (fun b o _ e=>u.there b o e (by simp)) u.tups u.frzs u.tbls (fun m' hm=>by
    obtain ⟨o',es',ep',ho',r'⟩:=hm
    rw [ho] at ho'; cases ho'
    exact ⟨_,es',ep',hL,r'⟩) hok I.bare
theorem Inv.call {g':Array GenState} {t':Nat} {d':Drawn} {ch:List Addr} (I:Inv X pins σ H s) (u:Un (frs X.stack) ch H H' s.heap h') (hok:HOk X.prog X.w H' h') (hg:AllBare g')
    (hch:∀ b ∈ ch,(b ∈ X.ex∨X.s_0.heap.objs.size≤b)∧b≠X.env.locals∧(∀ x c,X.env.cells.lookup x=some c→c≠b)∧∀ p ∈ X.pn++pins,p.1≠b) :
    Inv X pins σ H' { s with heap:=h',gens:=g',drawn:=d',toks:=t' }:=by
  obtain ⟨m,⟨o,es,ep,ho,r⟩,_⟩:=id I.loc
  obtain ⟨sl,hL⟩:=u.any ho I.free fun z=>(hch _ z).2.1 rfl
  exact I.step (ch:=ch) hch (fun b o hL hb hc e n=>u.keep b o e n (fun z=>(List.mem_cons.mp (I.stkSub b z)).elim hL hb) hc) (fun b o _ _ hc e n=>u.any e n hc) (fun b o hc e n=>u.free b o e n hc) (fun b o hc e=>u.there b o e hc) u.tups u.frzs u.tbls (fun m' hm=>by
    obtain ⟨o',es',ep',ho',r'⟩:=hm
    rw [ho] at ho'; cases ho'
    exact ⟨_,es',ep',hL,r'⟩) hok hg
theorem Inv.turned {t':Nat} {it:Addr} (I:Inv X pins σ H s) (k:∀ b o,b≠it→s.heap.get? b=some o→h'.get? b=some o) (hn:H it=none) (hL:it≠X.env.locals)
    (h1:it ∈ X.ex∨X.s_0.heap.objs.size≤it) (h2:∀ x c,X.env.cells.lookup x=some c→c≠it) (h3:∀ p ∈ X.pn++pins,p.1≠it):Inv X pins σ H { s with heap:=h',toks:=t' }:=by
  have nit:∀ b u,H b=some u→b≠it:=fun b u e z=>by rw [z,hn] at e; cases e
  refine I.step (g':=s.gens) (d':=s.drawn) (ch:=[it]) (fun b hb=>?_) (fun b o _ _ hc e _=>k b o (fun z=>hc (by simp [z])) e) (fun b o _ _ hc e _=>⟨o.slots,k b o (fun z=>hc (by simp [z])) e⟩) (fun _ _ _ _ n=>n)
    (fun b o hc e=>⟨o,k b o (fun z=>hc (by simp [z])) e⟩) (fun _ _ e=>e) (fun _ _ _ e=>e) (fun b ps e=>⟨#[],by rw [e]; simp⟩) (fun m hm=>?_) (fun b u e=>?_) I.bare
  · have e:b=it:=by simpa using hb
    subst e
    exact ⟨h1,hL,h2,h3⟩
  · obtain ⟨o,es,ep,ho,r⟩:=hm
    exact ⟨o,es,ep,k _ o (Ne.symm hL) ho,r⟩
  · refine (I.hok b u e).stay (fun c v hc q=>k c v ?_ q) (fun _ q=>q) fun _ _ q=>q
    rcases hc with z | z
    · rw [z]; exact nit b u e
    · exact nit c _ z
theorem Inv.tok (I:Inv X pins σ H s) (t:Nat):Inv X pins σ H { s with toks:=t }:=I.un (h':=s.heap) (t':=t) Un.refl I.hok
theorem Inv.kept {t':Nat} (I:Inv X pins σ H s) (k:∀ b u,s.heap.get? b=some u→h'.get? b=some u):Inv X pins σ H { s with heap:=h',toks:=t' }:=I.un (Un.kept k) (I.hok.kept k)
theorem Inv.laid {a:Addr} {o:HO} {t':Nat} (I:Inv X pins σ H s) (k:∀ b u,s.heap.get? b=some u→h'.get? b=some u) (hp:s.heap.objs.size≤a) (new:ObjOk X.prog X.w (upd H a o) h' a o) :
    Inv X pins σ (upd H a o) { s with heap:=h',toks:=t' }:=I.un (Un.laid k hp (I.hok.fresh hp)) (I.hok.laid k hp new)
theorem Inv.write {x e:Addr} {o:HO} {t':Nat} (I:Inv X pins σ H s) (mu:Mut (H x)) (he:e=x∨H e=some (.own x)) (k:∀ b u,b≠e→s.heap.get? b=some u→h'.get? b=some u) (heo:∃ u,h'.get? e=some u)
    (new:ObjOk X.prog X.w (upd H x o) h' x o):Inv X pins σ (upd H x o) { s with heap:=h',toks:=t' }:=I.un (Un.write mu he k heo) (I.hok.write mu he k heo new)
theorem Inv.weak {σ':List (Option V)} (I:Inv X pins σ H s) (hl:σ'.length=σ.length) (w:∀ (i:Nat) v,σ'[i]?=some (some v)→σ[i]?=some (some v)):Inv X pins σ' H s :=
  ⟨I.ok,I.os,I.bare,I.base,let ⟨m,hn,hl'⟩:=I.loc; ⟨m,hn,fun i x v e1 e2 e3=>hl' i x v e1 (w i v e2) e3⟩,I.cell,I.free,I.freeC,I.pin,I.hok,hl.trans I.len⟩
theorem Inv.pins_of {pins':List (Addr×Obj)} (I:Inv X pins σ H s) (h:∀ p ∈ pins',s.heap.get? p.1=some p.2∧H p.1=none∧p.1≠X.env.locals∧p.1 ∉ X.fs∧∀ v,p.2.data≠.cell v):Inv X pins' σ H s :=
  ⟨I.ok,I.os,I.bare,I.base,I.loc,I.cell,I.free,I.freeC,fun p hp=>(List.mem_append.mp hp).elim (fun z=>I.pin p (List.mem_append_left _ z)) (h p),I.hok,I.len⟩
theorem nodup_ix {N:List Str} (hN:N.Nodup) {i j:Nat} {x:Str} (a:N[i]?=some x) (b:N[j]?=some x):i=j:=by
  obtain ⟨h1,e1⟩:=List.getElem?_eq_some_iff.mp a
  obtain ⟨h2,e2⟩:=List.getElem?_eq_some_iff.mp b
  exact (List.getElem_inj hN).mp (e1.trans e2.symm)
theorem store_ok2 {M:Model} {A:Around} {E:Value→Shared→Prop} {i:Nat} {x:Str} {v:V} {u:Value} {Q:Unit→Shared→Prop} (I:Inv X pins σ H s) (hN:X.N.Nodup) (hi:X.N[i]?=some x) (hx:Loc X.env.scope x) (r:RelV v u)
    (h:∀ s',Inv X pins (σ.set i (some v)) H s'→(∃ a,Heap.SameBut a s.heap s'.heap∧(a=X.env.locals∨X.env.cells.lookup x=some a))→Q () s') (hf:X.fn x=true∨X.env.scope.names.lookup x=some .local:=by first | exact .inl rfl | exact .inr rfl | assumption):wpAny M A (storeName X.env x u) Q E s:=by
  obtain ⟨m,hn,hl⟩:=id I.loc
  have hcls:(X.env.scope.kind == .class || (X.env.scope.kind == .module && X.env.locals != X.env.globals))=false:=by rw [I.ok.kind]; rfl
  have hiσ:i<σ.length:=by rw [I.len]; exact (List.getElem?_eq_some_iff.mp hi).1
  have cne:=I.cne
  have tracked:∀ {a:Addr} {h':Heap},(∃ o,s.heap.get? a=some o∧H a=none)→Heap.SameBut a s.heap h'→HOk X.prog X.w H h':=fun {a h'} ha hs b ob e=>by
    obtain ⟨_,_,hfree⟩:=ha
    refine (I.hok b ob e).stay (fun c w' hc q=>(hs.2 c ?_).trans q) (fun _ q=>q) fun _ _ q=>q
    rintro rfl
    rcases hc with rfl | hc
    · rw [hfree] at e; cases e
    · rw [hfree] at hc; cases hc
  rcases hx with hk | hk
  · refine wpAny_storeName_local hk hn (fun h' hn' hs=>?_) hcls
    obtain ⟨oL,_,_,hoL,_⟩:=id hn
    refine h _ ⟨I.ok,I.os,I.bare,⟨fun b o e n hb hx=>?_,fun b o e n hb hx=>?_,I.base.free,fun b o e hx=>?_,I.base.tups,I.base.frzs,I.base.tbls⟩,⟨_,hn',fun j y v' e1 e2 e3=>?_⟩,fun y c e=>?_,I.free,I.freeC,fun p hp=>?_,tracked ⟨oL,hoL,I.free⟩ hs,by simpa using I.len⟩ ⟨_,hs,.inl rfl⟩
    · exact (hs.2 b (Nat.ne_of_lt (Nat.lt_of_lt_of_le (Heap.lt_size e) I.ok.above))).trans (I.base.keep b o e n hb hx)
    · obtain ⟨sl,e1⟩:=I.base.slot b o e n hb hx
      exact ⟨sl,(hs.2 b (Nat.ne_of_lt (Nat.lt_of_lt_of_le (Heap.lt_size e) I.ok.above))).trans e1⟩
    · obtain ⟨o',e1⟩:=I.base.there b o e hx
      exact ⟨o',(hs.2 b (Nat.ne_of_lt (Nat.lt_of_lt_of_le (Heap.lt_size e) I.ok.above))).trans e1⟩
    · by_cases hj:j=i
      · subst hj
        rw [hi] at e1; cases e1
        rw [List.getElem?_set_self hiσ] at e2
        cases e2
        exact ⟨u,r,.inl ⟨hk,by simp⟩⟩
      · rw [List.getElem?_set_ne (Ne.symm hj)] at e2
        obtain ⟨u',r',q⟩:=hl j y v' e1 e2 e3
        refine ⟨u',r',?_⟩
        rcases q with ⟨k,e⟩ | ⟨k,c,e,z⟩
        · refine .inl ⟨k,?_⟩
          have:y≠x:=fun e=>hj (nodup_ix hN e1 (e ▸ hi))
          simp [this,e]
        · exact .inr ⟨k,c,e,z.sameBut hs (cne y c e)⟩
    · obtain ⟨w',z⟩:=I.cell y c e
      exact ⟨w',z.sameBut hs (cne y c e)⟩
    · obtain ⟨e,n,ne,nf,d⟩:=I.pin p hp
      exact ⟨(hs.2 p.1 ne).trans e,n,ne,nf,d⟩
  · have hfn:X.fn x=true:=by
      rcases hf with z | z
      · exact z
      · rw [z] at hk; cases hk
    obtain ⟨c,hc⟩:=I.ok.has x (.inl hk)
    obtain ⟨w',z⟩:=I.cell x c hc
    refine wpAny_storeName_cell I.ok.kind hk hc z (fun h' hc' hs=>?_)
    obtain ⟨oc,hoc,hocd⟩:=id z
    refine h { s with heap:=h' } ⟨I.ok,I.os,I.bare,⟨fun b o e n hb hx=>?_,fun b o e n hb hx=>?_,I.base.free,fun b o e hx=>?_,I.base.tups,I.base.frzs,I.base.tbls⟩,⟨m,hn.sameBut hs (Ne.symm (cne x c hc)),fun j y v' e1 e2 e3=>?_⟩,fun y c' e=>?_,I.free,I.freeC,fun p hp=>?_,tracked ⟨oc,hoc,I.freeC x c hc⟩ hs,by simpa using I.len⟩ ⟨c,hs,.inr hc⟩
    · exact (hs.2 b (Nat.ne_of_lt (Nat.lt_of_lt_of_le (Heap.lt_size e) (I.ok.cab x c hfn hc)))).trans (I.base.keep b o e n hb hx)
    · obtain ⟨sl,e1⟩:=I.base.slot b o e n hb hx
      exact ⟨sl,(hs.2 b (Nat.ne_of_lt (Nat.lt_of_lt_of_le (Heap.lt_size e) (I.ok.cab x c hfn hc)))).trans e1⟩
    · obtain ⟨o',e1⟩:=I.base.there b o e hx
      exact ⟨o',(hs.2 b (Nat.ne_of_lt (Nat.lt_of_lt_of_le (Heap.lt_size e) (I.ok.cab x c hfn hc)))).trans e1⟩
    · by_cases hj:j=i
      · subst hj
        rw [hi] at e1; cases e1
        rw [List.getElem?_set_self hiσ] at e2
        cases e2
        exact ⟨u,r,.inr ⟨.inl hk,c,hc,hc'⟩⟩
      · rw [List.getElem?_set_ne (Ne.symm hj)] at e2
        obtain ⟨u',r',q⟩:=hl j y v' e1 e2 e3
        refine ⟨u',r',?_⟩
        rcases q with q | ⟨k,c',e,z'⟩
        · exact .inl q
        · refine .inr ⟨k,c',e,z'.sameBut hs ?_⟩
          rintro rfl
          exact hj (nodup_ix hN e1 (I.ok.inj _ _ _ e hc ▸ hi))
    · by_cases hcc:c'=c
      · subst hcc; exact ⟨_,hc'⟩
      · obtain ⟨w2,z2⟩:=I.cell y c' e
        exact ⟨w2,z2.sameBut hs hcc⟩
    · obtain ⟨e,n,ne,nf,d⟩:=I.pin p hp
      refine ⟨(hs.2 p.1 ?_).trans e,n,ne,nf,d⟩
      intro q
      rw [q,hoc] at e
      have q':oc=p.2:=Option.some.inj e
      exact d w' (by rw [← q']; exact hocd)
theorem store_ok {M:Model} {A:Around} {E:Value→Shared→Prop} {i:Nat} {x:Str} {v:V} {u:Value} {Q:Unit→Shared→Prop} (I:Inv X pins σ H s) (hN:X.N.Nodup) (hi:X.N[i]?=some x) (hx:Loc X.env.scope x) (r:RelV v u)
    (h:∀ s',Inv X pins (σ.set i (some v)) H s'→Q () s') (hf:X.fn x=true∨X.env.scope.names.lookup x=some .local:=by first | exact .inl rfl | exact .inr rfl | assumption):wpAny M A (storeName X.env x u) Q E s :=
  store_ok2 I hN hi hx r (fun s' I' _=>h s' I') hf
theorem Inv.call' {s':Shared} {ch:List Addr} (I:Inv X pins σ H s) (ho:s'.os=s.os) (u:Un (frs X.stack) ch H H' s.heap s'.heap) (hok:HOk X.prog X.w H' s'.heap) (hg:AllBare s'.gens)
    (hch:∀ b ∈ ch,(b ∈ X.ex∨X.s_0.heap.objs.size≤b)∧b≠X.env.locals∧(∀ x c,X.env.cells.lookup x=some c→c≠b)∧∀ p ∈ X.pn++pins,p.1≠b):Inv X pins σ H' s':=by
  obtain ⟨h',g',d',t',o'⟩:=s'
  have e:o'=s.os:=ho
  subst e
  exact I.call (g':=g') (t':=t') (d':=d') u hok hg hch
end
abbrev XK:=Value→Option Addr→Hp→Prop
abbrev St:=List (Option V)
abbrev VK:=V→Hp→Prop
abbrev TE:=St→Hp→VK→Prop
abbrev TT:=St→Hp→(Bool→Hp→Prop)→Prop
abbrev TA:=St→Hp→(List V→Hp→Prop)→Prop
structure Ends where
  nx:St→Hp→Prop
  rt:VK
  bk:St→Hp→Prop:=fun _ _=>False
  ct:St→Hp→Prop:=fun _ _=>False
abbrev TS:=Ends→St→Hp→Prop
def EP (X:Cx) (pins:List (Addr×Obj)) (σ:St) (Q:VK) (u:Value) (s':Shared):Prop:=∃ v H',Inv X pins σ H' s'∧RelV v u∧Q v H'
def TP (X:Cx) (pins:List (Addr×Obj)) (σ:St) (Q:Bool→Hp→Prop) (b:Bool) (s':Shared):Prop:=∃ H',Inv X pins σ H' s'∧Q b H'
def AP (X:Cx) (pins:List (Addr×Obj)) (σ:St) (Q:List V→Hp→Prop) (us:List Value) (s':Shared):Prop:=∃ vs H',Inv X pins σ H' s'∧Vals vs us∧Q vs H'
def SP (X:Cx) (pins:List (Addr×Obj)) (D:Ends) (f:Flow) (s':Shared):Prop :=
  match f with
  | .next=>∃ σ' H',Inv X pins σ' H' s'∧D.nx σ' H'
  | .brk=>∃ σ' H',Inv X pins σ' H' s'∧D.bk σ' H'
  | .cont=>∃ σ' H',Inv X pins σ' H' s'∧D.ct σ' H'
  | .ret u=>∃ v σ' H',Inv X pins σ' H' s'∧RelV v u∧D.rt v H'
def PE (X:Cx) (e:Expr) (t:TE):Prop :=
  ∀ (pins:List (Addr×Obj)) (s:Shared) (σ:St) (H:Hp) (Q:VK),Inv X pins σ H s→t σ H Q→wpAny (model X.prog X.w) X.A (eval e X.env) (EP X pins σ Q) X.xe s
def PT (X:Cx) (e:Expr) (t:TT):Prop :=
  ∀ (pins:List (Addr×Obj)) (s:Shared) (σ:St) (H:Hp) (Q:Bool→Hp→Prop),Inv X pins σ H s→t σ H Q→wpAny (model X.prog X.w) X.A (isTrue e X.env (eval e X.env)) (TP X pins σ Q) X.xe s
def PW (X:Cx) (e:Expr) (t:TT):Prop :=
  ∀ (whole:Sem Value) (pins:List (Addr×Obj)) (s:Shared) (σ:St) (H:Hp) (Q:Bool→Hp→Prop),Inv X pins σ H s→t σ H Q→wpAny (model X.prog X.w) X.A (isTrue e X.env whole) (TP X pins σ Q) X.xe s
theorem PW.pt {X:Cx} {e:Expr} {t:TT} (h:PW X e t):PT X e t:=h _
def PA (X:Cx) (es:List Expr) (t:TA):Prop :=
  ∀ (pos:Pos) (pins:List (Addr×Obj)) (s:Shared) (σ:St) (H:Hp) (Q:List V→Hp→Prop),Inv X pins σ H s→t σ H Q→wpAny (model X.prog X.w) X.A (spliced (backTo pos (starEach es X.env))) (AP X pins σ Q) X.xe s
def PS (X:Cx) (st:Stmt) (t:TS):Prop :=
  ∀ (pins:List (Addr×Obj)) (s:Shared) (σ:St) (H:Hp) (D:Ends),Inv X pins σ H s→t D σ H→wpAny (model X.prog X.w) X.A (exec st X.env) (SP X pins D) X.xe s
def PSs (X:Cx) (st:List Stmt) (t:TS):Prop :=
  ∀ (pins:List (Addr×Obj)) (s:Shared) (σ:St) (H:Hp) (D:Ends),Inv X pins σ H s→t D σ H→wpAny (model X.prog X.w) X.A (execs st X.env) (SP X pins D) X.xe s
theorem thn {α:Type} {t:Sem α} {Q Q':α→Shared→Prop} {M:Model} {A:Around} {E:Value→Shared→Prop} {s:Shared} (h:wpAny M A t Q E s) (hQ:∀ a s,Q a s→Q' a s):wpAny M A t Q' E s:=wpAny_mono h hQ fun _ _ x=>x
end L2
namespace L2
open PySem PySem.Spec PyProof.Rows
section
variable {X:Cx}
theorem bin {a b:Expr} {ta tb:TE} (ha:PE X a ta) (hb:PE X b tb) {pins:List (Addr×Obj)} {s:Shared} {σ:St} {H:Hp} {R:V→V→Hp→Prop} (I:Inv X pins σ H s) (h:ta σ H fun x H1=>tb σ H1 fun y H2=>R x y H2)
    {α:Type} {Q:α→Shared→Prop} {f:Value→Value→Sem α}
    (hf:∀ v u s2 x y H2,Inv X pins σ H2 s2→RelV x v→RelV y u→R x y H2→wpAny (model X.prog X.w) X.A (f v u) Q X.xe s2) :
    wpAny (model X.prog X.w) X.A (eval a X.env) (fun v s₁=>wpAny (model X.prog X.w) X.A (eval b X.env) (fun u s₂=>wpAny (model X.prog X.w) X.A (f v u) Q X.xe s₂) X.xe s₁) X.xe s:=by
  refine thn (ha pins s σ H _ I h) fun v s1 ⟨x,H1,I1,r1,q1⟩=>?_
  refine thn (hb pins s1 σ H1 _ I1 q1) fun u s2 ⟨y,H2,I2,r2,q2⟩=>?_
  exact hf v u s2 x y H2 I2 r1 r2 q2
def tVar (i:Nat):TE:=fun σ H Q=>∃ v,σ[i]?=some (some v)∧Q v H
def tC (v:V):TE:=fun _ H Q=>Q v H
theorem pe_var {i:Nat} {x:Str} {pos:Pos} (hN:X.N[i]?=some x) (hv:Vis X.env.scope x) (hd:(x == ("__debug__":Str))=false:=by decide) (hcd:(x == ("__classdict__":Str))=false:=by decide):PE X (.Name x pos) (tVar i):=by
  intro pins s σ H Q I h
  obtain ⟨v,e,h⟩:=h
  obtain ⟨m,hn,hl⟩:=I.loc
  obtain ⟨u,r,l⟩:=hl i x v hN e hv
  have fin:EP X pins σ Q u s:=⟨v,H,I,r,h⟩
  rcases l with ⟨hk,hm⟩ | ⟨hk,c,hc,hcell⟩
  · exact wpAny_Name (wpAny_loadName_local I.ok.kind hk hn hm fin) hd
  · rcases hk with hk | hk
    · exact wpAny_Name (wpAny_loadName_cell I.ok.kind hk hc hcell fin) hd
    · exact wpAny_Name (wpAny_loadName_free I.ok.kind hk hc hcell fin hcd) hd
theorem pe_int {i j pos}:PE X (.Constant (.int i) j pos) (tC (.int i)):=fun _ _ _ H _ I h=>wpAny_Constant_int ⟨.int i,H,I.tok _,⟨_,rfl⟩,h⟩
theorem pe_non {j pos}:PE X (.Constant .none j pos) (tC .non):=fun _ _ _ H _ I h=>Constant_none ⟨.non,H,I,rfl,h⟩
def Gl (X:Cx) (x:Str):Prop:=X.env.kindOf x=some .globalImplicit
theorem ld_glob {E:Value→Shared→Prop} {pins:List (Addr×Obj)} {s:Shared} {σ:St} {H:Hp} {x:Str} {u:Value} {pos:Pos} {Q:Value→Shared→Prop} (I:Inv X pins σ H s) (hg:Gl X x) (hm:X.mg x=some u) (h:Q u s)
    (hd:(x == ("__debug__":Str))=false:=by decide):wpAny (model X.prog X.w) X.A (eval (.Name x pos) X.env) Q E s :=
  Calls.Name_function_global I.ok.kind hg (Calls.loadGlobal_global (by rw [I.ok.glob]; exact I.mod.glob.keeps I.bk) hm h) hd
theorem ld_blt {E:Value→Shared→Prop} {pins:List (Addr×Obj)} {s:Shared} {σ:St} {H:Hp} {x:Str} {u:Value} {pos:Pos} {Q:Value→Shared→Prop} (I:Inv X pins σ H s) (hg:Gl X x) (hm:X.mg x=none) (hv:bootBuiltins x=some u) (h:Q u s)
    (hn:x≠"__name__":=by decide) (hd:(x == ("__debug__":Str))=false:=by decide):wpAny (model X.prog X.w) X.A (eval (.Name x pos) X.env) Q E s:=by
  obtain ⟨mb,h1,h2⟩:=I.mod.blt
  exact Calls.Name_function_global I.ok.kind hg (Calls.loadGlobal_builtin (by rw [I.ok.glob]; exact I.mod.glob.keeps I.bk) hm (by rw [I.ok.blt]; exact h1.keeps I.bk) ((h2 x hn).trans hv) h) hd
theorem pe_glob {x:Str} {v:V} {u:Value} {pos:Pos} (hg:Gl X x) (hm:X.mg x=some u) (r:RelV v u) (hd:(x == ("__debug__":Str))=false:=by decide):PE X (.Name x pos) (tC v) :=
  fun _ _ _ H _ I h=>ld_glob I hg hm ⟨v,H,I,r,h⟩ hd
variable {a b:Expr} {ta tb:TE} {pos:Pos}
def PC (X:Cx) (op:CmpOp) (a b:Expr) (t:TE):Prop :=
  ∀ (pins:List (Addr×Obj)) (s:Shared) (σ:St) (H:Hp) (Q:VK),Inv X pins σ H s→t σ H Q →
    wpAny (model X.prog X.w) X.A (eval a X.env) (fun v s₁=>wpAny (model X.prog X.w) X.A (eval b X.env) (fun u s₂=>wpAny (model X.prog X.w) X.A (compareOp op v u) (EP X pins σ Q) X.xe s₂) X.xe s₁) X.xe s
theorem nobehind (b:Expr) {op:CmpOp} (h:op≠.In) (h2:op≠.NotIn):behindInMarks op b=false:=by
  have e1:(op == CmpOp.In)=false:=by cases op <;> first | rfl | exact absurd rfl h
  have e2:(op == CmpOp.NotIn)=false:=by cases op <;> first | rfl | exact absurd rfl h2
  cases b <;> simp [behindInMarks,e1,e2]
def tIsN (ta:TE):TE:=fun σ H Q=>ta σ H fun x H1=>Q (.bl (decide (x=.non))) H1
def tNotN (ta:TE):TE:=fun σ H Q=>ta σ H fun x H1=>Q (.bl (!decide (x=.non))) H1
theorem RelV.none_iff {x:V} {v:Value} (r:RelV x v):(v == Value.none)=decide (x=.non):=by
  cases x with
  | non=>cases r; rfl
  | bl _=>cases r; rfl
  | int _=>obtain ⟨t,rfl⟩:=r; rfl
  | str _=>obtain ⟨t,rfl⟩:=r; rfl
  | byt _=>obtain ⟨t,rfl⟩:=r; rfl
  | flt _=>obtain ⟨t,rfl⟩:=r; rfl
  | ref _=>cases r; rfl
  | ty _=>cases r; rfl
theorem pc_isN {j pos'} (ha:PE X a ta):PC X .Is a (.Constant .none j pos') (tIsN ta):=by
  intro pins s σ H Q I h
  refine thn (ha pins s σ H _ I h) fun v s1 ⟨x,H1,I1,r1,q1⟩=>?_
  exact Constant_none (is_none_gen ⟨.bl _,H1,I1,by rw [r1.none_iff]; rfl,q1⟩)
theorem pc_notN {j pos'} (ha:PE X a ta):PC X .IsNot a (.Constant .none j pos') (tNotN ta):=by
  intro pins s σ H Q I h
  refine thn (ha pins s σ H _ I h) fun v s1 ⟨x,H1,I1,r1,q1⟩=>?_
  exact Constant_none (isnot_none_gen ⟨.bl _,H1,I1,by rw [r1.none_iff]; rfl,q1⟩)
def tB (t:TE):TT:=fun σ H Q=>t σ H fun x H1=>∃ c,x=.bl c∧Q c H1
theorem pt_cmp {op:CmpOp} {t:TE} (h:PC X op a b t) (h1:behindInMarks op b=false:=by first | exact nobehind _ (by decide) (by decide) | rfl):PT X (.Compare a [op] [b] pos) (tB t):=by
  intro pins s σ H Q I hw
  refine wpAny_isTrue_Compare1 (thn (h pins s σ H _ I hw) fun v s1 h1=>thn h1 fun u s2 h2=>thn h2 fun c s3 ⟨x,H1,I1,r1,q1⟩=>?_) h1
  obtain ⟨d,rfl,q⟩:=q1
  cases r1
  exact wpAny_truthy_bool ⟨H1,I1,q⟩
theorem pt_val {e:Expr} {t:TE} (h:PE X e t) (he:∀ whole,isTrue e X.env whole=(do let v ← whole; standAt e.pos; holding [v] (truthy v)):=by intro _; rfl):PT X e (tB t):=by
  intro pins s σ H Q I hw
  refine isTrue_plain (thn (h pins s σ H _ I hw) fun v s1 ⟨x,H1,I1,r1,q1⟩=>?_) (he _)
  obtain ⟨d,rfl,q⟩:=q1
  cases r1
  exact wpAny_truthy_bool ⟨H1,I1,q⟩
variable {tA tB':TT} {rest:List Expr}
def tAnd (t u:TT):TT:=fun σ H Q=>t σ H fun c H1=>if c=true then u σ H1 Q else Q false H1
def tOr (t u:TT):TT:=fun σ H Q=>t σ H fun c H1=>if c=true then Q true H1 else u σ H1 Q
def tNot (t:TT):TT:=fun σ H Q=>t σ H fun c H1=>Q (!c) H1
theorem pw_and1 (ha:PT X a tA):PW X (.BoolOp .And [a] pos) tA:=by
  intro wh pins s σ H Q I h
  refine isTrue_and (thn (ha pins s σ H Q I h) fun c s1 e=>?_)
  cases c with
  | true=>exact isTrue_and_nil e
  | false=>exact e
theorem pw_or1 (ha:PT X a tA):PW X (.BoolOp .Or [a] pos) tA:=by
  intro wh pins s σ H Q I h
  refine isTrue_or (thn (ha pins s σ H Q I h) fun c s1 e=>?_)
  cases c with
  | false=>exact isTrue_or_nil e
  | true=>exact e
theorem pw_and (ha:PT X a tA) (hb:PW X (.BoolOp .And (b::rest) pos) tB'):PW X (.BoolOp .And (a::b::rest) pos) (tAnd tA tB'):=by
  intro wh pins s σ H Q I h
  refine isTrue_and (thn (ha pins s σ H _ I h) fun c s1 ⟨H1,I1,q1⟩=>?_)
  cases c with
  | true=>exact hb wh pins s1 σ H1 Q I1 q1
  | false=>exact ⟨H1,I1,q1⟩
theorem pw_or (ha:PT X a tA) (hb:PW X (.BoolOp .Or (b::rest) pos) tB'):PW X (.BoolOp .Or (a::b::rest) pos) (tOr tA tB'):=by
  intro wh pins s σ H Q I h
  refine isTrue_or (thn (ha pins s σ H _ I h) fun c s1 ⟨H1,I1,q1⟩=>?_)
  cases c with
  | true=>exact ⟨H1,I1,q1⟩
  | false=>exact hb wh pins s1 σ H1 Q I1 q1
theorem pt_not (ha:PT X a tA):PT X (.UnaryOp .Not a pos) (tNot tA):=by
  intro pins s σ H Q I h
  exact isTrue_not (ha pins s σ H (fun c H1=>Q (!c) H1) I h)
def tIf (t:TT) (ta tb:TE):TE:=fun σ H Q=>t σ H fun c H1=>if c=true then ta σ H1 Q else tb σ H1 Q
theorem pe_ifExp {c:Expr} (hc:PT X c tA) (ha:PE X a ta) (hb:PE X b tb):PE X (.IfExp c a b pos) (tIf tA ta tb):=by
  intro pins s σ H Q I h
  refine wpAny_IfExp (thn (hc pins s σ H _ I h) fun d s1 ⟨H1,I1,q1⟩=>?_)
  cases d with
  | true=>exact ha pins s1 σ H1 Q I1 q1
  | false=>exact hb pins s1 σ H1 Q I1 q1
end
end L2
namespace L2
open PySem PySem.Spec PyProof.Rows
def SqL (K:PySem.W.Frag) (H:Hp) (a:Addr) (xs:List V):Prop :=
  Rd H a (.lst xs) ∨
    ∃ (o:Obj) (its:Array Value) (n:Nat),K.lookup a=some o∧o.cls=.type "list"∧o.dict=none∧o.data=.seq its n∧its.size≤sizeLine∧Vals xs its.toList
def SqT (K:PySem.W.Frag) (H:Hp) (a:Addr) (xs:List V):Prop :=
  Rd H a (.tup xs) ∨
    ∃ (o:Obj) (its:Array Value) (n:Nat),K.lookup a=some o∧o.cls=.type "tuple"∧o.data=.seq its n∧its.size≤sizeLine∧Vals xs its.toList
def absV:Value→Option V
  | .none=>some .non
  | .bool b=>some (.bl b)
  | .int i _=>some (.int i)
  | .str x _=>some (.str x)
  | .bytes b _=>some (.byt b)
  | .float b _=>some (.flt b)
  | .ref a=>some (.ref a)
  | .type n=>some (.ty n)
  | _=>none
theorem RelV.abs {x:V} {u:Value} (r:RelV x u):absV u=some x:=by
  cases x with
  | non=>cases r; rfl
  | bl _=>cases r; rfl
  | int _=>obtain ⟨t,rfl⟩:=r; rfl
  | str _=>obtain ⟨t,rfl⟩:=r; rfl
  | byt _=>obtain ⟨t,rfl⟩:=r; rfl
  | flt _=>obtain ⟨t,rfl⟩:=r; rfl
  | ref _=>cases r; rfl
  | ty _=>cases r; rfl
theorem RelV.inj {x y:V} {u:Value} (r:RelV x u) (q:RelV y u):x=y:=Option.some.inj (r.abs.symm.trans q.abs)
theorem Vals.inj:∀ {xs ys:List V} {us:List Value},Vals xs us→Vals ys us→xs=ys
  | _,_,_,.nil,.nil=>rfl
  | _,_,_,.cons r t,.cons r' t'=>by rw [r.inj r',Vals.inj t t']
section
variable {X:Cx} {pins:List (Addr×Obj)} {σ:St} {H:Hp} {s:Shared} {a:Addr} {xs ys:List V}
theorem SqL.of {K:PySem.W.Frag} (h:H a=some (.lst xs)):SqL K H a xs:=.inl (.inl h)
theorem SqT.of {K:PySem.W.Frag} (h:H a=some (.tup xs)):SqT K H a xs:=.inl (.inl h)
theorem Inv.list (I:Inv X pins σ H s) (h:SqL X.K H a xs):∃ its:List Value,Vals xs its∧PlainL s.heap a its.toArray∧xs.length≤sizeLine:=by
  rcases h with h | ⟨o,its,n,hk,hc,hd,hs,hz,r⟩
  · obtain ⟨z,its,n,r,e⟩:=h.ok I.hok
    exact ⟨its,r,⟨_,n,e,rfl,rfl,rfl⟩,z⟩
  · refine ⟨its.toList,r,⟨o,n,I.kIn a o hk,hc,hd,by simpa using hs⟩,?_⟩
    have e:=r.length
    simp only [Array.length_toList] at e
    omega
theorem Inv.tuple (I:Inv X pins σ H s) (h:SqT X.K H a xs):∃ its:List Value,Vals xs its∧IsTup s.heap a its.toArray∧xs.length≤sizeLine:=by
  rcases h with h | ⟨o,its,n,hk,hc,hs,hz,r⟩
  · obtain ⟨z,its,r,p⟩:=h.ok I.hok
    exact ⟨its,r,p,z⟩
  · refine ⟨its.toList,r,⟨o,I.kIn a o hk,hc,n,by simpa using hs⟩,?_⟩
    have e:=r.length
    simp only [Array.length_toList] at e
    omega
theorem Inv.list_inj (I:Inv X pins σ H s) (h:SqL X.K H a xs) (h':SqL X.K H a ys):xs=ys:=by
  obtain ⟨its,r,⟨o,n,e,_,_,d⟩,_⟩:=I.list h
  obtain ⟨its',r',⟨o',n',e',_,_,d'⟩,_⟩:=I.list h'
  rw [e] at e'; cases e'
  rw [d] at d'
  injection d' with d1 _
  have:its=its':=by simpa using congrArg Array.toList d1
  subst this
  exact r.inj r'
theorem Inv.tuple_inj (I:Inv X pins σ H s) (h:SqT X.K H a xs) (h':SqT X.K H a ys):xs=ys:=by
  obtain ⟨its,r,⟨o,e,_,n,d⟩,_⟩:=I.tuple h
  obtain ⟨its',r',⟨o',e',_,n',d'⟩,_⟩:=I.tuple h'
  rw [e] at e'; cases e'
  rw [d] at d'
  injection d' with d1 _
  have:its=its':=by simpa using congrArg Array.toList d1
  subst this
  exact r.inj r'
end
abbrev Cx.wish (X:Cx) (E:Value→Shared→Prop):Cx:={ X with xe:=E }
abbrev Cx.nox (X:Cx):Cx:=X.wish fun _ _=>False
theorem Cx.Ok.wish {X:Cx} (ok:X.Ok) (E:Value→Shared→Prop):(X.wish E).Ok :=
  ⟨ok.mod,ok.kind,ok.glob,ok.blt,ok.above,ok.inj,ok.has,ok.cab,ok.hd,ok.frames,ok.stk,ok.exf,ok.bs,ok.bsz,ok.noex,ok.exfs,ok.funs,ok.frf⟩
theorem Cx.Ok.unwish {X:Cx} {E:Value→Shared→Prop} (ok:(X.wish E).Ok):X.Ok :=
  ⟨ok.mod,ok.kind,ok.glob,ok.blt,ok.above,ok.inj,ok.has,ok.cab,ok.hd,ok.frames,ok.stk,ok.exf,ok.bs,ok.bsz,ok.noex,ok.exfs,ok.funs,ok.frf⟩
section
variable {X:Cx} {pins:List (Addr×Obj)} {σ:St} {H:Hp} {s:Shared} {E:Value→Shared→Prop}
theorem Inv.wish (I:Inv X pins σ H s) (E:Value→Shared→Prop):Inv (X.wish E) pins σ H s:=⟨I.ok.wish E,I.os,I.bare,I.base,I.loc,I.cell,I.free,I.freeC,I.pin,I.hok,I.len⟩
theorem Inv.unwish (I:Inv (X.wish E) pins σ H s):Inv X pins σ H s:=⟨I.ok.unwish,I.os,I.bare,I.base,I.loc,I.cell,I.free,I.freeC,I.pin,I.hok,I.len⟩
theorem SP.unwish {D:Ends} {f:Flow} {s':Shared} (h:SP (X.wish E) pins D f s'):SP X pins D f s':=by
  cases f with
  | next=>obtain ⟨σ',H',I,q⟩:=h; exact ⟨σ',H',I.unwish,q⟩
  | brk=>obtain ⟨σ',H',I,q⟩:=h; exact ⟨σ',H',I.unwish,q⟩
  | cont=>obtain ⟨σ',H',I,q⟩:=h; exact ⟨σ',H',I.unwish,q⟩
  | ret u=>obtain ⟨v,σ',H',I,r,q⟩:=h; exact ⟨v,σ',H',I.unwish,r,q⟩
theorem PSs.nox {st:List Stmt} {t:TS} (h:PSs X.nox st t):PSs X st t:=fun pins s σ H D I hw =>
  wpAny_mono (h pins s σ H D (I.wish _) hw) (fun _ _ q=>q.unwish) fun _ _ z=>False.elim z
end
section
variable {X:Cx} {st:Stmt} {rest:List Stmt} {t u:TS} {e:Expr} {te:TE} {pos:Pos}
def tNext:TS:=fun D σ H=>D.nx σ H
def tSeq (t u:TS):TS:=fun D σ H=>t { D with nx:=u D } σ H
theorem pss_nil:PSs X [] tNext:=fun _ _ σ H _ I h=>wpAny_execs_nil ⟨σ,H,I,h⟩
theorem pss_cons (h1:PS X st t) (h2:PSs X rest u):PSs X (st::rest) (tSeq t u):=by
  intro pins s σ H D I h
  refine wpAny_execs_cons (thn (h1 pins s σ H { D with nx:=u D } I h) fun f s1 q=>?_)
  cases f with
  | next =>
    obtain ⟨σ',H',I',q⟩:=q
    exact h2 pins s1 σ' H' D I' q
  | ret v=>exact q
  | brk=>exact q
  | cont=>exact q
theorem pss_one (h1:PS X st t):PSs X [st] t:=by
  intro pins s σ H D I h
  refine wpAny_execs_cons (thn (h1 pins s σ H D I h) fun f s1 q=>?_)
  cases f with
  | next=>exact wpAny_execs_nil q
  | ret v=>exact q
  | brk=>exact q
  | cont=>exact q
theorem Inv.quiet {pins:List (Addr×Obj)} {σ:St} {H:Hp} {s:Shared} (I:Inv X pins σ H s):interactive X.env=false:=by simp [interactive,I.ok.kind]
def tDrop (te:TE):TS:=fun D σ H=>te σ H fun _ H1=>D.nx σ H1
theorem ps_expr (he:PE X e te) (hs:swapsWith e none pos.line X.env=pure false:=by rfl):PS X (.Expr e pos) (tDrop te):=by
  intro pins s σ H D I h
  exact wpAny_Expr_any (thn (he pins s σ H _ I h) fun v s1 ⟨x,H1,I1,r1,q1⟩=>⟨σ,H1,I1,q1⟩) I.quiet hs
def tRet (te:TE):TS:=fun D σ H=>te σ H D.rt
theorem ps_ret (he:PE X e te):PS X (.Return (some e) pos) (tRet te):=by
  intro pins s σ H D I h
  exact wpAny_Return_some (thn (he pins s σ H _ I h) fun v s1 ⟨x,H1,I1,r1,q1⟩=>⟨x,σ,H1,I1,r1,q1⟩)
def tIfS (c:TT) (t u:TS):TS:=fun D σ H=>c σ H fun b H1=>if b=true then t D σ H1 else u D σ H1
theorem ps_if {c:Expr} {a b:List Stmt} {tc:TT} (hc:PT X c tc) (ha:PSs X a t) (hb:PSs X b u):PS X (.If c a b pos) (tIfS tc t u):=by
  intro pins s σ H D I h
  refine wpAny_If (thn (hc pins s σ H _ I h) fun d s1 ⟨H1,I1,q1⟩=>?_)
  cases d with
  | true=>exact ha pins s1 σ H1 D I1 q1
  | false=>exact hb pins s1 σ H1 D I1 q1
end
abbrev TG:=V→St→Hp→(St→Hp→Prop)→Prop
abbrev TGs:=List V→St→Hp→(St→Hp→Prop)→Prop
def PG (X:Cx) (target:Expr) (t:TG):Prop :=
  ∀ (pins:List (Addr×Obj)) (s:Shared) (σ:St) (H:Hp) (v:V) (u:Value) (Q:St→Hp→Prop),Inv X pins σ H s→RelV v u→t v σ H Q →
    wpAny (model X.prog X.w) X.A (assign target X.env u) (fun _ s'=>∃ σ' H',Inv X pins σ' H' s'∧Q σ' H') X.xe s
def PGs (X:Cx) (ts:List Expr) (t:TGs):Prop :=
  ∀ (pins:List (Addr×Obj)) (s:Shared) (σ:St) (H:Hp) (vs:List V) (us:List Value) (Q:St→Hp→Prop),Inv X pins σ H s→Vals vs us→t vs σ H Q →
    wpAny (model X.prog X.w) X.A (assignInOrder ((assignEach ts X.env).map (·.2)) us) (fun _ s'=>∃ σ' H',Inv X pins σ' H' s'∧Q σ' H') X.xe s
abbrev TSet:=V→V→V→Hp→(Hp→Prop)→Prop
def PSet (X:Cx) (t:TSet):Prop :=
  ∀ (pins:List (Addr×Obj)) (s:Shared) (σ:St) (H:Hp) (o i v:V) (ov iv u:Value) (Q:Hp→Prop),Inv X pins σ H s→RelV o ov→RelV i iv→RelV v u→t o i v H Q →
    wpAny (model X.prog X.w) X.A (setItem ov iv u) (fun _ s'=>∃ H',Inv X pins σ H' s'∧Q H') X.xe s
abbrev TIp:=V→V→Hp→VK→Prop
def PIp (X:Cx) (op:Operator) (t:TIp):Prop :=
  ∀ (pins:List (Addr×Obj)) (s:Shared) (σ:St) (H:Hp) (x y:V) (v u:Value) (Q:VK),Inv X pins σ H s→RelV x v→RelV y u→t x y H Q →
    wpAny (model X.prog X.w) X.A (inplaceOp op v u) (EP X pins σ Q) X.xe s
section
variable {X:Cx} {pos:Pos}
def gName (i:Nat):TG:=fun v σ H Q=>Q (σ.set i (some v)) H
theorem pg_name {i:Nat} {x:Str} (hN:X.N.Nodup) (hi:X.N[i]?=some x) (hx:Loc X.env.scope x) (hf:X.fn x=true∨X.env.scope.names.lookup x=some .local:=by first | exact .inl rfl | exact .inr rfl | assumption):PG X (.Name x pos) (gName i):=by
  intro pins s σ H v u Q I r h
  exact wpAny_assign_Name (store_ok I hN hi hx r (fun s' I'=>⟨_,H,I',h⟩) hf)
def gNil:TGs:=fun vs σ H Q=>vs=[]∧Q σ H
def gCons (t:TG) (u:TGs):TGs:=fun vs σ H Q=>∃ v r,vs=v::r∧t v σ H fun σ' H'=>u r σ' H' Q
theorem pgs_nil:PGs X [] gNil:=by
  intro pins s σ H vs us Q I r h
  obtain ⟨e,h⟩:=h
  subst e
  cases r
  exact assignInOrder_nil ⟨σ,H,I,h⟩
theorem pgs_cons {e:Expr} {es:List Expr} {t:TG} {u:TGs} (h1:PG X e t) (h2:PGs X es u)
    (hs:(assignEach (e::es) X.env).map (·.2)=assign e X.env::(assignEach es X.env).map (·.2):=by rfl):PGs X (e::es) (gCons t u):=by
  intro pins s σ H vs us Q I r h
  obtain ⟨v,vr,e1,h⟩:=h
  subst e1
  cases r with
  | cons r rr =>
    rw [hs]
    refine assignInOrder_cons (thn (h1 pins s σ H _ _ _ I r h) fun _ s1 ⟨σ1,H1,I1,q1⟩=>?_)
    exact h2 pins s1 σ1 H1 _ _ Q I1 rr q1
def gTup (K:PySem.W.Frag) (n:Nat) (t:TGs):TG:=fun v σ H Q=>∃ a xs,v=.ref a∧SqT K H a xs∧xs.length=n∧t xs σ H Q
theorem pg_tup {es:List Expr} {k:Nat} {t:TGs} {n:Nat} (hc:X.calm=true) (h:PGs X es t)
    (hn:(assignEach es X.env).length=n:=by rfl) (hst:(assignEach es X.env).findIdx? (·.1)=none:=by rfl):PG X (.Tuple es k pos) (gTup X.K n t):=by
  intro pins s σ H v u Q I r hw
  obtain ⟨a,xs,e1,hq,hl,hw⟩:=hw
  subst e1
  cases r
  obtain ⟨its,rv,ht,hz⟩:=I.tuple hq
  refine assign_Tuple_tuple (I.ok.hd hc) ht (by simp [hn,← hl,rv.length]) hst fun h' hx=>?_
  have I1:Inv X pins σ H { s with heap:=h' }:=I.kept (t':=s.toks) fun b o e=>hx b o (Nat.ne_of_lt (Heap.lt_size e)) e
  exact h pins _ σ H xs _ Q I1 (by simpa using rv) hw
def gSub (to ti:TE) (t:TSet):TG:=fun v σ H Q=>to σ H fun o H1=>ti σ H1 fun i H2=>t o i v H2 fun H3=>Q σ H3
theorem pg_sub {o i:Expr} {to ti:TE} {t:TSet} (ho:PE X o to) (hi:PE X i ti) (hs:PSet X t)
    (ha:∀ v,assign (.Subscript o i pos) X.env v=(do
      let ov ← holding [v] (eval o X.env)
      let iv ← holding [v,ov] (eval i X.env)
      standAt pos
      holding [v,ov,iv] (setItem ov iv v)
      release [v,ov,iv] []):=by intro _; rfl):PG X (.Subscript o i pos) (gSub to ti t):=by
  intro pins s σ H v u Q I r h
  rw [ha]
  refine wpAny_bind (wpAny_holding (thn (ho pins s σ H _ I h) fun ov s1 ⟨x,H1,I1,r1,q1⟩=>?_))
  refine wpAny_bind (wpAny_holding (thn (hi pins s1 σ H1 _ I1 q1) fun iv s2 ⟨y,H2,I2,r2,q2⟩=>?_))
  refine wpAny_bind (wpAny_standAt (wpAny_bind (wpAny_holding (thn (hs pins s2 σ H2 x y v ov iv u _ I2 r1 r2 r q2) fun _ s3 ⟨H3,I3,q3⟩=>?_))))
  exact wpAny_release ⟨σ,H3,I3,q3⟩
def tAsg (te:TE) (g:TG):TS:=fun D σ H=>te σ H fun x H1=>g x σ H1 D.nx
theorem ps_asg {tg e:Expr} {te:TE} {g:TG} (he:PE X e te) (hg:PG X tg g) (hs:swapsWithSole [tg] e pos.line X.env=pure false:=by rfl) (hw:swappedStores [tg] e X.env=pure none:=by rfl)
    (h1:(assignEach [tg] X.env).map (·.2)=[assign tg X.env]:=by rfl):PS X (.Assign [tg] e pos) (tAsg te g):=by
  intro pins s σ H D I h
  refine wpAny_Assign_stores (thn (he pins s σ H _ I h) fun v s1 ⟨x,H1,I1,r1,q1⟩=>?_) hs hw
  rw [h1]
  exact thn (hg pins s1 σ H1 x v _ I1 r1 q1) fun _ s2 q=>q
theorem ps_set {i:Nat} {x:Str} {e:Expr} {te:TE} {pos':Pos} (hN:X.N.Nodup) (hi:X.N[i]?=some x) (hx:Loc X.env.scope x) (he:PE X e te) (hs:swapsWith e (some (.Name x pos')) pos.line X.env=pure false:=by rfl) (hf:X.fn x=true∨X.env.scope.names.lookup x=some .local:=by first | exact .inl rfl | exact .inr rfl | assumption) :
    PS X (.Assign [.Name x pos'] e pos) (tAsg te (gName i)):=by
  intro pins s σ H D I h
  refine wpAny_Assign_Name (thn (he pins s σ H _ I h) fun v s1 ⟨y,H1,I1,r1,q1⟩=>?_) hs
  exact store_ok I1 hN hi hx r1 (fun s2 I2=>⟨_,H1,I2,q1⟩) hf
def tAug (i:Nat) (te:TE) (ti:TIp):TS:=fun D σ H=>∃ x,σ[i]?=some (some x)∧te σ H fun y H1=>ti x y H1 fun z H2=>D.nx (σ.set i (some z)) H2
theorem ps_aug {i:Nat} {x:Str} {e:Expr} {te:TE} {op:Operator} {ti:TIp} {pos':Pos} (hN:X.N.Nodup) (hi:X.N[i]?=some x) (hx:Loc X.env.scope x) (he:PE X e te) (ho:PIp X op ti) (hf:X.fn x=true∨X.env.scope.names.lookup x=some .local:=by first | exact .inl rfl | exact .inr rfl | assumption) :
    PS X (.AugAssign (.Name x pos') op e pos) (tAug i te ti):=by
  intro pins s σ H D I h
  obtain ⟨v,e1,h⟩:=h
  obtain ⟨m,hn,hl⟩:=I.loc
  have vis:Vis X.env.scope x:=by rcases hx with k | k; exact .inl k; exact .inr (.inl k)
  obtain ⟨u,r,l⟩:=hl i x v hi e1 vis
  refine wpAny_AugAssign_Name ?_
  have go:wpAny (model X.prog X.w) X.A (eval e X.env) (fun w s₂=>wpAny (model X.prog X.w) X.A (inplaceOp op u w) (fun r s₃=>wpAny (model X.prog X.w) X.A (storeName X.env x r) (fun _=>SP X pins D .next) X.xe s₃) X.xe s₂) X.xe s:=by
    refine thn (he pins s σ H _ I h) fun w s1 ⟨y,H1,I1,r1,q1⟩=>?_
    refine thn (ho pins s1 σ H1 v y u w _ I1 r r1 q1) fun z s2 ⟨zv,H2,I2,r2,q2⟩=>?_
    exact store_ok I2 hN hi hx r2 (fun s3 I3=>⟨_,H2,I3,q2⟩) hf
  rcases l with ⟨hk,hm⟩ | ⟨hk,c,hc,hcell⟩
  · exact wpAny_loadName_local I.ok.kind hk hn hm go
  · rcases hk with hk | hk
    · exact wpAny_loadName_cell I.ok.kind hk hc hcell go
    · rcases hx with k | k
      · have:X.env.scope.names.lookup x=some .free:=hk
        rw [k] at this; cases this
      · have:X.env.scope.names.lookup x=some .free:=hk
        rw [k] at this; cases this
def ipI (f:Int→Int→Int):TIp:=fun x y H Q=>∃ i j,x=.int i∧y=.int j∧Q (.int (f i j)) H
theorem ip_add:PIp X .Add (ipI fun i j=>i+j):=by
  intro pins s σ H x y v u Q I r1 r2 h
  obtain ⟨i,j,e1,e2,q⟩:=h
  subst e1; subst e2
  obtain ⟨t,rfl⟩:=r1
  obtain ⟨t',rfl⟩:=r2
  exact iadd_int ⟨.int _,H,I.tok _,⟨_,rfl⟩,q⟩
end
section
variable {X:Cx} {pos:Pos}
def tWhile (c:TT) (tb:TS):TS:=fun D σ H=>∃ W:Nat→St→Hp→Prop,(∃ m,W m σ H)∧∀ m σ H,W m σ H →
  c σ H fun b H1=>if b=true then ∃ N:St→Hp→Prop,(∀ σ' H',N σ' H'→∃ m',m'<m∧W m' σ' H')∧tb { D with nx:=N,ct:=N,bk:=D.nx } σ H1 else D.nx σ H1
theorem ps_while {c:Expr} {body:List Stmt} {tc:TT} {tb:TS} (hp:PassesOwn (model X.prog X.w) X.A X.env X.xe) (hc:PT X c tc) (hb:PSs X body tb):PS X (.While c body [] pos) (tWhile tc tb):=by
  intro pins s σ H D I h
  obtain ⟨W,⟨m0,w0⟩,turn⟩:=h
  refine wpAny_While (codeAny_whileLoop (fun n s'=>∃ σ' H',Inv X pins σ' H' s'∧W n σ' H') ?_ m0 ⟨σ,H,I,w0⟩)
  rintro n s1 ⟨σ1,H1,I1,w1⟩
  refine wpAny_passesOwn hp (thn (hc pins s1 σ1 H1 _ I1 (turn n σ1 H1 w1)) fun b s2 ⟨H2,I2,q2⟩=>?_)
  cases b with
  | true =>
    obtain ⟨N,hN,q2⟩:=q2
    rw [if_pos rfl]
    refine wpAny_passesOwn hp (thn (hb pins s2 σ1 H2 _ I2 q2) fun f s3 q3=>?_)
    cases f with
    | next =>
      obtain ⟨σ3,H3,I3,n3⟩:=q3
      obtain ⟨m',hm,w3⟩:=hN σ3 H3 n3
      exact ⟨m',hm,σ3,H3,I3,w3⟩
    | cont =>
      obtain ⟨σ3,H3,I3,n3⟩:=q3
      obtain ⟨m',hm,w3⟩:=hN σ3 H3 n3
      exact ⟨m',hm,σ3,H3,I3,w3⟩
    | brk=>exact q3
    | ret v=>exact q3
  | false =>
    rw [if_neg Bool.false_ne_true]
    exact wpAny_execs_nil ⟨σ1,H2,I2,q2⟩
end
structure It where
  go:Nat→Hp→Prop
  yld:Nat→Hp→V→Hp→Prop
  stop:Nat→Hp→Prop
def FpOk (X:Cx) (pins:List (Addr×Obj)) (H:Hp) (b:Addr):Prop :=
  H b=none∧b≠X.env.locals∧b ∉ X.fs∧(b ∈ X.ex∨X.s_0.heap.objs.size≤b)∧(∀ x c,X.env.cells.lookup x=some c→c≠b)∧∀ p ∈ X.pn++pins,p.1≠b
theorem Inv.fpOk {X:Cx} {pins:List (Addr×Obj)} {σ:St} {H H':Hp} {s:Shared} {b:Addr} (I:Inv X pins σ H s) (hb:s.heap.objs.size≤b) (hn:H' b=none):FpOk X pins H' b:=by
  refine ⟨hn,Nat.ne_of_gt (Nat.lt_of_lt_of_le I.lt hb),I.nofs hb,.inr (Nat.le_trans I.sz hb),fun x c e z=>?_,fun p hp z=>?_⟩
  · obtain ⟨v,q⟩:=I.cell x c e
    exact absurd (Nat.lt_of_lt_of_le q.lt (by rw [z]; exact hb)) (Nat.lt_irrefl _)
  · exact absurd (Nat.lt_of_lt_of_le (Heap.lt_size (I.pin p hp).1) (by rw [z]; exact hb)) (Nat.lt_irrefl _)
structure Turn (P:Program) (w:World) (K:PySem.W.Frag) (tg:Expr) (J:It) (fp:List Addr) (it:Addr) (tn:Nat→Heap→Prop):Prop where
  mem:it ∈ fp
  obj:∀ i h,tn i h→∀ b ∈ fp,∃ o,h.get? b=some o∧∀ v,o.data≠.cell v
  keep:∀ i h h',tn i h→(∀ b ∈ fp,∀ o,h.get? b=some o→h'.get? b=some o)→tn i h'
  item:∀ (X:Cx),X.prog=P→X.w=w→X.K=K→X.calm=true→∀ (i:Nat) (pins:List (Addr×Obj)) (s:Shared) (σ:St) (H:Hp) (E:Value→Shared→Prop),Inv X pins σ H s→(∀ b ∈ fp,FpOk X pins H b)→tn i s.heap→J.go i H →
    wpAny (model P w) X.A (pyNext (.ref it)) (fun r s1=>∃ u,r=some u ∧
      wpAny (model P w) X.A (letOwnedTupleGo tg (.ref it) u) (fun _ s2=>∃ x H',Inv X pins σ H' s2∧RelV x u∧J.yld i H x H'∧tn (i+1) s2.heap∧∀ b ∈ fp,H' b=none) E s1) E s
  done:∀ (X:Cx),X.prog=P→X.w=w→X.K=K→X.calm=true→∀ (i:Nat) (pins:List (Addr×Obj)) (s:Shared) (σ:St) (H:Hp) (E:Value→Shared→Prop),Inv X pins σ H s→(∀ b ∈ fp,FpOk X pins H b)→tn i s.heap→J.stop i H →
    wpAny (model P w) X.A (pyNext (.ref it)) (fun r s1=>r=none∧Inv X pins σ H s1) E s
  self:∀ (A:Around) (i:Nat) (s:Shared) (Q:Value→Shared→Prop) (E:Value→Shared→Prop),tn i s.heap→Q (.ref it) s→wpAny (model P w) A (pyIter (.ref it)) Q E s
abbrev TI:=St→Hp→(It→Hp→Prop)→Prop
def PIE (X:Cx) (pins:List (Addr×Obj)) (σ:St) (tg:Expr) (R:It→Hp→Prop) (itv:Value) (s2:Shared):Prop :=
  ∃ (it:Addr) (fp:List Addr) (tn:Nat→Heap→Prop) (J:It) (H':Hp),itv=.ref it∧Inv X pins σ H' s2∧Turn X.prog X.w X.K tg J fp it tn∧tn 0 s2.heap∧(∀ b ∈ fp,FpOk X pins H' b)∧R J H'
def PI (X:Cx) (tg iter:Expr) (wi:TI):Prop :=
  ∀ (pins:List (Addr×Obj)) (s:Shared) (σ:St) (H:Hp) (R:It→Hp→Prop),Inv X pins σ H s→wi σ H R →
    wpAny (model X.prog X.w) X.A (eval iter X.env) (fun v s1=>wpAny (model X.prog X.w) X.A (pyIter v) (PIE X pins σ tg R) X.xe s1) X.xe s
theorem go_of {M:Model} {A:Around} {E:Value→Shared→Prop} {s:Shared} {tg:Expr} {it:Addr} {u:Value} {o:Obj} {n:String} {vs:Array Value} {Q:Unit→Shared→Prop} (ho:s.heap.get? it=some o) (hc:o.cls=.type n) (hd:o.data=.fields vs)
    (hn:["enumerate","zip","dict_itemiterator","dict_reverseitemiterator","odict_iterator","itertools.zip_longest","itertools.pairwise"].contains n=false) (hQ:Q () s):wpAny M A (letOwnedTupleGo tg (.ref it) u) Q E s:=by
  unfold letOwnedTupleGo
  cases tg <;> first
    | exact wpAny_pure hQ
    | (cases u <;> first
        | exact wpAny_pure hQ
        | (refine wpAny_bind (wpAny_load ho ?_)
           rw [hc,hd]
           show wpAny M A (if (["enumerate","zip","dict_itemiterator","dict_reverseitemiterator","odict_iterator","itertools.zip_longest","itertools.pairwise"].contains n && vs[0]? == some (rawInt _))=true then _ else _) Q E s
           rw [if_neg (by intro h; rw [hn,Bool.false_and] at h; cases h)]
           exact wpAny_pure hQ))
def Itl (K:PySem.W.Frag) (a:Addr):It :=
  ⟨fun i H=>∃ xs x,SqL K H a xs∧xs[i]?=some x,fun i H x H'=>H'=H∧∀ xs,SqL K H a xs→xs[i]?=some x,fun i H=>∃ xs,SqL K H a xs∧xs.length≤i⟩
def Itt (K:PySem.W.Frag) (a:Addr):It :=
  ⟨fun i H=>∃ xs x,SqT K H a xs∧xs[i]?=some x,fun i H x H'=>H'=H∧∀ xs,SqT K H a xs→xs[i]?=some x,fun i H=>∃ xs,SqT K H a xs∧xs.length≤i⟩
def Itr (lo:Int) (n:Nat):It:=⟨fun i _=>i<n,fun i H x H'=>H'=H∧x=.int (lo+i),fun i _=>n≤i⟩
theorem turn_list {P:Program} {w:World} {K:PySem.W.Frag} {tg:Expr} (a it:Addr):Turn P w K tg (Itl K a) [it] it (fun i h=>h.IsListIter it a i) where
  mem:=by simp
  obj:=fun i h st b hb=>by
    have e:b=it:=by simpa using hb
    subst e
    obtain ⟨o,e,c,d⟩:=st
    exact ⟨o,e,fun v z=>by rw [d] at z; cases z⟩
  keep:=fun i h h' st k=>st.at fun o e=>k it (by simp) o e
  item:=by
    intro X hP hw hK hc i pins s σ H E I hf st hg
    subst hP hw hK
    obtain ⟨xs,x,hq,hx⟩:=hg
    obtain ⟨its,rv,p,hz⟩:=I.list hq
    obtain ⟨u,hu,ru⟩:=rv.get hx
    obtain ⟨f0,f1,f2,f3,f4,f5⟩:=hf it (by simp)
    refine wpAny_pyNext_list_item st p.isList (x:=u) (by simpa using hu) fun h' st' sb=>?_
    have I1:Inv X pins σ H { s with heap:=h' }:=I.turned (t':=s.toks) (fun b o hb e=>(sb.2 b hb).trans e) f0 f1 f3 f4 f5
    obtain ⟨o,e,c,d⟩:=id st'
    exact ⟨u,rfl,go_of (s:={ s with heap:=h' }) e c d (by decide) ⟨x,H,I1,ru,⟨rfl,fun ys hy=>by rw [I.list_inj hy hq]; exact hx⟩,st',fun b hb=>(hf b hb).1⟩⟩
  done:=by
    intro X hP hw hK hc i pins s σ H E I hf st hg
    subst hP hw hK
    obtain ⟨xs,hq,hx⟩:=hg
    obtain ⟨its,rv,p,hz⟩:=I.list hq
    obtain ⟨f0,f1,f2,f3,f4,f5⟩:=hf it (by simp)
    have hl:=rv.length
    exact wpAny_pyNext_list_end (I.ok.hd hc) st p.isList (by simp; omega) fun h' eb=>⟨rfl,I.turned (t':=s.toks) (fun b o hb e=>eb b o hb e) f0 f1 f3 f4 f5⟩
  self:=fun _ _ _ _ _ st h=>wpAny_pyIter_listiter st h
theorem turn_tuple {P:Program} {w:World} {K:PySem.W.Frag} {tg:Expr} (a it:Addr):Turn P w K tg (Itt K a) [it] it (fun i h=>h.IsTupleIter it a i) where
  mem:=by simp
  obj:=fun i h st b hb=>by
    have e:b=it:=by simpa using hb
    subst e
    obtain ⟨o,e,c,d⟩:=st
    exact ⟨o,e,fun v z=>by rw [d] at z; cases z⟩
  keep:=fun i h h' st k=>st.at fun o e=>k it (by simp) o e
  item:=by
    intro X hP hw hK hc i pins s σ H E I hf st hg
    subst hP hw hK
    obtain ⟨xs,x,hq,hx⟩:=hg
    obtain ⟨its,rv,p,hz⟩:=I.tuple hq
    obtain ⟨u,hu,ru⟩:=rv.get hx
    obtain ⟨f0,f1,f2,f3,f4,f5⟩:=hf it (by simp)
    refine wpAny_pyNext_tuple_item st (show s.heap.IsTuple a its.toArray from p) (x:=u) (by simpa using hu) fun h' st' sb=>?_
    have I1:Inv X pins σ H { s with heap:=h' }:=I.turned (t':=s.toks) (fun b o hb e=>(sb.2 b hb).trans e) f0 f1 f3 f4 f5
    obtain ⟨o,e,c,d⟩:=id st'
    exact ⟨u,rfl,go_of (s:={ s with heap:=h' }) e c d (by decide) ⟨x,H,I1,ru,⟨rfl,fun ys hy=>by rw [I.tuple_inj hy hq]; exact hx⟩,st',fun b hb=>(hf b hb).1⟩⟩
  done:=by
    intro X hP hw hK hc i pins s σ H E I hf st hg
    subst hP hw hK
    obtain ⟨xs,hq,hx⟩:=hg
    obtain ⟨its,rv,p,hz⟩:=I.tuple hq
    obtain ⟨f0,f1,f2,f3,f4,f5⟩:=hf it (by simp)
    have hl:=rv.length
    exact wpAny_pyNext_tuple_end (I.ok.hd hc) st (show s.heap.IsTuple a its.toArray from p) (by simp; omega) fun h' eb=>⟨rfl,I.turned (t':=s.toks) (fun b o hb e=>eb b o hb e) f0 f1 f3 f4 f5⟩
  self:=fun _ _ _ _ _ st h=>wpAny_pyIter_tupleiter st h
theorem turn_range {P:Program} {w:World} {K:PySem.W.Frag} {tg:Expr} (it:Addr) (lo:Int) (n:Nat):Turn P w K tg (Itr lo n) [it] it (fun i h=>IsRangeIter h it (lo+(i:Nat) * 1) ((n:Int) - (i:Nat)) 1) where
  mem:=by simp
  obj:=fun i h st b hb=>by
    have e:b=it:=by simpa using hb
    subst e
    exact ⟨_,st,fun v z=>by
      have z':Data.fields _=Data.cell v:=z
      cases z'⟩
  keep:=fun i h h' st k=>k it (by simp) _ st
  item:=by
    intro X hP hw hK hc i pins s σ H E I hf st hg
    subst hP hw hK
    obtain ⟨f0,f1,f2,f3,f4,f5⟩:=hf it (by simp)
    have W:=Walks.range (prog:=X.prog) (w:=X.w) (I.ok.hd hc) it lo 1 n
    refine W.item i s _ _ hg st fun v h' tk hv st' kk=>?_
    obtain ⟨t,rfl⟩:=hv
    have I1:Inv X pins σ H { s with heap:=h',toks:=tk }:=I.turned (fun b o hb e=>kk b o (by simpa using hb) e) f0 f1 f3 f4 f5
    refine ⟨_,rfl,go_of (s:={ s with heap:=h',toks:=tk }) (n:="range_iterator") st' rfl rfl (by decide) ⟨.int (lo+i),H,I1,⟨t,?_⟩,⟨rfl,rfl⟩,st',fun b hb=>(hf b hb).1⟩⟩
    rw [Int.mul_one]
  done:=by
    intro X hP hw hK hc i pins s σ H E I hf st hg
    subst hP hw hK
    obtain ⟨f0,f1,f2,f3,f4,f5⟩:=hf it (by simp)
    exact wpAny_pyNext_range_end (I.ok.hd hc) st (by have:n≤i:=hg; omega) fun h' eb=>⟨rfl,I.turned (t':=s.toks) (fun b o hb e=>eb b o hb e) f0 f1 f3 f4 f5⟩
  self:=fun _ _ _ _ _ st h=>wpAny_pyIter_rangeiter st h
end L2
namespace L2
open PySem PySem.Spec PyProof.Rows
section
variable {X:Cx} {tg:Expr}
def iList (K:PySem.W.Frag) (tl:TE):TI:=fun σ H R=>tl σ H fun x H1=>∃ a,x=.ref a∧(∃ xs,SqL K H1 a xs)∧R (Itl K a) H1
def iTup (K:PySem.W.Frag) (tl:TE):TI:=fun σ H R=>tl σ H fun x H1=>∃ a,x=.ref a∧(∃ xs,SqT K H1 a xs)∧R (Itt K a) H1
theorem pi_list {l:Expr} {tl:TE} (hl:PE X l tl):PI X tg l (iList X.K tl):=by
  intro pins s σ H R I h
  refine thn (hl pins s σ H _ I h) fun v s1 ⟨x,H1,I1,r1,q1⟩=>?_
  obtain ⟨a,e,⟨xs,hq⟩,q⟩:=q1
  subst e
  cases r1
  obtain ⟨its,rv,p,hz⟩:=I1.list hq
  refine wpAny_pyIter_list p.isList ?_
  refine ⟨s1.heap.objs.size,[s1.heap.objs.size],_,_,H1,rfl,I1.kept (t':=s1.toks) fun b o e=>Heap.get?_push_of_some _ e,turn_list a _,⟨_,Heap.get?_push_size _ rfl,rfl,rfl⟩,fun b hb=>?_,q⟩
  have e:b=s1.heap.objs.size:=by simpa using hb
  subst e
  exact I1.fpOk (Nat.le_refl _) (I1.hok.fresh (Nat.le_refl _))
theorem pi_tup {l:Expr} {tl:TE} (hl:PE X l tl):PI X tg l (iTup X.K tl):=by
  intro pins s σ H R I h
  refine thn (hl pins s σ H _ I h) fun v s1 ⟨x,H1,I1,r1,q1⟩=>?_
  obtain ⟨a,e,⟨xs,hq⟩,q⟩:=q1
  subst e
  cases r1
  obtain ⟨its,rv,p,hz⟩:=I1.tuple hq
  refine wpAny_pyIter_tuple (show s1.heap.IsTuple a its.toArray from p) ?_
  refine ⟨s1.heap.objs.size,[s1.heap.objs.size],_,_,H1,rfl,I1.kept (t':=s1.toks) fun b o e=>Heap.get?_push_of_some _ e,turn_tuple a _,⟨_,Heap.get?_push_size _ rfl,rfl,rfl⟩,fun b hb=>?_,q⟩
  have e:b=s1.heap.objs.size:=by simpa using hb
  subst e
  exact I1.fpOk (Nat.le_refl _) (I1.hok.fresh (Nat.le_refl _))
theorem range_it {pins:List (Addr×Obj)} {σ:St} {H:Hp} {s:Shared} {R:It→Hp→Prop} {E:Value→Shared→Prop} {lo hi:Int} {t u v:Tok} {tk:Nat} (I:Inv X pins σ H s) (h1:-(2 ^ 62)≤lo) (h2:lo<2 ^ 62) (h3:-(2 ^ 62)≤hi) (h4:hi<2 ^ 62)
    (q:R (Itr lo (hi - lo).toNat) H):wpAny (model X.prog X.w) X.A (pyIter (.ref s.heap.objs.size)) (PIE X pins σ tg R) E { s with heap:=s.heap.push { cls:=.type "range",data:=.fields #[.int lo t,.int hi u,.int 1 v] },toks:=tk }:=by
  refine wpAny_pyIter_range (IsRange.new ..) (small_one h1 h2 h3 h4) ?_
  have I1:Inv X pins σ H { s with heap:=s.heap.push { cls:=.type "range",data:=.fields #[.int lo t,.int hi u,.int 1 v] },toks:=tk }:=I.kept fun b o e=>Heap.get?_push_of_some _ e
  refine ⟨(s.heap.push { cls:=.type "range",data:=.fields #[.int lo t,.int hi u,.int 1 v] }).objs.size,[(s.heap.push { cls:=.type "range",data:=.fields #[.int lo t,.int hi u,.int 1 v] }).objs.size],_,_,H,rfl,
    I1.kept (t':=tk) fun b o e=>Heap.get?_push_of_some _ e,turn_range _ lo (hi - lo).toNat,?_,fun b hb=>?_,q⟩
  · have e1:lo+((0:Nat):Int) * 1=lo:=by simp
    have e2:(((hi - lo).toNat:Nat):Int) - ((0:Nat):Int)=Builtin.Range.rangeSize lo hi 1:=by rw [rangeSize_one]; split <;> omega
    show IsRangeIter _ _ (lo+((0:Nat):Int) * 1) ((((hi - lo).toNat:Nat):Int) - ((0:Nat):Int)) 1
    rw [e1,e2]
    exact Heap.get?_push_size _ rfl
  · have e:b=(s.heap.push { cls:=.type "range",data:=.fields #[.int lo t,.int hi u,.int 1 v] }).objs.size:=by simpa using hb
    subst e
    exact I1.fpOk (Nat.le_refl _) (I1.hok.fresh (Nat.le_refl _))
def iRng1 (ta:TA):TI:=fun σ H R=>ta σ H fun vs H1=>∃ j:Int,vs=[.int j]∧-(2 ^ 62)≤j∧j<2 ^ 62∧R (Itr 0 j.toNat) H1
theorem pi_range1 {a:Expr} {ta:TA} {p pos:Pos} (hg:Gl X "range") (hm:X.mg "range"=none) (ha:PA X [a] ta) (hs:starEach [a] X.env=[(false,eval a X.env)]:=by rfl):PI X tg (.Call (.Name "range" p) [a] [] pos) (iRng1 ta):=by
  intro pins s σ H R I h
  refine Call_ (ld_blt I hg hm boot_range (PyProof.Rows.callWith_type1 (thn (ha pos pins s σ H _ I h) fun us s1 ⟨vs,H1,I1,r1,q1⟩=>?_) hs rfl))
  obtain ⟨j,e,q1,q2,q⟩:=q1
  subst e
  cases r1 with
  | cons r rr =>
    cases rr
    obtain ⟨t,rfl⟩:=r
    exact call_range_1 (range_it I1 (by omega) (by omega) q1 q2 (by simpa using q))
def tFor (wi:TI) (g:TG) (tb:TS):TS:=fun D σ H=>wi σ H fun J H1=>∃ W:Nat→Nat→St→Hp→Prop,(∃ m,W 0 m σ H1)∧∀ i m σ H,W i m σ H →
  (J.stop i H∧D.nx σ H)∨(J.go i H∧∃ N:St→Hp→Prop,(∀ σ' H',N σ' H'→∃ m',m'<m∧W (i+1) m' σ' H')∧∀ x H',J.yld i H x H'→g x σ H' fun σ2 H2=>tb { D with nx:=N,ct:=N,bk:=D.nx } σ2 H2)
def pinsAt (fp:List Addr) (h:Heap):List (Addr×Obj):=fp.filterMap fun b=>(h.get? b).map fun o=>(b,o)
theorem mem_pinsAt {fp:List Addr} {h:Heap} {b:Addr} {o:Obj} (hb:b ∈ fp) (e:h.get? b=some o):(b,o) ∈ pinsAt fp h:=List.mem_filterMap.mpr ⟨b,hb,by rw [e]; rfl⟩
theorem of_pinsAt {fp:List Addr} {h:Heap} {p:Addr×Obj} (hp:p ∈ pinsAt fp h):p.1 ∈ fp∧h.get? p.1=some p.2:=by
  obtain ⟨b,hb,e⟩:=List.mem_filterMap.mp hp
  cases q:h.get? b with
  | none=>rw [q] at e; cases e
  | some o =>
    rw [q] at e
    have e':(b,o)=p:=Option.some.inj e
    subst e'
    exact ⟨hb,q⟩
theorem Inv.pinned {pins:List (Addr×Obj)} {σ:St} {H:Hp} {s:Shared} {fp:List Addr} (I:Inv X pins σ H s) (hf:∀ b ∈ fp,FpOk X pins H b) (ho:∀ b ∈ fp,∃ o,s.heap.get? b=some o∧∀ v,o.data≠.cell v):Inv X (pins++pinsAt fp s.heap) σ H s :=
  I.pins_of fun p hp=>(List.mem_append.mp hp).elim (fun z=>I.pin p (List.mem_append_right _ z)) fun z=>by
    obtain ⟨hb,e⟩:=of_pinsAt z
    obtain ⟨f0,f1,f2,_⟩:=hf p.1 hb
    obtain ⟨o,e',d⟩:=ho p.1 hb
    rw [e] at e'; cases e'
    exact ⟨e,f0,f1,f2,d⟩
theorem Inv.unpinned {pins pl:List (Addr×Obj)} {σ:St} {H:Hp} {s:Shared} (I:Inv X (pins++pl) σ H s):Inv X pins σ H s:=I.pins_of fun p hp=>I.pin p (List.mem_append_right _ (List.mem_append_left _ hp))
theorem ps_for {iter:Expr} {body:List Stmt} {wi:TI} {g:TG} {tb:TS} {pos:Pos} (hp:PassesOwn (model X.prog X.w) X.A X.env X.xe) (hc:X.calm=true) (hi:PI X tg iter wi) (hg:PG X tg g) (hb:PSs X body tb)
    (hs:∀ x,foldedSetIterable iter X.env x=pure x:=by intro _; rfl):PS X (.For tg iter body [] pos) (tFor wi g tb):=by
  intro pins s σ H D I h
  refine wpAny_For (thn (hi pins s σ H _ I h) fun v s1 h1=>thn h1 fun itv s2 h2=>?_) hs
  obtain ⟨it,fp,tn,J,H2,e,I2,T,st2,f2,W,⟨m0,w0⟩,turn⟩:=h2
  subst e
  have stat:∀ {H':Hp},(∀ b ∈ fp,H' b=none)→∀ b ∈ fp,FpOk X pins H' b:=fun hn b hb=>⟨hn b hb,(f2 b hb).2⟩
  refine codeAny_forLoop_any (fun n s'=>∃ i σ' H',Inv X pins σ' H' s'∧tn i s'.heap∧(∀ b ∈ fp,H' b=none)∧W i n σ' H') ?_ m0 ⟨0,σ,H2,I2,st2,fun b hb=>(f2 b hb).1,w0⟩
  rintro n s3 ⟨i,σ3,H3,I3,st3,fr3,w3⟩
  rcases turn i n σ3 H3 w3 with ⟨stop,qn⟩ | ⟨go,N,hN,step⟩
  · refine wpAny_passesOwn hp (thn (T.done X rfl rfl rfl hc i pins s3 σ3 H3 X.xe I3 (stat fr3) st3 stop) fun r s4 ⟨hr,I4⟩=>?_)
    subst hr
    exact wpAny_execs_nil ⟨σ3,H3,I4,qn⟩
  · refine wpAny_passesOwn hp (thn (T.item X rfl rfl rfl hc i pins s3 σ3 H3 X.xe I3 (stat fr3) st3 go) fun r s4 ⟨u,hr,h4⟩=>?_)
    subst hr
    refine wpAny_passesOwn hp (thn h4 fun _ s5 ⟨x,H5,I5,r5,y5,st5,fr5⟩=>?_)
    have I5':=I5.pinned (stat fr5) (T.obj _ _ st5)
    refine wpAny_passesOwn hp (thn (hg _ s5 σ3 H5 x u _ I5' r5 (step x H5 y5)) fun _ s6 ⟨σ6,H6,I6,q6⟩=>?_)
    refine wpAny_passesOwn hp (thn (hb _ s6 σ6 H6 _ I6 q6) fun f s7 q7=>?_)
    have again:∀ {σ7:St} {H7:Hp},Inv X (pins++pinsAt fp s5.heap) σ7 H7 s7→N σ7 H7→∃ m,m<n∧∃ i σ' H',Inv X pins σ' H' s7∧tn i s7.heap∧(∀ b ∈ fp,H' b=none)∧W i m σ' H':=fun {σ7 H7} I7 n7=>by
      obtain ⟨m',hm,w7⟩:=hN σ7 H7 n7
      refine ⟨m',hm,i+1,σ7,H7,I7.unpinned,T.keep _ _ _ st5 fun b hb o e=>(I7.pin (b,o) (List.mem_append_right _ (List.mem_append_right _ (mem_pinsAt hb e)))).1,fun b hb=>?_,w7⟩
      obtain ⟨o,e,d⟩:=T.obj _ _ st5 b hb
      exact (I7.pin (b,o) (List.mem_append_right _ (List.mem_append_right _ (mem_pinsAt hb e)))).2.1
    cases f with
    | next=>obtain ⟨σ7,H7,I7,n7⟩:=q7; exact again I7 n7
    | cont=>obtain ⟨σ7,H7,I7,n7⟩:=q7; exact again I7 n7
    | brk=>obtain ⟨σ7,H7,I7,q7⟩:=q7; exact ⟨σ7,H7,I7.unpinned,q7⟩
    | ret v=>obtain ⟨x7,σ7,H7,I7,r7,q7⟩:=q7; exact ⟨x7,σ7,H7,I7.unpinned,r7,q7⟩
end
theorem for_list {K:PySem.W.Frag} {a:Addr} {xs:List V} {g:TG} {tb:TS} {D:Ends} {σ:St} {H:Hp} (Pv:Nat→St→Hp→Prop) (h0:Pv 0 σ H) (hl:∀ i σ H,i≤xs.length→Pv i σ H→SqL K H a xs)
    (hs:∀ i x σ H,xs[i]?=some x→Pv i σ H→g x σ H fun σ2 H2=>tb { D with nx:=Pv (i+1),ct:=Pv (i+1),bk:=D.nx } σ2 H2) (hd:∀ σ H,Pv xs.length σ H→D.nx σ H) :
    ∃ W:Nat→Nat→St→Hp→Prop,(∃ m,W 0 m σ H)∧∀ i m σ H,W i m σ H →
      ((Itl K a).stop i H∧D.nx σ H)∨((Itl K a).go i H∧∃ N:St→Hp→Prop,(∀ σ' H',N σ' H'→∃ m',m'<m∧W (i+1) m' σ' H')∧∀ x H',(Itl K a).yld i H x H'→g x σ H' fun σ2 H2=>tb { D with nx:=N,ct:=N,bk:=D.nx } σ2 H2):=by
  refine ⟨fun i m σ H=>m=xs.length - i∧i≤xs.length∧Pv i σ H,⟨xs.length,by simp,Nat.zero_le _,h0⟩,?_⟩
  rintro i m σ H ⟨rfl,hi,p⟩
  have q:=hl i σ H hi p
  by_cases hlt:i<xs.length
  · refine .inr ⟨⟨xs,xs[i],q,by simp [hlt]⟩,Pv (i+1),fun σ' H' p'=>⟨xs.length - (i+1),by omega,rfl,hlt,p'⟩,fun x H' y=>?_⟩
    obtain ⟨e,y⟩:=y
    subst e
    exact hs i x σ _ (y xs q) p
  · have e:i=xs.length:=by omega
    subst e
    exact .inl ⟨⟨xs,q,Nat.le_refl _⟩,hd σ H p⟩
theorem for_tup {K:PySem.W.Frag} {a:Addr} {xs:List V} {g:TG} {tb:TS} {D:Ends} {σ:St} {H:Hp} (Pv:Nat→St→Hp→Prop) (h0:Pv 0 σ H) (hl:∀ i σ H,i≤xs.length→Pv i σ H→SqT K H a xs)
    (hs:∀ i x σ H,xs[i]?=some x→Pv i σ H→g x σ H fun σ2 H2=>tb { D with nx:=Pv (i+1),ct:=Pv (i+1),bk:=D.nx } σ2 H2) (hd:∀ σ H,Pv xs.length σ H→D.nx σ H) :
    ∃ W:Nat→Nat→St→Hp→Prop,(∃ m,W 0 m σ H)∧∀ i m σ H,W i m σ H →
      ((Itt K a).stop i H∧D.nx σ H)∨((Itt K a).go i H∧∃ N:St→Hp→Prop,(∀ σ' H',N σ' H'→∃ m',m'<m∧W (i+1) m' σ' H')∧∀ x H',(Itt K a).yld i H x H'→g x σ H' fun σ2 H2=>tb { D with nx:=N,ct:=N,bk:=D.nx } σ2 H2):=by
  refine ⟨fun i m σ H=>m=xs.length - i∧i≤xs.length∧Pv i σ H,⟨xs.length,by simp,Nat.zero_le _,h0⟩,?_⟩
  rintro i m σ H ⟨rfl,hi,p⟩
  have q:=hl i σ H hi p
  by_cases hlt:i<xs.length
  · refine .inr ⟨⟨xs,xs[i],q,by simp [hlt]⟩,Pv (i+1),fun σ' H' p'=>⟨xs.length - (i+1),by omega,rfl,hlt,p'⟩,fun x H' y=>?_⟩
    obtain ⟨e,y⟩:=y
    subst e
    exact hs i x σ _ (y xs q) p
  · have e:i=xs.length:=by omega
    subst e
    exact .inl ⟨⟨xs,q,Nat.le_refl _⟩,hd σ H p⟩
theorem for_range {lo:Int} {n:Nat} {g:TG} {tb:TS} {D:Ends} {σ:St} {H:Hp} (Pv:Nat→St→Hp→Prop) (h0:Pv 0 σ H)
    (hs:∀ i σ H,i<n→Pv i σ H→g (.int (lo+i)) σ H fun σ2 H2=>tb { D with nx:=Pv (i+1),ct:=Pv (i+1),bk:=D.nx } σ2 H2) (hd:∀ σ H,Pv n σ H→D.nx σ H) :
    ∃ W:Nat→Nat→St→Hp→Prop,(∃ m,W 0 m σ H)∧∀ i m σ H,W i m σ H →
      ((Itr lo n).stop i H∧D.nx σ H)∨((Itr lo n).go i H∧∃ N:St→Hp→Prop,(∀ σ' H',N σ' H'→∃ m',m'<m∧W (i+1) m' σ' H')∧∀ x H',(Itr lo n).yld i H x H'→g x σ H' fun σ2 H2=>tb { D with nx:=N,ct:=N,bk:=D.nx } σ2 H2):=by
  refine ⟨fun i m σ H=>m=n - i∧i≤n∧Pv i σ H,⟨n,by simp,Nat.zero_le _,h0⟩,?_⟩
  rintro i m σ H ⟨rfl,hi,p⟩
  by_cases hlt:i<n
  · refine .inr ⟨hlt,Pv (i+1),fun σ' H' p'=>⟨n - (i+1),by omega,rfl,hlt,p'⟩,fun x H' y=>?_⟩
    obtain ⟨e,y⟩:=y
    subst e y
    exact hs i σ _ hlt p
  · have e:i=n:=by omega
    subst e
    exact .inl ⟨Nat.le_refl _,hd σ H p⟩
theorem while_by {c:TT} {tb:TS} {D:Ends} {σ:St} {H:Hp} (Pv:St→Hp→Prop) (μ:St→Hp→Nat) (h0:Pv σ H)
    (hs:∀ σ H,Pv σ H→c σ H fun b H1=>if b=true then tb { D with nx:=fun σ' H'=>Pv σ' H'∧μ σ' H'<μ σ H,ct:=fun σ' H'=>Pv σ' H'∧μ σ' H'<μ σ H,bk:=D.nx } σ H1 else D.nx σ H1)
    (mono:∀ σ H Q Q',(∀ b H1,Q b H1→Q' b H1)→c σ H Q→c σ H Q'):tWhile c tb D σ H:=by
  refine ⟨fun m σ H=>m=μ σ H∧Pv σ H,⟨_,rfl,h0⟩,?_⟩
  rintro m σ H ⟨rfl,p⟩
  refine mono σ H _ _ (fun b H1 q=>?_) (hs σ H p)
  cases b with
  | true=>exact ⟨_,fun σ' H' ⟨p',l⟩=>⟨_,l,rfl,p'⟩,q⟩
  | false=>exact q
end L2
namespace L2
open PySem PySem.Spec PyProof.Rows
abbrev R2:=V→V→Hp→VK→Prop
def OpR (X:Cx) (f:Value→Value→Sem Value) (r:R2):Prop :=
  ∀ (pins:List (Addr×Obj)) (s:Shared) (σ:St) (H:Hp) (x y:V) (v u:Value) (Q:VK),Inv X pins σ H s→RelV x v→RelV y u→r x y H Q →
    wpAny (model X.prog X.w) X.A (f v u) (EP X pins σ Q) X.xe s
def UnR (X:Cx) (f:Value→Sem Value) (r:V→Hp→VK→Prop):Prop :=
  ∀ (pins:List (Addr×Obj)) (s:Shared) (σ:St) (H:Hp) (x:V) (v:Value) (Q:VK),Inv X pins σ H s→RelV x v→r x H Q →
    wpAny (model X.prog X.w) X.A (f v) (EP X pins σ Q) X.xe s
def CallR (X:Cx) (f:Value) (r:List V→Hp→VK→Prop):Prop :=
  ∀ (pins:List (Addr×Obj)) (s:Shared) (σ:St) (H:Hp) (xs:List V) (us:List Value) (Q:VK),Inv X pins σ H s→Vals xs us→r xs H Q →
    wpAny (model X.prog X.w) X.A (call f us) (EP X pins σ Q) X.xe s
def tOp (r:R2) (ta tb:TE):TE:=fun σ H Q=>ta σ H fun x H1=>tb σ H1 fun y H2=>r x y H2 Q
def tUn (r:V→Hp→VK→Prop) (ta:TE):TE:=fun σ H Q=>ta σ H fun x H1=>r x H1 Q
def rI0 (g:Int→Int→V):R2:=fun x y H Q=>∃ i j,x=.int i∧y=.int j∧Q (g i j) H
def rU (g:Int→V):V→Hp→VK→Prop:=fun x H Q=>∃ i,x=.int i∧Q (g i) H
section
variable {X:Cx} {a b c:Expr} {ta tb tc:TE} {pos:Pos}
theorem binT (ha:PE X a ta) (hb:PE X b tb) {pins:List (Addr×Obj)} {s:Shared} {σ:St} {H:Hp} {R:V→V→Hp→Prop} (I:Inv X pins σ H s)
    (h:ta σ H fun x H1=>tb σ H1 fun y H2=>R x y H2) {Q:Value→Shared→Prop} {f:Value→Value→Sem Value}
    (hf:∀ v u s2 x y H2,Inv X pins σ H2 s2→RelV x v→RelV y u→R x y H2→wpAny (model X.prog X.w) X.A (f v u) Q X.xe s2) :
    wpAny (model X.prog X.w) X.A (eval a X.env) (fun v s₁=>wpAny (model X.prog X.w) X.A (eval b X.env) (fun u s₂=>wpAny (model X.prog X.w) X.A (f v u) Q X.xe s₂) X.xe s₁) X.xe s:=by
  refine thn (ha pins s σ H _ I h) fun v s1 ⟨x,H1,I1,r1,q1⟩=>?_
  refine thn (hb pins s1 σ H1 _ I1 q1) fun u s2 ⟨y,H2,I2,r2,q2⟩=>?_
  exact hf v u s2 x y H2 I2 r1 r2 q2
theorem pe_op {op:Operator} {r:R2} (ho:OpR X (binaryOp op) r) (ha:PE X a ta) (hb:PE X b tb):PE X (.BinOp a op b pos) (tOp r ta tb):=by
  intro pins s σ H Q I h
  exact wpAny_BinOp (binT ha hb I h fun v u s2 x y H2 I2 rx ry q=>ho pins s2 σ H2 x y v u Q I2 rx ry q)
theorem pe_un {op:UnaryOp} {r:V→Hp→VK→Prop} (ho:UnR X (unaryOp op) r) (ha:PE X a ta):PE X (.UnaryOp op a pos) (tUn r ta):=by
  intro pins s σ H Q I h
  exact UnaryOp_ (thn (ha pins s σ H _ I h) fun v s1 ⟨x,H1,I1,r1,q1⟩=>ho pins s1 σ H1 x v Q I1 r1 q1)
theorem opI0 {f:Value→Value→Sem Value} {g:Int→Int→Int}
    (rule:∀ (i j:Int) (t u:Tok) (s:Shared) (Q:Value→Shared→Prop) (E:Value→Shared→Prop),Q (.int (g i j) s.toks) { s with toks:=s.toks+1 }→wpAny (model X.prog X.w) X.A (f (.int i t) (.int j u)) Q E s) :
    OpR X f (rI0 fun i j=>.int (g i j)):=by
  intro pins s σ H x y v u Q I rx ry h
  obtain ⟨i,j,rfl,rfl,q⟩:=h
  obtain ⟨t,rfl⟩:=rx
  obtain ⟨t',rfl⟩:=ry
  exact rule i j t t' s _ _ ⟨.int (g i j),H,I.tok _,⟨_,rfl⟩,q⟩
theorem opB0 {f:Value→Value→Sem Value} {g:Int→Int→Bool}
    (rule:∀ (i j:Int) (t u:Tok) (s:Shared) (Q:Value→Shared→Prop) (E:Value→Shared→Prop),Q (.bool (g i j)) s→wpAny (model X.prog X.w) X.A (f (.int i t) (.int j u)) Q E s) :
    OpR X f (rI0 fun i j=>.bl (g i j)):=by
  intro pins s σ H x y v u Q I rx ry h
  obtain ⟨i,j,rfl,rfl,q⟩:=h
  obtain ⟨t,rfl⟩:=rx
  obtain ⟨t',rfl⟩:=ry
  exact rule i j t t' s _ _ ⟨.bl (g i j),H,I,rfl,q⟩
theorem op_add:OpR X (binaryOp .Add) (rI0 fun i j=>.int (i+j)):=opI0 fun _ _ _ _ _ _ _ q=>add_int q
theorem op_sub:OpR X (binaryOp .Sub) (rI0 fun i j=>.int (i - j)):=opI0 fun _ _ _ _ _ _ _ q=>sub_int q
theorem unI {f:Value→Sem Value} {g:Int→Int}
    (rule:∀ (i:Int) (t:Tok) (s:Shared) (Q:Value→Shared→Prop) (E:Value→Shared→Prop),Q (.int (g i) s.toks) { s with toks:=s.toks+1 }→wpAny (model X.prog X.w) X.A (f (.int i t)) Q E s) :
    UnR X f (rU fun i=>.int (g i)):=by
  intro pins s σ H x v Q I rx h
  obtain ⟨i,rfl,q⟩:=h
  obtain ⟨t,rfl⟩:=rx
  exact rule i t s _ _ ⟨.int (g i),H,I.tok _,⟨_,rfl⟩,q⟩
theorem un_neg:UnR X (unaryOp .USub) (rU fun i=>.int (-i)):=unI fun _ _ _ _ _ q=>neg_int q
end
def scal:V→V→Bool
  | .non,.non=>true | .non,.int _=>true | .int _,.non=>true | .non,.bl _=>true | .bl _,.non=>true | .non,.str _=>true | .str _,.non=>true
  | .int _,.int _=>true | .bl _,.bl _=>true | .str _,.str _=>true | .byt _,.byt _=>true
  | .int _,.str _=>true | .str _,.int _=>true | .bl _,.str _=>true | .str _,.bl _=>true
  | _,_=>false
def rEq:R2:=fun x y H Q=>scal x y=true∧Q (.bl (decide (x=y))) H
def rNe:R2:=fun x y H Q=>scal x y=true∧Q (.bl (!decide (x=y))) H
theorem dec_int {i j:Int}:decide (V.int i=V.int j)=(i == j):=by
  rw [Bool.eq_iff_iff]
  simp
theorem dec_bl {i j:Bool}:decide (V.bl i=V.bl j)=(i == j):=by
  rw [Bool.eq_iff_iff]
  simp
theorem dec_str {i j:Str}:decide (V.str i=V.str j)=(i == j):=by
  rw [Bool.eq_iff_iff]
  simp
theorem dec_byt {i j:Array UInt8}:decide (V.byt i=V.byt j)=(i.toList == j.toList):=by
  rw [Bool.eq_iff_iff]
  cases i
  cases j
  simp
section
variable {X:Cx} {a b c:Expr} {ta tb tc:TE} {pos:Pos}
theorem fin_bl {pins:List (Addr×Obj)} {σ:St} {H:Hp} {s:Shared} {Q:VK} {k k':Bool} (I:Inv X pins σ H s) (q:Q (.bl k) H) (e:k=k'):EP X pins σ Q (.bool k') s:=by
  subst e
  exact ⟨.bl k,H,I,rfl,q⟩
theorem op_eq:OpR X (compareOp .Eq) rEq:=by
  intro pins s σ H x y v u Q I rx ry h
  obtain ⟨hs,q⟩:=h
  cases x with
  | non =>
    cases rx
    cases y with
    | non=>cases ry; exact PySem.EqNone.eq_none_none (fin_bl I q (by simp))
    | bl j=>cases ry; exact PySem.EqNone.eq_none_bool (fin_bl I q (by simp))
    | int j=>obtain ⟨t',rfl⟩:=ry; exact PySem.EqNone.eq_none_int (fin_bl I q (by simp))
    | str j=>obtain ⟨t',rfl⟩:=ry; exact PySem.EqNone.eq_none_str (fin_bl I q (by simp))
    | _=>exact absurd (show false=true from hs) Bool.false_ne_true
  | bl i =>
    cases rx
    cases y with
    | non=>cases ry; exact PySem.EqNone.eq_bool_none (fin_bl I q (by simp))
    | bl j=>cases ry; exact eq_bool (fin_bl I q dec_bl)
    | str j=>obtain ⟨t',rfl⟩:=ry; exact PySem.EqMixed.eq_bool_str (fin_bl I q (by simp))
    | _=>exact absurd (show false=true from hs) Bool.false_ne_true
  | int i =>
    obtain ⟨t,rfl⟩:=rx
    cases y with
    | non=>cases ry; exact PySem.EqNone.eq_int_none (fin_bl I q (by simp))
    | int j=>obtain ⟨t',rfl⟩:=ry; exact eq_int (fin_bl I q dec_int)
    | str j=>obtain ⟨t',rfl⟩:=ry; exact PySem.EqMixed.eq_int_str (fin_bl I q (by simp))
    | _=>exact absurd (show false=true from hs) Bool.false_ne_true
  | str i =>
    obtain ⟨t,rfl⟩:=rx
    cases y with
    | non=>cases ry; exact PySem.EqNone.eq_str_none (fin_bl I q (by simp))
    | bl j=>cases ry; exact PySem.EqMixed.eq_str_bool (fin_bl I q (by simp))
    | int j=>obtain ⟨t',rfl⟩:=ry; exact PySem.EqMixed.eq_str_int (fin_bl I q (by simp))
    | str j=>obtain ⟨t',rfl⟩:=ry; exact eq_str (fin_bl I q dec_str)
    | _=>exact absurd (show false=true from hs) Bool.false_ne_true
  | byt i =>
    obtain ⟨t,rfl⟩:=rx
    cases y with
    | byt j=>obtain ⟨t',rfl⟩:=ry; exact PySem.W.eq_bytes (fin_bl I q dec_byt)
    | _=>exact absurd (show false=true from hs) Bool.false_ne_true
  | _=>cases y <;> exact absurd (show false=true from hs) Bool.false_ne_true
theorem op_ne:OpR X (compareOp .NotEq) rNe:=by
  intro pins s σ H x y v u Q I rx ry h
  obtain ⟨hs,q⟩:=h
  cases x with
  | non =>
    cases rx
    cases y with
    | non=>cases ry; exact PySem.EqNone.ne_none_none (fin_bl I q (by simp))
    | bl j=>cases ry; exact PySem.EqNone.ne_none_bool (fin_bl I q (by simp))
    | int j=>obtain ⟨t',rfl⟩:=ry; exact PySem.EqNone.ne_none_int (fin_bl I q (by simp))
    | str j=>obtain ⟨t',rfl⟩:=ry; exact PySem.EqNone.ne_none_str (fin_bl I q (by simp))
    | _=>exact absurd (show false=true from hs) Bool.false_ne_true
  | bl i =>
    cases rx
    cases y with
    | non=>cases ry; exact PySem.EqNone.ne_bool_none (fin_bl I q (by simp))
    | bl j=>cases ry; exact ne_bool (fin_bl I q (congrArg not dec_bl))
    | str j=>obtain ⟨t',rfl⟩:=ry; exact PySem.EqMixed.ne_bool_str (fin_bl I q (by simp))
    | _=>exact absurd (show false=true from hs) Bool.false_ne_true
  | int i =>
    obtain ⟨t,rfl⟩:=rx
    cases y with
    | non=>cases ry; exact PySem.EqNone.ne_int_none (fin_bl I q (by simp))
    | int j=>obtain ⟨t',rfl⟩:=ry; exact ne_int (fin_bl I q (congrArg not dec_int))
    | str j=>obtain ⟨t',rfl⟩:=ry; exact PySem.EqMixed.ne_int_str (fin_bl I q (by simp))
    | _=>exact absurd (show false=true from hs) Bool.false_ne_true
  | str i =>
    obtain ⟨t,rfl⟩:=rx
    cases y with
    | non=>cases ry; exact PySem.EqNone.ne_str_none (fin_bl I q (by simp))
    | bl j=>cases ry; exact PySem.EqMixed.ne_str_bool (fin_bl I q (by simp))
    | int j=>obtain ⟨t',rfl⟩:=ry; exact PySem.EqMixed.ne_str_int (fin_bl I q (by simp))
    | str j=>obtain ⟨t',rfl⟩:=ry; exact ne_str (fin_bl I q (congrArg not dec_str))
    | _=>exact absurd (show false=true from hs) Bool.false_ne_true
  | byt i =>
    obtain ⟨t,rfl⟩:=rx
    cases y with
    | byt j=>obtain ⟨t',rfl⟩:=ry; exact PySem.W.ne_bytes (fin_bl I q (congrArg not dec_byt))
    | _=>exact absurd (show false=true from hs) Bool.false_ne_true
  | _=>cases y <;> exact absurd (show false=true from hs) Bool.false_ne_true
theorem op_lt:OpR X (compareOp .Lt) (rI0 fun i j=>.bl (decide (i<j))):=opB0 fun _ _ _ _ _ _ _ q=>lt_int q
theorem op_gt:OpR X (compareOp .Gt) (rI0 fun i j=>.bl (decide (j<i))):=opB0 fun _ _ _ _ _ _ _ q=>gt_int q
theorem nomark (b:Expr) {op:CmpOp} (h:op≠.In:=by decide) (h2:op≠.NotIn:=by decide):behindInMarks op b=false:=by
  have e1:(op == CmpOp.In)=false:=by cases op <;> first | rfl | exact absurd rfl h
  have e2:(op == CmpOp.NotIn)=false:=by cases op <;> first | rfl | exact absurd rfl h2
  cases b <;> simp [behindInMarks,e1,e2]
theorem pe_cmpR {op:CmpOp} {r:R2} (ho:OpR X (compareOp op) r) (ha:PE X a ta) (hb:PE X b tb) (hm:behindInMarks op b=false):PE X (.Compare a [op] [b] pos) (tOp r ta tb):=by
  intro pins s σ H Q I h
  exact wpAny_Compare1 (binT ha hb I h fun v u s2 x y H2 I2 rx ry q=>ho pins s2 σ H2 x y v u Q I2 rx ry q) hm
def tTest (t:TE):TT:=fun σ H Q=>t σ H fun x H'=>∃ k,x=.bl k∧Q k H'
theorem pt_cmpR {op:CmpOp} {r:R2} (ho:OpR X (compareOp op) r) (ha:PE X a ta) (hb:PE X b tb) (hm:behindInMarks op b=false):PT X (.Compare a [op] [b] pos) (tTest (tOp r ta tb)):=by
  intro pins s σ H Q I h
  refine wpAny_isTrue_Compare1 (thn (ha pins s σ H _ I h) fun v s1 ⟨x,H1,I1,r1,q1⟩=>thn (hb pins s1 σ H1 _ I1 q1) fun u s2 ⟨y,H2,I2,r2,q2⟩ =>
    thn (ho pins s2 σ H2 x y v u _ I2 r1 r2 q2) fun c s3 ⟨z,H3,I3,r3,k,e,q3⟩=>?_) hm
  subst e
  cases r3
  exact wpAny_truthy_bool ⟨H3,I3,q3⟩
theorem line63:(sizeLine:Nat)<2 ^ 63:=by rw [sizeLine_eq]; decide
theorem vals1 {x:V} {us:List Value} (r:Vals [x] us):∃ u,us=[u]∧RelV x u:=by
  cases r with
  | cons r1 r2=>cases r2; exact ⟨_,rfl,r1⟩
theorem vals2 {x y:V} {us:List Value} (r:Vals [x,y] us):∃ u w',us=[u,w']∧RelV x u∧RelV y w':=by
  cases r with
  | cons r1 r2 =>
    cases r2 with
    | cons r3 r4=>cases r4; exact ⟨_,_,rfl,r1,r3⟩
theorem call_max2 (hc:X.calm=true):CallR X (.builtin "max") (fun xs H Q=>∃ i j,xs=[.int i,.int j]∧Q (.int (if j > i then j else i)) H):=by
  intro pins s σ H xs us Q I r h
  obtain ⟨i,j,rfl,q⟩:=h
  obtain ⟨u,w',rfl,⟨t,rfl⟩,⟨t',rfl⟩⟩:=vals2 r
  refine max_two_ints (I.ok.hd hc) fun h' tk k=>⟨_,H,I.kept k,?_,q⟩
  by_cases hj:j > i
  · rw [if_pos hj,if_pos hj]; exact ⟨_,rfl⟩
  · rw [if_neg hj,if_neg hj]; exact ⟨_,rfl⟩
end
end L2
namespace L2
open PySem PySem.Spec PyProof.Rows
structure ObjM (h:Heap) (x dx C:Addr) (mA:Str→Option Value):Prop where
  obj:h.get? x=some (PySem.W.instObj C dx)
  ns:h.Ns1 dx mA
  ne:dx≠x
theorem lookIn_ns {h:Heap} {dx:Addr} {mA:Str→Option Value} (n:h.Ns1 dx mA):∃ od,h.get? dx=some od∧∀ name,PySem.W.lookIn name od=some (mA name):=by
  obtain ⟨o,es,ep,ho,hd,hk,_,hm⟩:=n
  refine ⟨o,ho,fun name=>?_⟩
  have e:=hm name
  unfold nsFind findBy at e
  rw [← Array.find?_toList] at e
  unfold PySem.W.lookIn
  rw [hd]
  dsimp only
  split
  · rename_i y q
    rw [q] at e
    exact congrArg some e
  · rename_i q
    rw [q] at e
    have a:es.toList.any (·.refKey)=false:=by
      rw [List.any_eq_false]
      intro y hy
      obtain ⟨z,t,hkey⟩:=hk y (Array.mem_toList_iff.mp hy)
      simp [DictEntry.refKey,hkey]
    have a':¬ es.toList.any (·.refKey)=true:=by rw [a]; exact Bool.false_ne_true
    rw [if_neg a']
    exact congrArg some e
theorem ObjM.look {h:Heap} {x dx C:Addr} {mA:Str→Option Value} (I:ObjM h x dx C mA):∃ od,PySem.W.InstAt h x (PySem.W.instObj C dx) C (some od)∧∀ name,PySem.W.lookIn name od=some (mA name) :=
  let ⟨od,ho,hl⟩:=lookIn_ns I.ns
  ⟨od,⟨I.obj,rfl,rfl,ho⟩,hl⟩
section
variable {prog:Program} {w:World} {A:Around} {E:Value→Shared→Prop} {s:Shared} {K:PySem.W.Frag} {x dx C f:Addr} {mA:Str→Option Value} {name:Str} {v:Value}
theorem get_map {expr:Bool} {Q:Value→Shared→Prop} (X:K.In s.heap) (I:ObjM s.heap x dx C mA) (hg:PySem.W.plainGet K C name=true) (hh:PySem.W.hasDictIn K C=true)
    (ha:PySem.W.findIn K (.ref C) name=some none) (hv:mA name=some v) (hv':PySem.W.handedIn v=true) (h:Q v { s with toks:=s.toks+1 }) :
    wpAny (model prog w) A (getAttr (.ref x) name expr) Q E s:=by
  obtain ⟨od,J,hl⟩:=I.look
  exact PySem.W.get_value X J (PySem.W.plainGet_of hg).1 (PySem.W.findObj_own hh ha rfl (by rw [hl,hv])) hv' h
theorem get_meth {pl:Sem Bool} {Q:Value×List Value→Shared→Prop} (X:K.In s.heap) (I:ObjM s.heap x dx C mA) (hg:PySem.W.plainGet K C name=true)
    (hf:PySem.W.findIn K (.ref C) name=some (some (.ref f))) (ht:PySem.W.isFn K (.ref f)=true) (hv:mA name=none) (h:Q (.ref f,[.ref x]) s) :
    wpAny (model prog w) A (getMethod (.ref x) name pl) Q E s:=by
  obtain ⟨od,J,hl⟩:=I.look
  exact PySem.W.method_fn X J (PySem.W.plainGet_of hg).1 (PySem.W.plainGet_of hg).2 hf (beq_iff_eq.mp ht) (by show (PySem.W.lookIn name od).map (·.isSome)=some false; rw [hl,hv]; rfl) h
theorem set_map {ns:List Str} {Q:Unit→Shared→Prop} (X:K.In s.heap) (I:ObjM s.heap x dx C mA)
    (hs:PySem.W.findIn K (.ref C) "__setattr__"=some (some (.builtin "object.__setattr__"))) (hp:PySem.W.plainOver K C=true) (ht:PySem.W.takerIn K C name=some none) (hh:PySem.W.hasDictIn K C=true)
    (hw:PySem.Within mA ns) (hsz:ns.length≤sizeLine)
    (h:∀ h',ObjM h' x dx C (fun y=>if y=name then some v else mA y)→Heap.SameBut dx s.heap h'→Q () { s with heap:=h',toks:=s.toks+2 }) :
    wpAny (model prog w) A (setAttr (.ref x) name v) Q E s:=by
  obtain ⟨od,J,hl⟩:=I.look
  refine PySem.W.set_plain X J hs (PySem.W.osa_open (s:={ s with toks:=s.toks+1 }) (r:=none) X J hp ht fun b=>?_)
  obtain ⟨cd,hc,hd'⟩:=PySem.W.any_some hh
  have hx:s.heap.get? x=some ⟨.ref C,some dx,.plain,#[]⟩:=I.obj
  refine wpAny_bind (wpAny_pure (wpAny_bind (wpAny_bind (wpAny_loadPart hx (wpAny_bind (PySem.W.Looks.here (s:={ s with toks:=s.toks+1 }) (PySem.W.looks_clsIn X hc) ?_))))))
  rw [hd']
  refine wpAny_pure (a:=some dx) (wpAny_bind (wpAny_pure (wpAny_bind ?_)))
  refine wpAny_nsSet1 (s:={ s with toks:=s.toks+1 }) I.ns fun h' hn2 hs2=>?_
  obtain ⟨oD,esD,epD,hoD,hdD,hcD⟩:=hn2.count (PySem.Within.cons name v hw)
  refine wpAny_bind (wpAny_lookBehind hoD (by rw [hdD]; exact pastItsLine_dict (Nat.le_trans hcD (by rw [List.length_cons]; omega))) ?_)
  exact wpAny_pure (h _ ⟨(hs2.2 _ (Ne.symm I.ne)).trans I.obj,hn2,I.ne⟩ hs2)
theorem make_map {R:Result→Shared→Prop} {vs:List Value} {kw:List (Str×Value)} (X:K.In s.heap) (hm:PySem.W.makesIn K C=true)
    (hi:PySem.W.findIn K (.ref C) "__init__"=some (some (.ref f))) (hf:PySem.W.typeIn K (.ref f)=some (.type "function"))
    (h:codeAny (model prog w) (A.under (.builtin "type.__call__" ⟨.ref C::vs,kw⟩)) (.call (.ref f) ⟨.ref (s.heap.objs.size+1)::vs,kw⟩) (PySem.W.InitBack (s.heap.objs.size+1) R)
      { s with heap:=(s.heap.push PySem.W.emptyDict).push (PySem.W.instObj C s.heap.objs.size) }) :
    codeAny (model prog w) A (.call (.ref C) ⟨vs,kw⟩) R s:=by
  obtain ⟨hh,g,d,t,os⟩:=s
  exact PySem.W.make_core (PySem.W.makes_of X hm) (PySem.W.looks_findIn X hi) (fun self=>PySem.W.bind_fn X self hf) (.inl rfl) h
end
def putF (f:Str) (v:V):List (Str×V)→List (Str×V)
  | []=>[(f,v)]
  | (g,x)::r=>if g=f then (g,v)::r else (g,x)::putF f v r
theorem lookup_putF (f g:Str) (v:V):∀ fs:List (Str×V),(putF f v fs).lookup g=if g=f then some v else fs.lookup g
  | []=>by
    show List.lookup g [(f,v)]=_
    by_cases h:g=f
    · have hb:(g == f)=true:=beq_iff_eq.mpr h
      simp only [List.lookup,hb,if_pos h]
    · have hb:(g == f)=false:=beq_eq_false_iff_ne.mpr h
      simp only [List.lookup,hb,if_neg h]
  | (k,x)::r=>by
    have ih:=lookup_putF f g v r
    rw [show putF f v ((k,x)::r)=(if k=f then (k,v)::r else (k,x)::putF f v r) from rfl]
    by_cases hk:k=f
    · rw [if_pos hk]
      by_cases h:g=k
      · have hb:(g == k)=true:=beq_iff_eq.mpr h
        simp only [List.lookup,hb,if_pos (h.trans hk)]
      · have hb:(g == k)=false:=beq_eq_false_iff_ne.mpr h
        simp only [List.lookup,hb,if_neg (fun e:g=f=>h (e.trans hk.symm))]
    · rw [if_neg hk]
      by_cases h:g=k
      · have hb:(g == k)=true:=beq_iff_eq.mpr h
        simp only [List.lookup,hb,if_neg (fun e:g=f=>hk (h.symm.trans e))]
      · have hb:(g == k)=false:=beq_eq_false_iff_ne.mpr h
        simp only [List.lookup,hb]
        exact ih
theorem keys_putF (f:Str) (v:V):∀ fs:List (Str×V),f ∈ (putF f v fs).map (·.1)∧∀ g,g ∈ fs.map (·.1)→g ∈ (putF f v fs).map (·.1)
  | []=>⟨by simp [putF],fun g h=>by simp at h⟩
  | (k,x)::r=>by
    obtain ⟨i1,i2⟩:=keys_putF f v r
    rw [show putF f v ((k,x)::r)=(if k=f then (k,v)::r else (k,x)::putF f v r) from rfl]
    by_cases hk:k=f
    · rw [if_pos hk]
      subst hk
      exact ⟨by simp,fun g h=>by simpa using h⟩
    · rw [if_neg hk]
      refine ⟨?_,fun g h=>?_⟩
      · rw [List.map_cons]
        exact List.mem_cons_of_mem _ i1
      · rw [List.map_cons] at h ⊢
        rcases List.mem_cons.mp h with e | e
        · exact List.mem_cons.mpr (.inl e)
        · exact List.mem_cons_of_mem _ (i2 g e)
theorem length_putF (f:Str) (v:V):∀ fs:List (Str×V),(putF f v fs).length≤fs.length+1
  | []=>by simp [putF]
  | (k,x)::r=>by
    have ih:=length_putF f v r
    rw [show putF f v ((k,x)::r)=(if k=f then (k,v)::r else (k,x)::putF f v r) from rfl]
    by_cases hk:k=f
    · rw [if_pos hk,List.length_cons,List.length_cons]; omega
    · rw [if_neg hk,List.length_cons,List.length_cons]; omega
theorem RelO.some_of {v:V} {o:Option Value} (r:RelO (some v) o):∃ u,o=some u∧RelV v u:=by
  cases o with
  | none=>exact (show False from r).elim
  | some u=>exact ⟨u,rfl,r⟩
theorem RelO.none_of {o:Option Value} (r:RelO none o):o=none:=by
  cases o with
  | none=>rfl
  | some u=>exact (show False from r).elim
theorem handed_of {v:V} {u:Value} (r:RelV v u):PySem.W.handedIn u=true:=by
  cases v with
  | non=>cases (show u=Value.none from r); rfl
  | bl b=>cases (show u=Value.bool b from r); rfl
  | int i=>obtain ⟨t,e⟩:=(show ∃ t,u=Value.int i t from r); cases e; rfl
  | str x=>obtain ⟨t,e⟩:=(show ∃ t,u=Value.str x t from r); cases e; rfl
  | byt b=>obtain ⟨t,e⟩:=(show ∃ t,u=Value.bytes b t from r); cases e; rfl
  | flt b=>obtain ⟨t,e⟩:=(show ∃ t,u=Value.float b t from r); cases e; rfl
  | ref a=>cases (show u=Value.ref a from r); rfl
  | ty n=>cases (show u=Value.type n from r); rfl
section
variable {P:Program} {w:World} {H H':Hp} {h h':Heap} {a C dx:Addr} {fs fs':List (Str×V)}
theorem ins_get (hok:HOk P w H h) (e:H a=some (.ins C dx fs)):∃ mA,ObjM h a dx C mA∧(∀ f,RelO (fs.lookup f) (mA f))∧PySem.Within mA (fs.map (·.1))∧fs.length≤1000∧H dx=some (.own a):=by
  obtain ⟨d,z,ne,ob,mA,n,r,q⟩:=(show ObjOk P w H h a (.ins C dx fs) from hok a _ e)
  exact ⟨mA,⟨ob,n,ne⟩,r,q,z,d⟩
end
structure Cls (K:PySem.W.Frag) (C:Addr):Prop where
  pg:PySem.W.plainGet K C Str.empty=true
  hd:PySem.W.hasDictIn K C=true
  po:PySem.W.plainOver K C=true
  sa:PySem.W.findIn K (.ref C) "__setattr__"=some (some (.builtin "object.__setattr__"))
theorem Cls.get {K:PySem.W.Frag} {C:Addr} (c:Cls K C) (f:Str):PySem.W.plainGet K C f=true:=c.pg
def NoAttr (K:PySem.W.Frag) (C:Addr) (f:Str):Prop:=PySem.W.findIn K (.ref C) f=some none
theorem NoAttr.taker {K:PySem.W.Frag} {C:Addr} {f:Str} (n:NoAttr K C f):PySem.W.takerIn K C f=some none:=by
  unfold PySem.W.takerIn
  rw [show PySem.W.findIn K (.ref C) f=some none from n]
  rfl
structure Meth (K:PySem.W.Frag) (C:Addr) (m:Str) (f:Addr):Prop where
  at_:PySem.W.findIn K (.ref C) m=some (some (.ref f))
  fn:PySem.W.isFn K (.ref f)=true
  kp:PySem.W.keepIn K (.ref f)=true
section
variable {X:Cx} {pins:List (Addr×Obj)} {σ:St} {H:Hp} {s:Shared} {a C dx:Addr} {fs:List (Str×V)} {f:Str} {v:V} {A:Around} {E:Value→Shared→Prop}
theorem getattr_ok {b:Bool} {Q:Value→Shared→Prop} (I:Inv X pins σ H s) (e:H a=some (.ins C dx fs)) (c:Cls X.K C) (n:NoAttr X.K C f) (l:fs.lookup f=some v)
    (h:∀ u s',Inv X pins σ H s'→RelV v u→Q u s'):wpAny (model X.prog X.w) A (getAttr (.ref a) f b) Q E s:=by
  obtain ⟨mA,O,r,_,_,_⟩:=ins_get I.hok e
  obtain ⟨u,hu,ru⟩:=RelO.some_of (v:=v) (o:=mA f) (by rw [← l]; exact r f)
  exact get_map I.kIn O (c.get f) c.hd n hu (handed_of ru) (h u _ (I.tok _) ru)
theorem getmeth_ok {m:Str} {g:Addr} {pl:Sem Bool} {Q:Value×List Value→Shared→Prop} (I:Inv X pins σ H s) (e:H a=some (.ins C dx fs)) (c:Cls X.K C) (k:Meth X.K C m g) (l:fs.lookup m=none)
    (h:Q (.ref g,[.ref a]) s):wpAny (model X.prog X.w) A (getMethod (.ref a) m pl) Q E s:=by
  obtain ⟨mA,O,r,_,_,_⟩:=ins_get I.hok e
  have hn:mA m=none:=RelO.none_of (by rw [← l]; exact r m)
  exact get_meth I.kIn O (c.get m) k.at_ k.fn hn h
theorem setattr_ok {y:V} {u:Value} {Q:Unit→Shared→Prop} (I:Inv X pins σ H s) (e:H a=some (.ins C dx fs)) (c:Cls X.K C) (n:NoAttr X.K C f) (hl:fs.length<1000) (ry:RelV y u)
    (h:∀ s',Inv X pins σ (upd H a (.ins C dx (putF f y fs))) s'→Q () s'):wpAny (model X.prog X.w) A (setAttr (.ref a) f u) Q E s:=by
  obtain ⟨mA,O,r,wi,_,ho⟩:=ins_get I.hok e
  have hz:(fs.map (·.1)).length≤sizeLine:=by rw [List.length_map,sizeLine_eq]; omega
  refine set_map I.kIn O c.sa c.po n.taker c.hd wi hz fun h' O' sb=>h _ ?_
  have hd:∃ o,h'.get? dx=some o:=let ⟨o,_,_,e',_⟩:=O'.ns; ⟨o,e'⟩
  refine I.write (x:=a) (e:=dx) (by rw [e]; exact True.intro) (.inr ho) (fun b q hb z=>(sb.2 b hb).trans z) hd ?_
  refine ⟨by rw [upd_ne O.ne]; exact ho,?_,O.ne,O'.obj,_,O'.ns,fun g=>?_,fun g hg=>?_⟩
  · have:=length_putF f y fs; omega
  · show RelO ((putF f y fs).lookup g) (if g=f then some u else mA g)
    rw [lookup_putF]
    by_cases q:g=f
    · rw [if_pos q,if_pos q]; exact ry
    · rw [if_neg q,if_neg q]; exact r g
  · by_cases q:g=f
    · rw [q]; exact (keys_putF f y fs).1
    · refine (keys_putF f y fs).2 g (wi g fun z=>hg ?_)
      show (if g=f then some u else mA g)=none
      rw [if_neg q]; exact z
theorem Inv.made (I:Inv X pins σ H s):Inv X pins σ (upd (upd H s.heap.objs.size (.own (s.heap.objs.size+1))) (s.heap.objs.size+1) (.ins C s.heap.objs.size []))
    { s with heap:=(s.heap.push PySem.W.emptyDict).push (PySem.W.instObj C s.heap.objs.size) }:=by
  have e1:(s.heap.push PySem.W.emptyDict).get? s.heap.objs.size=some PySem.W.emptyDict:=Heap.get?_push_size s.heap rfl
  have e2:((s.heap.push PySem.W.emptyDict).push (PySem.W.instObj C s.heap.objs.size)).get? (s.heap.objs.size+1)=some (PySem.W.instObj C s.heap.objs.size):=by
    have:=Heap.get?_push_size (s.heap.push PySem.W.emptyDict) (o:=PySem.W.instObj C s.heap.objs.size) rfl
    rwa [Heap.size_push] at this
  have e3:(s.heap.push PySem.W.emptyDict).Ns s.heap.objs.size (fun _=>none):=⟨PySem.W.emptyDict,#[],_,e1,rfl,(fun e he=>absurd he (by simp)),fun _=>rfl⟩
  have I1:=I.laid (a:=s.heap.objs.size) (o:=.own (s.heap.objs.size+1)) (h':=s.heap.push PySem.W.emptyDict) (t':=s.toks) (fun b u q=>Heap.get?_push_of_some _ q) (Nat.le_refl _) ⟨_,e1⟩
  refine I1.laid (a:=s.heap.objs.size+1) (o:=.ins C s.heap.objs.size []) (t':=s.toks) (fun b u q=>Heap.get?_push_of_some _ q) (Nat.le_of_eq (Heap.size_push _ _)) ?_
  have ne:s.heap.objs.size≠s.heap.objs.size+1:=Nat.ne_of_lt (Nat.lt_succ_self _)
  refine ⟨by rw [upd_ne ne,upd_same],Nat.zero_le _,ne,e2,fun _=>none,(Heap.Ns1.of_empty e3).at fun o q=>Heap.get?_push_of_some _ q,fun _=>True.intro,fun y hy=>absurd rfl hy⟩
theorem attr_of {prog:Program} {w:World} {env:Env} {e:Expr} {f:Str} {pos:Pos} {s:Shared} {Q:Value→Shared→Prop} (hb:attributeBase e f env (eval e env)=eval e env)
    (h:wpAny (model prog w) A (eval e env) (fun o s₁=>wpAny (model prog w) A (getAttr o f true) Q E s₁) E s):wpAny (model prog w) A (eval (.Attribute e f pos) env) Q E s :=
  Attribute_any_ h (by rw [arm_eval_Attribute,hb])
end
def tFld (K:PySem.W.Frag) (ta:TE) (f:Str):TE:=fun σ H Q=>ta σ H fun x H1=>∃ a C dx fs v,x=.ref a∧H1 a=some (.ins C dx fs)∧Cls K C∧NoAttr K C f∧fs.lookup f=some v∧Q v H1
def sFld (K:PySem.W.Frag) (ta tv:TE) (f:Str):TS:=fun D σ H=>tv σ H fun y H1=>ta σ H1 fun x H2=>∃ a C dx fs,x=.ref a∧H2 a=some (.ins C dx fs)∧Cls K C∧NoAttr K C f∧fs.length<1000 ∧
  D.nx σ (upd H2 a (.ins C dx (putF f y fs)))
def InOp (X:Cx) (op:Operator) (rd:V→V→Hp→VK→Prop):Prop :=
  ∀ (pins:List (Addr×Obj)) (s:Shared) (σ:St) (H:Hp) (x y:V) (u v:Value) (Q:VK),Inv X pins σ H s→RelV x u→RelV y v→rd x y H Q→wpAny (model X.prog X.w) X.A (inplaceOp op u v) (EP X pins σ Q) X.xe s
def sFldAug (K:PySem.W.Frag) (ta tv:TE) (rd:V→V→Hp→VK→Prop) (f:Str):TS:=fun D σ H=>ta σ H fun x H1=>∃ a C dx fs v,x=.ref a∧H1 a=some (.ins C dx fs)∧Cls K C∧NoAttr K C f∧fs.lookup f=some v ∧
  tv σ H1 fun y H2=>rd v y H2 fun z H3=>∃ dx' fs',H3 a=some (.ins C dx' fs')∧fs'.length<1000∧D.nx σ (upd H3 a (.ins C dx' (putF f z fs')))
section
variable {X:Cx} {o e value:Expr} {f:Str} {pos pos' tpos:Pos} {ta tv:TE}
theorem pe_fld (he:PE X e ta) (hb:attributeBase e f X.env (eval e X.env)=eval e X.env):PE X (.Attribute e f pos) (tFld X.K ta f):=by
  intro pins s σ H Q I h
  refine attr_of hb (thn (he pins s σ H _ I h) fun u s1 ⟨x,H1,I1,rx,a,C,dx,fs,v,ex,ea,c,n,l,q⟩=>?_)
  subst ex
  obtain rfl:u=Value.ref a:=rx
  exact getattr_ok I1 ea c n l fun u' s2 I2 ru=>⟨v,H1,I2,ru,q⟩
theorem ps_fld (ha:PE X o ta) (hv:PE X value tv) (hs:swapsWith value (some (.Attribute o f pos')) pos.line X.env=pure false):PS X (.Assign [.Attribute o f pos'] value pos) (sFld X.K ta tv f):=by
  intro pins s σ H D I h
  refine plainObj_wpAny_Assign_Attribute (thn (hv pins s σ H _ I h) fun u s1 ⟨y,H1,I1,ry,q⟩=>thn (ha pins s1 σ H1 _ I1 q) fun ov s2 ⟨x,H2,I2,rx,a,C,dx,fs,ex,ea,c,n,l,q2⟩=>?_) hs
  subst ex
  obtain rfl:ov=Value.ref a:=rx
  exact setattr_ok I2 ea c n l ry fun s3 I3=>⟨σ,_,I3,q2⟩
theorem ps_fldaug {op:Operator} {rd:V→V→Hp→VK→Prop} (ha:PE X o ta) (hv:PE X value tv) (hop:InOp X op rd):PS X (.AugAssign (.Attribute o f tpos) op value pos) (sFldAug X.K ta tv rd f):=by
  intro pins s σ H D I h
  refine wpAny_AugAssign_AttributeAny (thn (ha pins s σ H _ I h) fun ov s1 ⟨x,H1,I1,rx,a,C,dx,fs,v,ex,ea,c,n,l,q⟩=>?_)
  subst ex
  obtain rfl:ov=Value.ref a:=rx
  refine getattr_ok I1 ea c n l fun u s2 I2 ru=>thn (hv pins s2 σ H1 _ I2 q) fun w3 s3 ⟨y,H2,I3,ry,q3⟩=>thn (hop pins s3 σ H2 v y u w3 _ I3 ru ry q3) fun w4 s4 ⟨z,H3,I4,rz,dx',fs',ea',l',q4⟩=>?_
  exact setattr_ok I4 ea' c n l' rz fun s5 I5=>⟨σ,_,I5,q4⟩
def rAdd:V→V→Hp→VK→Prop:=fun x y H Q=>∃ i j,x=.int i∧y=.int j∧Q (.int (i+j)) H
theorem in_add:InOp X .Add rAdd:=by
  rintro pins s σ H x y u v Q I rx ry ⟨i,j,rfl,rfl,q⟩
  obtain ⟨t,rfl⟩:=(show ∃ t,u=Value.int i t from rx)
  obtain ⟨t',rfl⟩:=(show ∃ t',v=Value.int j t' from ry)
  exact PyProof.Rows.iadd_int ⟨.int (i+j),H,I.tok _,⟨_,rfl⟩,q⟩
theorem methcall_of {pl:Sem Bool} {m:Str} {apos:Pos} {args:List Expr} {pins:List (Addr×Obj)} {s:Shared} {σ:St} {H:Hp} {Q:Value→Shared→Prop} {te:TE} (he:PE X e te) (I:Inv X pins σ H s)
    (h:te σ H fun x H1=>∃ a C dx fs g,x=.ref a∧H1 a=some (.ins C dx fs)∧Cls X.K C∧Meth X.K C m g∧fs.lookup m=none ∧
      ∀ s1,Inv X pins σ H1 s1→wpAny (model X.prog X.w) X.A (callWith pos (.ref g) [.ref a] (backTo pos (starEach args X.env)) (backToKw pos (keywordEach [] X.env))) Q X.xe s1)
    (ht:eval (.Call (.Attribute e m apos) args [] pos) X.env=(do
      let ov ← eval e X.env
      standAt apos.atName
      let (f,first) ← holding [ov] (getMethod ov m pl)
      callWith pos f first (backTo pos (starEach args X.env)) (backToKw pos (keywordEach [] X.env)))) :
    wpAny (model X.prog X.w) X.A (eval (.Call (.Attribute e m apos) args [] pos) X.env) Q X.xe s:=by
  refine PySem.W.methodCall_KW (pl:=pl) (thn (he pins s σ H _ I h) fun u s1 ⟨x,H1,I1,rx,a,C,dx,fs,g,ex,ea,c,k,l,q⟩=>?_) ht
  subst ex
  obtain rfl:u=Value.ref a:=rx
  exact getmeth_ok I1 ea c k l (q s1 I1)
end
end L2
namespace L2
open PySem PySem.Spec PyProof.Rows
structure Room (k:Nat) (A:Around):Prop where
  hd:A.handled=none
  dp:A.depth+3 * k+5<recursionLimit
  un:A.units+16 * k+200<cLine
theorem Room.mono {j k:Nat} {A:Around} (r:Room k A) (h:j≤k):Room j A:=⟨r.hd,by have:=r.dp; omega,by have:=r.un; omega⟩
theorem Room.deeper {k:Nat} {A:Around} (r:Room (k+1) A) (env:Env):Room k (A.deeper env) :=
  ⟨r.hd,by have:=r.dp; show A.depth+1+3 * k+5<_; omega,by have:=r.un; show A.units+3+16 * k+200<_; omega⟩
theorem make_depth {A:Around} {C:Addr} {us:List Value} {kw:List (Str×Value)}:(A.under (.builtin "type.__call__" ⟨.ref C::us,kw⟩)).depth=A.depth+1:=by
  first | rfl | simp [Around.under,Code.weight,Code.isCreation,Code.isGuard,Code.isCaller,Code.frames,Code.isFrame,guardIds]
theorem make_units {A:Around} {C:Addr} {us:List Value} {kw:List (Str×Value)}:(A.under (.builtin "type.__call__" ⟨.ref C::us,kw⟩)).units=A.units+1:=by
  first | rfl | simp [Around.under,Code.cUnits,Code.frames,Code.isFrame]
theorem Room.make {k:Nat} {A:Around} (r:Room (k+1) A) (C:Addr) (us:List Value) (kw:List (Str×Value)):Room k (A.under (.builtin "type.__call__" ⟨.ref C::us,kw⟩)) :=
  ⟨r.hd,by have:=r.dp; rw [make_depth]; omega,by have:=r.un; rw [make_units]; omega⟩
theorem Room.depth {k:Nat} {A:Around} (r:Room k A):A.depth<recursionLimit:=by have:=r.dp; omega
theorem Room.units {k:Nat} {A:Around} (r:Room k A):A.units+64<cLine:=by have:=r.un; omega
def tNil:TA:=fun _ H Q=>Q [] H
def tCons (ta:TE) (tr:TA):TA:=fun σ H Q=>ta σ H fun x H1=>tr σ H1 fun xs H2=>Q (x::xs) H2
section
variable {X:Cx} {e:Expr} {es:List Expr} {te:TE} {t:TA} {pos:Pos}
theorem pa_nil:PA X [] tNil:=fun _ _ _ _ H Q I h=>Calls.spliced_nil ⟨[],H,I,.nil,h⟩
theorem pa_cons (ha:PE X e te) (hr:PA X es t) (hs:starEach (e::es) X.env=(false,eval e X.env)::starEach es X.env:=by rfl):PA X (e::es) (tCons te t):=by
  intro pos pins s σ H Q I h
  rw [hs]
  show wpAny _ _ (spliced ((false,eval e X.env)::backTo pos (starEach es X.env))) _ _ s
  refine Calls.spliced_cons (thn (ha pins s σ H _ I h) fun u s1 ⟨x,H1,I1,r1,q1⟩=>?_)
  exact thn (hr pos pins s1 σ H1 _ I1 q1) fun us s2 ⟨xs,H2,I2,r2,q2⟩=>⟨x::xs,H2,I2,.cons r1 r2,q2⟩
def tTup (t:TA):TE:=fun σ H Q=>t σ H fun xs H1=>xs.length≤sizeLine∧∀ p,H1 p=none→Q (.ref p) (upd H1 p (.tup xs))
def tLst (t:TA):TE:=fun σ H Q=>t σ H fun xs H1=>xs.length≤sizeLine∧∀ p,H1 p=none→Q (.ref p) (upd H1 p (.lst xs))
theorem pe_tup {x1} (h:PA X es t):PE X (.Tuple es x1 pos) (tTup t):=by
  intro pins s σ H Q I hq
  refine wpAny_Tuple_spliced (thn (h pos pins s σ H _ I hq) fun us s1 ⟨xs,H1,I1,r,z,q⟩=>⟨by rw [← r.length]; exact z,?_⟩)
  have hf:H1 s1.heap.objs.size=none:=I1.hok.fresh (Nat.le_refl _)
  refine ⟨.ref s1.heap.objs.size,upd H1 s1.heap.objs.size (.tup xs),I1.laid (t':=s1.toks) (fun b u e=>Heap.get?_push_of_some _ e) (Nat.le_refl _) ?_,rfl,q _ hf⟩
  exact ⟨z,us,r,⟨_,Heap.get?_push_size _ rfl,rfl,_,rfl⟩⟩
theorem pe_lst (h:PA X es t):PE X (.List es pos) (tLst t):=by
  intro pins s σ H Q I hq
  refine wpAny_List_spliced (thn (h pos pins s σ H _ I hq) fun us s1 ⟨xs,H1,I1,r,z,q⟩=>⟨by rw [← r.length]; exact z,?_⟩)
  have hf:H1 s1.heap.objs.size=none:=I1.hok.fresh (Nat.le_refl _)
  refine ⟨.ref s1.heap.objs.size,upd H1 s1.heap.objs.size (.lst xs),I1.laid (t':=s1.toks) (fun b u e=>Heap.get?_push_of_some _ e) (Nat.le_refl _) ?_,rfl,q _ hf⟩
  exact ⟨z,us,0,r,Heap.get?_push_size _ rfl⟩
end
abbrev Sp:=List V→Hp→VK→XK→Prop
abbrev CXT:=List Env→Hp→Shared→XK→Value→Shared→Prop
structure Env0 (P:Program) (w:World) (K:PySem.W.Frag) (mg:Str→Option Value) (base:Heap) (A:Around) (outer:List Env) (s:Shared) (H:Hp):Prop where
  frames:A.frames=some outer
  mod:Mod K mg base
  bs:∀ b o,base.get? b=some o→s.heap.get? b=some o∧H b=none
  bsz:base.objs.size≤s.heap.objs.size
  funs:s.heap.FunFrames base outer
  frf:∀ b ∈ frs outer,H b=none
  hok:HOk P w H s.heap
  bare:AllBare s.gens
def CE (outer:List Env) (P:Program) (w:World) (H:Hp) (s:Shared) (Q:VK) (u:Value) (s':Shared):Prop :=
  ∃ v H',s'.os=s.os∧AllBare s'.gens∧Un (frs outer) [] H H' s.heap s'.heap∧HOk P w H' s'.heap∧RelV v u∧Q v H'
def CR (CX:CXT) (outer:List Env) (P:Program) (w:World) (H:Hp) (s:Shared) (Q:VK) (E:XK) (r:Result) (s':Shared):Prop :=
  match r with
  | .ok (.ret u)=>CE outer P w H s Q u s'
  | .ok _=>False
  | .error e=>CX outer H s E e s'
structure FnOk (P:Program) (w:World) (K:PySem.W.Frag) (mg:Str→Option Value) (base:Heap) (CX:CXT) (k:Nat) (f:Addr) (fd:FuncData) (ps:List Str) (sp:Sp):Prop where
  len:∀ vs H Q E,sp vs H Q E→vs.length=ps.length
  run:∀ (A:Around) (outer:List Env) (s:Shared) (H:Hp) (args:Args) (us:List Value) (vs:List V) (Q:VK) (E:XK),Room k A→Env0 P w K mg base A outer s H→BindsTo s fd args (ps.zip us)→Vals vs us→sp vs H Q E →
    codeAny (model P w) A (.call (.ref f) args) (CR CX outer P w H s Q E) s
theorem FnOk.mono {P:Program} {w:World} {K:PySem.W.Frag} {mg:Str→Option Value} {base:Heap} {CX:CXT} {j k:Nat} {f:Addr} {fd:FuncData} {ps:List Str} {sp:Sp} (F:FnOk P w K mg base CX j f fd ps sp) (h:j≤k) :
    FnOk P w K mg base CX k f fd ps sp:=⟨F.len,fun A outer s H args us vs Q E hr=>F.run A outer s H args us vs Q E (hr.mono h)⟩
theorem FnOk.imp {P:Program} {w:World} {K:PySem.W.Frag} {mg:Str→Option Value} {base:Heap} {CX:CXT} {k:Nat} {f:Addr} {fd:FuncData} {ps:List Str} {sp sp':Sp} (F:FnOk P w K mg base CX k f fd ps sp)
    (h:∀ vs H Q E,sp' vs H Q E→sp vs H Q E):FnOk P w K mg base CX k f fd ps sp' :=
  ⟨fun vs H Q E q=>F.len vs H Q E (h _ _ _ _ q),fun A outer s H args us vs Q E hr he hb hv hs=>F.run A outer s H args us vs Q E hr he hb hv (h _ _ _ _ hs)⟩
theorem Env0.make {P:Program} {w:World} {K:PySem.W.Frag} {mg:Str→Option Value} {base:Heap} {A:Around} {outer:List Env} {s:Shared} {H:Hp} (e:Env0 P w K mg base A outer s H) (C:Addr) (us:List Value) (kw:List (Str×Value)) :
    Env0 P w K mg base (A.under (.builtin "type.__call__" ⟨.ref C::us,kw⟩)) outer s H:=⟨by first | exact e.frames | (simpa [Around.under,Code.envs,Code.isFrame,pushEnvs] using e.frames),e.mod,e.bs,e.bsz,e.funs,e.frf,e.hok,e.bare⟩
section
variable {X:Cx} {pins:List (Addr×Obj)} {σ:St} {H:Hp} {s s':Shared}
theorem Inv.env0 (I:Inv X pins σ H s):Env0 X.prog X.w X.K X.mg X.base X.A X.stack s H :=
  ⟨I.ok.frames,I.ok.mod,I.bs,Nat.le_trans I.ok.bsz I.sz,I.stack,I.stkFree,I.hok,I.bare⟩
theorem Inv.after {Q:VK} {u:Value} (I:Inv X pins σ H s) (h:CE X.stack X.prog X.w H s Q u s'):EP X pins σ Q u s':=by
  obtain ⟨v,H',os,bare,un,hok,r,q⟩:=h
  obtain ⟨hh,g,d,t,os'⟩:=s'
  obtain rfl:os'=s.os:=os
  exact ⟨v,H',I.call (h':=hh) (g':=g) (d':=d) (t':=t) (ch:=[]) un hok bare (fun b z=>absurd z (by simp)),r,q⟩
end
def tCall (sp:Sp) (dvs:List V) (E:XK) (t:TA):TE:=fun σ H Q=>t σ H fun vs H1=>sp (vs++dvs) H1 Q E
def tMeth (C:Addr) (m:Str) (sp:Sp) (dvs:List V) (E:XK) (ta:TE) (t:TA):TE:=fun σ H Q=>ta σ H fun x H1=>∃ a dx fs,x=.ref a∧H1 a=some (.ins C dx fs)∧fs.lookup m=none ∧
  t σ H1 fun vs H2=>sp (x::(vs++dvs)) H2 Q E
def tMake (C:Addr) (sp:Sp) (dvs:List V) (E:XK) (t:TA):TE:=fun σ H Q=>t σ H fun vs H1=>∀ x dx,H1 x=none→H1 dx=none→dx≠x →
  sp (.ref x::(vs++dvs)) (upd (upd H1 dx (.own x)) x (.ins C dx [])) (fun v H2=>v=.non∧Q (.ref x) H2) E
def Binds (K:PySem.W.Frag) (fd:FuncData) (ps:List Str) (ds:List Value):Prop :=
  ∀ (s:Shared) (us:List Value),K.In s.heap→(us++ds).length=ps.length→BindsTo s fd ⟨us,[]⟩ (ps.zip (us++ds))
theorem Binds.all {K:PySem.W.Frag} {fd:FuncData} {ps:List Str} (h:∀ us:List Value,us.length=ps.length→bindArgs fd ⟨us,[]⟩=pure (ps.zip us)):Binds K fd ps []:=fun s us _ hl=>by
  rw [List.append_nil] at hl ⊢
  exact .of_eq (h us hl)
def Passes (CX:CXT) (X:Cx) (E:XK):Prop:=∀ (pins:List (Addr×Obj)) (σ:St) (H:Hp) (s:Shared) (e:Value) (s':Shared),Inv X pins σ H s→CX X.stack H s E e s'→X.xe e s'
section
variable {X:Cx} {CX:CXT} {k:Nat} {f C:Addr} {fd:FuncData} {ps:List Str} {sp:Sp} {dvs:List V} {ds:List Value} {E:XK} {x m:Str} {p pos apos:Pos} {e o:Expr} {es:List Expr} {ta:TE} {t:TA}
theorem run_fn {pins:List (Addr×Obj)} {σ:St} {H:Hp} {s:Shared} {Q:VK} {us:List Value} {vs:List V} (F:FnOk X.prog X.w X.K X.mg X.base CX k f fd ps sp) (hr:Room k X.A) (hb:Binds X.K fd ps ds) (hd:Vals dvs ds) (hx:Passes CX X E)
    (I:Inv X pins σ H s) (r:Vals vs us) (h:sp (vs++dvs) H Q E):wpAny (model X.prog X.w) X.A (call (.ref f) us) (EP X pins σ Q) X.xe s:=by
  have r2:Vals (vs++dvs) (us++ds):=r.append hd
  have hl:(us++ds).length=ps.length:=by rw [← r2.length]; exact F.len _ _ _ _ h
  refine wpAny_call (codeAny_mono (F.run X.A X.stack s H ⟨us,[]⟩ (us++ds) (vs++dvs) Q E hr I.env0 (hb s us I.kIn hl) r2 h) fun r s' hq=>?_)
  cases r with
  | error e=>exact hx pins σ H s e s' I hq
  | ok fl =>
    cases fl with
    | ret u=>exact I.after hq
    | next=>exact False.elim hq
    | brk=>exact False.elim hq
    | cont=>exact False.elim hq
theorem pe_call (F:FnOk X.prog X.w X.K X.mg X.base CX k f fd ps sp) (hr:Room k X.A) (hg:Gl X x) (hm:X.mg x=some (.ref f)) (hk:PySem.W.keepIn X.K (.ref f)=true) (hb:Binds X.K fd ps ds) (hd:Vals dvs ds) (hx:Passes CX X E)
    (ha:PA X (e::es) t) (hdb:(x == ("__debug__":Str))=false:=by decide) (he:starEach (e::es) X.env=(false,eval e X.env)::starEach es X.env:=by rfl) (hpl:(backTo pos (starEach es X.env)).any (·.1)=false:=by rfl) :
    PE X (.Call (.Name x p) (e::es) [] pos) (tCall sp dvs E t):=by
  intro pins s σ H Q I h
  refine wpAny_Call_Name_kw (ld_glob I hg hm ?_ hdb)
  refine PySem.W.callWith_K (h₀:=X.base) I.ok.mod.kin hk (thn (ha pos pins s σ H _ I h) fun us s1 ⟨vs,H1,I1,r,q⟩=>⟨I1.kIn,?_⟩) he hpl
  exact run_fn F hr hb hd hx I1 r q
theorem pe_meth {pl:Sem Bool} (he:PE X o ta) (c:Cls X.K C) (hm:Meth X.K C m f) (F:FnOk X.prog X.w X.K X.mg X.base CX k f fd ps sp) (hr:Room k X.A) (hb:Binds X.K fd ps ds) (hd:Vals dvs ds) (hx:Passes CX X E) (ha:PA X (e::es) t)
    (hst:starEach (e::es) X.env=(false,eval e X.env)::starEach es X.env:=by rfl) (hpl:(backTo pos (starEach es X.env)).any (·.1)=false:=by rfl)
    (ht:eval (.Call (.Attribute o m apos) (e::es) [] pos) X.env=(do
      let ov ← eval o X.env
      standAt apos.atName
      let (f,first) ← holding [ov] (getMethod ov m pl)
      callWith pos f first (backTo pos (starEach (e::es) X.env)) (backToKw pos (keywordEach [] X.env))):=by rfl) :
    PE X (.Call (.Attribute o m apos) (e::es) [] pos) (tMeth C m sp dvs E ta t):=by
  intro pins s σ H Q I h
  refine PySem.W.methodCall_KW (pl:=pl) (thn (he pins s σ H _ I h) fun u s1 ⟨x,H1,I1,rx,a,dx,fs,ex,ea,l,q⟩=>?_) ht
  subst ex
  obtain rfl:u=Value.ref a:=rx
  refine getmeth_ok I1 ea c hm l ?_
  refine PySem.W.callWith_K (first:=[.ref a]) (h₀:=X.base) I.ok.mod.kin hm.kp (thn (ha pos pins s1 σ H1 _ I1 q) fun us s2 ⟨vs,H2,I2,r,q2⟩=>⟨I2.kIn,?_⟩) hst hpl
  exact run_fn (us:=.ref a::us) (vs:=.ref a::vs) F hr hb hd hx I2 (.cons rfl r) q2
theorem pe_meth0 {pl:Sem Bool} (he:PE X o ta) (c:Cls X.K C) (hm:Meth X.K C m f) (F:FnOk X.prog X.w X.K X.mg X.base CX k f fd ps sp) (hr:Room k X.A) (hb:Binds X.K fd ps ds) (hd:Vals dvs ds) (hx:Passes CX X E)
    (ht:eval (.Call (.Attribute o m apos) [] [] pos) X.env=(do
      let ov ← eval o X.env
      standAt apos.atName
      let (f,first) ← holding [ov] (getMethod ov m pl)
      callWith pos f first (backTo pos (starEach [] X.env)) (backToKw pos (keywordEach [] X.env))):=by rfl) :
    PE X (.Call (.Attribute o m apos) [] [] pos) (tMeth C m sp dvs E ta tNil):=by
  intro pins s σ H Q I h
  refine PySem.W.methodCall_KW (pl:=pl) (thn (he pins s σ H _ I h) fun u s1 ⟨x,H1,I1,rx,a,dx,fs,ex,ea,l,q⟩=>?_) ht
  subst ex
  obtain rfl:u=Value.ref a:=rx
  refine getmeth_ok I1 ea c hm l ?_
  exact PySem.W.callWith_K0 (first:=[.ref a]) I1.kIn hm.kp (run_fn (us:=[.ref a]) (vs:=[.ref a]) F hr hb hd hx I1 (.cons rfl .nil) q)
structure Mk (K:PySem.W.Frag) (C f:Addr):Prop where
  makes:PySem.W.makesIn K C=true
  init:PySem.W.findIn K (.ref C) "__init__"=some (some (.ref f))
  fn:PySem.W.isFn K (.ref f)=true
  kp:PySem.W.keepIn K (.ref C)=true
theorem run_make {pins:List (Addr×Obj)} {σ:St} {H:Hp} {s:Shared} {Q:VK} {us:List Value} {vs:List V} (M:Mk X.K C f) (F:FnOk X.prog X.w X.K X.mg X.base CX k f fd ps sp) (hr:Room (k+1) X.A) (hb:Binds X.K fd ps ds) (hd:Vals dvs ds)
    (hx:Passes CX X E) (I:Inv X pins σ H s) (r:Vals vs us)
    (h:∀ x dx,H x=none→H dx=none→dx≠x→sp (.ref x::(vs++dvs)) (upd (upd H dx (.own x)) x (.ins C dx [])) (fun v H2=>v=.non∧Q (.ref x) H2) E) :
    wpAny (model X.prog X.w) X.A (call (.ref C) us) (EP X pins σ Q) X.xe s:=by
  have hq:=h (s.heap.objs.size+1) s.heap.objs.size (I.hok.fresh (Nat.le_succ _)) (I.hok.fresh (Nat.le_refl _)) (Nat.ne_of_lt (Nat.lt_succ_self _))
  have I2:=Inv.made (C:=C) I
  have r2:Vals (V.ref (s.heap.objs.size+1)::(vs++dvs)) (Value.ref (s.heap.objs.size+1)::(us++ds)):=.cons rfl (r.append hd)
  have hl:(Value.ref (s.heap.objs.size+1)::us++ds).length=ps.length:=by
    have e:=r2.length
    rw [F.len _ _ _ _ hq] at e
    exact e.symm
  refine wpAny_call (make_map (f:=f) I.kIn M.makes M.init (beq_iff_eq.mp M.fn) (codeAny_mono (F.run _ X.stack _ _ ⟨Value.ref (s.heap.objs.size+1)::us,[]⟩ (Value.ref (s.heap.objs.size+1)::(us++ds)) _ _ E (hr.make C us [])
    (I2.env0.make C us []) (hb _ (Value.ref (s.heap.objs.size+1)::us) I2.kIn hl) r2 hq) fun r s' hq'=>?_))
  cases r with
  | error e=>exact hx pins σ _ _ e s' I2 hq'
  | ok fl =>
    cases fl with
    | ret u =>
      obtain ⟨v,H',I3,rv,ev,q3⟩:=I2.after hq'
      subst ev
      exact ⟨rv,⟨V.ref (s.heap.objs.size+1),H',I3,rfl,q3⟩⟩
    | next=>exact False.elim hq'
    | brk=>exact False.elim hq'
    | cont=>exact False.elim hq'
theorem pe_make (M:Mk X.K C f) (F:FnOk X.prog X.w X.K X.mg X.base CX k f fd ps sp) (hr:Room (k+1) X.A) (hg:Gl X x) (hm:X.mg x=some (.ref C)) (hb:Binds X.K fd ps ds) (hd:Vals dvs ds) (hx:Passes CX X E)
    (ha:PA X (e::es) t) (hdb:(x == ("__debug__":Str))=false:=by decide) (he:starEach (e::es) X.env=(false,eval e X.env)::starEach es X.env:=by rfl) (hpl:(backTo pos (starEach es X.env)).any (·.1)=false:=by rfl) :
    PE X (.Call (.Name x p) (e::es) [] pos) (tMake C sp dvs E t):=by
  intro pins s σ H Q I h
  refine wpAny_Call_Name_kw (ld_glob I hg hm ?_ hdb)
  refine PySem.W.callWith_K (h₀:=X.base) I.ok.mod.kin M.kp (thn (ha pos pins s σ H _ I h) fun us s1 ⟨vs,H1,I1,r,q⟩=>⟨I1.kIn,?_⟩) he hpl
  exact run_make M F hr hb hd hx I1 r q
theorem pe_make0 (M:Mk X.K C f) (F:FnOk X.prog X.w X.K X.mg X.base CX k f fd ps sp) (hr:Room (k+1) X.A) (hg:Gl X x) (hm:X.mg x=some (.ref C)) (hb:Binds X.K fd ps ds) (hd:Vals dvs ds) (hx:Passes CX X E)
    (hdb:(x == ("__debug__":Str))=false:=by decide):PE X (.Call (.Name x p) [] [] pos) (tMake C sp dvs E tNil):=by
  intro pins s σ H Q I h
  refine wpAny_Call_Name_kw (ld_glob I hg hm ?_ hdb)
  exact PySem.W.callWith_K0 I.kIn M.kp (run_make (us:=[]) M F hr hb hd hx I .nil h)
end
structure FnScope (N P:List Str) (sc:Scope):Prop where
  kind:sc.kind=.function
  co:sc.isCoroutine=false
  gen:sc.isGenerator=false
  nd:N.Nodup
  pre:N.take P.length=P
  par:∀ x ∈ P,sc.names.lookup x=some .local∨sc.names.lookup x=some .cell
  nofree:∀ y ∈ sc.names,y.2≠.free
theorem bindL_out {kindOf:Str→Option NameKind} {x:Str}:∀ {binds:List (Str×Value)} {m:Str→Option Value},(∀ v,(x,v) ∉ binds)→bindL kindOf binds m x=m x
  | [],_,_=>rfl
  | (n,v)::r,m,h=>by
    unfold bindL
    rw [bindL_out fun w hw=>h w (List.mem_cons_of_mem _ hw)]
    split
    · have:x≠n:=by rintro rfl; exact h v List.mem_cons_self
      simp [this]
    · rfl
theorem bindC_out {kindOf:Str→Option NameKind} {x:Str}:∀ {binds:List (Str×Value)} {m:Str→Option Value},(∀ v,(x,v) ∉ binds)→bindC kindOf binds m x=m x
  | [],_,_=>rfl
  | (n,v)::r,m,h=>by
    unfold bindC
    rw [bindC_out fun w hw=>h w (List.mem_cons_of_mem _ hw)]
    split
    · rfl
    · have:x≠n:=by rintro rfl; exact h v List.mem_cons_self
      simp [this]
theorem bindL_get {kindOf:Str→Option NameKind} {x:Str} {v:Value}:∀ {P:List Str} {vs:List Value} {i:Nat} {m:Str→Option Value},P.Nodup→P[i]?=some x→vs[i]?=some v→kindOf x=some .local →
    bindL kindOf (P.zip vs) m x=some v
  | [],_,_,_,_,h,_,_=>by simp at h
  | _::_,[],_,_,_,_,h,_=>by simp at h
  | p::P,w::vs,0,m,nd,h1,h2,hk=>by
    simp at h1 h2; subst h1; subst h2
    show bindL kindOf ((p,w)::P.zip vs) m p=_
    unfold bindL
    rw [bindL_out fun v hv=>(List.nodup_cons.mp nd).1 (List.of_mem_zip hv).1,if_pos hk]
    simp
  | p::P,w::vs,i+1,m,nd,h1,h2,hk=>by
    show bindL kindOf ((p,w)::P.zip vs) m x=_
    unfold bindL
    exact bindL_get (i:=i) (List.nodup_cons.mp nd).2 (by simpa using h1) (by simpa using h2) hk
theorem bindC_get {kindOf:Str→Option NameKind} {x:Str} {v:Value}:∀ {P:List Str} {vs:List Value} {i:Nat} {m:Str→Option Value},P.Nodup→P[i]?=some x→vs[i]?=some v→kindOf x≠some .local →
    bindC kindOf (P.zip vs) m x=some v
  | [],_,_,_,_,h,_,_=>by simp at h
  | _::_,[],_,_,_,_,h,_=>by simp at h
  | p::P,w::vs,0,m,nd,h1,h2,hk=>by
    simp at h1 h2; subst h1; subst h2
    show bindC kindOf ((p,w)::P.zip vs) m p=_
    unfold bindC
    rw [bindC_out fun v hv=>(List.nodup_cons.mp nd).1 (List.of_mem_zip hv).1,if_neg hk]
    simp
  | p::P,w::vs,i+1,m,nd,h1,h2,hk=>by
    show bindC kindOf ((p,w)::P.zip vs) m x=_
    unfold bindC
    exact bindC_get (i:=i) (List.nodup_cons.mp nd).2 (by simpa using h1) (by simpa using h2) hk
def start (N:List Str) (vs:List V):St:=vs.map some++List.replicate (N.length - vs.length) none
def cxOf (CX:CXT) (P:Program) (w:World) (K:PySem.W.Frag) (mg:Str→Option Value) (base:Heap) (N:List Str) (qual:Str) (scope:Scope) (f:Addr) (cd:Value) (A:Around) (outer:List Env) (s:Shared) (H:Hp) (E:XK):Cx where
  prog:=P
  w:=w
  K:=K
  mg:=mg
  base:=base
  A:=A.deeper (envOfC qual scope s.heap.objs.size f cd)
  N:=N
  s_0:=s
  H_0:=H
  env:=envOfC qual scope s.heap.objs.size f cd
  outer:=outer
  stack:=envOfC qual scope s.heap.objs.size f cd::outer
  ex:=[]
  calm:=true
  fn:=fun _=>true
  pn:=[]
  xe:=fun e s'=>wpAny (model P w) (A.deeper (envOfC qual scope s.heap.objs.size f cd)) (leaving (envOfC qual scope s.heap.objs.size f cd) e) (fun _ s''=>CX outer H s E e s'') (fun e' s''=>CX outer H s E e' s'') s'
theorem cell_has {sc:Scope} {n:Nat} {x:Str} (h:sc.names.lookup x=some .cell):∃ c,(cellsFrom n sc.names []).lookup x=some c:=by
  have q:=PySem.W.cellsFrom_some sc.names n [] (.inl h)
  exact Option.isSome_iff_exists.mp q
theorem inv_start {CX:CXT} {P:Program} {w:World} {K:PySem.W.Frag} {mg:Str→Option Value} {base:Heap} {N ps:List Str} {qual:Str} {scope:Scope} {f:Addr} {cd:Value} {A:Around} {outer:List Env} {s s1:Shared} {H:Hp} {E:XK} {us:List Value} {vs:List V}
    (S:FnScope N ps scope) (hd:A.handled=none) (e0:Env0 P w K mg base A outer s H) (hl:vs.length=ps.length) (r:Vals vs us)
    (x:InCallC s s.heap.objs.size (bindL (envOfC qual scope s.heap.objs.size f cd).kindOf (ps.zip us) fun _=>none) (cellsFrom (s.heap.objs.size+1) scope.names []) (bindC (envOfC qual scope s.heap.objs.size f cd).kindOf (ps.zip us) fun _=>none) s1) :
    Inv (cxOf CX P w K mg base N qual scope f cd A outer s H E) [] (start N vs) H s1:=by
  have hpl:ps.length≤N.length:=by have:=congrArg List.length S.pre; rw [List.length_take] at this; omega
  obtain ⟨h1,tk,rfl,hk⟩:=x.done
  have noA:∀ b:Addr,b ∉ (cxOf CX P w K mg base N qual scope f cd A outer s H E).ex:=fun b z=>absurd (show b ∈ ([]:List Addr) from z) (by simp)
  refine ⟨⟨e0.mod,S.kind,rfl,rfl,Nat.le_refl _,fun y z c h1 h2=>?_,fun y hy=>?_,fun y c _ h=>?_,fun _=>hd,Around.frames_deeper e0.frames,.inr ⟨rfl,rfl⟩,fun b z=>absurd z (noA b),e0.bs,e0.bsz,fun b _ _=>noA b,fun b z=>absurd z (noA b),e0.funs,e0.frf⟩,
    rfl,e0.bare,Un.kept hk,⟨_,x.toInCall.ns,fun i y v h1 h2 h3=>?_⟩,fun y c h=>⟨_,x.cell y c h⟩,e0.hok.fresh (Nat.le_refl _),fun y c h=>?_,fun p hp=>absurd (show p ∈ ([]:List (Addr×Obj)) from hp) (by simp),e0.hok.kept hk,?_⟩
  · exact name_of_addr x.apart (PySem.mem_of_lookup h1) (PySem.mem_of_lookup h2)
  · have hy:scope.names.lookup y=some .cell∨scope.names.lookup y=some .free:=hy
    rcases hy with hy | hy
    · exact cell_has hy
    · exact absurd rfl (S.nofree _ (PySem.mem_of_lookup hy))
  · exact Nat.le_of_lt (x.above y c (PySem.mem_of_lookup h))
  · have hi:i<vs.length:=by
      unfold start at h2
      by_cases hi:i<vs.length
      · exact hi
      · rw [List.getElem?_append_right (by simpa using hi)] at h2
        rw [List.getElem?_replicate] at h2
        split at h2 <;> cases h2
    have ha:vs[i]?=some v:=by
      unfold start at h2
      rw [List.getElem?_append_left (by simpa using hi),List.getElem?_map] at h2
      cases e:vs[i]? with
      | none=>rw [e] at h2; cases h2
      | some a=>rw [e] at h2; cases h2; rfl
    obtain ⟨u,hu,rv⟩:=r.get ha
    have hp:ps[i]?=some y:=by
      rw [← S.pre,List.getElem?_take_of_lt (by omega)]; exact h1
    have ndP:ps.Nodup:=by rw [← S.pre]; exact S.nd.sublist (List.take_sublist _ _)
    refine ⟨u,rv,?_⟩
    rcases S.par y (List.mem_of_getElem? hp) with k | k
    · exact .inl ⟨k,bindL_get ndP hp hu k⟩
    · obtain ⟨c,e⟩:=cell_has (n:=s.heap.objs.size+1) k
      refine .inr ⟨.inl k,c,e,?_⟩
      have q:=x.cell y c e
      rw [bindC_get ndP hp hu (by show scope.names.lookup y≠_; rw [k]; decide)] at q
      exact q
  · exact e0.hok.fresh (Nat.le_of_lt (x.above y c (PySem.mem_of_lookup h)))
  · unfold start
    show _=N.length
    rw [List.length_append,List.length_map,List.length_replicate]
    omega
theorem fn_of {CX:CXT} {P:Program} {w:World} {K:PySem.W.Frag} {mg:Str→Option Value} {base:Heap} {k:Nat} {f:Addr} {name qual:Str} {params:Arguments} {body:List Stmt} {scope:Scope} {dV kV doc pm cdv ct oc:Value} {an od:Option Addr}
    {osl:Array (Option Value)} {N ps:List Str} {sp:Sp} (lk:K.lookup f=some ⟨oc,od,.func (PySem.W.fnOf name qual params body scope dV kV doc pm an cdv ct),osl⟩) (hcd:PySem.W.codeIn K cdv qual=true) (S:FnScope N ps scope)
    (len:∀ vs H Q E,sp vs H Q E→vs.length=ps.length)
    (hbody:∀ (A:Around) (outer:List Env) (s:Shared) (H:Hp) (vs:List V) (Q:VK) (E:XK),Room k (A.deeper (envOfC qual scope s.heap.objs.size f cdv))→sp vs H Q E →
      ∃ t,PSs (cxOf CX P w K mg base N qual scope f cdv A outer s H E) body t∧t { nx:=fun _ H'=>Q .non H',rt:=Q } (start N vs) H) :
    FnOk P w K mg base CX (k+1) f (PySem.W.fnOf name qual params body scope dV kV doc pm an cdv ct) ps sp:=by
  refine ⟨len,fun A outer s H args us vs Q E hr e0 hb r hsp=>?_⟩
  have hl:=len _ _ _ _ hsp
  have KX:K.In s.heap:=e0.mod.kin.keeps fun b o e=>(e0.bs b o e).1
  have lim:s.heap.NoLimit:=e0.mod.nolimit.keeps fun b o e=>(e0.bs b o e).1
  have hkind:∀ y ∈ ps.zip us,scope.names.lookup y.1=some .local∨(scope.names.lookup y.1=some .cell∧((cellsFrom (s.heap.objs.size+1) scope.names []).lookup y.1).isSome=true):=fun ⟨n,v⟩ hy=>by
    rcases S.par n (List.of_mem_zip hy).1 with q | q
    · exact .inl q
    · exact .inr ⟨q,PySem.W.cellsFrom_some _ _ _ (.inl q)⟩
  refine codeAny_call_function hr.depth (KX _ _ lk) rfl S.co S.gen rfl (PySem.W.codeRec_of KX hcd) (hb _ _ _ _ ?_)
  refine wpAny_newFunctionEnv_cells S.kind hkind fun env he s1 x=>?_
  subst he
  refine ⟨lim.keeps x.toInCall.keep,codeAny_func ?_⟩
  obtain ⟨t,ht,hq⟩:=hbody A outer s H vs Q E (hr.deeper _) hsp
  have I:Inv (cxOf CX P w K mg base N qual scope f cdv A outer s H E) [] (start N vs) H s1:=inv_start S hr.hd e0 hl r x
  refine wpAny_mono (ht [] s1 (start N vs) H _ I hq) (fun fl s' hs=>?_) fun e s' hs=>hs
  have fin:∀ {σ':St} {H':Hp} {v:V} {u:Value},Inv (cxOf CX P w K mg base N qual scope f cdv A outer s H E) [] σ' H' s'→RelV v u→Q v H'→CE outer P w H s Q u s' :=
    fun {σ' H' v u} J rv q=>⟨v,H',J.os,J.bare,J.base,J.hok,rv,q⟩
  cases fl with
  | ret u =>
    obtain ⟨v,σ',H',J,rv,q⟩:=hs
    exact fin J rv q
  | next =>
    obtain ⟨σ',H',J,q⟩:=hs
    exact fin (v:=V.non) (u:=Value.none) J rfl q
  | brk =>
    obtain ⟨_,_,_,q⟩:=hs
    exact False.elim q
  | cont =>
    obtain ⟨_,_,_,q⟩:=hs
    exact False.elim q
end L2
namespace L2
open PySem PySem.Spec PyProof.Rows
section
variable {X:Cx} {x:Str} {p pos:Pos} {e:Expr} {es:List Expr} {t:TA} {id T:String} {r:List V→Hp→VK→Prop}
def tCB (r:List V→Hp→VK→Prop) (t:TA):TE:=fun σ H Q=>t σ H fun vs H1=>r vs H1 Q
theorem pe_callB (hc:CallR X (.builtin id) r) (hg:Gl X x) (hm:X.mg x=none) (hv:bootBuiltins x=some (.builtin id)) (ha:PA X (e::es) t) (hn:x≠"__name__":=by decide) (hdb:(x == ("__debug__":Str))=false:=by decide)
    (he:starEach (e::es) X.env=(false,eval e X.env)::starEach es X.env:=by rfl) (hpl:(backTo pos (starEach es X.env)).any (·.1)=false:=by rfl):PE X (.Call (.Name x p) (e::es) [] pos) (tCB r t):=by
  intro pins s σ H Q I h
  refine wpAny_Call_Name_kw (ld_blt I hg hm hv ?_ hn hdb)
  exact PyProof.Rows.callWith_builtin1 (thn (ha pos pins s σ H _ I h) fun us s1 ⟨vs,H1,I1,r1,q1⟩=>hc pins s1 σ H1 vs us Q I1 r1 q1) he hpl
theorem pe_callTy (hc:CallR X (.type T) r) (hg:Gl X x) (hm:X.mg x=none) (hv:bootBuiltins x=some (.type T)) (ha:PA X (e::es) t) (hn:x≠"__name__":=by decide) (hdb:(x == ("__debug__":Str))=false:=by decide)
    (he:starEach (e::es) X.env=(false,eval e X.env)::starEach es X.env:=by rfl) (hpl:(backTo pos (starEach es X.env)).any (·.1)=false:=by rfl):PE X (.Call (.Name x p) (e::es) [] pos) (tCB r t):=by
  intro pins s σ H Q I h
  refine wpAny_Call_Name_kw (ld_blt I hg hm hv ?_ hn hdb)
  exact PyProof.Rows.callWith_type1 (thn (ha pos pins s σ H _ I h) fun us s1 ⟨vs,H1,I1,r1,q1⟩=>hc pins s1 σ H1 vs us Q I1 r1 q1) he hpl
end
end L2
namespace HT
open PySem PyProof.Rows
def lexLt:List Int→List Int→Bool
  | [],[]=>false
  | [],_::_=>true
  | _::_,[]=>false
  | x::xs,y::ys=>if x=y then lexLt xs ys else decide (x<y)
theorem lexLt_cons (x y:Int) (xs ys:List Int):lexLt (x::xs) (y::ys)=if x=y then lexLt xs ys else decide (x<y):=rfl
theorem lexLt_nil_nil:lexLt [] []=false:=rfl
theorem lexLt_nil_cons (y:Int) (ys:List Int):lexLt [] (y::ys)=true:=rfl
theorem lexLt_cons_nil (x:Int) (xs:List Int):lexLt (x::xs) []=false:=rfl
theorem eqAt_int (A:Around) (s:Shared) (a:Int) (t:Tok) (c:Int) (u:Tok):∃ e,SeqAt.EqAt A s (.int a t) (.int c u) e∧(e=true↔a=c) :=
  ⟨(a == c),SeqAt.EqAt.int_int a t c u,by simp⟩
theorem rcLt_int (A:Around) (s:Shared) (a:Int) (t:Tok) (c:Int) (u:Tok) (prog:Program) (w:World) (E:Value→Shared→Prop) (Q:Value→Shared→Prop) (h:Q (.bool (decide (a<c))) s) :
    wpAny (model prog w) A (richCompare .Lt (.int a t) (.int c u)) Q E s :=
  (PyProof.Rows.lt_int h:wpAny (model prog w) A (compareOp .Lt (.int a t) (.int c u)) Q E s)
section
open PySem.SeqAt
open PySem.AutoSeq1 (wpAny_loadPart')
open PySem.MeetsSeq PySem.MeetsSeq2 PySem.MeetsSeq3
theorem tuple_lt_ints (l b:Addr) (items items2:Array Value) (n n2:Nat) (dd dd2:Option Addr) (sl sl2:Array (Option Value)) (ns ms:List Int) (hi:IntsAre items.toList ns) (hj:IntsAre items2.toList ms) :
    Meets (Builtin.«tuple.__lt__» ⟨[.ref l,.ref b],[]⟩)
      (fun _ R s=>s.heap.get? l=some { cls:=.type "tuple",dict:=dd,data:=.seq items n,slots:=sl }∧s.heap.get? b=some { cls:=.type "tuple",dict:=dd2,data:=.seq items2 n2,slots:=sl2 } ∧
        R (.ok (.ret (.bool (lexLt ns ms)))) s) :=
  .of_wp fun prog w A R s h=>by
    obtain ⟨hp,g,d,tk,os⟩:=s; obtain ⟨hl,hb,h⟩:=h
    have f2:=AutoSeq1.sub_tuple_tuple
    have z1:items.size=ns.length:=by rw [← hi.length]; simp
    have z2:items2.size=ms.length:=by rw [← hj.length]; simp
    wp_walk using wpAny_loadPart' hl,wpAny_loadPart' hb,wpAny_forIn_list _ (fun rest b s'=>b.1=none∧s'=⟨hp,g,d,tk,os⟩∧∃ (vs ws:List Value) (ns' ms':List Int),rest=vs.zip ws ∧
      IntsAre vs ns'∧IntsAre ws ms'∧ns'.length+items2.size=ms'.length+items.size∧R (.ok (.ret (.bool (lexLt ns' ms')))) ⟨hp,g,d,tk,os⟩) _
    case turn =>
      rintro ⟨y,x⟩ rest b s' ⟨hb',rfl,vs,ws,ns',ms',hz,hvi,hwi,hlen,hR⟩
      cases hvi with
      | nil=>rw [List.zip_nil_left] at hz; cases hz
      | cons a t hvi' =>
        cases hwi with
        | nil=>rw [List.zip_nil_right] at hz; cases hz
        | cons c u hwi' =>
          rw [List.zip_cons_cons] at hz
          injection hz with hyx hrest
          injection hyx with hy hx
          subst hy hx
          rw [lexLt_cons] at hR
          simp only [List.length_cons] at hlen
          obtain ⟨e,he,hiff⟩:=eqAt_int A.in1 ⟨hp,g,d,tk,os⟩ a t c u
          refine wpAny_bind (he prog w _ _ ?_)
          cases e with
          | true =>
            rw [if_pos (hiff.mp rfl)] at hR
            wp_walk
            exact ⟨rfl,rfl,_,_,_,_,hrest,hvi',hwi',by omega,hR⟩
          | false =>
            rw [if_neg (fun q=>absurd (hiff.mpr q) Bool.false_ne_true)] at hR
            have hri:=rcLt_int A.in1 ⟨hp,g,d,tk,os⟩ a t c u prog w
            wp_walk using hri
            exact ⟨_,rfl,by simpa using hR⟩
    case fin =>
      rintro ⟨b1,b2⟩ s' ⟨hb',rfl,vs,ws,ns',ms',hz,hvi,hwi,hlen,hR⟩
      simp only at hb'
      subst hb'
      have hv:lexLt ns' ms'=decide (items.size<items2.size):=by
        cases hvi with
        | nil =>
          cases hwi with
          | nil =>
            simp only [List.length_nil] at hlen
            rw [lexLt_nil_nil]
            exact (decide_eq_false (by omega)).symm
          | cons c u hw =>
            simp only [List.length_nil,List.length_cons] at hlen
            rw [lexLt_nil_cons]
            exact (decide_eq_true (by omega)).symm
        | cons a t hv =>
          cases hwi with
          | nil =>
            simp only [List.length_nil,List.length_cons] at hlen
            rw [lexLt_cons_nil]
            exact (decide_eq_false (by omega)).symm
          | cons c u hw =>
            rw [List.zip_cons_cons] at hz
            cases hz
      rw [hv] at hR
      wp_walk
      exact ⟨_,rfl,by simpa [Builtin.Tuple.tupleCompareSizes] using hR⟩
    case h =>
      exact ⟨rfl,rfl,items.toList,items2.toList,ns,ms,rfl,hi,hj,by omega,h⟩
end
section
variable {prog:Program} {w:World} {A:Around} {E:Value→Shared→Prop} {s:Shared}
theorem lt_tupInts {l b:Addr} {items items2:Array Value} {ns ms:List Int} {Q:Value→Shared→Prop} (hl:IsTup s.heap l items) (hb:IsTup s.heap b items2) (hi:IntsAre items.toList ns) (hj:IntsAre items2.toList ms)
    (hu:A.units<cLine) (h:Q (.bool (lexLt ns ms)) s):wpAny (model prog w) A (compareOp .Lt (.ref l) (.ref b)) Q E s:=by
  obtain ⟨⟨cls,dd,data,sl⟩,ho,hc,n,hd⟩:=id hl
  obtain ⟨⟨cls2,dd2,data2,sl2⟩,ho2,hc2,n2,hd2⟩:=id hb
  simp only at hc hd hc2 hd2
  subst hc hd hc2 hd2
  exact richCompare_meets_room (op:=.Lt) ⟨_,ho,rfl⟩ ⟨_,ho2,rfl⟩ PySem.F.slot_tuple_lt PySem.F.entry_tuple_lt (PySem.F.args_tuple_lt_2 _ _) (tuple_lt_ints l b items items2 n n2 dd dd2 sl sl2 ns ms hi hj)
    ⟨ho,ho2,show Value.bool (lexLt ns ms)≠Value.notImplemented∧Q (.bool (lexLt ns ms)) s from ⟨(fun x=>nomatch x),h⟩⟩ hu
theorem cat_tup {t b:Addr} {vs ws:List Value} {Q:Value→Shared→Prop} (ht:IsTup s.heap t vs.toArray) (hb:IsTup s.heap b ws.toArray) (hv:vs≠[])
    (h1:ws=[]→Q (.ref t) s) (h2:ws≠[]→Q (.ref s.heap.objs.size) { s with heap:=s.heap.push { cls:=.type "tuple",data:=.seq (vs++ws).toArray } })
    (hsz:vs.length+ws.length≤sizeLine):wpAny (model prog w) A (binaryOp .Add (.ref t) (.ref b)) Q E s:=by
  obtain ⟨⟨cls,dd,data,sl⟩,ho,hc,n,hd⟩:=id ht
  obtain ⟨⟨cls2,dd2,data2,sl2⟩,ho2,hc2,n2,hd2⟩:=id hb
  simp only at hc hd hc2 hd2
  subst hc hd hc2 hd2
  have e:vs.toArray++ws.toArray=(vs++ws).toArray:=by simp
  by_cases hw:ws=[]
  · exact concat_meets ⟨_,ho,rfl⟩ ⟨_,ho2,rfl⟩ noFill_tuple_add seq_tuple_add PySem.F.slot_tuple_add PySem.F.entry_tuple_add (PySem.F.args_tuple_add_2 _ _)
      (tuple_addW1 t b vs.toArray ws.toArray n n2 dd dd2 sl sl2 (by simpa using hv) (by simp [hw])) ⟨ho,ho2,h1 hw⟩
  · refine concat_meets ⟨_,ho,rfl⟩ ⟨_,ho2,rfl⟩ noFill_tuple_add seq_tuple_add PySem.F.slot_tuple_add PySem.F.entry_tuple_add (PySem.F.args_tuple_add_2 _ _)
      (tuple_addW2 t b vs.toArray ws.toArray n n2 dd dd2 sl sl2 (by simpa using hv) (by simpa using hw) (by rw [List.size_toArray,List.size_toArray]; exact hsz)) ⟨ho,ho2,?_⟩
    rw [e]
    exact h2 hw
def sIx (n d:Nat):Option Int→Nat
  | none=>d
  | some v=>if v<0 then (v+(n:Int)).toNat else min v.toNat n
theorem sIx_none (n d:Nat):sIx n d none=d:=rfl
theorem sIx_nat (n d k:Nat):sIx n d (some (k:Int))=min k n:=by
  show (if (k:Int)<0 then ((k:Int)+(n:Int)).toNat else min (k:Int).toNat n)=min k n
  rw [if_neg (by omega),Int.toNat_natCast]
theorem sIx_le (n d:Nat) (hd:d≤n) (o:Option Int):sIx n d o≤n:=by
  cases o with
  | none=>exact hd
  | some v =>
    show (if v<0 then (v+(n:Int)).toNat else min v.toNat n)≤n
    by_cases hv:v<0
    · rw [if_pos hv]; omega
    · rw [if_neg hv]; exact Nat.min_le_right _ _
theorem clip_eq (v:Int) (n d:Nat):(if v<0 then max (v+(n:Int)) 0 else min v (n:Int))=((sIx n d (some v):Nat):Int):=by
  show (if v<0 then max (v+(n:Int)) 0 else min v (n:Int))=(((if v<0 then (v+(n:Int)).toNat else min v.toNat n):Nat):Int)
  by_cases hv:v<0
  · simp only [if_pos hv]; omega
  · simp only [if_neg hv]; omega
theorem adjust_gen (lo hi:Option Int) (n:Nat):Builtin.Slice.sliceAdjust lo hi 1 (n:Int)=(((sIx n 0 lo:Nat):Int),((sIx n n hi:Nat):Int)):=by
  have h1:¬ ((1:Int)<0):=by omega
  unfold Builtin.Slice.sliceAdjust
  simp only [h1,if_false]
  refine Prod.ext ?_ ?_
  · cases lo with
    | none=>rfl
    | some v=>exact clip_eq v n 0
  · cases hi with
    | none=>rfl
    | some v=>exact clip_eq v n n
theorem places_gen (i j:Nat):Builtin.Slice.slicePlaces (i:Int) (j:Int) 1=j - i:=by
  unfold Builtin.Slice.slicePlaces
  have h1:(1:Int) > 0:=by omega
  simp only [h1,if_true,Int.ediv_one]
  split <;> omega
theorem slicePart_ {v:Value} {o:Option Int} {Q:Option Int→Shared→Prop} (p:IsPart v o) (h:Q o s):wpAny (model prog w) A (Builtin.Slice.slicePartIndex v) Q E s:=by
  cases p with
  | none=>exact slicePart_none h
  | int i t=>exact slicePart_int h
theorem sliceApplied_gen {sl:Addr} {vl vu:Value} {lo hi:Option Int} {n:Nat} {Q:Int×Int×Nat→Shared→Prop} (hs:s.heap.IsSliceOf sl vl vu .none) (pl:IsPart vl lo) (pu:IsPart vu hi)
    (h:Q (((sIx n 0 lo:Nat):Int),1,sIx n n hi - sIx n 0 lo) s):wpAny (model prog w) A (Builtin.Slice.sliceApplied (.ref sl) (pure (n:Int))) Q E s:=by
  obtain ⟨os,hos,hcs,hds⟩:=id hs
  unfold Builtin.Slice.sliceApplied Builtin.Slice.sliceFields
  refine wpAny_bind (wpAny_bind (wpAny_field hos hds (x:=vl) rfl (wpAny_bind (wpAny_field hos hds (x:=vu) rfl (wpAny_bind (wpAny_field hos hds (x:=.none) rfl (wpAny_pure ?_)))))))
  refine wpAny_bind (slicePart_none ?_)
  show wpAny _ _ (if ((1:Int) == 0)=true then _ else _) _ _ s
  rw [if_neg (by decide)]
  refine wpAny_bind (slicePart_ pl (wpAny_bind (slicePart_ pu (wpAny_bind (wpAny_pure ?_)))))
  show wpAny _ _ (match Builtin.Slice.sliceAdjust lo hi 1 (n:Int) with | (lo,hi)=>pure (lo,(1:Int),Builtin.Slice.slicePlaces lo hi 1)) _ _ s
  rw [adjust_gen lo hi n]
  show wpAny _ _ (pure (((sIx n 0 lo:Nat):Int),(1:Int),Builtin.Slice.slicePlaces ((sIx n 0 lo:Nat):Int) ((sIx n n hi:Nat):Int) 1)) _ _ s
  rw [places_gen]
  exact wpAny_pure h
theorem pick_gen (xs:Array Value) (i k:Nat):((List.range k).filterMap fun (m:Nat)=>xs[((i:Int)+(m:Int) * 1).toNat]?).toArray=((xs.toList.drop i).take k).toArray:=by
  have e:(fun (m:Nat)=>xs[((i:Int)+(m:Int) * 1).toNat]?)=fun m=>xs[i+m]?:=by
    funext m
    have:((i:Int)+(m:Int) * 1).toNat=i+m:=by omega
    rw [this]
  rw [e]
  have:=pick_run xs i k
  rw [List.filterMap_map] at this
  have e2:((fun x=>xs[x]?) ∘ fun x=>i+x)=fun m=>xs[i+m]?:=rfl
  rw [e2] at this
  rw [this]
theorem getItem_tuple_cut {t sl:Addr} {items:Array Value} {vl vu:Value} {lo hi:Option Int} {Q:Value→Shared→Prop} (ht:IsTup s.heap t items) (hs:s.heap.IsSliceOf sl vl vu .none) (pl:IsPart vl lo) (pu:IsPart vu hi)
    (hw:¬ (sIx items.size 0 lo=0∧sIx items.size items.size hi=items.size))
    (h:Q (.ref s.heap.objs.size) { s with heap:=s.heap.push { cls:=.type "tuple",data:=.seq ((items.toList.drop (sIx items.size 0 lo)).take (sIx items.size items.size hi - sIx items.size 0 lo)).toArray } })
    (hsz:items.size≤sizeLine):wpAny (model prog w) A (getItem (.ref t) (.ref sl)) Q E s:=by
  have htake:sizeOk (.seq ((items.toList.drop (sIx items.size 0 lo)).take (sIx items.size items.size hi - sIx items.size 0 lo)).toArray):=by
    show ((items.toList.drop (sIx items.size 0 lo)).take (sIx items.size items.size hi - sIx items.size 0 lo)).toArray.size≤sizeLine
    rw [List.size_toArray,List.length_take,List.length_drop,Array.length_toList]
    omega
  have hj:sIx items.size items.size hi≤items.size:=sIx_le _ _ (Nat.le_refl _) hi
  obtain ⟨os,hos,hcs,hds⟩:=id hs
  have hTs:s.TypeIs (.ref sl) "slice":=⟨os,hos,hcs⟩
  unfold getItem
  try with_reducible refine wpAny_holding ?_
  first | refine wpAny_bind (wpAny_pure ?_) | skip
  refine wpAny_bind (wpAny_sequenceKey ht.typeIs (by decide) ?_)
  refine wpAny_bind (wpAny_callSpecial?_slot (name:=Str.ofString "__getitem__") ht.typeIs PyProof.Rows.slot_tuple_getitem
    (wpAny_call_entry PyProof.Rows.slot_tuple_getitem ht.typeIs entry_tuple_getitem ?_ (args_tuple_getitem _ _)))
  show wpAny _ _ (Builtin.Tuple.tupleItemsOf (.ref t) >>= _) _ _ s
  refine wpAny_bind (tupleItemsOf_ ht ?_)
  refine wpAny_bind (wpAny_typeOf hTs ?_)
  rw [if_pos (by decide)]
  refine wpAny_bind (sliceApplied_gen hs pl pu ?_)
  have hno:¬ ((((sIx items.size 0 lo:Nat):Int) == 0 && (1:Int) == 1 && (sIx items.size items.size hi - sIx items.size 0 lo) == items.size)=true):=by
    intro q
    rw [Bool.and_eq_true,Bool.and_eq_true] at q
    have q1:((sIx items.size 0 lo:Nat):Int)=0:=eq_of_beq q.1.1
    have q2:sIx items.size items.size hi - sIx items.size 0 lo=items.size:=eq_of_beq q.2
    exact hw ⟨by omega,by omega⟩
  show wpAny _ _ (if (((sIx items.size 0 lo:Nat):Int) == 0 && (1:Int) == 1 && (sIx items.size items.size hi - sIx items.size 0 lo) == items.size)=true then _ else _) _ _ s
  rw [if_neg hno,pick_gen]
  first
    | exact wpAny_bind (m:=Builtin.Tuple.tupleExact _) (wpAny_newObj_type (wpAny_pure ⟨_,rfl,wpAny_pure h⟩) htake)
    | exact wpAny_bind (m:=Builtin.Tuple.tupleExact _) (wpAny_newObj_type (wpAny_bind (wpAny_pure (wpAny_pure ⟨_,rfl,wpAny_pure h⟩))) htake)
    | exact wpAny_bind (wpAny_bind (m:=Builtin.Tuple.tupleExact _) (wpAny_newObj_type (wpAny_pure (wpAny_pure ⟨_,rfl,wpAny_pure h⟩)) htake))
    | exact wpAny_bind (wpAny_bind (m:=Builtin.Tuple.tupleExact _) (wpAny_newObj_type (wpAny_pure ⟨_,rfl,wpAny_pure h⟩) htake))
end
end HT
namespace L2
open PySem PySem.Spec PyProof.Rows
abbrev TO:=St→Hp→(Option Int→Hp→Prop)→Prop
def PO (X:Cx) (e:Option Expr) (t:TO):Prop :=
  ∀ (pins:List (Addr×Obj)) (s:Shared) (σ:St) (H:Hp) (Q:Option Int→Hp→Prop),Inv X pins σ H s→t σ H Q →
    wpAny (model X.prog X.w) X.A (evalPart e X.env) (fun u s'=>∃ o H',Inv X pins σ H' s'∧IsPart u o∧Q o H') X.xe s
def tNoPart:TO:=fun _ H Q=>Q none H
def tPart (t:TE):TO:=fun σ H Q=>t σ H fun x H1=>∃ i,x=.int i∧Q (some i) H1
section
variable {X:Cx} {e:Expr} {te:TE} {lo hi:Option Expr} {tl th:TO} {pos p2:Pos}
theorem po_none:PO X none tNoPart:=by
  intro pins s σ H Q I h
  rw [evalPart_none]
  exact wpAny_pure ⟨none,H,I,.none,h⟩
theorem po_some (h:PE X e te):PO X (some e) (tPart te):=by
  intro pins s σ H Q I hw
  rw [evalPart_some]
  refine thn (h pins s σ H _ I hw) fun u s1 ⟨x,H1,I1,r1,q1⟩=>?_
  obtain ⟨i,rfl,q⟩:=q1
  obtain ⟨t,rfl⟩:=r1
  exact ⟨some i,H1,I1,.int i t,q⟩
def SlR (X:Cx) (r:V→Option Int→Option Int→Hp→VK→Prop):Prop :=
  ∀ (pins:List (Addr×Obj)) (s:Shared) (σ:St) (H:Hp) (x:V) (v vl vu:Value) (lo hi:Option Int) (sl:Addr) (Q:VK),Inv X pins σ H s→RelV x v→s.heap.IsSliceOf sl vl vu .none→IsPart vl lo→IsPart vu hi→r x lo hi H Q →
    ∃ T id,typeLookup (.type T) "__getitem__"=pure (some (.builtin id))∧s.TypeIs v T∧wpAny (model X.prog X.w) X.A (getItem v (.ref sl)) (EP X pins σ Q) X.xe s
def tSl (r:V→Option Int→Option Int→Hp→VK→Prop) (te:TE) (tl th:TO):TE:=fun σ H Q=>te σ H fun x H1=>tl σ H1 fun l H2=>th σ H2 fun u H3=>r x l u H3 Q
theorem pe_slice {r:V→Option Int→Option Int→Hp→VK→Prop} (hr:SlR X r) (he:PE X e te) (hl:PO X lo tl) (hu:PO X hi th):PE X (.Subscript e (.Slice lo hi none p2) pos) (tSl r te tl th):=by
  intro pins s σ H Q I h
  refine Subscript_ (thn (he pins s σ H _ I h) fun v s1 ⟨x,H1,I1,r1,q1⟩=>?_)
  refine wpAny_Slice (thn (hl pins s1 σ H1 _ I1 q1) fun vl s2 ⟨l,H2,I2,pl,q2⟩=>thn (hu pins s2 σ H2 _ I2 q2) fun vu s3 ⟨u,H3,I3,pu,q3⟩=>?_)
  rw [evalPart_none]
  refine wpAny_pure ?_
  have I4:Inv X pins σ H3 { s3 with heap:=s3.heap.push { cls:=.type "slice",data:=.fields #[vl,vu,.none] } }:=I3.kept (t':=s3.toks) fun b ob q=>Heap.get?_push_of_some _ q
  obtain ⟨T,id,hT,ht,hg⟩:=hr pins { s3 with heap:=s3.heap.push { cls:=.type "slice",data:=.fields #[vl,vu,.none] } } σ H3 x v vl vu l u s3.heap.objs.size Q I4 r1 (Heap.IsSliceOf.new ..) pl pu q3
  show wpAny (model X.prog X.w) X.A (subscriptTail e (.Slice lo hi none p2) v (.ref s3.heap.objs.size)) (EP X pins σ Q) X.xe { s3 with heap:=s3.heap.push { cls:=.type "slice",data:=.fields #[vl,vu,.none] } }
  exact tail_any (ops:=[.ref s3.heap.objs.size,v]) ht hT hg (by with_unfolding_all rfl)
def cutV (xs:List V) (lo hi:Option Int):List V:=(xs.drop (HT.sIx xs.length 0 lo)).take (HT.sIx xs.length xs.length hi - HT.sIx xs.length 0 lo)
theorem cutV_length (xs:List V) (lo hi:Option Int):(cutV xs lo hi).length≤xs.length:=by
  unfold cutV
  rw [List.length_take,List.length_drop]
  omega
def rSlT (K:PySem.W.Frag):V→Option Int→Option Int→Hp→VK→Prop:=fun x lo hi H Q=>∃ a xs,x=.ref a∧SqT K H a xs ∧
  ¬ (HT.sIx xs.length 0 lo=0∧HT.sIx xs.length xs.length hi=xs.length)∧∀ p,H p=none→Q (.ref p) (upd H p (.tup (cutV xs lo hi)))
theorem sl_tup:SlR X (rSlT X.K):=by
  intro pins s σ H x v vl vu lo hi sl Q I rx hs pl pu h
  obtain ⟨a,xs,rfl,hx,hw,q⟩:=h
  cases rx
  obtain ⟨its,r,ht,hz⟩:=I.tuple hx
  have hlen:its.toArray.size=xs.length:=by rw [List.size_toArray]; exact r.length.symm
  refine ⟨"tuple",_,PyProof.Rows.slot_tuple_getitem.lookup,ht.typeIs,?_⟩
  refine HT.getItem_tuple_cut ht hs pl pu (by rw [hlen]; exact hw) ?_ (by rw [hlen]; exact hz)
  rw [hlen]
  refine ⟨.ref s.heap.objs.size,_,I.laid (t':=s.toks) (o:=.tup (cutV xs lo hi)) (fun b ob q=>Heap.get?_push_of_some _ q) (Nat.le_refl _) ?_,rfl,q _ (I.hok.fresh (Nat.le_refl _))⟩
  exact ⟨Nat.le_trans (cutV_length xs lo hi) hz,_,(r.drop (HT.sIx xs.length 0 lo)).take (HT.sIx xs.length xs.length hi - HT.sIx xs.length 0 lo),IsTup.new _ _⟩
def rCatT (K:PySem.W.Frag):R2:=fun x y H Q=>∃ a b xs ys,x=.ref a∧y=.ref b∧SqT K H a xs∧SqT K H b ys∧xs≠[]∧xs.length+ys.length≤sizeLine ∧
  (ys=[]→Q (.ref a) H)∧(ys≠[]→∀ p,H p=none→Q (.ref p) (upd H p (.tup (xs++ys))))
theorem Vals.nil_iff {xs:List V} {us:List Value} (r:Vals xs us):us=[]↔xs=[]:=by
  cases r with
  | nil=>simp
  | cons _ _=>simp
theorem op_catT:OpR X (binaryOp .Add) (rCatT X.K):=by
  intro pins s σ H x y v u Q I rx ry h
  obtain ⟨a,b,xs,ys,rfl,rfl,ha,hb,hx,hz,q1,q2⟩:=h
  cases rx
  cases ry
  obtain ⟨its,r1,p1,_⟩:=I.tuple ha
  obtain ⟨its2,r2,p2,_⟩:=I.tuple hb
  refine HT.cat_tup p1 p2 (fun z=>hx (r1.nil_iff.mp z)) (fun z=>⟨.ref a,H,I,rfl,q1 (r2.nil_iff.mp z)⟩) (fun z=>?_) (by rw [← r1.length,← r2.length]; exact hz)
  refine ⟨.ref s.heap.objs.size,_,I.laid (t':=s.toks) (o:=.tup (xs++ys)) (fun b ob q=>Heap.get?_push_of_some _ q) (Nat.le_refl _) ?_,rfl,q2 (fun w=>z (r2.nil_iff.mpr w)) _ (I.hok.fresh (Nat.le_refl _))⟩
  exact ⟨by rw [List.length_append]; exact hz,_,r1.append r2,IsTup.new _ _⟩
end
end L2
namespace L2
open PySem PySem.Spec PyProof.Rows
def ixN (n:Nat) (i:Int):Option Nat:=if 0≤i then (if i<n then some i.toNat else none) else if -(n:Int)≤i then some (i+n).toNat else none
def atI {α:Type} (xs:List α) (i:Int):Option α:=(ixN xs.length i).bind fun j=>xs[j]?
theorem ixN_seq {n:Nat} {i:Int} {j:Nat} (h:ixN n i=some j):seqIndex? i n=some j∧j<n∧-(n:Int)≤i∧i<n:=by
  unfold ixN at h
  by_cases h0:0≤i
  · rw [if_pos h0] at h
    by_cases h1:i<n
    · rw [if_pos h1] at h
      have e:i.toNat=j:=Option.some.inj h
      exact ⟨by rw [seqIndex_of h0 h1,e],by omega,by omega,h1⟩
    · rw [if_neg h1] at h; cases h
  · rw [if_neg h0] at h
    by_cases h1:-(n:Int)≤i
    · rw [if_pos h1] at h
      have e:(i+n).toNat=j:=Option.some.inj h
      exact ⟨by rw [seqIndex_neg (by omega) h1,e],by omega,h1,by omega⟩
    · rw [if_neg h1] at h; cases h
theorem atI_get {α:Type} {xs:List α} {i:Int} {v:α} (h:atI xs i=some v):∃ j,seqIndex? i xs.length=some j∧xs[j]?=some v∧j<xs.length∧-(xs.length:Int)≤i∧i<xs.length:=by
  unfold atI at h
  cases e:ixN xs.length i with
  | none=>rw [e] at h; cases h
  | some j =>
    rw [e] at h
    obtain ⟨h1,h2,h3,h4⟩:=ixN_seq e
    exact ⟨j,h1,h,h2,h3,h4⟩
theorem atI_nat {α:Type} {xs:List α} {j:Nat} {v:α} (h:xs[j]?=some v):atI xs (j:Int)=some v:=by
  have hj:j<xs.length:=(List.getElem?_eq_some_iff.mp h).1
  have e:ixN xs.length (j:Int)=some j:=by
    unfold ixN
    rw [if_pos (by omega),if_pos (by omega)]; simp
  unfold atI; rw [e]; exact h
theorem atI_last {α:Type} (xs:List α) (v:α):atI (xs++[v]) (-1)=some v:=by
  have hl:(xs++[v]).length=xs.length+1:=by simp
  have e:ixN (xs++[v]).length (-1)=some xs.length:=by
    unfold ixN
    rw [hl,if_neg (by decide),if_pos (by omega)]
    congr 1
    omega
  unfold atI
  rw [e]
  show (xs++[v])[xs.length]?=some v
  simp
def PlainIx (b:Expr):Prop:=∀ o i,subscripted b false o i=operate [o,i] (getItem o i)
def IxR (X:Cx) (r:R2):Prop :=
  ∀ (value slice:Expr) (pins:List (Addr×Obj)) (s:Shared) (σ:St) (H:Hp) (x y:V) (v u:Value) (Q:VK),Inv X pins σ H s→RelV x v→RelV y u→r x y H Q →
    subscripted slice false v u=operate [v,u] (getItem v u)→wpAny (model X.prog X.w) X.A (subscriptTail value slice v u) (EP X pins σ Q) X.xe s
def MtR (X:Cx) (id:String) (r:V→List V→Hp→VK→Prop):Prop :=
  ∀ (pins:List (Addr×Obj)) (s:Shared) (σ:St) (H:Hp) (x:V) (xs:List V) (v:Value) (us:List Value) (Q:VK),Inv X pins σ H s→RelV x v→Vals xs us→r x xs H Q →
    wpAny (model X.prog X.w) X.A (call (.builtin id) (v::us)) (EP X pins σ Q) X.xe s
section
variable {X:Cx} {a b:Expr} {ta tb:TE} {pos:Pos}
theorem pe_ix {r:R2} (hr:IxR X r) (ha:PE X a ta) (hb:PE X b tb) (hs:PlainIx b):PE X (.Subscript a b pos) (tOp r ta tb):=by
  intro pins s σ H Q I h
  exact Subscript_ (binT ha hb I h fun v u s2 x y H2 I2 rx ry q=>hr a b pins s2 σ H2 x y v u Q I2 rx ry q (hs _ _))
def rIxL (K:PySem.W.Frag):R2:=fun x y H Q=>∃ p xs i v,x=.ref p∧y=.int i∧SqL K H p xs∧atI xs i=some v∧Q v H
def rIxT (K:PySem.W.Frag):R2:=fun x y H Q=>∃ p xs i v,x=.ref p∧y=.int i∧SqT K H p xs∧atI xs i=some v∧Q v H
theorem ix_list:IxR X (rIxL X.K):=by
  intro value slice pins s σ H x y v u Q I rx ry h hs
  obtain ⟨p,xs,i,z,rfl,rfl,hq,he,q⟩:=h
  cases rx
  obtain ⟨t,rfl⟩:=ry
  obtain ⟨its,r,pl,hz⟩:=I.list hq
  obtain ⟨j,h1,h2,h3,h4,h5⟩:=atI_get he
  obtain ⟨w,ew,rw'⟩:=r.get h2
  have hl:=r.length
  have hn:=line63
  have fin:EP X pins σ Q w s:=⟨z,H,I,rw',q⟩
  by_cases h0:0≤i
  · have hj:i.toNat=j:=by
      rw [seqIndex_of h0 h5] at h1
      exact Option.some.inj h1
    exact item_listR pl.isList h0 (by omega) (by rw [hj]; simpa using ew) fin hs
  · have hj:(i+(its.toArray.size:Int)).toNat=j:=by
      rw [seqIndex_neg (by omega) h4] at h1
      rw [List.size_toArray,← hl]
      exact Option.some.inj h1
    exact subscriptTail_builtinR (x:=w) pl.isList.typeIs slot_list_getitem.lookup
      (wpAny_getItem_list_neg (Q:=fun r s'=>r=w∧EP X pins σ Q r s') pl.isList (by omega) (by rw [List.size_toArray] <;> omega) (by omega) (by rw [hj]; simpa using ew) ⟨rfl,fin⟩) hs
theorem ix_tup:IxR X (rIxT X.K):=by
  intro value slice pins s σ H x y v u Q I rx ry h hs
  obtain ⟨p,xs,i,z,rfl,rfl,hq,he,q⟩:=h
  cases rx
  obtain ⟨t,rfl⟩:=ry
  obtain ⟨its,r,pl,hz⟩:=I.tuple hq
  obtain ⟨j,h1,h2,h3,h4,h5⟩:=atI_get he
  obtain ⟨w,ew,rw'⟩:=r.get h2
  have hl:=r.length
  have hn:=line63
  have fin:EP X pins σ Q w s:=⟨z,H,I,rw',q⟩
  exact subscriptTail_builtinR (x:=w) pl.typeIs slot_tuple_getitem.lookup
    (getItem_tuple (j:=j) (Q:=fun r s'=>r=w∧EP X pins σ Q r s') pl (by omega) (by omega) (by rw [List.size_toArray,← hl]; exact h1) (by simpa using ew) ⟨rfl,fin⟩) hs
theorem mapSeq_set (its:List Value) (n j:Nat) (u:Value):Obj.mapSeq (·.setIfInBounds j u) { cls:=.type "list",data:=.seq its.toArray n }={ cls:=.type "list",data:=.seq (its.set j u).toArray n }:=by
  simp [Obj.mapSeq]
theorem Inv.lst {pins:List (Addr×Obj)} {σ:St} {H:Hp} {s:Shared} {p:Addr} {xs:List V} (I:Inv X pins σ H s) (h:H p=some (.lst xs)) :
    ∃ (its:List Value) (n:Nat),Vals xs its∧s.heap.get? p=some { cls:=.type "list",data:=.seq its.toArray n }∧xs.length≤sizeLine:=by
  obtain ⟨z,its,n,r,e⟩:=I.hok p _ h
  exact ⟨its,n,r,e,z⟩
theorem Inv.lstUpd {pins:List (Addr×Obj)} {σ:St} {H:Hp} {s:Shared} {p:Addr} {xs ys:List V} {its its':List Value} {n n':Nat} {f:Obj→Obj} (I:Inv X pins σ H s) (h:H p=some (.lst xs))
    (ho:s.heap.get? p=some { cls:=.type "list",data:=.seq its.toArray n }) (hf:f { cls:=.type "list",data:=.seq its.toArray n }={ cls:=.type "list",data:=.seq its'.toArray n' }) (r:Vals ys its') (hz:ys.length≤sizeLine) (t:Nat) :
    Inv X pins σ (upd H p (.lst ys)) { s with heap:=s.heap.update p f,toks:=t }:=by
  have e:(s.heap.update p f).get? p=some { cls:=.type "list",data:=.seq its'.toArray n' }:=by
    rw [Heap.get?_update_self f ho (by rw [hf] <;> rfl),hf]
  refine I.write (x:=p) (e:=p) (by rw [h]; trivial) (.inl rfl) (fun b u hb q=>(Heap.get?_update_other _ _ (Ne.symm hb)).trans q) ⟨_,e⟩ ?_
  exact ⟨hz,its',n',r,e⟩
def rSetL:V→V→V→Hp→(Hp→Prop)→Prop:=fun o i v H Q=>∃ p xs k j,o=.ref p∧i=.int k∧H p=some (.lst xs)∧ixN xs.length k=some j∧Q (upd H p (.lst (xs.set j v)))
theorem set_list:PSet X rSetL:=by
  intro pins s σ H o i v ov iv u Q I ro ri rv h
  obtain ⟨p,xs,k,j,rfl,rfl,hp,hj,q⟩:=h
  cases ro
  obtain ⟨t,rfl⟩:=ri
  obtain ⟨its,n,r,ho,hz⟩:=I.lst hp
  obtain ⟨h1,h2,h3,h4⟩:=ixN_seq hj
  have hl:=r.length
  have hn:=line63
  have I':Inv X pins σ (upd H p (.lst (xs.set j v))) { s with heap:=s.heap.update p (Obj.mapSeq (·.setIfInBounds j u)) } :=
    I.lstUpd hp ho (mapSeq_set its n j u) (r.set rv j) (by rw [List.length_set]; exact hz) s.toks
  by_cases h0:0≤k
  · have hk:k.toNat=j:=by
      rw [seqIndex_of h0 h4] at h1
      exact Option.some.inj h1
    exact PySem.W.ki_setAt ho h0 (by omega) (by rw [List.size_toArray,← hl]; exact h4) (by rw [hk]; exact ⟨_,I',q⟩)
  · have hk:(k+(its.toArray.size:Int)).toNat=j:=by
      rw [seqIndex_neg (by omega) h3] at h1
      rw [List.size_toArray,← hl]
      exact Option.some.inj h1
    exact PySem.W.ki_setBack ho (by omega) (by rw [List.size_toArray,← hl]; exact h3) (by omega) (by rw [hk]; exact ⟨_,I',q⟩)
theorem slice_bounds (lo hi:Option Int) (n:Nat):(sliceBounds lo hi none n).1=((HT.sIx n 0 lo:Nat):Int)∧(sliceBounds lo hi none n).2.1=((HT.sIx n n hi:Nat):Int)∧(sliceBounds lo hi none n).2.2=1:=by
  refine ⟨?_,?_,rfl⟩
  · cases lo with
    | none=>simp [sliceBounds,HT.sIx]
    | some i =>
      simp only [sliceBounds,HT.sIx,Option.getD_none,show (1:Int) > 0 by decide,if_true]
      by_cases h:i<0
      · simp only [h,if_true] <;> omega
      · simp only [h,if_false] <;> omega
  · cases hi with
    | none=>simp [sliceBounds,HT.sIx]
    | some i =>
      simp only [sliceBounds,HT.sIx,Option.getD_none,show (1:Int) > 0 by decide,if_true]
      by_cases h:i<0
      · simp only [h,if_true] <;> omega
      · simp only [h,if_false] <;> omega
theorem slicePick_cut (its:List Value) (lo hi:Option Int):slicePick its.toArray lo hi none=((its.drop (HT.sIx its.length 0 lo)).take (HT.sIx its.length its.length hi - HT.sIx its.length 0 lo)).toArray:=by
  obtain ⟨h1,h2,h3⟩:=slice_bounds lo hi its.toArray.size
  unfold slicePick
  rw [h1,h2,h3]
  simp only [sliceRange_one,pick_run,List.size_toArray] <;> rfl
def rSlL (K:PySem.W.Frag):V→Option Int→Option Int→Hp→VK→Prop:=fun x lo hi H Q=>∃ a xs,x=.ref a∧SqL K H a xs∧∀ p,H p=none→Q (.ref p) (upd H p (.lst (cutV xs lo hi)))
theorem sl_list:SlR X (rSlL X.K):=by
  intro pins s σ H x v vl vu lo hi sl Q I rx hs pl pu h
  obtain ⟨a,xs,rfl,hx,q⟩:=h
  cases rx
  obtain ⟨its,r,ht,hz⟩:=I.list hx
  have hlen:=r.length
  refine ⟨"list",_,slot_list_getitem.lookup,ht.isList.typeIs,?_⟩
  refine wpAny_getItem_list_slice ht.isList hs pl pu .none (by simp) ?_ (by rw [List.size_toArray] <;> omega)
  rw [slicePick_cut,← hlen]
  refine ⟨.ref s.heap.objs.size,_,I.laid (t':=s.toks) (o:=.lst (cutV xs lo hi)) (fun b ob q=>Heap.get?_push_of_some _ q) (Nat.le_refl _) ?_,rfl,q _ (I.hok.fresh (Nat.le_refl _))⟩
  exact ⟨Nat.le_trans (cutV_length xs lo hi) hz,_,0,(r.drop (HT.sIx xs.length 0 lo)).take (HT.sIx xs.length xs.length hi - HT.sIx xs.length 0 lo),Heap.get?_push_size _ rfl⟩
def flatV:V→Bool
  | .non=>true
  | .bl _=>true
  | .int _=>true
  | .str _=>true
  | _=>false
def eqV:V→V→Bool
  | .non,.non=>true
  | .bl a,.bl b=>a == b
  | .bl a,.int b=>(if a then 1 else 0) == b
  | .int a,.bl b=>a == (if b then 1 else 0)
  | .int a,.int b=>a == b
  | .str a,.str b=>a == b
  | _,_=>false
theorem eqAt_V {A:Around} {s:Shared} {y x:V} {u v:Value} (ry:RelV y u) (rx:RelV x v) (fy:flatV y=true) (fx:flatV x=true):SeqAt.EqAt A s u v (eqV y x):=by
  cases y with
  | non =>
    cases ry
    cases x with
    | non=>cases rx; exact SeqAt.EqAt.same _
    | bl b=>cases rx; exact SeqAt.EqAt.none_bool b
    | int b=>obtain ⟨t,rfl⟩:=rx; exact SeqAt.EqAt.none_int b t
    | str b=>obtain ⟨t,rfl⟩:=rx; exact SeqAt.EqAt.none_str b t
    | _=>exact absurd (show false=true from fx) Bool.false_ne_true
  | bl a =>
    cases ry
    cases x with
    | non=>cases rx; exact SeqAt.EqAt.bool_none a
    | bl b=>cases rx; exact SeqAt.EqAt.bool_bool a b
    | int b=>obtain ⟨t,rfl⟩:=rx; exact SeqAt.EqAt.bool_int a b t
    | str b=>obtain ⟨t,rfl⟩:=rx; exact SeqAt.EqAt.bool_str a b t
    | _=>exact absurd (show false=true from fx) Bool.false_ne_true
  | int a =>
    obtain ⟨t',rfl⟩:=ry
    cases x with
    | non=>cases rx; exact SeqAt.EqAt.int_none a t'
    | bl b=>cases rx; exact SeqAt.EqAt.int_bool a t' b
    | int b=>obtain ⟨t,rfl⟩:=rx; exact SeqAt.EqAt.int_int a t' b t
    | str b=>obtain ⟨t,rfl⟩:=rx; exact SeqAt.EqAt.int_str a t' b t
    | _=>exact absurd (show false=true from fx) Bool.false_ne_true
  | str a =>
    obtain ⟨t',rfl⟩:=ry
    cases x with
    | non=>cases rx; exact SeqAt.EqAt.str_none a t'
    | bl b=>cases rx; exact SeqAt.EqAt.str_bool a t' b
    | int b=>obtain ⟨t,rfl⟩:=rx; exact SeqAt.EqAt.str_int a t' b t
    | str b=>obtain ⟨t,rfl⟩:=rx; exact SeqAt.EqAt.str_str a t' b t
    | _=>exact absurd (show false=true from fx) Bool.false_ne_true
  | _=>exact absurd (show false=true from fy) Bool.false_ne_true
def eqU (x:V) (u:Value):Bool:=match u with
  | .none=>eqV .non x
  | .bool b=>eqV (.bl b) x
  | .int i _=>eqV (.int i) x
  | .str z _=>eqV (.str z) x
  | _=>false
theorem eqU_of {x y:V} {u:Value} (r:RelV y u) (f:flatV y=true):eqU x u=eqV y x:=by
  cases y with
  | non=>cases r; rfl
  | bl b=>cases r; rfl
  | int i=>obtain ⟨t,rfl⟩:=r; rfl
  | str z=>obtain ⟨t,rfl⟩:=r; rfl
  | _=>exact absurd (show false=true from f) Bool.false_ne_true
theorem any_eqU {x:V}:∀ {xs:List V} {us:List Value},Vals xs us→xs.all flatV=true→us.any (eqU x)=xs.any fun y=>eqV y x
  | _,_,.nil,_=>rfl
  | y::xs,u::us,.cons r t,f=>by
    rw [List.all_cons,Bool.and_eq_true] at f
    rw [List.any_cons,List.any_cons,eqU_of r f.1,any_eqU t f.2]
theorem mem_eqAt {A:Around} {s:Shared} {x:V} {v:Value} (rx:RelV x v) (fx:flatV x=true):∀ {xs:List V} {us:List Value},Vals xs us→xs.all flatV=true→∀ u ∈ us,SeqAt.EqAt A s u v (eqU x u)
  | _,_,.nil,_=>fun u hu=>by cases hu
  | y::xs,u::us,.cons r t,f=>fun u' hu=>by
    rw [List.all_cons,Bool.and_eq_true] at f
    rcases List.mem_cons.mp hu with rfl | hu
    · rw [eqU_of r f.1]; exact eqAt_V r rx f.1 fx
    · exact mem_eqAt rx fx t f.2 u' hu
def inV (x:V) (xs:List V):Bool:=xs.any fun y=>eqV y x
def rIn (K:PySem.W.Frag) (neg:Bool):R2:=fun x y H Q=>∃ p xs,y=.ref p∧(SqL K H p xs∨SqT K H p xs)∧flatV x=true∧xs.all flatV=true∧Q (.bl (if neg then !inV x xs else inV x xs)) H
theorem op_in_seq:OpR X (compareOp .In) (rIn X.K false):=by
  intro pins s σ H x y v u Q I rx ry h
  obtain ⟨p,xs,rfl,hq,fx,fs,q⟩:=h
  cases ry
  rcases hq with hq | hq
  · obtain ⟨its,r,pl,hz⟩:=I.list hq
    refine SeqAt.in_listAt (eqU x) pl.isList (fun w hw=>mem_eqAt rx fx r fs w (by simpa using hw)) ⟨.bl _,H,I,rfl,?_⟩
    rw [show its.toArray.any (eqU x)=its.any (eqU x) by simp,any_eqU r fs]
    exact q
  · obtain ⟨its,r,pl,hz⟩:=I.tuple hq
    refine SeqAt.in_tupleAt (eqU x) pl (fun w hw=>mem_eqAt rx fx r fs w (by simpa using hw)) ⟨.bl _,H,I,rfl,?_⟩
    rw [show its.toArray.any (eqU x)=its.any (eqU x) by simp,any_eqU r fs]
    exact q
theorem call_len_seq:CallR X (.builtin "len") (fun xs H Q=>∃ p ys,xs=[.ref p]∧(SqL X.K H p ys∨SqT X.K H p ys)∧Q (.int ys.length) H):=by
  intro pins s σ H xs us Q I r h
  obtain ⟨p,ys,rfl,hq,q⟩:=h
  obtain ⟨u,rfl,rx⟩:=vals1 r
  cases rx
  have hn:=line63
  rcases hq with hq | hq
  · obtain ⟨its,r',pl,hz⟩:=I.list hq
    have hlen:=r'.length
    exact Calls.call_len_list pl.isList (by simp only [List.size_toArray] <;> omega) ⟨.int ys.length,H,I.tok _,⟨s.toks+1,by rw [List.size_toArray,hlen]⟩,q⟩
  · obtain ⟨its,r',pl,hz⟩:=I.tuple hq
    have hlen:=r'.length
    exact len_tuple pl (by simp only [List.size_toArray] <;> omega) ⟨.int ys.length,H,I.tok _,⟨s.toks+1,by rw [List.size_toArray,hlen]⟩,q⟩
theorem call_list_of:CallR X (.type "list") (fun xs H Q=>∃ p ys,xs=[.ref p]∧(SqL X.K H p ys∨SqT X.K H p ys)∧∀ l,H l=none→Q (.ref l) (upd H l (.lst ys))):=by
  intro pins s σ H xs us Q I r h
  obtain ⟨p,ys,rfl,hq,q⟩:=h
  obtain ⟨u,rfl,rx⟩:=vals1 r
  cases rx
  have fin:∀ (its:List Value),Vals ys its→ys.length≤sizeLine→∀ (h':Heap) (c':Nat),(∀ b o',s.heap.get? b=some o'→h'.get? b=some o') →
      h'.get? s.heap.objs.size=some { cls:=.type "list",dict:=none,data:=.seq its.toArray c',slots:=#[] }→EP X pins σ Q (.ref s.heap.objs.size) { s with heap:=h' }:=fun its r' hz h' c' kp e =>
    ⟨.ref s.heap.objs.size,_,I.laid (t':=s.toks) kp (Nat.le_refl _) (show ObjOk X.prog X.w _ h' _ (.lst ys) from ⟨hz,its,c',r',e⟩),rfl,q _ (I.hok.fresh (Nat.le_refl _))⟩
  rcases hq with hq | hq
  · obtain ⟨its,r',pl,hz⟩:=I.list hq
    have hlen:=r'.length
    obtain ⟨o,ho,hc,n,hd⟩:=pl.isList
    exact call_list_seq p (.inl rfl) ho hc hd (fun h' c' kp e=>fin its r' hz h' c' kp e) (by simp only [List.size_toArray] <;> omega)
  · obtain ⟨its,r',pl,hz⟩:=I.tuple hq
    have hlen:=r'.length
    obtain ⟨o,ho,hc,n,hd⟩:=pl
    exact call_list_seq p (.inr rfl) ho hc hd (fun h' c' kp e=>fin its r' hz h' c' kp e) (by simp only [List.size_toArray] <;> omega)
def tyV (K:PySem.W.Frag) (T:String) (x:V) (H:Hp):Prop:=match x with
  | .str _=>T="str"
  | .int _=>T="int"
  | .ref p=>(T="list"∧∃ xs,SqL K H p xs)∨(T="tuple"∧∃ o,K.lookup p=some o∧o.cls=.type "tuple"∧o.dict=none) ∨
      (T="dict"∧((∃ kvs,H p=some (.dK kvs))∨∃ kvs,H p=some (.dT kvs)))∨(T="set"∧∃ S n,H p=some (.set S n))
  | _=>False
theorem tyV_is {pins:List (Addr×Obj)} {σ:St} {H:Hp} {s:Shared} {T:String} {x:V} {v:Value} (I:Inv X pins σ H s) (r:RelV x v) (ty:tyV X.K T x H) :
    s.TypeIs v T∧∀ a,v=.ref a→∃ ob,s.heap.get? a=some ob∧ob.dict=none:=by
  cases x with
  | str z =>
    obtain ⟨t,rfl⟩:=r
    cases (show T="str" from ty)
    exact ⟨typeIs_str s z t,fun _ e=>nomatch e⟩
  | int i =>
    obtain ⟨t,rfl⟩:=r
    cases (show T="int" from ty)
    exact ⟨typeIs_int s i t,fun _ e=>nomatch e⟩
  | ref p =>
    cases r
    rcases ty with ⟨rfl,xs,hq⟩ | ⟨rfl,o,hk,hc,hd⟩ | ⟨rfl,hk⟩ | ⟨rfl,S,n,hk⟩
    · obtain ⟨its,_,pl,_⟩:=I.list hq
      refine ⟨pl.isList.typeIs,fun a e=>?_⟩
      cases e
      obtain ⟨o,n,e,c,hd,_⟩:=pl
      exact ⟨o,e,hd⟩
    · refine ⟨⟨o,I.kIn p o hk,hc⟩,fun a e=>?_⟩
      cases e
      exact ⟨o,I.kIn _ o hk,hd⟩
    · have z:∃ o,s.heap.get? p=some o∧o.ExactDict:=by
        rcases hk with ⟨kvs,hk⟩ | ⟨kvs,hk⟩
        · obtain ⟨_,_,_,_,o,_,_,e,ex,_⟩:=I.hok p _ hk
          exact ⟨o,e,ex⟩
        · obtain ⟨_,_,_,_,o,_,_,e,ex,_⟩:=I.hok p _ hk
          exact ⟨o,e,ex⟩
      obtain ⟨o,e,ex⟩:=z
      refine ⟨⟨o,e,ex.1⟩,fun a e2=>?_⟩
      cases e2
      exact ⟨o,e,ex.2.1⟩
    · obtain ⟨o,_,_,_,e,ex,_⟩:=I.hok p _ hk
      refine ⟨⟨o,e,ex.1⟩,fun a e2=>?_⟩
      cases e2
      exact ⟨o,e,ex.2.1⟩
  | _=>exact False.elim ty
def tBM (K:PySem.W.Frag) (T:String) (r:V→List V→Hp→VK→Prop) (to:TE) (t:TA):TE:=fun σ H Q=>to σ H fun x H1=>tyV K T x H1∧t σ H1 fun xs H2=>r x xs H2 Q
variable {o e:Expr} {es:List Expr} {to:TE} {t:TA} {name:Str} {apos cpos:Pos} {T id:String} {r:V→List V→Hp→VK→Prop}
theorem pe_bm (pa:PlainAttrs T) (slot:Slot T name id) (hty:typeOf (.builtin id)=pure (.type "method_descriptor")) (hm:MtR X id r) (ho:PE X o to) (ha:PA X (e::es) t)
    (hbase:attributeBase o name X.env (eval o X.env)=eval o X.env:=by rfl)
    (hfew:((backTo cpos (starEach (e::es) X.env)).all (fun x=>!x.1) && (backToKw cpos (keywordEach [] X.env)).all (fun x=>x.1.isSome)
      && decide ((e::es).length+([]:List Keyword).length+(if ([]:List Keyword).isEmpty then 0 else 1)<30))=true:=by rfl)
    (hline:(apos.endLine == cpos.line)=true:=by rfl) (hs:starEach (e::es) X.env=(false,eval e X.env)::starEach es X.env:=by rfl) (hplain:(backTo cpos (starEach es X.env)).any (·.1)=false:=by rfl) :
    PE X (.Call (.Attribute o name apos) (e::es) [] cpos) (tBM X.K T r to t):=by
  intro pins s σ H Q I h
  refine wpAny_Call_method_late hbase hfew hline rfl (thn (ho pins s σ H _ I h) fun v s1 ⟨x,H1,I1,r1,ty,q1⟩=>?_)
  obtain ⟨h1,h2⟩:=tyV_is I1 r1 ty
  refine ⟨T,id,pa,slot,hty,h1,h2,?_⟩
  have hA:=ha cpos pins s1 σ H1 _ I1 q1
  rw [hs] at hA ⊢
  refine Calls.callWith_builtin (by show (false || (backTo cpos (starEach es X.env)).any (·.1))=false; rw [hplain] <;> rfl) (Calls.evalArgs_plain ?_)
  exact thn hA fun us s2 ⟨vs,H2,I2,r2,q2⟩=>hm pins s2 σ H2 x vs v us Q I2 r1 r2 q2
end
end L2
namespace L2
open PySem PySem.Spec PyProof.Rows
def MtM (X:Cx) (id:String) (r:V→List V→Hp→VK→Prop):Prop :=
  ∀ (pins:List (Addr×Obj)) (s:Shared) (σ:St) (H:Hp) (x:V) (xs:List V) (v:Value) (us:List Value) (Q:VK),Inv X pins σ H s→RelV x v→Vals xs us→r x xs H Q →
    wpAny (model X.prog X.w) X.A (call (.builtin id) (v::us)) (EP X pins σ Q) X.xe s
theorem Vals.one:∀ {x:V} {us:List Value},Vals [x] us→∃ u,us=[u]∧RelV x u
  | _,_,.cons r .nil=>⟨_,rfl,r⟩
theorem Vals.eraseIdx:∀ {xs:List V} {us:List Value} (i:Nat),Vals xs us→Vals (xs.eraseIdx i) (us.eraseIdx i)
  | _,_,_,.nil=>.nil
  | _,_,0,.cons _ t=>t
  | _,_,i+1,.cons r t=>.cons r (Vals.eraseIdx i t)
theorem Vals.rep {xs:List V} {us:List Value} (h:Vals xs us):∀ k:Nat,Vals (List.replicate k xs).flatten (List.replicate k us).flatten
  | 0=>.nil
  | k+1=>by
    rw [List.replicate_succ,List.replicate_succ,List.flatten_cons,List.flatten_cons]
    exact Vals.append h (Vals.rep h k)
theorem len_erase {α:Type}:∀ (l:List α) (i:Nat),(l.eraseIdx i).length≤l.length
  | [],_=>Nat.le_refl _
  | _::_,0=>Nat.le_succ _
  | _::r,i+1=>Nat.succ_le_succ (len_erase r i)
theorem foldl_rep (its:List Value):∀ (k:Nat) (acc:List Value),
    List.foldl (fun x1 x2=>x1++x2) acc.toArray (List.replicate k its.toArray)=(acc++(List.replicate k its).flatten).toArray
  | 0,acc=>by simp
  | k+1,acc=>by
    have e:acc.toArray++its.toArray=(acc++its).toArray:=by simp
    have e2:(acc++its)++(List.replicate k its).flatten=acc++(List.replicate (k+1) its).flatten:=by
      rw [List.replicate_succ,List.flatten_cons,List.append_assoc]
    rw [← e2,← foldl_rep its k (acc++its),← e,List.replicate_succ,List.foldl_cons]
section
variable {X:Cx} {pins:List (Addr×Obj)} {σ:St} {H:Hp} {s:Shared} {l b:Addr} {xs ys zs:List V}
theorem Inv.lset {its its':List Value} {n:Nat} {f:Array Value→Array Value} {t':Nat} (I:Inv X pins σ H s) (hH:H l=some (.lst xs))
    (e:s.heap.get? l=some { cls:=.type "list",data:=.seq its.toArray n }) (hf:f its.toArray=its'.toArray) (hv:Vals ys its') (hz:ys.length≤sizeLine) :
    Inv X pins σ (upd H l (.lst ys)) { s with heap:=s.heap.update l (Obj.mapSeq f),toks:=t' }:=by
  have q:=PySem.IsL.update e f
  rw [hf] at q
  refine I.write (x:=l) (e:=l) (by rw [hH]; exact trivial) (.inl rfl) (fun b' u hb hu=>(Heap.get?_update_other s.heap (Obj.mapSeq f) (Ne.symm hb)).trans hu) ⟨_,q⟩ ?_
  exact ⟨hz,its',_,hv,q⟩
theorem Inv.lnew {its:List Value} {t':Nat} (I:Inv X pins σ H s) (hv:Vals ys its) (hz:ys.length≤sizeLine) :
    Inv X pins σ (upd H s.heap.objs.size (.lst ys)) { s with heap:=s.heap.push { cls:=.type "list",data:=.seq its.toArray },toks:=t' } :=
  I.laid (fun _ _ q=>Heap.get?_push_of_some _ q) (Nat.le_refl _) ⟨hz,its,0,hv,Heap.get?_push_size _ rfl⟩
theorem Inv.fresh (I:Inv X pins σ H s):H s.heap.objs.size=none:=I.hok.fresh (Nat.le_refl _)
theorem Inv.lstM (I:Inv X pins σ H s) (hH:H l=some (.lst xs)):xs.length≤sizeLine∧∃ (its:List Value) (n:Nat),Vals xs its∧xs.length=its.length∧s.heap.get? l=some { cls:=.type "list",data:=.seq its.toArray n }:=by
  obtain ⟨z,its,n,r,e⟩:=I.hok l _ hH
  exact ⟨z,its,n,r,r.length,e⟩
theorem notLongL {n:Nat} (h:n≤sizeLine):Builtin.List.listTooLong n=false:=by
  unfold Builtin.List.listTooLong
  exact decide_eq_false (by omega)
end
section
variable {X:Cx}
def rAppend:V→List V→Hp→VK→Prop:=fun x vs H Q=>∃ l xs y,x=.ref l∧vs=[y]∧H l=some (.lst xs)∧xs.length<sizeLine∧Q .non (upd H l (.lst (xs++[y])))
theorem mt_append:MtM X "list.append" rAppend:=by
  intro pins s σ H x vs v us Q I rx rv h
  obtain ⟨l,xs,y,rfl,rfl,hH,hz,q⟩:=h
  cases rx
  obtain ⟨u,rfl,ru⟩:=rv.one
  obtain ⟨z,its,n,r,hl,e⟩:=I.lstM hH
  refine call_meets F.slot_list_append ⟨_,e,rfl⟩ F.entry_list_append (F.args_list_append_2 _ _) (PySem.list_append l its.toArray n u (by rw [List.size_toArray]; omega)) ⟨e,?_⟩
  refine ⟨.non,_,I.lset (its':=its++[u]) hH e (by simp) (r.append (.cons ru .nil)) ?_,rfl,q⟩
  rw [List.length_append,List.length_singleton]
  omega
def rExtend:V→List V→Hp→VK→Prop:=fun x vs H Q=>∃ l b xs zs,x=.ref l∧vs=[.ref b]∧H l=some (.lst xs)∧H b=some (.lst zs)∧xs.length+zs.length≤sizeLine∧Q .non (upd H l (.lst (xs++zs)))
theorem mt_extend:MtM X "list.extend" rExtend:=by
  intro pins s σ H x vs v us Q I rx rv h
  obtain ⟨l,b,xs,zs,rfl,rfl,hH,hB,hz,q⟩:=h
  cases rx
  obtain ⟨u,rfl,ru⟩:=rv.one
  cases ru
  obtain ⟨z,its,n,r,hl,e⟩:=I.lstM hH
  obtain ⟨z2,its2,n2,r2,hl2,e2⟩:=I.lstM hB
  have hsz:its.toArray.size+its2.toArray.size≤sizeLine:=by rw [List.size_toArray,List.size_toArray]; omega
  have hlong:¬ (!its.toArray.isEmpty && Builtin.List.listTooLong (its.toArray.size+its2.toArray.size))=true:=by
    rw [notLongL hsz,Bool.and_false]
    exact Bool.false_ne_true
  refine call_meets F.slot_list_extend ⟨_,e,rfl⟩ F.entry_list_extend (F.args_list_extend_2 _ _)
    (AutoSeq1.list_extend_list_list_0 l its.toArray n b its2.toArray n2 hlong (by rw [List.size_toArray]; omega) (by omega)) ⟨e,e2,?_⟩
  refine ⟨.non,_,I.lset (its':=its++its2) hH e (by simp) (r.append r2) ?_,rfl,q⟩
  rw [List.length_append]
  omega
def rCat:R2:=fun x y H Q=>∃ l b xs zs,x=.ref l∧y=.ref b∧H l=some (.lst xs)∧H b=some (.lst zs)∧xs.length+zs.length≤sizeLine∧∀ p,H p=none→Q (.ref p) (upd H p (.lst (xs++zs)))
theorem op_cat:OpR X (binaryOp .Add) rCat:=by
  intro pins s σ H x y v u Q I rx ry h
  obtain ⟨l,b,xs,zs,rfl,rfl,hH,hB,hz,q⟩:=h
  cases rx
  cases ry
  obtain ⟨z,its,n,r,hl,e⟩:=I.lstM hH
  obtain ⟨z2,its2,n2,r2,hl2,e2⟩:=I.lstM hB
  refine PySem.P.add_list e e2 ?_ (by rw [List.size_toArray,List.size_toArray]; omega)
  have ea:its.toArray++its2.toArray=(its++its2).toArray:=by simp
  rw [ea]
  exact ⟨.ref _,_,I.lnew (t':=s.toks) (r.append r2) (by rw [List.length_append]; omega),rfl,q _ I.fresh⟩
def rRep:R2:=fun x y H Q=>∃ l k xs,x=.ref l∧y=.int k∧H l=some (.lst xs)∧-(2 ^ 63)≤k∧k<2 ^ 63∧xs.length * k.toNat≤sizeLine ∧
  ∀ p,H p=none→Q (.ref p) (upd H p (.lst (List.replicate k.toNat xs).flatten))
theorem len_rep {α:Type} (xs:List α) (k:Nat):(List.replicate k xs).flatten.length=k * xs.length:=by
  induction k with
  | zero=>simp
  | succ k ih=>rw [List.replicate_succ,List.flatten_cons,List.length_append,ih,Nat.succ_mul,Nat.add_comm]
theorem op_rep:OpR X (binaryOp .Mult) rRep:=by
  intro pins s σ H x y v u Q I rx ry h
  obtain ⟨l,k,xs,rfl,rfl,hH,h1,h2,hz,q⟩:=h
  cases rx
  obtain ⟨t,rfl⟩:=ry
  obtain ⟨z,its,n,r,hl,e⟩:=I.lstM hH
  have hlen:its.toArray.size * k.toNat≤sizeLine:=by rw [List.size_toArray,← hl]; exact hz
  have hcap:¬ its.toArray.size * k.toNat > (2 ^ 63 - 1) / 8:=by
    have:(sizeLine:Nat)≤(2 ^ 63 - 1) / 8:=by decide
    omega
  have hfit:¬ (!Builtin.List.listFitsIndex k)=true:=by
    rw [fitsIndex_both h1 h2]
    exact Bool.false_ne_true
  have hlong:¬ Builtin.List.listTooLong (its.toArray.size * k.toNat)=true:=by
    rw [notLongL hlen]
    exact Bool.false_ne_true
  have hnew:List.foldl (fun x1 x2=>x1++x2) #[] (List.replicate (if its.toArray.isEmpty=true then 0 else k.toNat) its.toArray)=(List.replicate k.toNat its).flatten.toArray:=by
    have f0:∀ m:Nat,List.foldl (fun x1 x2=>x1++x2) #[] (List.replicate m its.toArray)=(List.replicate m its).flatten.toArray:=fun m=>by
      have:=foldl_rep its m []
      rw [List.nil_append] at this
      exact this
    rw [f0]
    cases its with
    | nil=>simp
    | cons a r'=>rw [if_neg (by simp)]
  refine wpAny_binaryOp_repeat_ref (T:="list") (U:="int") (by decide) ⟨_,e,rfl⟩ (fun s'=>typeIs_int s' k t) noFill_list_mul F.fills_int_mul F.slot_int_rmul repeat_list F.slot_int_index.lookup
    (call_meets F.slot_int_rmul (typeIs_int s k t) F.entry_int_rmul (F.args_int_rmul_2 _ _) (int___rmul___int_list k t l its.toArray n)
      ⟨e,rfl,⟨_,e,rfl⟩,call_meets F.slot_list_mul ⟨_,e,rfl⟩ F.entry_list_mul (F.args_list_mul_2 _ _) (AutoListH.list___mul___list_int_3 l its.toArray n k t hfit hcap hlong) ⟨e,?_⟩⟩)
  rw [hnew]
  exact ⟨.ref _,_,I.lnew (t':=s.toks) (r.rep k.toNat) (by rw [len_rep,Nat.mul_comm]; exact hz),rfl,q _ I.fresh⟩
end
end L2
namespace L2
open PySem PySem.Spec PyProof.Rows
theorem Vals.ints:∀ {ns:List Int} {us:List Value},Vals (ns.map V.int) us→IntsAre us ns
  | [],us,h=>by
    rw [List.map_nil] at h
    cases h
    exact IntsAre.nil
  | n::ns,us,h=>by
    rw [List.map_cons] at h
    cases h with
    | cons r t =>
      obtain ⟨k,rfl⟩:=r
      exact IntsAre.cons n k (Vals.ints t)
theorem Vals.bls:∀ {bs:List Bool} {us:List Value},Vals (bs.map V.bl) us→us=bs.map Value.bool
  | [],us,h=>by
    rw [List.map_nil] at h
    cases h
    rfl
  | b::bs,us,h=>by
    rw [List.map_cons] at h
    cases h with
    | cons r t =>
      cases r
      rw [Vals.bls t,List.map_cons]
theorem Vals.ref1 {a:Addr} {us:List Value} (r:Vals [V.ref a] us):us=[Value.ref a]:=by
  cases r with
  | cons r t =>
    cases t
    cases r
    rfl
section
variable {prog:Program} {w:World} {A:Around} {E:Value→Shared→Prop} {s:Shared} {l:Addr} {its:List Value} {ns:List Int} {Q:Value→Shared→Prop}
theorem sum_raw (hh:A.handled=none) (hl:s.heap.IsList l its.toArray) (hi:IntsAre its ns)
    (h:∀ h' tk t',(∀ b o,s.heap.get? b=some o→h'.get? b=some o)→Q (.int ns.sum t') { s with heap:=h',toks:=tk }):wpAny (model prog w) A (call (.builtin "sum") [.ref l]) Q E s:=by
  obtain ⟨xs,e⟩:=hi.allInts.items
  have hn:numsOf (intItems xs).toList=ns:=by rw [← e]; exact hi.numsOf
  rw [nums_intItems] at hn
  rw [e] at hl
  refine PySem.sum_intListG hh hl fun h' tk t' hk=>?_
  have:=h h' tk t' hk
  rw [preSum_eq,List.take_of_length_le (by simp),hn]; exact this
end
section
variable {X:Cx}
def rSum (K:PySem.W.Frag):List V→Hp→VK→Prop:=fun vs H Q=>∃ (a:Addr) (ns:List Int),vs=[V.ref a]∧SqL K H a (ns.map V.int)∧Q (.int ns.sum) H
theorem cr_sum (hc:X.calm=true):CallR X (.builtin "sum") (rSum X.K):=by
  intro pins s σ H vs us Q I r h
  obtain ⟨a,ns,rfl,hs,q⟩:=h
  obtain ⟨its,rv,hl,_⟩:=I.list hs
  rw [Vals.ref1 r]
  exact sum_raw (I.ok.hd hc) hl.isList rv.ints fun h' tk t' hk=>⟨.int _,H,I.kept hk,⟨_,rfl⟩,q⟩
end
theorem iter_any {prog:Program} {w:World} {A:Around} {E:Value→Shared→Prop} {s:Shared} {l:Addr} {items:Array Value} {Q:Value→Shared→Prop} (hl:s.heap.IsList l items)
    (h:∀ s₂:Shared,s₂={ s with heap:=s.heap.push { cls:=.type "list_iterator",data:=.fields #[.ref l,.int 0 0] } } →
      (s₂.heap.IsListIter s.heap.objs.size l 0∧s₂.heap.IsList l items)→l≠s.heap.objs.size→Q (.ref s.heap.objs.size) s₂):wpAny (model prog w) A (pyIter (.ref l)) Q E s:=by
  have hlt:l<s.heap.objs.size:=by obtain ⟨_,e,_⟩:=hl; exact Heap.lt_size e
  exact wpAny_pyIter_list hl (h _ rfl ⟨⟨_,Heap.get?_push_size _ rfl,rfl,rfl⟩,hl.push _⟩ (Nat.ne_of_lt hlt))
theorem truth_bools {prog:Program} {w:World} {A:Around} {bs:List Bool} {its:List Value} (e:its=bs.map Value.bool) :
    TruthOf prog w A (fun i v=>its.toArray[i]?=some v) (fun i=>bs.getD i false):=fun i v s Q E hv hq=>by
  have hv':its[i]?=some v:=by simpa using hv
  rw [e,List.getElem?_map] at hv'
  obtain ⟨b,hb,rfl⟩:=Option.map_eq_some_iff.mp hv'
  have hg:bs.getD i false=b:=by rw [List.getD_eq_getElem?_getD,hb] <;> rfl
  have hq':Q (bs.getD i false) s:=hq
  rw [hg] at hq'
  exact wpAny_truthy_bool hq'
theorem any_range:∀ bs:List Bool,(List.range bs.length).any (fun i=>bs.getD i false)=bs.any id
  | []=>rfl
  | b::bs=>by
    rw [List.length_cons,List.range_succ_eq_map,List.any_cons,List.any_map,List.any_cons,← any_range bs]
    all_goals rfl
theorem all_range:∀ bs:List Bool,(List.range bs.length).all (fun i=>bs.getD i false)=bs.all id
  | []=>rfl
  | b::bs=>by
    rw [List.length_cons,List.range_succ_eq_map,List.all_cons,List.all_map,List.all_cons,← all_range bs]
    all_goals rfl
section
variable {X:Cx}
def rAll (K:PySem.W.Frag):List V→Hp→VK→Prop:=fun vs H Q=>∃ (a:Addr) (bs:List Bool),vs=[V.ref a]∧SqL K H a (bs.map V.bl)∧Q (.bl (bs.all id)) H
theorem cr_all (hc:X.calm=true):CallR X (.builtin "all") (rAll X.K):=by
  intro pins s σ H vs us Q I r h
  obtain ⟨a,bs,rfl,hs,q⟩:=h
  obtain ⟨its,rv,hl,_⟩:=I.list hs
  rw [Vals.ref1 r]
  have hb:=rv.bls
  refine call_all_walk (iter_any hl.isList fun s₂ e2 st hne=>?_)
  subst e2
  refine ⟨_,_,_,_,_,_,_,rfl,Walks.list (A:=X.A.in1) (I.ok.hd hc) _ a hne its.toArray,st,truth_bools hb,fun h' tk hk=>?_⟩
  refine ⟨.bl _,H,I.kept fun b o eo=>hk b o (fun hmem=>?_) (Heap.get?_push_of_some _ eo),?_,q⟩
  · rcases List.mem_cons.mp hmem with e1 | hmem
    · exact absurd (e1 ▸ Heap.lt_size eo) (Nat.lt_irrefl _)
    · cases hmem
  · show Value.bool _=Value.bool _
    rw [← all_range,hb,List.size_toArray,List.length_map]
end
end L2
namespace L2
open PySem PySem.Spec PyProof.Rows
abbrev CellAt (h:Heap) (c:Addr) (v:Option Value):Prop:=h.IsCell c v
def relS (scope sc:Scope):Scope :=
  { scope with names:=scope.names.map fun (n,k)=>if (k == .free && sc.kind == .function && sc.names.lookup n == some .cell) then (n,.cell) else (n,k) }
def cloFrom (cells:List (Str×Addr)):List (Str×NameKind)→List (Str×Addr)→List (Str×Addr)
  | [],acc=>acc
  | (n,k)::r,acc=>if k == .free then cloFrom cells r ((n,(cells.lookup n).getD 0)::acc) else cloFrom cells r acc
theorem closure_loop (env:Env) (f:Str×NameKind→List (Str×Addr)→Sem (ForInStep (List (Str×Addr))))
    (hf:∀ n k c,f (n,k) c=if k == .free then (do let a ← cellOf env n; pure (.yield ((n,a)::c))) else pure (.yield c)) :
    ∀ (names:List (Str×NameKind)) (acc:List (Str×Addr)),(∀ y ∈ names,y.2=.free→∃ c,env.cells.lookup y.1=some c)→forIn names acc f=pure (cloFrom env.cells names acc)
  | [],acc,_=>by rw [List.forIn_nil]; rfl
  | (n,k)::r,acc,h=>by
    rw [List.forIn_cons,hf]
    have ih:=fun acc=>closure_loop env f hf r acc fun y hy=>h y (List.mem_cons_of_mem _ hy)
    unfold cloFrom
    by_cases hk:(k == NameKind.free)=true
    · rw [if_pos hk,if_pos hk]
      obtain ⟨c,hc⟩:=h (n,k) List.mem_cons_self (by simpa using hk)
      have e:cellOf env n=pure c:=by unfold cellOf; rw [hc]
      rw [e]
      have e2:(env.cells.lookup n).getD 0=c:=by rw [hc]; rfl
      rw [e2]
      exact ih _
    · rw [if_neg hk,if_neg hk]
      exact ih _
theorem closure_ok {scope:Scope} {env:Env} (h:∀ y ∈ scope.names,y.2=.free→∃ c,env.cells.lookup y.1=some c):closureFor scope env=pure (cloFrom env.cells scope.names []):=by
  simp only [closureFor]
  rw [closure_loop env _ (fun n k c=>rfl) scope.names [] h]
  rfl
theorem mem_lookup {α:Type}:∀ {l:List (Str×α)} {n:Str} {c:α},(n,c) ∈ l→∃ c',l.lookup n=some c'
  | (k,v)::r,n,c,h=>by
    rw [List.lookup_cons]
    cases hb:n == k with
    | true=>exact ⟨_,rfl⟩
    | false =>
      rcases List.mem_cons.mp h with e | h
      · cases e; simp at hb
      · exact mem_lookup h
theorem cloFrom_mem {cells:List (Str×Addr)}:∀ {names:List (Str×NameKind)} {acc:List (Str×Addr)} {n:Str} {c:Addr},(n,c) ∈ cloFrom cells names acc→(n,c) ∈ acc∨((n,.free) ∈ names∧c=(cells.lookup n).getD 0)
  | [],_,_,_,h=>.inl h
  | (m,k)::r,acc,n,c,h=>by
    unfold cloFrom at h
    split at h
    · rename_i hk
      have hk:k=.free:=by simpa using hk
      rcases cloFrom_mem h with h | ⟨h1,h2⟩
      · rcases List.mem_cons.mp h with e | h
        · cases e; exact .inr ⟨hk ▸ List.mem_cons_self,rfl⟩
        · exact .inl h
      · exact .inr ⟨List.mem_cons_of_mem _ h1,h2⟩
    · rcases cloFrom_mem h with h | ⟨h1,h2⟩
      · exact .inl h
      · exact .inr ⟨List.mem_cons_of_mem _ h1,h2⟩
theorem cloFrom_acc {cells:List (Str×Addr)}:∀ {names:List (Str×NameKind)} {acc:List (Str×Addr)} {p:Str×Addr},p ∈ acc→p ∈ cloFrom cells names acc
  | [],_,_,h=>h
  | (m,k)::r,acc,p,h=>by
    unfold cloFrom
    split
    · exact cloFrom_acc (List.mem_cons_of_mem _ h)
    · exact cloFrom_acc h
theorem cloFrom_has {cells:List (Str×Addr)}:∀ {names:List (Str×NameKind)} {acc:List (Str×Addr)} {n:Str},(n,.free) ∈ names→(n,(cells.lookup n).getD 0) ∈ cloFrom cells names acc
  | (m,k)::r,acc,n,h=>by
    unfold cloFrom
    rcases List.mem_cons.mp h with e | h
    · cases e
      exact cloFrom_acc List.mem_cons_self
    · split
      · exact cloFrom_has h
      · exact cloFrom_has h
theorem cells_mem:∀ {names:List (Str×NameKind)} {h:Heap} {acc:List (Str×Addr)} {x:Str} {c:Addr},(x,c) ∈ cellsFrom h.objs.size names acc →
    (x,c) ∈ acc∨((x,.cell) ∈ names∧h.objs.size≤c∧CellAt (pushCells h names) c none)
  | [],_,_,_,_,h=>.inl h
  | (n,k)::r,h,acc,x,c,hm=>by
    unfold cellsFrom at hm
    unfold pushCells
    split at hm
    · rename_i hk
      rw [if_pos hk]
      have hk:k=.cell:=by simpa using hk
      rw [← Heap.size_push h { cls:=.type "cell",data:=.cell none }] at hm
      rcases cells_mem hm with hm | ⟨h1,h2,h3⟩
      · rcases List.mem_cons.mp hm with e | hm
        · cases e
          exact .inr ⟨hk ▸ List.mem_cons_self,Nat.le_refl _,_,pushCells_keeps r _ _ _ (Heap.get?_push_size _ rfl),rfl⟩
        · exact .inl hm
      · rw [Heap.size_push] at h2
        exact .inr ⟨List.mem_cons_of_mem _ h1,Nat.le_of_succ_le h2,h3⟩
    · rename_i hk
      rw [if_neg hk]
      rcases cells_mem hm with hm | ⟨h1,h2,h3⟩
      · exact .inl hm
      · exact .inr ⟨List.mem_cons_of_mem _ h1,h2,h3⟩
theorem cells_acc:∀ {names:List (Str×NameKind)} {n:Nat} {acc:List (Str×Addr)} {p:Str×Addr},p ∈ acc→p ∈ cellsFrom n names acc
  | [],_,_,_,h=>h
  | (m,k)::r,n,acc,p,h=>by
    unfold cellsFrom
    split
    · exact cells_acc (List.mem_cons_of_mem _ h)
    · exact cells_acc h
theorem cells_has:∀ {names:List (Str×NameKind)} {n:Nat} {acc:List (Str×Addr)} {x:Str},(x,.cell) ∈ names→∃ c,(x,c) ∈ cellsFrom n names acc
  | (m,k)::r,n,acc,x,h=>by
    unfold cellsFrom
    rcases List.mem_cons.mp h with e | h
    · cases e
      exact ⟨n,cells_acc List.mem_cons_self⟩
    · split
      · exact cells_has h
      · exact cells_has h
theorem cells_inj:∀ {names:List (Str×NameKind)} {h:Heap} {acc:List (Str×Addr)} {x y:Str} {c:Addr},(∀ p ∈ acc,p.2<h.objs.size)→(∀ x y c,(x,c) ∈ acc→(y,c) ∈ acc→x=y) →
    (x,c) ∈ cellsFrom h.objs.size names acc→(y,c) ∈ cellsFrom h.objs.size names acc→x=y
  | [],_,_,_,_,_,_,hi,h1,h2=>hi _ _ _ h1 h2
  | (n,k)::r,h,acc,x,y,c,hl,hi,h1,h2=>by
    unfold cellsFrom at h1 h2
    split at h1
    · rename_i hk
      rw [if_pos hk] at h2
      rw [← Heap.size_push h { cls:=.type "cell",data:=.cell none }] at h1 h2
      refine cells_inj (h:=h.push _) (fun p hp=>?_) (fun x y c a b=>?_) h1 h2
      · rw [Heap.size_push]
        rcases List.mem_cons.mp hp with rfl | hp
        · exact Nat.lt_succ_self _
        · exact Nat.lt_succ_of_lt (hl p hp)
      · rcases List.mem_cons.mp a with e | a <;> rcases List.mem_cons.mp b with e' | b
        · cases e; cases e'; rfl
        · cases e; exact absurd (hl _ b) (Nat.lt_irrefl _)
        · cases e'; exact absurd (hl _ a) (Nat.lt_irrefl _)
        · exact hi _ _ _ a b
    · rename_i hk
      rw [if_neg hk] at h2
      exact cells_inj hl hi h1 h2
theorem newEnv_comp {M:Model} {A:Around} {E:Value→Shared→Prop} {s:Shared} {scope:Scope} {globals:Addr} {closure:List (Str×Addr)} {qual:Str} {func:Option Addr} {code:Value} {around:Env} {builtins:Addr} {Q:Env→Shared→Prop}
    (h:Q (newEnv scope s.heap.objs.size globals (cellsFrom (s.heap.objs.size+1) scope.names closure) qual func code (some around) builtins)
      { s with heap:=pushCells (s.heap.push { cls:=.type "dict",data:=.dict #[] }) scope.names }) :
    wpAny M A (newFunctionEnv scope globals closure [] qual func code (some around) builtins) Q E s:=by
  simp only [newFunctionEnv,Option.isSome_some,if_true]
  refine wpAny_bind (wpAny_alloc ?_)
  refine wpAny_bind (wpAny_layCells _ (fun n k c=>rfl) scope.names closure _ _ ?_)
  rw [show ({ s with heap:=s.heap.push { cls:=.type "dict",data:=.dict #[] } }:Shared).heap.objs.size=s.heap.objs.size+1 from Heap.size_push ..]
  rw [List.forIn_nil]
  exact wpAny_bind (wpAny_pure (wpAny_pure h))
theorem lookup_relS {sc:Scope}:∀ {names:List (Str×NameKind)} {x:Str} {k:NameKind},
    (names.map fun (n,k)=>if (k == NameKind.free && sc.kind == .function && sc.names.lookup n == some .cell) then (n,NameKind.cell) else (n,k)).lookup x=some k →
    ∃ k',names.lookup x=some k'∧(k=k'∨(k'=.free∧k=.cell))
  | [],_,_,h=>by simp at h
  | (n,k₀)::r,x,k,h=>by
    have ih:=@lookup_relS sc r x k
    have h':List.lookup x ((if (k₀ == NameKind.free && sc.kind == .function && sc.names.lookup n == some .cell)=true then (n,NameKind.cell) else (n,k₀))::(r.map _))=some k:=h
    cases hx:x == n with
    | true =>
      simp only [List.lookup_cons,hx]
      by_cases hc:(k₀ == NameKind.free && sc.kind == .function && sc.names.lookup n == some .cell)=true
      · rw [if_pos hc] at h'
        simp only [List.lookup_cons,hx] at h'
        cases h'
        simp only [Bool.and_eq_true,beq_iff_eq] at hc
        exact ⟨k₀,rfl,.inr ⟨hc.1.1,rfl⟩⟩
      · rw [if_neg hc] at h'
        simp only [List.lookup_cons,hx] at h'
        cases h'
        exact ⟨_,rfl,.inl rfl⟩
    | false =>
      simp only [List.lookup_cons,hx]
      by_cases hc:(k₀ == NameKind.free && sc.kind == .function && sc.names.lookup n == some .cell)=true
      · rw [if_pos hc] at h'
        simp only [List.lookup_cons,hx] at h'
        exact ih h'
      · rw [if_neg hc] at h'
        simp only [List.lookup_cons,hx] at h'
        exact ih h'
structure BlkOk (N:List Str) (sc scope:Scope) (own:List (Str×Nat)):Prop where
  kind:scope.kind=.function
  uniq:∀ y ∈ scope.names,scope.names.lookup y.1=some y.2
  ix:∀ p ∈ own,N[p.2]?=some p.1
  free:∀ y ∈ scope.names,y.2=.free→sc.names.lookup y.1=some .cell∨sc.names.lookup y.1=some .free
  own:∀ y ∈ scope.names,y.2=.local∨y.2=.cell→y.1 ∈ own.map (·.1)∨y.1 ∉ N
def wipe (σ:St):List Nat→St
  | []=>σ
  | v::vs=>(wipe σ vs).set v none
theorem wipe_length (σ:St):∀ vs:List Nat,(wipe σ vs).length=σ.length
  | []=>rfl
  | v::vs=>by unfold wipe; rw [List.length_set,wipe_length σ vs]
theorem wipe_some {σ:St} {i:Nat} {x:V}:∀ {vs:List Nat},(wipe σ vs)[i]?=some (some x)→σ[i]?=some (some x)∧i ∉ vs
  | [],h=>⟨h,by simp⟩
  | v::vs,h=>by
    unfold wipe at h
    by_cases hi:v=i
    · subst hi
      by_cases hv:v<(wipe σ vs).length
      · rw [List.getElem?_set_self hv] at h; cases h
      · rw [List.getElem?_eq_none (by simpa using hv)] at h; cases h
    · rw [List.getElem?_set_ne hi] at h
      obtain ⟨h1,h2⟩:=wipe_some h
      exact ⟨h1,by simp only [List.mem_cons,not_or]; exact ⟨fun e=>hi e.symm,h2⟩⟩
abbrev Cx.blk (X:Cx) (s:Shared) (H:Hp) (scope:Scope) (cenv:Env) (fp:List Addr):Cx:={ X with s_0:=s,H_0:=H,env:=cenv,outer:=X.stack,ex:=fp,fn:=fun x=>scope.names.lookup x == some .cell,pn:=[],xe:=fun _ _=>False }
section
variable {X:Cx} {pins:List (Addr×Obj)} {σ:St} {H:Hp} {s:Shared}
theorem block_start {scope:Scope} {own:List (Str×Nat)} {fp:List Addr} (I:Inv X pins σ H s) (ok:BlkOk X.N X.env.scope scope own) (hN:X.N.Nodup) (hfp:∀ b ∈ fp,FpOk X pins H b∧b<s.heap.objs.size) :
    Inv (X.blk s H scope (compEnvC scope (cellsFrom (s.heap.objs.size+1) scope.names (cloFrom X.env.cells scope.names [])) s.heap.objs.size X.env) fp) [] (wipe σ (own.map (·.2))) H { s with heap:=pushCells (s.heap.push { cls:=.type "dict",data:=.dict #[] }) scope.names }:=by
  have hfree:∀ y ∈ scope.names,y.2=.free→∃ c,X.env.cells.lookup y.1=some c:=fun y hy e=>by
    rcases ok.free y hy e with k | k
    · exact I.ok.has _ (.inl k)
    · exact I.ok.has _ (.inr k)
  generalize hcenv:compEnvC scope (cellsFrom (s.heap.objs.size+1) scope.names (cloFrom X.env.cells scope.names [])) s.heap.objs.size X.env=cenv
  have kp:∀ b o,s.heap.get? b=some o→(pushCells (s.heap.push { cls:=.type "dict",data:=.dict #[] }) scope.names).get? b=some o:=fun b o e=>pushCells_keeps _ _ _ _ (Heap.get?_push_of_some _ e)
  have hL:cenv.locals=s.heap.objs.size:=by rw [← hcenv]; rfl
  have hcl:cenv.cells=cellsFrom (s.heap.objs.size+1) scope.names (cloFrom X.env.cells scope.names []):=by rw [← hcenv]; rfl
  have hsc:cenv.scope=relS scope X.env.scope:=by rw [← hcenv]; rfl
  rw [← Heap.size_push s.heap { cls:=.type "dict",data:=.dict #[] }] at hcl
  have cm:∀ {y c},(y,c) ∈ cloFrom X.env.cells scope.names []→X.env.cells.lookup y=some c∧c<s.heap.objs.size:=fun {y c} hm=>by
    rcases cloFrom_mem hm with hm | ⟨h1,rfl⟩
    · cases hm
    · obtain ⟨c,hc⟩:=hfree _ h1 rfl
      rw [hc]
      obtain ⟨w,z⟩:=I.cell _ _ hc
      exact ⟨rfl,z.lt⟩
  have mem:∀ {y c},cenv.cells.lookup y=some c→(X.env.cells.lookup y=some c∧c<s.heap.objs.size)∨(s.heap.objs.size+1≤c∧CellAt (pushCells (s.heap.push { cls:=.type "dict",data:=.dict #[] }) scope.names) c none):=fun {y c} e=>by
    rw [hcl] at e
    rcases cells_mem (PySem.mem_of_lookup e) with hm | ⟨_,h2,h3⟩
    · exact .inl (cm hm)
    · rw [Heap.size_push] at h2; exact .inr ⟨h2,h3⟩
  have look:∀ {y},scope.names.lookup y=some .free→∃ c,cenv.cells.lookup y=some c∧X.env.cells.lookup y=some c:=fun {y} hl=>by
    have hy:(y,NameKind.free) ∈ scope.names:=PySem.mem_of_lookup hl
    obtain ⟨c',e'⟩:=mem_lookup (cells_acc (names:=scope.names) (n:=(s.heap.push { cls:=.type "dict",data:=.dict #[] }).objs.size) (cloFrom_has (cells:=X.env.cells) (acc:=[]) hy))
    rw [← hcl] at e'
    refine ⟨c',e',?_⟩
    rw [hcl] at e'
    rcases cells_mem (PySem.mem_of_lookup e') with hm | ⟨h1,_,_⟩
    · exact (cm hm).1
    · have:=ok.uniq _ h1
      rw [hl] at this; cases this
  have okB:(X.blk s H scope cenv fp).Ok:=by
    refine ⟨I.ok.mod,by show cenv.scope.kind=_; rw [hsc]; exact ok.kind,by show cenv.globals=_; rw [← hcenv]; exact I.ok.glob,by show cenv.builtins=_; rw [← hcenv]; exact I.ok.blt,by show s.heap.objs.size≤cenv.locals; rw [hL]; exact Nat.le_refl _,
      fun y z c e1 e2=>?_,fun y hy=>?_,fun y c z e=>?_,I.ok.hd,I.ok.frames,.inl rfl,fun b hb=>⟨?_,fun y c e z=>?_⟩,I.bs,Nat.le_trans I.ok.bsz I.sz,fun b o e hb=>?_,fun b hb z=>?_,I.stack,I.stkFree⟩
    · have e1:cenv.cells.lookup y=some c:=e1
      have e2:cenv.cells.lookup z=some c:=e2
      rw [hcl] at e1 e2
      refine cells_inj (fun p hp=>?_) (fun y z c a b=>I.ok.inj y z c (cm a).1 (cm b).1) (PySem.mem_of_lookup e1) (PySem.mem_of_lookup e2)
      rw [Heap.size_push]
      exact Nat.lt_succ_of_lt (cm (y:=p.1) (c:=p.2) hp).2
    · show ∃ c,cenv.cells.lookup y=some c
      have key:∀ k,cenv.kindOf y=some k→(k=.cell∨k=.free)→∃ c,cenv.cells.lookup y=some c:=fun k hk hk'=>by
        unfold Env.kindOf at hk
        rw [hsc] at hk
        obtain ⟨k',e,r⟩:=lookup_relS hk
        have:k'=.cell∨k'=.free:=by
          rcases r with rfl | ⟨rfl,_⟩
          · exact hk'
          · exact .inr rfl
        rcases this with rfl | rfl
        · obtain ⟨c,hm⟩:=cells_has (n:=(s.heap.push { cls:=.type "dict",data:=.dict #[] }).objs.size) (acc:=cloFrom X.env.cells scope.names []) (PySem.mem_of_lookup e)
          obtain ⟨c',e'⟩:=mem_lookup hm
          exact ⟨c',by rw [hcl]; exact e'⟩
        · obtain ⟨c,h1,_⟩:=look e
          exact ⟨c,h1⟩
      rcases hy with hy | hy
      · exact key _ hy (.inl rfl)
      · exact key _ hy (.inr rfl)
    · have z:(scope.names.lookup y == some NameKind.cell)=true:=z
      have z:scope.names.lookup y=some .cell:=by simpa using z
      have e:cenv.cells.lookup y=some c:=e
      rw [hcl] at e
      rcases cells_mem (PySem.mem_of_lookup e) with hm | ⟨_,h2,_⟩
      · rcases cloFrom_mem hm with hm | ⟨h1,_⟩
        · cases hm
        · have q:=ok.uniq _ h1
          rw [z] at q; cases q
      · rw [Heap.size_push] at h2
        exact Nat.le_of_succ_le h2
    · show b≠cenv.locals
      rw [hL]; exact Nat.ne_of_lt (hfp b hb).2
    · have e:cenv.cells.lookup y=some c:=e
      rcases mem e with ⟨h1,_⟩ | ⟨h1,_⟩
      · exact (hfp b hb).1.2.2.2.2.1 y c h1 z
      · have h2:s.heap.objs.size+1≤b:=by rw [← z]; exact h1
        exact absurd (Nat.lt_of_lt_of_le (hfp b hb).2 (Nat.le_of_succ_le h2)) (Nat.lt_irrefl _)
    · rcases (hfp b hb).1.2.2.2.1 with z | z
      · exact I.ok.noex b o e z
      · exact absurd (Nat.lt_of_lt_of_le (Heap.lt_size e) (Nat.le_trans I.ok.bsz z)) (Nat.lt_irrefl _)
    · rcases List.mem_cons.mp (I.stkSub b z) with z | z
      · exact (hfp b hb).1.2.1 z
      · exact (hfp b hb).1.2.2.1 z
  refine ⟨okB,rfl,I.bare,Un.kept kp,⟨fun _=>none,?_,fun i y av e1 e2 e3=>?_⟩,fun y c e=>?_,?_,fun y c e=>?_,fun p hp=>?_,I.hok.kept kp,by rw [wipe_length]; exact I.len⟩
  · show Heap.Ns _ cenv.locals _
    rw [hL]
    exact Heap.Ns.keeps (Heap.Ns.new ..) fun b o e=>pushCells_keeps _ _ _ _ e
  · obtain ⟨e2,hne⟩:=wipe_some e2
    have hfr:scope.names.lookup y=some .free∧(cenv.kindOf y=some .cell∨cenv.kindOf y=some .free):=by
      have key:∀ k,cenv.scope.names.lookup y=some k→k=.local∨k=.cell∨k=.free→scope.names.lookup y=some .free∧(cenv.kindOf y=some .cell∨cenv.kindOf y=some .free):=fun k hk hk'=>by
        have hk0:=hk
        rw [hsc] at hk
        obtain ⟨k',e,r⟩:=lookup_relS hk
        have no:¬ (k'=.local∨k'=.cell):=fun hh=>by
          rcases ok.own _ (PySem.mem_of_lookup e) hh with e' | e'
          · obtain ⟨p,hp,hpy⟩:=List.mem_map.mp e'
            have e3:=ok.ix p hp
            have:p.1=y:=hpy
            rw [this] at e3
            exact hne (List.mem_map.mpr ⟨p,hp,nodup_ix hN e3 e1⟩)
          · exact e' (List.mem_of_getElem? e1)
        rcases r with rfl | ⟨rfl,rfl⟩
        · rcases hk' with rfl | rfl | rfl
          · exact absurd (.inl rfl) no
          · exact absurd (.inr rfl) no
          · exact ⟨e,.inr hk0⟩
        · exact ⟨e,.inl hk0⟩
      have e3:Vis cenv.scope y:=e3
      rcases e3 with e3 | e3 | e3
      · exact key _ e3 (.inl rfl)
      · exact key _ e3 (.inr (.inl rfl))
      · exact key _ e3 (.inr (.inr rfl))
    obtain ⟨m,hn,hl⟩:=I.loc
    have hvis:Vis X.env.scope y:=(ok.free _ (PySem.mem_of_lookup hfr.1) rfl).elim (fun k=>.inr (.inl k)) (fun k=>.inr (.inr k))
    obtain ⟨w,r,q⟩:=hl i y av e1 e2 hvis
    refine ⟨w,r,.inr ⟨hfr.2,?_⟩⟩
    obtain ⟨c,h1,h2⟩:=look hfr.1
    rcases q with ⟨k,_⟩ | ⟨_,c',e',z⟩
    · have k:X.env.scope.names.lookup y=some .local:=k
      rcases ok.free _ (PySem.mem_of_lookup hfr.1) rfl with k' | k' <;> rw [show X.env.scope.names.lookup y=_ from k'] at k <;> cases k
    · rw [h2] at e'; cases e'
      exact ⟨c,h1,z.keeps kp⟩
  · have e:cenv.cells.lookup y=some c:=e
    rcases mem e with ⟨h1,_⟩ | ⟨_,z⟩
    · obtain ⟨w,z⟩:=I.cell y c h1
      exact ⟨w,z.keeps kp⟩
    · exact ⟨_,z⟩
  · show H cenv.locals=none
    rw [hL]; exact I.hok.fresh (Nat.le_refl _)
  · have e:cenv.cells.lookup y=some c:=e
    rcases mem e with ⟨h1,_⟩ | ⟨h1,_⟩
    · exact I.freeC y c h1
    · exact I.hok.fresh (Nat.le_of_succ_le h1)
  · exact absurd (show p ∈ ([]:List (Addr×Obj))++[] from hp) (by simp)
theorem app_ok {E:Value→Shared→Prop} {D:Addr} {xs:List V} {y:V} {v:Value} {Q:Value→Shared→Prop} (I:Inv X pins σ H s) (hD:H D=some (.lst xs)) (hz:xs.length<sizeLine) (r:RelV y v)
    (h:∀ s',Inv X pins σ (upd H D (.lst (xs++[y]))) s'→Q .none s'):wpAny (model X.prog X.w) X.A (call (.builtin "list.append") [.ref D,v]) Q E s:=by
  obtain ⟨hz',its,n,ri,e⟩:=I.hok D _ hD
  have hl:=ri.length
  refine append_at (hsz:=by rw [List.size_toArray]; omega) e fun h' sb ho'=>?_
  refine h { s with heap:=h' } (I.write (t':=s.toks) (by rw [hD]; trivial) (.inl rfl) (fun b u hb q=>(sb.2 b hb).trans q) ⟨_,ho'⟩ ⟨by rw [List.length_append]; exact hz,its++[v],n+1,ri.append (.cons r .nil),?_⟩)
  rw [ho']
  simp
def PTs (X:Cx) (ifs:List Expr) (t:TT):Prop :=
  ∀ (pins:List (Addr×Obj)) (s:Shared) (σ:St) (H:Hp) (Q:Bool→Hp→Prop),Inv X pins σ H s→t σ H Q →
    wpAny (model X.prog X.w) X.A (forIn ifs true fun c r=>if r=true then do let ok ← isTrue c X.env (eval c X.env); pure (ForInStep.yield ok) else pure (ForInStep.yield r)) (TP X pins σ Q) X.xe s
def tYes:TT:=fun _ H Q=>Q true H
theorem pts_nil:PTs X [] tYes:=fun _ _ _ H _ I h=>wpAny_tests_nil ⟨H,I,h⟩
theorem pts_one {c:Expr} {t:TT} (h:PT X c t):PTs X [c] t:=fun pins s σ H Q I hw=>wpAny_tests_one (h pins s σ H Q I hw)
end
theorem thnF {α:Type} {t:Sem α} {Q Q':α→Shared→Prop} {M:Model} {A:Around} {E:Value→Shared→Prop} {s:Shared} (h:wpAny M A t Q (fun _ _=>False) s) (hQ:∀ a s,Q a s→Q' a s):wpAny M A t Q' E s:=wpAny_mono h hQ fun _ _ z=>False.elim z
theorem compLoop_any {prog:Program} {w:World} {A:Around} {R:Result→Shared→Prop} {s:Shared} {elt target iter:Expr} {ifs:List Expr} {scope:Scope} {pos:Pos} {it acc:Value} {env:Env} (I:Nat→Shared→Prop)
    (turn:∀ n s,I n s→wpAny (model prog w) A (pyNext it) (fun r s₁=>match r with
      | none=>R (.ok .next) s₁
      | some v=>wpAny (model prog w) A (letOwnedTupleGo target it v) (fun _ s₁'=>wpAny (model prog w) A (assign target env v) (fun _ s₂ =>
          wpAny (model prog w) A (forIn ifs true fun c r=>if r=true then do let ok ← isTrue c env (eval c env); pure (ForInStep.yield ok) else pure (ForInStep.yield r)) (fun ok s₃ =>
            if ok=true then wpAny (model prog w) A (eval elt env) (fun x s₄ =>
              wpAny (model prog w) A (call (.builtin "list.append") [acc,x]) (fun _ s₅=>∃ m,m<n∧I m s₅) (notedBy (model prog w) A env fun e s'=>R (.error e) s') s₄) (notedBy (model prog w) A env fun e s'=>R (.error e) s') s₃
            else ∃ m,m<n∧I m s₃) (notedBy (model prog w) A env fun e s'=>R (.error e) s') s₂) (notedBy (model prog w) A env fun e s'=>R (.error e) s') s₁') (notedBy (model prog w) A env fun e s'=>R (.error e) s') s₁) (notedBy (model prog w) A env fun e s'=>R (.error e) s') s)
    (n:Nat) (h:I n s) :
    codeAny (model prog w) A (.compLoop (.ListComp elt [⟨target,iter,ifs,0⟩] scope pos) 0 it acc env) R s:=by
  refine codeAny_loop rfl I (fun n s hI=>?_) n h
  show wpAny _ A ((compTurn (.ListComp elt [⟨target,iter,ifs,0⟩] scope pos) 0 it acc env).onRaise (fun x=>do noteFrame x env; theTreesLotGoes x)) _ _ s
  refine wpAny_noted ?_
  rw [compTurn_list]
  refine wpAny_bind (wpAny_standAt (wpAny_bind (wpAny_mono (turn n s hI) (fun r s₁ h₁=>?_) fun _ _ h'=>h')))
  cases r with
  | none=>exact wpAny_pure h₁
  | some v =>
    refine wpAny_bind (wpAny_mono h₁ (fun _ s₁' h₁'=>?_) fun _ _ h'=>h')
    refine wpAny_bind (wpAny_mono h₁' (fun _ s₂ h₂=>wpAny_bind (wpAny_mono h₂ (fun ok s₃ h₃=>?_) fun _ _ h'=>h')) fun _ _ h'=>h')
    cases ok with
    | false=>exact wpAny_pure ⟨rfl,h₃⟩
    | true =>
      exact wpAny_bind (wpAny_bind (wpAny_mono h₃ (fun x s₄ h₄=>wpAny_bind (wpAny_mono h₄ (fun _ s₅ h₅=>wpAny_pure (wpAny_pure ⟨rfl,h₅⟩)) fun _ _ h'=>h')) fun _ _ h'=>h'))
section
variable {X:Cx}
def tLc (wi:TI) (g:TG) (tt:TT) (te:TE) (vs:List Nat):TE:=fun σ H Q=>wi σ H fun J H1=>∀ D,H1 D=none→∃ W:Nat→Nat→Hp→Prop,(∃ m,W 0 m (upd H1 D (.lst [])))∧∀ i m H,W i m H →
  (J.stop i H∧Q (.ref D) H)∨(J.go i H∧∃ Nx:Hp→Prop,(∀ H',Nx H'→∃ m',m'<m∧W (i+1) m' H')∧∀ x H',J.yld i H x H'→g x (wipe σ vs) H' fun σ2 H2=>wipe σ2 vs=wipe σ vs∧tt σ2 H2 fun b H3 =>
    if b=true then te σ2 H3 fun y H4=>∃ acc,H4 D=some (.lst acc)∧acc.length<sizeLine∧Nx (upd H4 D (.lst (acc++[y]))) else Nx H3)
theorem lc_core {pins:List (Addr×Obj)} {s:Shared} {σ:St} {H:Hp} {Q:VK} {elt tg iter:Expr} {ifs:List Expr} {scope:Scope} {own:List (Str×Nat)} {pos pos':Pos} {wi:TI} {g:TG} {tt:TT} {te:TE} {use:Option (Value→Sem Unit)} {Qf:Value→Shared→Prop}
    (hc:X.calm=true) (hN:X.N.Nodup) (I:Inv X pins σ H s) (hi:PI X tg iter wi) (ok:BlkOk X.N X.env.scope scope own)
    (hg:∀ (s:Shared) (H:Hp) (C:Addr) (cl:List (Str×Addr)) (fp:List Addr),PG (X.blk s H scope (compEnvC scope cl C X.env) fp) tg g) (ht:∀ (s:Shared) (H:Hp) (C:Addr) (cl:List (Str×Addr)) (fp:List Addr),PTs (X.blk s H scope (compEnvC scope cl C X.env) fp) ifs tt)
    (he:∀ (s:Shared) (H:Hp) (C:Addr) (cl:List (Str×Addr)) (fp:List Addr),PE (X.blk s H scope (compEnvC scope cl C X.env) fp) elt te) (hs:∀ x,foldedSetIterable iter X.env x=pure x)
    (h:tLc wi g tt te (own.map (·.2)) σ H Q)
    (hRR:∀ D C s' m H',Inv X pins σ H' s'→Q (.ref D) H'→s'.heap.Ns C m→FpOk X pins H' C→compPost (model X.prog X.w) X.A X.xe use Qf (.ref D) C (.ok .next) s') :
    wpAny (model X.prog X.w) X.A (comprehension (.ListComp elt [⟨tg,iter,ifs,0⟩] scope pos) scope X.env pos' (newList []) false (eval iter X.env) use) Qf X.xe s:=by
  have hfree:∀ y ∈ scope.names,y.2=.free→∃ c,X.env.cells.lookup y.1=some c:=fun y hy e=>by
    rcases ok.free y hy e with k | k
    · exact I.ok.has _ (.inl k)
    · exact I.ok.has _ (.inr k)
  refine wpAny_comprehension_free (use:=use) rfl hs (closure_ok hfree) ok.kind (fun y hy e=>by rw [ok.uniq y hy,e])
    (thn (hi pins s σ H _ I h) fun xv s1 hx=>thn hx fun itv s2 h2=>?_)
  obtain ⟨it,fp,tn,J,H2,e,I2,T,st2,f2,q⟩:=h2
  subst e
  refine wpAny_newObj_type (newEnv_comp ?_) (by show 0≤sizeLine; decide)
  generalize hD:s2.heap.objs.size=D
  have hDn:H2 D=none:=I2.hok.fresh (Nat.le_of_eq hD)
  obtain ⟨W,⟨m0,w0⟩,turn⟩:=q D hDn
  generalize hs3:({ s2 with heap:=s2.heap.push { cls:=.type "list",data:=.seq ([]:List Value).toArray } }:Shared)=s3
  have I3:Inv X pins σ (upd H2 D (.lst [])) s3:=by
    rw [← hs3]
    refine I2.laid (t':=s2.toks) (fun b o e=>Heap.get?_push_of_some _ e) (Nat.le_of_eq hD) ⟨Nat.zero_le _,[],0,.nil,?_⟩
    rw [← hD]
    exact Heap.get?_push_size _ rfl
  have h3:s3.heap=s2.heap.push { cls:=.type "list",data:=.seq ([]:List Value).toArray }:=by rw [← hs3]
  have sz:∀ b ∈ fp,b<s2.heap.objs.size:=fun b hb=>by
    obtain ⟨o,e,_⟩:=T.obj _ _ st2 b hb
    exact Heap.lt_size e
  have f3:∀ b ∈ fp,FpOk X pins (upd H2 D (.lst [])) b∧b<s3.heap.objs.size:=fun b hb=>by
    have hlt:=sz b hb
    refine ⟨⟨?_,(f2 b hb).2⟩,by rw [h3,Heap.size_push]; exact Nat.lt_succ_of_lt hlt⟩
    rw [upd_ne (by rw [← hD]; exact Nat.ne_of_lt hlt)]
    exact (f2 b hb).1
  have st3:tn 0 s3.heap:=T.keep _ _ _ st2 fun b _ o e=>by rw [h3]; exact Heap.get?_push_of_some _ e
  have I4:=block_start I3 ok hN f3
  have pg:=hg s3 (upd H2 D (.lst [])) s3.heap.objs.size (cellsFrom (s3.heap.objs.size+1) scope.names (cloFrom X.env.cells scope.names [])) fp
  have pt:=ht s3 (upd H2 D (.lst [])) s3.heap.objs.size (cellsFrom (s3.heap.objs.size+1) scope.names (cloFrom X.env.cells scope.names [])) fp
  have pe:=he s3 (upd H2 D (.lst [])) s3.heap.objs.size (cellsFrom (s3.heap.objs.size+1) scope.names (cloFrom X.env.cells scope.names [])) fp
  show codeAny _ _ (.compStart (.ListComp elt [⟨tg,iter,ifs,0⟩] scope pos) 0 (.ref it) (.ref D) (compEnvC scope (cellsFrom (s3.heap.objs.size+1) scope.names (cloFrom X.env.cells scope.names [])) s3.heap.objs.size X.env)) (compPost (model X.prog X.w) X.A X.xe use Qf (.ref D) s3.heap.objs.size) { s3 with heap:=pushCells (s3.heap.push { cls:=.type "dict",data:=.dict #[] }) scope.names }
  have nfp:∀ b ∈ fp,(upd H2 D (.lst [])) b=none:=fun b hb=>(f3 b hb).1.1
  generalize hce:compEnvC scope (cellsFrom (s3.heap.objs.size+1) scope.names (cloFrom X.env.cells scope.names [])) s3.heap.objs.size X.env=ce at I4 pg pt pe ⊢
  have cL:ce.locals=s3.heap.objs.size:=by subst hce; rfl
  generalize hH3:upd H2 D (.lst [])=H3 at I3 I4 pg pt pe w0 nfp f3
  generalize hs4:({ s3 with heap:=pushCells (s3.heap.push { cls:=.type "dict",data:=.dict #[] }) scope.names }:Shared)=s4 at I4 ⊢
  have st4:tn 0 s4.heap:=T.keep _ _ _ st3 fun b _ o e=>by rw [← hs4]; exact pushCells_keeps _ _ _ _ (Heap.get?_push_of_some _ e)
  have stat:∀ {σ':St} {H':Hp} {s':Shared},Inv (X.blk s3 H3 scope ce fp) [] σ' H' s'→(∀ b ∈ fp,H' b=none)→∀ b ∈ fp,FpOk (X.blk s3 H3 scope ce fp) [] H' b:=fun {σ' H' s'} I' hn b hb =>
    ⟨hn b hb,(I'.ok.exf b hb).1,I'.ok.exfs b hb,.inl hb,fun x c e=>(I'.ok.exf b hb).2 x c e,fun p hp=>absurd (show p ∈ ([]:List (Addr×Obj))++[] from hp) (by simp)⟩
  have loop:codeAny (model X.prog X.w) X.A (.compLoop (.ListComp elt [⟨tg,iter,ifs,0⟩] scope pos) 0 (.ref it) (.ref D) ce) (compPost (model X.prog X.w) X.A X.xe use Qf (.ref D) s3.heap.objs.size) s4:=by
    refine compLoop_any (fun n s'=>∃ i H',Inv (X.blk s3 H3 scope ce fp) [] (wipe σ (own.map (·.2))) H' s'∧tn i s'.heap∧(∀ b ∈ fp,H' b=none)∧W i n H') ?_ m0 ⟨0,H3,I4,st4,nfp,w0⟩
    rintro n s5 ⟨i,H5,I5,st5,n5,w5⟩
    rcases turn i n H5 w5 with ⟨stop,qq⟩ | ⟨go,Nx,hNx,step⟩
    · have td:=T.done (X.blk s3 H3 scope ce fp) rfl rfl rfl hc i [] s5 _ H5 (fun _ _=>False) I5 (stat I5 n5) st5 stop
      refine thnF td fun r s6 ⟨hr,I6⟩=>?_
      subst hr
      have I7:Inv X pins σ H5 s6:=I3.call' (ch:=fp) I6.os I6.base I6.hok I6.bare fun b hb=>⟨(f3 b hb).1.2.2.2.1,(f3 b hb).1.2.1,(f3 b hb).1.2.2.2.2.1,(f3 b hb).1.2.2.2.2.2⟩
      have nC:H5 s3.heap.objs.size=none:=by
        have z:H5 ce.locals=none:=I6.free
        rw [cL] at z
        exact z
      obtain ⟨m,hn,_⟩:=I6.loc
      have hn:s6.heap.Ns ce.locals m:=hn
      rw [cL] at hn
      exact hRR D s3.heap.objs.size s6 m H5 I7 qq hn (I3.fpOk (Nat.le_refl _) nC)
    · have ti:=T.item (X.blk s3 H3 scope ce fp) rfl rfl rfl hc i [] s5 _ H5 (fun _ _=>False) I5 (stat I5 n5) st5 go
      refine thnF ti fun r s6 ⟨u,hr,h6⟩=>?_
      subst hr
      refine thnF h6 fun _ s7 ⟨x,H7,I7,r7,y7,st7,n7⟩=>?_
      have I7':=I7.pinned (stat I7 n7) (T.obj _ _ st7)
      refine thnF (pg _ s7 _ H7 x u _ I7' r7 (step x H7 y7)) fun _ s8 ⟨σ8,H8,I8,hw8,q8⟩=>?_
      refine thnF (pt _ s8 σ8 H8 _ I8 q8) fun b s9 ⟨H9,I9,q9⟩=>?_
      have fin:∀ {s':Shared} {H':Hp},Inv (X.blk s3 H3 scope ce fp) ([]++pinsAt fp s7.heap) σ8 H' s'→Nx H'→∃ m,m<n∧∃ i H',Inv (X.blk s3 H3 scope ce fp) [] (wipe σ (own.map (·.2))) H' s'∧tn i s'.heap∧(∀ b ∈ fp,H' b=none)∧W i m H':=fun {s' H'} I' nx=>by
        obtain ⟨m',hm,w'⟩:=hNx H' nx
        have pin':∀ b ∈ fp,∀ o,s7.heap.get? b=some o→s'.heap.get? b=some o∧H' b=none:=fun b hb o e =>
          let z:=I'.pin (b,o) (List.mem_append_right _ (List.mem_append_right _ (mem_pinsAt hb e)))
          ⟨z.1,z.2.1⟩
        have hl:(wipe σ (own.map (·.2))).length=σ8.length:=by rw [← hw8,wipe_length]
        refine ⟨m',hm,i+1,H',(I'.unpinned (pins:=[])).weak hl (fun j v e=>?_),T.keep _ _ _ st7 fun b hb o e=>(pin' b hb o e).1,fun b hb=>?_,w'⟩
        · rw [← hw8] at e
          exact (wipe_some e).1
        · obtain ⟨o,e,_⟩:=T.obj _ _ st7 b hb
          exact (pin' b hb o e).2
      cases b with
      | false =>
        simp only [Bool.false_eq_true,if_false] at q9 ⊢
        exact fin I9 q9
      | true =>
        simp only [if_true] at q9 ⊢
        refine thnF (pe _ s9 σ8 H9 _ I9 q9) fun z s10 ⟨yv,H10,I10,r10,acc,hD10,hz10,nx⟩=>?_
        exact app_ok (X:=X.blk s3 H3 scope ce fp) I10 hD10 hz10 r10 fun s11 I11=>fin I11 nx
  exact codeAny_compStart_list loop (T.self X.A 0 _ _ _ st4 loop)
theorem pe_lc {elt tg iter:Expr} {ifs:List Expr} {scope:Scope} {own:List (Str×Nat)} {pos:Pos} {wi:TI} {g:TG} {tt:TT} {te:TE} (hc:X.calm=true) (hN:X.N.Nodup) (hi:PI X tg iter wi) (ok:BlkOk X.N X.env.scope scope own)
    (hg:∀ (s:Shared) (H:Hp) (C:Addr) (cl:List (Str×Addr)) (fp:List Addr),PG (X.blk s H scope (compEnvC scope cl C X.env) fp) tg g) (ht:∀ (s:Shared) (H:Hp) (C:Addr) (cl:List (Str×Addr)) (fp:List Addr),PTs (X.blk s H scope (compEnvC scope cl C X.env) fp) ifs tt)
    (he:∀ (s:Shared) (H:Hp) (C:Addr) (cl:List (Str×Addr)) (fp:List Addr),PE (X.blk s H scope (compEnvC scope cl C X.env) fp) elt te) (hs:∀ x,foldedSetIterable iter X.env x=pure x:=by intro _; rfl) :
    PE X (.ListComp elt [⟨tg,iter,ifs,0⟩] scope pos) (tLc wi g tt te (own.map (·.2))):=by
  intro pins s σ H Q I h
  rw [eval_ListComp]
  refine lc_core hc hN I hi ok hg ht he hs h fun D C s' m H' I' q hn f=>⟨m,hn,fun h'' sb=>?_⟩
  obtain ⟨f0,f1,f2,f3,f4,f5⟩:=f
  exact ⟨.ref D,H',I'.turned (t':=s'.toks) (fun b o hb e=>(sb.2 b hb).trans e) f0 f1 f3 f4 f5,rfl,q⟩
theorem ps_setLc {i:Nat} {y:Str} {py:Pos} {elt tg iter:Expr} {ifs:List Expr} {scope:Scope} {own:List (Str×Nat)} {pos spos:Pos} {wi:TI} {g:TG} {tt:TT} {te:TE} (hc:X.calm=true) (hN:X.N.Nodup) (hy:X.N[i]?=some y) (hyl:X.env.scope.names.lookup y=some .local)
    (hsw:swapsWith (.ListComp elt [⟨tg,iter,ifs,0⟩] scope pos) (some (.Name y py)) spos.line X.env=pure true) (hi:PI X tg iter wi) (ok:BlkOk X.N X.env.scope scope own)
    (hg:∀ (s:Shared) (H:Hp) (C:Addr) (cl:List (Str×Addr)) (fp:List Addr),PG (X.blk s H scope (compEnvC scope cl C X.env) fp) tg g) (ht:∀ (s:Shared) (H:Hp) (C:Addr) (cl:List (Str×Addr)) (fp:List Addr),PTs (X.blk s H scope (compEnvC scope cl C X.env) fp) ifs tt)
    (he:∀ (s:Shared) (H:Hp) (C:Addr) (cl:List (Str×Addr)) (fp:List Addr),PE (X.blk s H scope (compEnvC scope cl C X.env) fp) elt te) (hs:∀ x,foldedSetIterable iter X.env x=pure x:=by intro _; rfl) :
    PS X (.Assign [.Name y py] (.ListComp elt [⟨tg,iter,ifs,0⟩] scope pos) spos) (tAsg (tLc wi g tt te (own.map (·.2))) (gName i)):=by
  intro pins s σ H D I h
  rw [exec_Assign_Name_used _ _ _ _ hsw]
  refine wpAny_bind (wpAny_standAt (wpAny_bind ?_))
  show wpAny _ X.A (do let _ ← comprehension (.ListComp elt [⟨tg,iter,ifs,0⟩] scope pos) scope X.env (firstIterPos [⟨tg,iter,ifs,0⟩] pos) (newList []) false (eval iter X.env) (some (assign (.Name y py) X.env))) _ _ s
  have h:tLc wi g tt te (own.map (·.2)) σ H (fun x H1=>gName i x σ H1 D.nx):=h
  refine wpAny_bind (thn (lc_core (Qf:=fun _ s'=>SP X pins D .next s') hc hN I hi ok hg ht he hs h fun L C s' m H' I' q hn f=>?_) fun _ s' hq=>wpAny_pure (wpAny_pure hq))
  show wpAny _ _ (assign (.Name y py) X.env (.ref L)) _ _ _
  refine wpAny_assign_Name (store_ok2 (v:=V.ref L) I' hN hy (.inl hyl) rfl (fun s2 I2 ⟨a,sb,ha⟩=>?_) (.inr hyl))
  obtain ⟨f0,f1,f2,f3,f4,f5⟩:=f
  have haC:C≠a:=by
    rcases ha with z | z
    · rw [z]; exact f1
    · exact fun e=>f4 y a z e.symm
  refine ⟨m,hn.sameBut sb haC,fun h3 sb3=>?_⟩
  exact ⟨_,H',I2.turned (t':=s2.toks) (fun b o hb e=>(sb3.2 b hb).trans e) f0 f1 f3 f4 f5,q⟩
end
theorem lc_range {lo:Int} {n:Nat} {g:TG} {tt:TT} {te:TE} {vs:List Nat} {σ:St} {H1:Hp} {D:Addr} {Qd:Hp→Prop} (Pv:Nat→Hp→Prop) (h0:Pv 0 (upd H1 D (.lst [])))
    (hs:∀ i H,i<n→Pv i H→g (.int (lo+i)) (wipe σ vs) H fun σ2 H2=>wipe σ2 vs=wipe σ vs∧tt σ2 H2 fun b H3 =>
      if b=true then te σ2 H3 fun y H4=>∃ acc,H4 D=some (.lst acc)∧acc.length<sizeLine∧Pv (i+1) (upd H4 D (.lst (acc++[y]))) else Pv (i+1) H3) (hd:∀ H,Pv n H→Qd H) :
    ∃ W:Nat→Nat→Hp→Prop,(∃ m,W 0 m (upd H1 D (.lst [])))∧∀ i m H,W i m H →
      ((Itr lo n).stop i H∧Qd H)∨((Itr lo n).go i H∧∃ Nx:Hp→Prop,(∀ H',Nx H'→∃ m',m'<m∧W (i+1) m' H')∧∀ x H',(Itr lo n).yld i H x H'→g x (wipe σ vs) H' fun σ2 H2=>wipe σ2 vs=wipe σ vs∧tt σ2 H2 fun b H3 =>
        if b=true then te σ2 H3 fun y H4=>∃ acc,H4 D=some (.lst acc)∧acc.length<sizeLine∧Nx (upd H4 D (.lst (acc++[y]))) else Nx H3):=by
  refine ⟨fun i m H=>m=n - i∧i≤n∧Pv i H,⟨n,by simp,Nat.zero_le _,h0⟩,?_⟩
  rintro i m H ⟨rfl,hi,p⟩
  by_cases hlt:i<n
  · refine .inr ⟨hlt,Pv (i+1),fun H' p'=>⟨n - (i+1),by omega,rfl,hlt,p'⟩,fun x H' y=>?_⟩
    obtain ⟨e,y⟩:=y
    subst e y
    exact hs i _ hlt p
  · have e:i=n:=by omega
    subst e
    exact .inl ⟨Nat.le_refl _,hd H p⟩
theorem lc_list {K:PySem.W.Frag} {a:Addr} {xs:List V} {g:TG} {tt:TT} {te:TE} {vs:List Nat} {σ:St} {H1:Hp} {D:Addr} {Qd:Hp→Prop} (Pv:Nat→Hp→Prop) (h0:Pv 0 (upd H1 D (.lst []))) (hl:∀ i H,i≤xs.length→Pv i H→SqL K H a xs)
    (hs:∀ i x H,xs[i]?=some x→Pv i H→g x (wipe σ vs) H fun σ2 H2=>wipe σ2 vs=wipe σ vs∧tt σ2 H2 fun b H3 =>
      if b=true then te σ2 H3 fun y H4=>∃ acc,H4 D=some (.lst acc)∧acc.length<sizeLine∧Pv (i+1) (upd H4 D (.lst (acc++[y]))) else Pv (i+1) H3) (hd:∀ H,Pv xs.length H→Qd H) :
    ∃ W:Nat→Nat→Hp→Prop,(∃ m,W 0 m (upd H1 D (.lst [])))∧∀ i m H,W i m H →
      ((Itl K a).stop i H∧Qd H)∨((Itl K a).go i H∧∃ Nx:Hp→Prop,(∀ H',Nx H'→∃ m',m'<m∧W (i+1) m' H')∧∀ x H',(Itl K a).yld i H x H'→g x (wipe σ vs) H' fun σ2 H2=>wipe σ2 vs=wipe σ vs∧tt σ2 H2 fun b H3 =>
        if b=true then te σ2 H3 fun y H4=>∃ acc,H4 D=some (.lst acc)∧acc.length<sizeLine∧Nx (upd H4 D (.lst (acc++[y]))) else Nx H3):=by
  refine ⟨fun i m H=>m=xs.length - i∧i≤xs.length∧Pv i H,⟨xs.length,by simp,Nat.zero_le _,h0⟩,?_⟩
  rintro i m H ⟨rfl,hi,p⟩
  have q:=hl i H hi p
  by_cases hlt:i<xs.length
  · refine .inr ⟨⟨xs,xs[i],q,by simp [hlt]⟩,Pv (i+1),fun H' p'=>⟨xs.length - (i+1),by omega,rfl,hlt,p'⟩,fun x H' y=>?_⟩
    obtain ⟨e,y⟩:=y
    subst e
    exact hs i x _ (y xs q) p
  · have e:i=xs.length:=by omega
    subst e
    exact .inl ⟨⟨xs,q,Nat.le_refl _⟩,hd H p⟩
end L2
namespace L2
open PySem PySem.Spec PyProof.Rows
section
variable {κ:Type} [DecidableEq κ]
def valV (kvs:List (κ×V)) (k:κ):Option V:=(kvs.find? fun kv=>decide (kv.1=k)).map (·.2)
def putK (kvs:List (κ×V)) (k:κ) (v:V):List (κ×V) :=
  if (kvs.any fun kv=>decide (kv.1=k))=true then kvs.map (fun kv=>if kv.1=k then (kv.1,v) else kv) else kvs++[(k,v)]
theorem valV_pos {p:κ×V} {r:List (κ×V)} {k:κ} (e:p.1=k):valV (p::r) k=some p.2:=by simp [valV,List.find?_cons,e]
theorem valV_neg {p:κ×V} {r:List (κ×V)} {k:κ} (e:¬ p.1=k):valV (p::r) k=valV r k:=by simp [valV,List.find?_cons,e]
theorem valV_any (k:κ):∀ kvs:List (κ×V),(kvs.any fun kv=>decide (kv.1=k))=(valV kvs k).isSome
  | []=>rfl
  | p::r=>by
    rw [List.any_cons]
    by_cases e:p.1=k
    · simp only [valV_pos e,decide_eq_true e,Bool.true_or,Option.isSome_some]
    · rw [valV_neg e,decide_eq_false e,Bool.false_or]; exact valV_any k r
theorem length_putK (kvs:List (κ×V)) (k:κ) (v:V):(putK kvs k v).length≤kvs.length+1:=by
  unfold putK
  split
  · rw [List.length_map]; omega
  · rw [List.length_append,List.length_cons,List.length_nil]; omega
theorem putK_new {kvs:List (κ×V)} {k:κ} (v:V) (h:valV kvs k=none):putK kvs k v=kvs++[(k,v)]:=by
  unfold putK
  rw [valV_any,h]
  exact if_neg (by decide)
theorem RelO.isSome_eq {o:Option V} {u:Option Value} (r:RelO o u):o.isSome=u.isSome:=by
  cases o with
  | none=>cases u with
    | none=>rfl
    | some _=>exact (show False from r).elim
  | some _=>cases u with
    | none=>exact (show False from r).elim
    | some _=>rfl
theorem KV.val {kvs:List (κ×V)} {vs:List (κ×Value)} (r:KV kvs vs) (k:κ):RelO (valV kvs k) (valueAt vs k):=by
  unfold KV at r
  induction r with
  | nil=>exact True.intro
  | @cons p q ps qs h t ih =>
    obtain ⟨h1,h2⟩:=h
    by_cases e:p.1=k
    · have e':q.1=k:=h1.symm.trans e
      have b:valueAt (q::qs) k=some q.2:=by simp [valueAt,List.find?_cons,e']
      rw [valV_pos e,b]; exact h2
    · have e':¬ q.1=k:=fun z=>e (h1.trans z)
      have b:valueAt (q::qs) k=valueAt qs k:=by simp [valueAt,List.find?_cons,e']
      rw [valV_neg e,b]; exact ih
theorem KV.any {kvs:List (κ×V)} {vs:List (κ×Value)} (r:KV kvs vs) (k:κ):(kvs.any fun kv=>decide (kv.1=k))=vs.any fun kv=>decide (kv.1=k):=by
  unfold KV at r
  induction r with
  | nil=>rfl
  | cons h t ih=>rw [List.any_cons,List.any_cons,ih,h.1]
theorem KV.repl {kvs:List (κ×V)} {vs:List (κ×Value)} (r:KV kvs vs) (k:κ) {y:V} {u:Value} (ry:RelV y u) :
    KV (kvs.map fun kv=>if kv.1=k then (kv.1,y) else kv) (vs.map fun kv=>if kv.1=k then (kv.1,u) else kv):=by
  unfold KV at r ⊢
  induction r with
  | nil=>exact .nil
  | @cons p q ps qs h t ih =>
    rw [List.map_cons,List.map_cons]
    refine .cons ?_ ih
    obtain ⟨h1,h2⟩:=h
    by_cases e:p.1=k
    · rw [if_pos e,if_pos (h1.symm.trans e)]; exact ⟨h1,ry⟩
    · rw [if_neg e,if_neg (fun z=>e (h1.trans z))]; exact ⟨h1,h2⟩
theorem KV.put {kvs:List (κ×V)} {vs:List (κ×Value)} (r:KV kvs vs) (k:κ) {y:V} {u:Value} (ry:RelV y u):KV (putK kvs k y) (stored vs k u):=by
  unfold putK stored
  rw [r.any k]
  by_cases e:(vs.any fun kv=>decide (kv.1=k))=true
  · rw [if_pos e,if_pos e]; exact r.repl k ry
  · rw [if_neg e,if_neg e]; exact Paired.snoc r ⟨rfl,ry⟩
theorem KV.length {kvs:List (κ×V)} {vs:List (κ×Value)} (r:KV kvs vs):kvs.length=vs.length:=Paired.length r
end
theorem kV_is {P:Program} {w:World} {k:Key} {u:Value} (r:RelV (kV k) u):(mixKind P w).is k u=true:=by
  cases k with
  | inl i=>obtain ⟨t,e⟩:=(show ∃ t,u=Value.int i t from r); subst e; exact mixKind_int P w i t
  | inr x=>obtain ⟨t,e⟩:=(show ∃ t,u=Value.str x t from r); subst e; exact mixKind_str P w x t
theorem items_are {P:Program} {w:World}:∀ {ks:List Key} {us:List Value},Vals (ks.map kV) us→ItemsAre (mixKind P w) ks us
  | [],_,r=>by rw [List.map_nil] at r; cases r; exact .nil
  | k::ks,_,r=>by
    rw [List.map_cons] at r
    cases r with
    | cons h t=>exact .cons (kV_is h) (items_are t)
abbrev KT (H:Hp):List (List Key×V)→List (List Key×Addr×Value)→Prop:=Paired fun p q=>p.1=q.1∧H q.2.1=some (.tup (p.1.map kV))∧RelV p.2 q.2.2
theorem KT.val {H:Hp} {kvs:List (List Key×V)} {xs:List (List Key×Addr×Value)} (r:KT H kvs xs) (k:List Key):RelO (valV kvs k) ((atKey xs k).map (·.2)):=by
  induction r with
  | nil=>exact True.intro
  | @cons p q ps qs h t ih =>
    obtain ⟨h1,_,h2⟩:=h
    by_cases e:p.1=k
    · have e':q.1=k:=h1.symm.trans e
      have b:atKey (q::qs) k=some q.2:=by simp [atKey,List.find?_cons,e']
      rw [valV_pos e,b]; exact h2
    · have e':¬ q.1=k:=fun z=>e (h1.trans z)
      have b:atKey (q::qs) k=atKey qs k:=by simp [atKey,List.find?_cons,e']
      rw [valV_neg e,b]; exact ih
theorem KT.repl {H:Hp} {kvs:List (List Key×V)} {xs:List (List Key×Addr×Value)} (r:KT H kvs xs) (k:List Key) {y:V} {u:Value} (ry:RelV y u) :
    KT H (kvs.map fun kv=>if kv.1=k then (kv.1,y) else kv) (xs.map (putAt k u)):=by
  induction r with
  | nil=>exact .nil
  | @cons p q ps qs h t ih =>
    rw [List.map_cons,List.map_cons]
    refine .cons ?_ ih
    obtain ⟨h1,h2,h3⟩:=h
    unfold putAt
    by_cases e:p.1=k
    · rw [if_pos e,if_pos (h1.symm.trans e)]; exact ⟨h1,h2,ry⟩
    · rw [if_neg e,if_neg (fun z=>e (h1.trans z))]; exact ⟨h1,h2,h3⟩
theorem KT.put {H:Hp} {kvs:List (List Key×V)} {xs:List (List Key×Addr×Value)} (r:KT H kvs xs) (k:List Key) {b:Addr} {y:V} {u:Value} (hb:H b=some (.tup (k.map kV))) (ry:RelV y u) :
    KT H (putK kvs k y) (storedH xs k b u):=by
  have e:(kvs.any fun kv=>decide (kv.1=k))=(atKey xs k).isSome:=by
    rw [valV_any,(r.val k).isSome_eq,Option.isSome_map]
  unfold putK storedH
  rw [e]
  by_cases q:(atKey xs k).isSome=true
  · rw [if_pos q,if_pos q]; exact r.repl k ry
  · rw [if_neg q,if_neg q]; exact Paired.snoc r ⟨rfl,hb,ry⟩
theorem KT.keeps {H H':Hp} {kvs:List (List Key×V)} {xs:List (List Key×Addr×Value)} (r:KT H kvs xs) (ht:∀ b ys,H b=some (.tup ys)→H' b=some (.tup ys)):KT H' kvs xs :=
  Paired.mapP r fun _ _ z=>⟨z.1,ht _ _ z.2.1,z.2.2⟩
section
variable {P:Program} {w:World} {H:Hp} {h:Heap} {a:Addr}
theorem rd_of {u:HO} (ok:HOk P w H h) (e:Rd H a u):ObjOk P w H h a u:=e.ok ok
theorem dk_rd {kvs:List (Key×V)} (ok:HOk P w H h) (e:Rd H a (.dK kvs)):kvs.length≤sizeLine∧(a == sysModules)=false∧∃ vs,KV kvs vs∧h.DictOf (mixKind P w) a vs :=
  show ObjOk P w H h a (.dK kvs) from rd_of ok e
theorem dk_of {kvs:List (Key×V)} (ok:HOk P w H h) (e:H a=some (.dK kvs)):kvs.length≤sizeLine∧(a == sysModules)=false∧∃ vs,KV kvs vs∧h.DictOf (mixKind P w) a vs:=dk_rd ok (.inl e)
theorem key_of {ks:List Key} (ok:HOk P w H h) (e:H a=some (.tup (ks.map kV))):(tupleKind (mixKind P w)).is h ks a:=by
  obtain ⟨_,its,r,o,h1,h2,n,h3⟩:=(show ObjOk P w H h a (.tup (ks.map kV)) from ok a _ e)
  exact ⟨o,its.toArray,n,h1,h2,h3,by simpa using items_are r⟩
theorem dt_rd {kvs:List (List Key×V)} (ok:HOk P w H h) (e:Rd H a (.dT kvs)):kvs.length≤sizeLine∧(a == sysModules)=false ∧
    ∃ xs,KT H kvs xs∧h.DictOfH (tupleKind (mixKind P w)) a xs:=by
  obtain ⟨z,y,xs,r,o,es,ep,h1,h2,h3,h4,h5⟩:=(show ObjOk P w H h a (.dT kvs) from rd_of ok e)
  refine ⟨z,y,xs,r,o,es,ep,h1,h2,h3,h4,fun x hx=>?_,h5⟩
  have all:∀ {l:List (List Key×V)} {m:List (List Key×Addr×Value)},KT H l m→∀ x ∈ m,(tupleKind (mixKind P w)).is h x.1 x.2.1:=by
    intro l m q
    induction q with
    | nil=>intro x hx; exact nomatch hx
    | @cons p q ps qs hq t ih =>
      intro x hx
      rcases List.mem_cons.mp hx with e | hx
      · subst e
        exact key_of ok (by rw [← hq.1]; exact hq.2.1)
      · exact ih x hx
  exact all r x hx
theorem dt_of {kvs:List (List Key×V)} (ok:HOk P w H h) (e:H a=some (.dT kvs)):kvs.length≤sizeLine∧(a == sysModules)=false ∧
    ∃ xs,KT H kvs xs∧h.DictOfH (tupleKind (mixKind P w)) a xs:=dt_rd ok (.inl e)
end
def DGet (H:Hp) (a:Addr) (y:V) (r:Option V):Prop :=
  (∃ kvs k,Rd H a (.dK kvs)∧y=kV k∧r=valV kvs k)∨∃ kvs k b,Rd H a (.dT kvs)∧y=.ref b∧H b=some (.tup (k.map kV))∧r=valV kvs k
def DPut (H:Hp) (a:Addr) (y v:V) (H':Hp):Prop :=
  (∃ kvs k,H a=some (.dK kvs)∧y=kV k∧kvs.length<sizeLine∧H'=upd H a (.dK (putK kvs k v))) ∨
  ∃ kvs k b,H a=some (.dT kvs)∧y=.ref b∧H b=some (.tup (k.map kV))∧kvs.length<sizeLine∧H'=upd H a (.dT (putK kvs k v))
theorem DPut.k {H:Hp} {a:Addr} {kvs:List (Key×V)} {k:Key} {v:V} (e:H a=some (.dK kvs)) (hl:kvs.length<sizeLine):DPut H a (kV k) v (upd H a (.dK (putK kvs k v))):=.inl ⟨kvs,k,e,rfl,hl,rfl⟩
section
variable {X:Cx} {pins:List (Addr×Obj)} {σ:St} {H:Hp} {s:Shared} {a:Addr} {y v:V} {u r:Value} {o:Option V} {A:Around} {E:Value→Shared→Prop}
theorem Inv.big (I:Inv X pins σ H s):sysModules<s.heap.objs.size:=by
  have h:mainGlobals<s.heap.objs.size:=(I.mod.glob.keeps I.bk).lt
  exact Nat.lt_trans (by decide) h
theorem d_getItem {Q:Value→Shared→Prop} (hu:A.units+1<cLine) (I:Inv X pins σ H s) (g:DGet H a y (some v)) (ry:RelV y u) (h:∀ w' s',Inv X pins σ H s'→RelV v w'→Q w' s') :
    wpAny (model X.prog X.w) A (getItem (.ref a) u) Q E s:=by
  rcases g with ⟨kvs,k,e,ey,l⟩ | ⟨kvs,k,b,e,ey,eb,l⟩
  · subst ey
    obtain ⟨z,hd,vs,rel,dd⟩:=dk_rd I.hok e
    obtain ⟨w',hw,rw'⟩:=RelO.some_of (v:=v) (o:=valueAt vs k) (by rw [l]; exact rel.val k)
    exact wpAny_getItem_of (kV_is ry) dd.mapOf hw (h w' _ (I.tok _) rw')
  · subst ey
    cases (show u=Value.ref b from ry)
    obtain ⟨z,hd,xs,rel,dd⟩:=dt_rd I.hok e
    obtain ⟨w',hw,rw'⟩:=RelO.some_of (v:=v) (o:=(atKey xs k).map (·.2)) (by rw [l]; exact rel.val k)
    obtain ⟨p,hp,hp2⟩:=Option.map_eq_some_iff.mp hw
    refine wpAny_getItem_heap (tupleKind_room_in1 hu) (key_of I.hok eb) dd hp ?_
    rw [hp2]
    exact h w' _ (I.tok _) rw'
theorem d_write {h':Heap} {t':Nat} {ob:HO} (I:Inv X pins σ H s) (mu:Mut (H a)) (hs:Heap.SameBut a s.heap h') (he:∃ q,h'.get? a=some q) (new:ObjOk X.prog X.w (upd H a ob) h' a ob) :
    Inv X pins σ (upd H a ob) { s with heap:=h',toks:=t' } :=
  I.write (x:=a) (e:=a) mu (.inl rfl) (fun b q hb z=>(hs.2 b hb).trans z) he new
theorem dk_new {P:Program} {w:World} {H':Hp} {h':Heap} {kvs:List (Key×V)} {vs:List (Key×Value)} (z:kvs.length≤sizeLine) (hd:(a == sysModules)=false) (rel:KV kvs vs) (dd:h'.DictOf (mixKind P w) a vs) :
    ObjOk P w H' h' a (.dK kvs):=⟨z,hd,vs,rel,dd⟩
theorem d_setItem {H':Hp} {Q:Unit→Shared→Prop} (hu:A.units+1<cLine) (I:Inv X pins σ H s) (g:DPut H a y v H') (ry:RelV y u) (rv:RelV v r) (h:∀ s',Inv X pins σ H' s'→Q () s') :
    wpAny (model X.prog X.w) A (setItem (.ref a) u r) Q E s:=by
  rcases g with ⟨kvs,k,e,ey,l,eH⟩ | ⟨kvs,k,b,e,ey,eb,l,eH⟩
  · subst ey eH
    obtain ⟨z,hd,vs,rel,dd⟩:=dk_of I.hok e
    have hz:vs.length≤sizeLine:=by rw [← rel.length]; exact z
    have hl:(putK kvs k v).length≤sizeLine:=by have:=length_putK kvs k v; omega
    refine wpAny_setItem_pairs (hsz:=hz) (kV_is ry) dd fun h' dd' hs=>h _ ?_
    have he:∃ q,h'.get? a=some q:=let ⟨q,_,_,hq,_⟩:=dd'; ⟨q,hq⟩
    exact d_write I (by rw [e]; exact True.intro) hs he (dk_new hl hd (rel.put k rv) dd')
  · subst ey eH
    cases (show u=Value.ref b from ry)
    obtain ⟨z,hd,xs,rel,dd⟩:=dt_of I.hok e
    have hz:xs.length≤sizeLine:=by rw [← Paired.length rel]; exact z
    have hl:(putK kvs k v).length≤sizeLine:=by have:=length_putK kvs k v; omega
    refine wpAny_setItem_heap (hsz:=hz) (tupleKind_room_in1 hu) (key_of I.hok eb) dd fun h' dd' hs=>h _ ?_
    obtain ⟨q,es,ep,hq,h2,h3,h4,_,h5⟩:=dd'
    refine d_write I (by rw [e]; exact True.intro) hs ⟨q,hq⟩ ⟨hl,hd,_,(rel.put k eb rv).keeps fun c ys ec=>?_,q,es,ep,hq,h2,h3,h4,h5⟩
    rw [upd_ne (ne_of ec e (fun z=>nomatch z))]
    exact ec
end
def NoSl (i:Expr):Prop:=∀ ov iv,subscripted i false ov iv=operate [ov,iv] (getItem ov iv)
theorem subD_of {prog:Program} {w:World} {A:Around} {E:Value→Shared→Prop} {s:Shared} {env:Env} {value slice:Expr} {pos:Pos} {T id:String} {Q:Value→Shared→Prop}
    (hl:typeLookup (.type T) "__getitem__"=pure (some (.builtin id))) (hs:NoSl slice)
    (h:wpAny (model prog w) A (eval value env) (fun o s₁=>wpAny (model prog w) A (eval slice env) (fun i s₂=>s₂.TypeIs o T∧wpAny (model prog w) A (getItem o i) Q E s₂) E s₁) E s) :
    wpAny (model prog w) A (eval (.Subscript value slice pos) env) Q E s:=by
  refine Subscript_ (wpAny_mono h (fun o s₁ h₁=>wpAny_mono h₁ (fun i s₂ h₂=>?_) fun _ _ x=>x) fun _ _ x=>x)
  obtain ⟨hT,h₂⟩:=h₂
  unfold subscriptTail
  refine wpAny_bind ?_
  rw [getitemInPython_of_ne hT.not_modules]
  refine wpAny_bind (wpAny_specialOf hT hl ?_)
  have fin:wpAny (model prog w) A (subscripted slice false o i) (fun r s₃=>wpAny (model prog w) A (letTemporaryGo value o r >>= fun _=>pure r) Q E s₃) E s₂:=by
    rw [hs o i]
    exact wpAny_operating (wpAny_mono h₂ (fun r s₃ h₃=>wpAny_bind (wpAny_letTemporaryGo (wpAny_pure h₃))) fun _ _ x=>x)
  first
    | exact wpAny_pure (wpAny_bind fin)
    | exact wpAny_bind (wpAny_pure (wpAny_bind fin))
    | exact wpAny_bind fin
theorem dict_typeIs {X:Cx} {pins:List (Addr×Obj)} {σ:St} {H:Hp} {s:Shared} {a:Addr} {y:V} {o:Option V} (I:Inv X pins σ H s) (g:DGet H a y o):s.TypeIs (.ref a) "dict":=by
  rcases g with ⟨kvs,k,e,_,_⟩ | ⟨kvs,k,b,e,_,_,_⟩
  · obtain ⟨_,_,vs,_,dd⟩:=dk_rd I.hok e
    exact dd.typeIs
  · obtain ⟨_,_,xs,_,dd⟩:=dt_rd I.hok e
    exact dd.typeIs
def tDGet (td ty:TE):TE:=fun σ H Q=>td σ H fun x H1=>ty σ H1 fun y H2=>∃ a v,x=.ref a∧DGet H2 a y (some v)∧Q v H2
def sDPut (td ty tv:TE):TS:=fun D σ H=>tv σ H fun v H1=>td σ H1 fun x H2=>ty σ H2 fun y H3=>∃ a H4,x=.ref a∧DPut H3 a y v H4∧D.nx σ H4
section
variable {X:Cx} {o i e value:Expr} {pos pos' tpos:Pos} {td ty tv:TE}
theorem pe_dget (hu:X.A.units+1<cLine) (ho:PE X o td) (hi:PE X i ty) (hs:NoSl i):PE X (.Subscript o i pos) (tDGet td ty):=by
  intro pins s σ H Q I h
  refine subD_of PySem.F.slot_dict_getitem.lookup hs (thn (ho pins s σ H _ I h) fun u s1 ⟨x,H1,I1,rx,q1⟩=>thn (hi pins s1 σ H1 _ I1 q1) fun iv s2 ⟨y,H2,I2,ry,a,v,ex,g,q2⟩=>?_)
  subst ex
  obtain rfl:u=Value.ref a:=rx
  exact ⟨dict_typeIs I2 g,d_getItem hu I2 g ry fun w' s3 I3 rw'=>⟨v,H2,I3,rw',q2⟩⟩
theorem ps_dput (hu:X.A.units+1<cLine) (ho:PE X o td) (hi:PE X i ty) (hv:PE X value tv) (hs:swapsWith value (some (.Subscript o i pos')) pos.line X.env=pure false) :
    PS X (.Assign [.Subscript o i pos'] value pos) (sDPut td ty tv):=by
  intro pins s σ H D I h
  refine wpAny_Assign_Subscript (thn (hv pins s σ H _ I h) fun r s1 ⟨v,H1,I1,rv,q1⟩=>thn (ho pins s1 σ H1 _ I1 q1) fun u s2 ⟨x,H2,I2,rx,q2⟩=>thn (hi pins s2 σ H2 _ I2 q2) fun iv s3 ⟨y,H3,I3,ry,a,H4,ex,g,q3⟩=>?_) hs
  subst ex
  obtain rfl:u=Value.ref a:=rx
  exact d_setItem hu I3 g ry rv fun s4 I4=>⟨σ,H4,I4,q3⟩
end
theorem dk_empty {P:Program} {w:World} {H:Hp} (h:Heap) (hb:sysModules<h.objs.size):ObjOk P w H (h.push { cls:=.type "dict",data:=.dict #[] }) h.objs.size (.dK []) :=
  ⟨Nat.zero_le _,beq_eq_false_iff_ne.mpr (Ne.symm (Nat.ne_of_lt hb)),[],.nil,Heap.DictOf.new h⟩
def tDNewK:TE:=fun _ H Q=>∀ p,H p=none→Q (.ref p) (upd H p (.dK []))
section
variable {X:Cx} {pos:Pos}
theorem pe_dnewK:PE X (.Dict [] [] pos) tDNewK:=fun pins s σ H Q I h =>
  wpAny_Dict_empty ⟨.ref s.heap.objs.size,_,I.laid (a:=s.heap.objs.size) (o:=.dK []) (t':=s.toks) (fun _ _ q=>Heap.get?_push_of_some _ q) (Nat.le_refl _) (dk_empty s.heap I.big),rfl,h _ (I.hok.fresh (Nat.le_refl _))⟩
end
structure M2 (X:Cx) (o:Expr) (m:Str) (apos:Pos) (e f:Expr) (cpos:Pos):Prop where
  base:attributeBase o m X.env (eval o X.env)=eval o X.env
  few:((backTo cpos (starEach [e,f] X.env)).all (fun x=>!x.1) && (backToKw cpos (keywordEach [] X.env)).all (fun x=>x.1.isSome)
    && decide (([e,f]:List Expr).length+([]:List Keyword).length+(if ([]:List Keyword).isEmpty then 0 else 1)<30))=true
  line:(apos.endLine == cpos.line)=true
  trees:backTo cpos (starEach [e,f] X.env)=[(false,eval e X.env),(false,eval f X.env)]
end L2
namespace L2
open PySem PySem.Spec PyProof.Rows
section
variable {X:Cx}
theorem refs_at:∀ {ps:List Addr} {us:List Value},Vals (ps.map V.ref) us→us=ps.map Value.ref
  | [],us,r=>by
    rw [List.map_nil] at r
    cases r
    rfl
  | p::ps,us,r=>by
    rw [List.map_cons] at r
    cases r with
    | cons h t =>
      cases h
      rw [List.map_cons,← refs_at t]
end
end L2
namespace L2
open PySem PySem.Spec PyProof.Rows
section
variable {X:Cx} {pins:List (Addr×Obj)} {σ:St} {H:Hp} {s:Shared} {h':Heap}
theorem Inv.turnedL {t':Nat} {ch:List Addr} (I:Inv X pins σ H s) (k:∀ b o,b ∉ ch→s.heap.get? b=some o→h'.get? b=some o) (hf:∀ b ∈ ch,FpOk X pins H b):Inv X pins σ H { s with heap:=h',toks:=t' }:=by
  have nit:∀ b u,H b=some u→b ∉ ch:=fun b u e z=>by
    have q:=(hf b z).1
    rw [q] at e; cases e
  refine I.step (g':=s.gens) (d':=s.drawn) (ch:=ch) (fun b hb=>⟨(hf b hb).2.2.2.1,(hf b hb).2.1,(hf b hb).2.2.2.2.1,(hf b hb).2.2.2.2.2⟩) (fun b o _ _ hc e _=>k b o hc e) (fun b o _ _ hc e _=>⟨o.slots,k b o hc e⟩)
    (fun _ _ _ _ n=>n) (fun b o hc e=>⟨o,k b o hc e⟩) (fun _ _ e=>e) (fun _ _ _ e=>e) (fun b ps e=>⟨#[],by rw [e]; simp⟩) (fun m hm=>?_) (fun b u e=>?_) I.bare
  · obtain ⟨o,es,ep,ho,r⟩:=hm
    exact ⟨o,es,ep,k _ o (fun z=>(hf _ z).2.1 rfl) ho,r⟩
  · refine (I.hok b u e).stay (fun c v hc q=>k c v ?_ q) (fun _ q=>q) fun _ _ q=>q
    rcases hc with z | z
    · rw [z]; exact nit b u e
    · exact nit c _ z
theorem Inv.turnedNew {t':Nat} {ch:List Addr} {T:Addr} {ob:HO} (I:Inv X pins σ H s) (k:∀ b o,b ∉ ch→s.heap.get? b=some o→h'.get? b=some o) (hf:∀ b ∈ ch,FpOk X pins H b) (hT:s.heap.objs.size≤T)
    (new:ObjOk X.prog X.w (upd H T ob) h' T ob):Inv X pins σ (upd H T ob) { s with heap:=h',toks:=t' }:=by
  have hn:H T=none:=I.hok.fresh hT
  have nit:∀ b u,H b=some u→b ∉ ch:=fun b u e z=>by
    have q:=(hf b z).1
    rw [q] at e; cases e
  refine I.step (g':=s.gens) (d':=s.drawn) (ch:=ch) (fun b hb=>⟨(hf b hb).2.2.2.1,(hf b hb).2.1,(hf b hb).2.2.2.2.1,(hf b hb).2.2.2.2.2⟩) (fun b o _ _ hc e _=>k b o hc e) (fun b o _ _ hc e _=>⟨o.slots,k b o hc e⟩)
    (fun b o _ e n=>?_) (fun b o hc e=>⟨o,k b o hc e⟩) (fun b xs e=>?_) (fun b o u e=>?_) (fun b ps e=>⟨#[],?_⟩) (fun m hm=>?_) (fun b u e=>?_) I.bare
  · rw [upd_ne (Nat.ne_of_lt (Nat.lt_of_lt_of_le (Heap.lt_size e) hT))]; exact n
  · rw [upd_ne (ne_of_none e hn)]; exact e
  · rw [upd_ne (ne_of_none e hn)]; exact e
  · rw [upd_ne (ne_of_none e hn),e]; simp
  · obtain ⟨o,es,ep,ho,r⟩:=hm
    exact ⟨o,es,ep,k _ o (fun z=>(hf _ z).2.1 rfl) ho,r⟩
  · by_cases hb:b=T
    · subst hb
      rw [upd_same] at e
      cases e
      exact new
    · rw [upd_ne hb] at e
      refine (I.hok b u e).stay (fun c v hc q=>k c v ?_ q) (fun c q=>by rw [upd_ne (ne_of_none q hn)]; exact q) fun c xs q=>by rw [upd_ne (ne_of_none q hn)]; exact q
      rcases hc with z | z
      · rw [z]; exact nit b u e
      · exact nit c _ z
theorem Inv.lock {d:Addr} {u:HO} (I:Inv X pins σ H s) (h:H d=some u) (mu:Mut (some u)):∃ od,Inv X pins σ (upd H d (.frz od u)) s:=by
  have x:=I.hok d u h
  have ex:∃ od,s.heap.get? d=some od:=by
    cases u with
    | lst xs=>obtain ⟨_,_,_,_,e⟩:=x; exact ⟨_,e⟩
    | dK kvs=>obtain ⟨_,_,_,_,o,_,_,e,_⟩:=x; exact ⟨o,e⟩
    | dT kvs=>obtain ⟨_,_,_,_,o,_,_,e,_⟩:=x; exact ⟨o,e⟩
    | set S n=>obtain ⟨o,_,_,_,e,_⟩:=x; exact ⟨o,e⟩
    | ins C dx fs=>obtain ⟨_,_,_,e,_⟩:=x; exact ⟨_,e⟩
    | ext φ=>obtain ⟨_,⟨_,e⟩,_⟩:=x; exact ⟨_,e⟩
    | _=>exact False.elim mu
  obtain ⟨od,e⟩:=ex
  have new:ObjOk X.prog X.w (upd H d (.frz od u)) s.heap d (.frz od u):=by
    refine ⟨e,x.stay (fun b v _ q=>q) (fun b q=>?_) fun b xs q=>?_⟩
    · rw [upd_ne (fun z=>by rw [z,h] at q; cases q; exact mu)]; exact q
    · rw [upd_ne (fun z=>by rw [z,h] at q; cases q; exact mu)]; exact q
  exact ⟨od,I.write (x:=d) (e:=d) (t':=s.toks) (h':=s.heap) (by rw [h]; exact mu) (.inl rfl) (fun b v _ q=>q) ⟨od,e⟩ new⟩
theorem Inv.nofrz {d:Addr} {u:HO} (I:Inv X pins σ H s) (h:H d=some u) (mu:Mut (some u)):∀ o' u',X.H_0 d≠some (.frz o' u'):=fun o' u' e=>by
  have q:=I.base.frzs d o' u' e
  rw [h] at q
  cases q
  exact mu
theorem Inv.unlock {d:Addr} {od:Obj} {u:HO} (I:Inv X pins σ H s) (h:H d=some (.frz od u)) (hn:∀ o' u',X.H_0 d≠some (.frz o' u')):Inv X pins σ (upd H d u) s:=by
  have neH:∀ b o,H b=some o→(∀ o' u',o≠.frz o' u')→b≠d:=fun b o e hne z=>by
    rw [z,h] at e
    cases e
    exact hne _ _ rfl
  have neN:∀ b,H b=none→b≠d:=fun b e z=>by rw [z,h] at e; cases e
  refine ⟨I.ok,I.os,I.bare,⟨I.base.keep,I.base.slot,fun b o e n hx=>?_,I.base.there,fun b xs e=>?_,fun b o x e=>?_,fun b ps e=>?_⟩,I.loc,I.cell,?_,fun x c e=>?_,fun p hp=>?_,fun b o e=>?_,I.len⟩
  · rw [upd_ne (neN b (I.base.free b o e n hx))]; exact I.base.free b o e n hx
  · have q:=I.base.tups b xs e
    rw [upd_ne (neH b _ q (fun _ _ z=>nomatch z))]; exact q
  · have q:=I.base.frzs b o x e
    rw [upd_ne (fun z=>by rw [z] at e; exact hn _ _ e)]; exact q
  · obtain ⟨m,q⟩:=I.base.tbls b ps e
    exact ⟨m,by rw [upd_ne (neH b _ q (fun _ _ z=>nomatch z))]; exact q⟩
  · rw [upd_ne (neN _ I.free)]; exact I.free
  · rw [upd_ne (neN c (I.freeC x c e))]; exact I.freeC x c e
  · obtain ⟨e,n,r⟩:=I.pin p hp
    exact ⟨e,by rw [upd_ne (neN _ n)]; exact n,r⟩
  · by_cases hb:b=d
    · rw [hb,upd_same] at e
      cases e
      rw [hb]
      obtain ⟨_,x⟩:=I.hok d _ h
      exact x.stay (fun c v _ q=>q) (fun c q=>by rw [upd_ne (neH c _ q (fun _ _ z=>nomatch z))]; exact q) fun c xs q=>by rw [upd_ne (neH c _ q (fun _ _ z=>nomatch z))]; exact q
    · rw [upd_ne hb] at e
      exact (I.hok b o e).stay (fun c v _ q=>q) (fun c q=>by rw [upd_ne (neH c _ q (fun _ _ z=>nomatch z))]; exact q) fun c xs q=>by rw [upd_ne (neH c _ q (fun _ _ z=>nomatch z))]; exact q
end
def tLock (t:TS):TS:=fun D σ H=>∃ d u,H d=some u∧Mut (some u)∧∀ od,t ⟨fun σ' H'=>H' d=some (.frz od u)∧D.nx σ' (upd H' d u),fun v H'=>H' d=some (.frz od u)∧D.rt v (upd H' d u),fun σ' H'=>H' d=some (.frz od u)∧D.bk σ' (upd H' d u),fun σ' H'=>H' d=some (.frz od u)∧D.ct σ' (upd H' d u)⟩ σ (upd H d (.frz od u))
def tLockE (t:TE):TE:=fun σ H Q=>∃ d u,H d=some u∧Mut (some u)∧∀ od,t σ (upd H d (.frz od u)) fun v H'=>H' d=some (.frz od u)∧Q v (upd H' d u)
section
variable {X:Cx}
theorem ps_lock {st:Stmt} {t:TS} (h:PS X st t):PS X st (tLock t):=by
  intro pins s σ H D I hw
  obtain ⟨d,u,hd,mu,hw⟩:=hw
  obtain ⟨od,I1⟩:=I.lock hd mu
  refine thn (h pins s σ _ _ I1 (hw od)) fun f s1 q=>?_
  cases f with
  | next=>obtain ⟨σ',H',I2,e,q⟩:=q; exact ⟨σ',_,I2.unlock e (I.nofrz hd mu),q⟩
  | brk=>obtain ⟨σ',H',I2,e,q⟩:=q; exact ⟨σ',_,I2.unlock e (I.nofrz hd mu),q⟩
  | cont=>obtain ⟨σ',H',I2,e,q⟩:=q; exact ⟨σ',_,I2.unlock e (I.nofrz hd mu),q⟩
  | ret v=>obtain ⟨x,σ',H',I2,r,e,q⟩:=q; exact ⟨x,σ',_,I2.unlock e (I.nofrz hd mu),r,q⟩
theorem pe_lock {e:Expr} {t:TE} (h:PE X e t):PE X e (tLockE t):=by
  intro pins s σ H Q I hw
  obtain ⟨d,u,hd,mu,hw⟩:=hw
  obtain ⟨od,I1⟩:=I.lock hd mu
  refine thn (h pins s σ _ _ I1 (hw od)) fun v s1 ⟨x,H1,I2,r,e2,q⟩=>?_
  exact ⟨x,_,I2.unlock e2 (I.nofrz hd mu),r,q⟩
theorem pi_one {tg:Expr} {pins:List (Addr×Obj)} {σ:St} {H:Hp} {s:Shared} {R:It→Hp→Prop} {J:It} {tn:Nat→Heap→Prop} {tk:Nat} (I:Inv X pins σ H s) (o:Obj)
    (T:Turn X.prog X.w X.K tg J [s.heap.objs.size] s.heap.objs.size tn) (st:tn 0 (s.heap.push o)) (q:R J H):PIE X pins σ tg R (.ref s.heap.objs.size) { s with heap:=s.heap.push o,toks:=tk }:=by
  refine ⟨s.heap.objs.size,[s.heap.objs.size],tn,J,H,rfl,I.kept fun b ob e=>Heap.get?_push_of_some _ e,T,st,fun b hb=>?_,q⟩
  have e:b=s.heap.objs.size:=by simpa using hb
  subst e
  exact I.fpOk (Nat.le_refl _) (I.hok.fresh (Nat.le_refl _))
end
section
variable {prog:Program} {w:World} {A:Around} {E:Value→Shared→Prop} {s:Shared}
theorem iter_keys {d:Addr} {o:Obj} {es:Array DictEntry} {ep:Nat} {Q:Value→Shared→Prop} (hd:(d == sysModules)=false) (ho:s.heap.get? d=some o) (hc:o.ExactDict) (hdat:o.data=.dict es ep)
    (hQ:Q (.ref s.heap.objs.size) { s with heap:=s.heap.push { cls:=.type "dict_keyiterator",data:=.fields #[.ref d,.int 0 0,.int es.size 0,.int ep 0] } }) :
    wpAny (model prog w) A (pyIter (.ref d)) Q E s:=by
  have hT:s.TypeIs (.ref d) "dict":=⟨o,ho,hc.1⟩
  refine wpAny_pyIter_slot hT F.slot_dict_iter (wpAny_call_entry F.slot_dict_iter hT F.entry_dict_iter ?_ (F.args_dict_iter_1 _))
  unfold Builtin.«dict.__iter__»
  refine wpAny_bind ?_
  unfold Builtin.Dict.dictSlotNone
  refine wpAny_bind (wpAny_notOrdered_dict hT ?_)
  show wpAny _ _ (pure (Value.ref d)) _ _ s
  refine wpAny_pure ?_
  show wpAny _ _ (Builtin.Dict.showsAll d >>= _) _ _ s
  unfold Builtin.Dict.showsAll
  rw [if_neg (by rw [hd]; exact Bool.false_ne_true)]
  refine wpAny_bind (wpAny_pure ?_)
  refine wpAny_bind (wpAny_dictEntries ho hdat ?_)
  refine wpAny_bind (wpAny_dictEpoch ho hdat ?_)
  refine wpAny_bind (wpAny_newObj_type (wpAny_pure ⟨_,rfl,"dict_keyiterator",_,⟨_,Heap.get?_push_size _ rfl,rfl⟩,F.slot_dict_keyiterator_next.lookup,?_⟩))
  simpa [rawInt] using hQ
theorem next_key_item {it d:Addr} {i n ep:Nat} {od:Obj} {es:Array DictEntry} {en:DictEntry} {Q:Option Value→Shared→Prop} (hit:s.heap.IsKeyIter it d i n ep) (hod:s.heap.get? d=some od) (hdd:od.data=.dict es ep)
    (hsz:es.size=n) (hx:es[i]?=some en) (hQ:∀ h',h'.IsKeyIter it d (i+1) n ep→Heap.SameBut it s.heap h'→Q (some en.key) { s with heap:=h' }):wpAny (model prog w) A (pyNext (.ref it)) Q E s:=by
  obtain ⟨o,ho,hc,hd⟩:=id hit
  unfold pyNext
  refine wpAny_bind (wpAny_attempt (wpAny_callSpecial?_slot (name:=Str.ofString "__next__") hit.typeIs F.slot_dict_keyiterator_next
    (wpAny_call_entry F.slot_dict_keyiterator_next hit.typeIs F.entry_dict_keyiterator_next ?_ (F.args_dict_keyiterator_next_1 _))))
  refine wpAny_bind (wpAny_pure ?_)
  refine wpAny_bind ?_
  refine wpAny_bind ?_
  first | refine wpAny_bind (wpAny_typeNameOfWhole_keyiter hit.typeIs (wpAny_pure ?_)) | refine wpAny_bind (wpAny_typeNameOf_keyiter hit.typeIs (wpAny_pure ?_))
  refine wpAny_bind (wpAny_fieldsOf ho hd ?_)
  have hown:Builtin.Dict_items.ownsTuple "dict_keyiterator"=false:=by decide
  simp only [hown,Bool.false_eq_true,if_false]
  show wpAny _ _ (if (Value.ref d == Value.none)=true then _ else _) _ _ s
  rw [if_neg (show ¬ ((Value.ref d == Value.none)=true) from Bool.false_ne_true)]
  refine wpAny_bind (wpAny_pure ?_)
  refine wpAny_bind (wpAny_dictEntries hod hdd ?_)
  rw [if_neg (by rw [hsz]; simp)]
  refine wpAny_bind (wpAny_pure ?_)
  refine wpAny_bind (wpAny_dictEpoch hod hdd ?_)
  rw [if_neg (by simp)]
  refine wpAny_pure ?_
  obtain ⟨hlt',hen⟩:=Array.getElem?_eq_some_iff.mp hx
  simp only [show ¬ ((i:Int)<0) from by omega,if_false,Int.toNat_natCast,Array.getElem?_eq_getElem hlt']
  refine wpAny_bind ?_
  first | refine wpAny_bind (wpAny_typeNameOfWhole_keyiter hit.typeIs (wpAny_pure ?_)) | refine wpAny_bind (wpAny_typeNameOf_keyiter hit.typeIs (wpAny_pure ?_))
  refine wpAny_bind (wpAny_isOneOf_keyiter hit.typeIs ?_)
  show wpAny _ _ (setField (.ref it) 1 (rawInt ((i:Int)+1)) >>= _) _ _ s
  refine wpAny_bind (wpAny_setField ho hd (by simp) ?_)
  have hit':(s.heap.update it (Obj.mapFields (·.setIfInBounds 1 (rawInt ((i:Int)+1))))).IsKeyIter it d (i+1) n ep :=
    ⟨_,Heap.get?_update_self _ ho (Obj.isFreed_of_fields (Obj.data_mapFields hd _)),(Obj.cls_mapFields ..).trans hc,by rw [Obj.data_mapFields hd]; simp [rawInt]⟩
  refine wpAny_bind (wpAny_holding ?_)
  refine wpAny_bind (wpAny_isOneOf_keyiter (s:={ s with heap:=s.heap.update it (Obj.mapFields (·.setIfInBounds 1 (rawInt ((i:Int)+1)))) }) hit'.typeIs ?_)
  show wpAny _ _ (pure es[i].key) _ _ _
  rw [hen]
  exact wpAny_pure (wpAny_pure ⟨_,rfl,wpAny_pure (hQ _ hit' (Heap.SameBut.update ..))⟩)
theorem next_key_end {it d:Addr} {i n ep:Nat} {od:Obj} {es:Array DictEntry} {Q:Option Value→Shared→Prop} (hh:A.handled=none) (hit:s.heap.IsKeyIter it d i n ep) (hod:s.heap.get? d=some od) (hdd:od.data=.dict es ep)
    (hsz:es.size=n) (hge:n≤i) (hQ:∀ h',Heap.ExtBut it s.heap h'→Q none { s with heap:=h' }):wpAny (model prog w) A (pyNext (.ref it)) Q E s:=by
  obtain ⟨o,ho,hc,hd⟩:=id hit
  unfold pyNext
  refine wpAny_bind (wpAny_attempt (wpAny_callSpecial?_slot (name:=Str.ofString "__next__") hit.typeIs F.slot_dict_keyiterator_next
    (wpAny_call_entry F.slot_dict_keyiterator_next hit.typeIs F.entry_dict_keyiterator_next ?_ (F.args_dict_keyiterator_next_1 _))))
  refine wpAny_bind (wpAny_pure ?_)
  refine wpAny_bind ?_
  refine wpAny_bind ?_
  first | refine wpAny_bind (wpAny_typeNameOfWhole_keyiter hit.typeIs (wpAny_pure ?_)) | refine wpAny_bind (wpAny_typeNameOf_keyiter hit.typeIs (wpAny_pure ?_))
  refine wpAny_bind (wpAny_fieldsOf ho hd ?_)
  have hown:Builtin.Dict_items.ownsTuple "dict_keyiterator"=false:=by decide
  simp only [hown,Bool.false_eq_true,if_false]
  show wpAny _ _ (if (Value.ref d == Value.none)=true then _ else _) _ _ s
  rw [if_neg (show ¬ ((Value.ref d == Value.none)=true) from Bool.false_ne_true)]
  refine wpAny_bind (wpAny_pure ?_)
  refine wpAny_bind (wpAny_dictEntries hod hdd ?_)
  rw [if_neg (by rw [hsz]; simp)]
  refine wpAny_bind (wpAny_pure ?_)
  refine wpAny_bind (wpAny_dictEpoch hod hdd ?_)
  rw [if_neg (by simp)]
  refine wpAny_pure ?_
  have hge':es.size≤i:=by rw [hsz]; exact hge
  simp only [show ¬ ((i:Int)<0) from by omega,if_false,Int.toNat_natCast,Array.getElem?_eq_none hge']
  refine wpAny_bind ?_
  first | refine wpAny_bind (wpAny_typeNameOfWhole_keyiter hit.typeIs (wpAny_pure ?_)) | refine wpAny_bind (wpAny_typeNameOf_keyiter hit.typeIs (wpAny_pure ?_))
  show wpAny _ _ (setField (.ref it) 0 .none >>= _) _ _ s
  refine wpAny_bind (wpAny_setField ho hd (by simp) ?_)
  show wpAny _ _ (newExc (.type "StopIteration") [] >>= _) _ _ _
  refine wpAny_bind ?_
  simp only [newExc,newTuple]
  refine wpAny_bind (wpAny_newObj_type ?_ (by size_fits))
  refine wpAny_bind (m:=firstArgMember _ _) (wpAny_of_eq (a:=Value.none) (by first | rfl | (simp only [firstArgMember]; rfl)) ?_)
  refine wpAny_newObj_type ?_ (by size_fits)
  simp only [raiseNew]
  refine wpAny_bind (wpAny_handled ?_)
  rw [show A.in1.handled=none from hh]
  refine wpAny_bind (wpAny_pure (wpAny_throw ?_))
  refine wpAny_bind (wpAny_isInstance (T:="StopIteration") (b:=true) ⟨_,Heap.get?_push_size _ rfl,rfl⟩ isSubtype_stop ?_)
  exact wpAny_pure (hQ _ (((Heap.SameBut.update ..).extBut.push _).push _))
end
theorem kv_get {κ:Type} {kvs:List (κ×V)} {vs:List (κ×Value)} (h:KV kvs vs):∀ {i:Nat} {k:κ} {v:V},kvs[i]?=some (k,v)→∃ u,vs[i]?=some (k,u)∧RelV v u:=by
  unfold KV at h
  induction h with
  | nil=>intro i k v e; simp at e
  | @cons a b l₁ l₂ r t ih =>
    intro i k v e
    cases i with
    | zero =>
      simp only [List.getElem?_cons_zero,Option.some.injEq] at e
      subst e
      refine ⟨b.2,?_,r.2⟩
      simp only [List.getElem?_cons_zero]
      exact congrArg some (Prod.ext r.1.symm rfl)
    | succ j =>
      simp only [List.getElem?_cons_succ] at e ⊢
      exact ih e
theorem paired_get {α β:Type} {G:α→β→Prop} {l₁:List α} {l₂:List β} (h:Paired G l₁ l₂):∀ {i:Nat} {a:α},l₁[i]?=some a→∃ b,l₂[i]?=some b∧G a b:=by
  induction h with
  | nil=>intro i a e; simp at e
  | @cons a b l₁ l₂ r t ih =>
    intro i a' e
    cases i with
    | zero =>
      simp only [List.getElem?_cons_zero,Option.some.injEq] at e
      subst e
      exact ⟨b,rfl,r⟩
    | succ j =>
      simp only [List.getElem?_cons_succ] at e ⊢
      exact ih e
theorem relV_key {k:Key} {u:Value} (h:keyIs k u=true):RelV (kV k) u:=by
  rcases keyIs_shape h with ⟨i,t,rfl,rfl⟩ | ⟨x,t,rfl,rfl⟩
  · exact ⟨t,rfl⟩
  · exact ⟨t,rfl⟩
section
variable {X:Cx} {pins:List (Addr×Obj)} {σ:St} {H:Hp} {s:Shared} {d:Addr} {o:Obj}
theorem Inv.frzK {kvs:List (Key×V)} (I:Inv X pins σ H s) (h:H d=some (.frz o (.dK kvs))) :
    (d == sysModules)=false∧s.heap.get? d=some o∧o.ExactDict∧∃ (es:Array DictEntry) (ep:Nat) (vs:List (Key×Value)),o.data=.dict es ep∧es.size=kvs.length∧KV kvs vs∧s.heap.DictAt (mixKind X.prog X.w) d vs ep:=by
  obtain ⟨hd,z,hs,vs,kv,o',es,ep,ho,hx,hdt,r⟩:=I.hok d _ h
  rw [hd] at ho
  cases ho
  refine ⟨hs,hd,hx,es,ep,vs,hdt,?_,kv,o,es,hd,hx,hdt,r⟩
  have l1:=r.2.1.length
  have l2:kvs.length=vs.length:=Paired.length kv
  rw [Array.length_toList] at l1
  omega
theorem Inv.frzT {kvs:List (List Key×V)} (I:Inv X pins σ H s) (h:H d=some (.frz o (.dT kvs))) :
    (d == sysModules)=false∧s.heap.get? d=some o∧o.ExactDict∧∃ (es:Array DictEntry) (ep:Nat),o.data=.dict es ep∧es.size=kvs.length ∧
      ∀ (i:Nat) (k:List Key) (v:V),kvs[i]?=some (k,v)→∃ (en:DictEntry) (q:Addr),es[i]?=some en∧en.key=.ref q∧H q=some (.tup (k.map kV)):=by
  obtain ⟨hd,z,hs,xs,pr,o',es,ep,ho,hx,hdt,he,_⟩:=I.hok d _ h
  rw [hd] at ho
  cases ho
  refine ⟨hs,hd,hx,es,ep,hdt,?_,fun i k v e=>?_⟩
  · have l1:es.size=xs.length:=size_of_entries he
    have l2:kvs.length=xs.length:=Paired.length pr
    omega
  · obtain ⟨b,hb,e1,e2,_⟩:=paired_get pr e
    have q:=entry_at he i
    rw [hb] at q
    exact ⟨_,b.2.1,q,rfl,e2⟩
end
def Itk (d:Addr) (o:Obj) (kvs:List (Key×V)):It :=
  ⟨fun i H=>H d=some (.frz o (.dK kvs))∧i<kvs.length,fun i H x H'=>H'=H∧∃ k v,kvs[i]?=some (k,v)∧x=kV k,fun i H=>H d=some (.frz o (.dK kvs))∧kvs.length≤i⟩
def Itkt (d:Addr) (o:Obj) (kvs:List (List Key×V)):It :=
  ⟨fun i H=>H d=some (.frz o (.dT kvs))∧i<kvs.length,fun i H x H'=>H'=H∧∃ (k:List Key) (v:V) (q:Addr),kvs[i]?=some (k,v)∧x=.ref q∧H q=some (.tup (k.map kV)),fun i H=>H d=some (.frz o (.dT kvs))∧kvs.length≤i⟩
theorem dict_ep {o:Obj} {es es':Array DictEntry} {ep ep':Nat} (h:o.data=.dict es ep) (h':o.data=.dict es' ep'):es'=es∧ep'=ep:=by
  rw [h] at h'
  cases h'
  exact ⟨rfl,rfl⟩
section
variable {P:Program} {w:World} {K:PySem.W.Frag} {tg:Expr} {d:Addr} {o:Obj} {es:Array DictEntry} {ep:Nat}
theorem turn_keys {kvs:List (Key×V)} (it:Addr) (hod:o.data=.dict es ep):Turn P w K tg (Itk d o kvs) [it] it (fun i h=>h.IsKeyIter it d i kvs.length ep) where
  mem:=by simp
  obj:=fun i h st b hb=>by
    have e:b=it:=by simpa using hb
    subst e
    obtain ⟨oi,e,c,dd⟩:=st
    exact ⟨oi,e,fun v z=>by rw [dd] at z; cases z⟩
  keep:=fun i h h' st k=>st.at fun oi e=>k it (by simp) oi e
  item:=by
    intro X hP hw hK hc i pins s σ H E I hf st hg
    subst hP hw hK
    obtain ⟨hd,hi⟩:=hg
    obtain ⟨f0,f1,f2,f3,f4,f5⟩:=hf it (by simp)
    obtain ⟨hs,hgd,hx,es',ep',vs,hdt,hsz,kv,hm⟩:=I.frzK hd
    obtain ⟨rfl,rfl⟩:=dict_ep hod hdt
    obtain ⟨⟨k,v⟩,hkv⟩:∃ p,kvs[i]?=some p:=⟨kvs[i],List.getElem?_eq_getElem hi⟩
    obtain ⟨u,hu,ru⟩:=kv_get kv hkv
    have hl:kvs.length=vs.length:=Paired.length kv
    rw [hl] at st
    refine wpAny_pyNext_dict_item st hm hu fun key h' hkey st' sb=>?_
    have I1:Inv X pins σ H { s with heap:=h' }:=I.turned (t':=s.toks) (fun b ob hb e=>(sb.2 b hb).trans e) f0 f1 f3 f4 f5
    obtain ⟨oi,e,c,dd⟩:=id st'
    refine ⟨key,rfl,go_of (s:={ s with heap:=h' }) e c dd (by decide) ⟨kV k,H,I1,relV_key (show keyIs k key=true from hkey),⟨rfl,k,v,hkv,rfl⟩,?_,fun b hb=>(hf b hb).1⟩⟩
    show h'.IsKeyIter it d (i+1) kvs.length _
    rw [hl]
    exact st'
  done:=by
    intro X hP hw hK hc i pins s σ H E I hf st hg
    subst hP hw hK
    obtain ⟨hd,hi⟩:=hg
    obtain ⟨f0,f1,f2,f3,f4,f5⟩:=hf it (by simp)
    obtain ⟨hs,hgd,hx,es',ep',vs,hdt,hsz,kv,hm⟩:=I.frzK hd
    obtain ⟨rfl,rfl⟩:=dict_ep hod hdt
    exact next_key_end (I.ok.hd hc) st hgd hdt hsz hi fun h' eb=>⟨rfl,I.turned (t':=s.toks) (fun b ob hb e=>eb b ob hb e) f0 f1 f3 f4 f5⟩
  self:=fun A i s Q E st h=>wpAny_pyIter_keyiter st h
theorem turn_keysT {kvs:List (List Key×V)} (it:Addr) (hod:o.data=.dict es ep):Turn P w K tg (Itkt d o kvs) [it] it (fun i h=>h.IsKeyIter it d i kvs.length ep) where
  mem:=by simp
  obj:=fun i h st b hb=>by
    have e:b=it:=by simpa using hb
    subst e
    obtain ⟨oi,e,c,dd⟩:=st
    exact ⟨oi,e,fun v z=>by rw [dd] at z; cases z⟩
  keep:=fun i h h' st k=>st.at fun oi e=>k it (by simp) oi e
  item:=by
    intro X hP hw hK hc i pins s σ H E I hf st hg
    subst hP hw hK
    obtain ⟨hd,hi⟩:=hg
    obtain ⟨f0,f1,f2,f3,f4,f5⟩:=hf it (by simp)
    obtain ⟨hs,hgd,hx,es',ep',hdt,hsz,ent⟩:=I.frzT hd
    obtain ⟨rfl,rfl⟩:=dict_ep hod hdt
    obtain ⟨⟨k,v⟩,hkv⟩:∃ p,kvs[i]?=some p:=⟨kvs[i],List.getElem?_eq_getElem hi⟩
    obtain ⟨en,q,hen,hkey,hq⟩:=ent i k v hkv
    refine next_key_item st hgd hdt hsz hen fun h' st' sb=>?_
    have I1:Inv X pins σ H { s with heap:=h' }:=I.turned (t':=s.toks) (fun b ob hb e=>(sb.2 b hb).trans e) f0 f1 f3 f4 f5
    obtain ⟨oi,e,c,dd⟩:=id st'
    exact ⟨en.key,rfl,go_of (s:={ s with heap:=h' }) e c dd (by decide) ⟨.ref q,H,I1,hkey,⟨rfl,k,v,q,hkv,rfl,hq⟩,st',fun b hb=>(hf b hb).1⟩⟩
  done:=by
    intro X hP hw hK hc i pins s σ H E I hf st hg
    subst hP hw hK
    obtain ⟨hd,hi⟩:=hg
    obtain ⟨f0,f1,f2,f3,f4,f5⟩:=hf it (by simp)
    obtain ⟨hs,hgd,hx,es',ep',hdt,hsz,ent⟩:=I.frzT hd
    obtain ⟨rfl,rfl⟩:=dict_ep hod hdt
    exact next_key_end (I.ok.hd hc) st hgd hdt hsz hi fun h' eb=>⟨rfl,I.turned (t':=s.toks) (fun b ob hb e=>eb b ob hb e) f0 f1 f3 f4 f5⟩
  self:=fun A i s Q E st h=>by
    refine wpAny_pyIter_slot st.typeIs F.slot_dict_keyiterator_iter (wpAny_call_entry F.slot_dict_keyiterator_iter st.typeIs F.entry_dict_keyiterator_iter ?_ (F.args_dict_keyiterator_iter_1 _))
    show wpAny _ _ (ret (.ref it)) _ _ s
    exact wpAny_pure ⟨_,rfl,"dict_keyiterator",_,st.typeIs,F.slot_dict_keyiterator_next.lookup,h⟩
end
def iKeys (td:TE):TI:=fun σ H R=>td σ H fun x H1=>∃ d o,x=.ref d∧((∃ kvs,H1 d=some (.frz o (.dK kvs))∧R (Itk d o kvs) H1)∨∃ kvs,H1 d=some (.frz o (.dT kvs))∧R (Itkt d o kvs) H1)
section
variable {X:Cx} {tg e:Expr} {td:TE} {apos cpos:Pos}
theorem pi_keys (he:PE X e td):PI X tg e (iKeys td):=by
  intro pins s σ H R I h
  refine thn (he pins s σ H _ I h) fun u s1 ⟨x,H1,I1,rx,d,o,ex,q⟩=>?_
  subst ex
  obtain rfl:u=Value.ref d:=rx
  rcases q with ⟨kvs,hd,q⟩ | ⟨kvs,hd,q⟩
  · obtain ⟨hs,hgd,hx,es,ep,vs,hdt,hsz,kv,hm⟩:=I1.frzK hd
    refine iter_keys hs hgd hx hdt (pi_one (tk:=s1.toks) I1 _ (turn_keys _ hdt) ⟨_,Heap.get?_push_size _ rfl,rfl,?_⟩ q)
    rw [hsz] <;> rfl
  · obtain ⟨hs,hgd,hx,es,ep,hdt,hsz,ent⟩:=I1.frzT hd
    refine iter_keys hs hgd hx hdt (pi_one (tk:=s1.toks) I1 _ (turn_keysT _ hdt) ⟨_,Heap.get?_push_size _ rfl,rfl,?_⟩ q)
    rw [hsz] <;> rfl
end
theorem boot_zip5:bootBuiltins "zip"=some (.type "zip"):=by decide +kernel
def Itz (K:PySem.W.Frag) (a b:Addr):It :=
  ⟨fun i H=>∃ (xs ys:List V) (x y:V),SqL K H a xs∧SqL K H b ys∧xs[i]?=some x∧ys[i]?=some y,
    fun i H v H'=>∃ T x y,v=.ref T∧H T=none∧H'=upd H T (.tup [x,y])∧(∀ xs,SqL K H a xs→xs[i]?=some x)∧∀ ys,SqL K H b ys→ys[i]?=some y,
    fun i H=>∃ xs ys:List V,SqL K H a xs∧SqL K H b ys∧(xs.length≤i∨ys.length≤i)⟩
theorem turn_zip {P:Program} {w:World} {K:PySem.W.Frag} {elts:List Expr} {kk:Nat} {tpos:Pos} {a b z TI TO i1 i2:Addr} (D:ZipApart z TI TO i1 i2 a b) :
    Turn P w K (.Tuple elts kk tpos) (Itz K a b) [z,TI,TO,i1,i2] z (fun i h=>IsZip h z TI TO .none∧IsPair h TI (.ref i1) (.ref i2)∧(∃ x y,IsPair h TO x y)∧h.IsListIter i1 a i∧h.IsListIter i2 b i) where
  mem:=by simp
  obj:=fun i h st c hc=>by
    obtain ⟨hz,hTI,⟨x,y,hTO⟩,⟨o1,e1,_,d1⟩,⟨o2,e2,_,d2⟩⟩:=st
    have e':c=z∨c=TI∨c=TO∨c=i1∨c=i2:=by simpa using hc
    rcases e' with q | q | q | q | q
    · rw [q]; exact ⟨_,hz,fun v q=>nomatch q⟩
    · rw [q]; exact ⟨_,hTI,fun v q=>nomatch q⟩
    · rw [q]; exact ⟨_,hTO,fun v q=>nomatch q⟩
    · rw [q]; exact ⟨o1,e1,fun v q=>by rw [d1] at q; cases q⟩
    · rw [q]; exact ⟨o2,e2,fun v q=>by rw [d2] at q; cases q⟩
  keep:=fun i h h' st k=>by
    obtain ⟨hz,hTI,⟨x,y,hTO⟩,h1,h2⟩:=st
    exact ⟨k z (by simp) _ hz,k TI (by simp) _ hTI,⟨x,y,k TO (by simp) _ hTO⟩,h1.at fun o q=>k i1 (by simp) o q,h2.at fun o q=>k i2 (by simp) o q⟩
  item:=by
    intro X hP hw hK hc i pins s σ H E I hf st hg
    subst hP hw hK
    obtain ⟨hz,hTI,⟨x0,y0,hTO⟩,h1,h2⟩:=st
    obtain ⟨xs,ys,x,y,hqx,hqy,hx,hy⟩:=hg
    obtain ⟨its,rv,p,_⟩:=I.list hqx
    obtain ⟨its2,rv2,p2,_⟩:=I.list hqy
    obtain ⟨u,hu,ru⟩:=rv.get hx
    obtain ⟨u2,hu2,ru2⟩:=rv2.get hy
    have hzl:z<s.heap.objs.size:=Heap.lt_size hz
    refine wpAny_pyNext_zip_item D hz hTI hTO h1 h2 p.isList p2.isList (x:=u) (y:=u2) (by simpa using hu) (by simpa using hu2) fun h' z' TO' h1' h2' hT hsz hk=>?_
    refine ⟨_,rfl,wpAny_letOwnedTupleGo_zip (s:={ s with heap:=h' }) z' fun h'' z'' sb=>?_⟩
    have hT2:h''.get? s.heap.objs.size=some { cls:=.type "tuple",data:=.seq #[u,u2] }:=(sb.2 _ (Nat.ne_of_gt hzl)).trans hT
    have new:ObjOk X.prog X.w (upd H s.heap.objs.size (.tup [x,y])) h'' s.heap.objs.size (.tup [x,y]) :=
      ⟨by show 2≤sizeLine; decide,[u,u2],.cons ru (.cons ru2 .nil),⟨_,hT2,rfl,_,rfl⟩⟩
    have I1:Inv X pins σ (upd H s.heap.objs.size (.tup [x,y])) { s with heap:=h'' } :=
      I.turnedNew (t':=s.toks) (ch:=[z,TI,TO,i1,i2]) (fun c o hb q=>(sb.2 c (fun q'=>hb (by simp [q']))).trans (hk c o (fun q'=>hb (by simp [q'])) (fun q'=>hb (by simp [q'])) (fun q'=>hb (by simp [q'])) (fun q'=>hb (by simp [q'])) q)) hf (Nat.le_refl _) new
    refine ⟨.ref s.heap.objs.size,_,I1,rfl,⟨_,x,y,rfl,I.hok.fresh (Nat.le_refl _),rfl,fun l hl=>by rw [I.list_inj hl hqx]; exact hx,fun l hl=>by rw [I.list_inj hl hqy]; exact hy⟩,⟨z'',?_,⟨u,u2,?_⟩,?_,?_⟩,fun c hcm=>?_⟩
    · exact (sb.2 _ D.TIz).trans (hk _ _ D.TIz D.TITO D.TIi1 D.TIi2 hTI)
    · exact (sb.2 _ D.TOz).trans TO'
    · exact h1'.at fun o q=>(sb.2 _ D.i1z).trans q
    · exact h2'.at fun o q=>(sb.2 _ D.i2z).trans q
    · have hlt:c<s.heap.objs.size:=by
        have e':c=z∨c=TI∨c=TO∨c=i1∨c=i2:=by simpa using hcm
        rcases e' with q | q | q | q | q
        · rw [q]; exact hzl
        · rw [q]; exact Heap.lt_size hTI
        · rw [q]; exact Heap.lt_size hTO
        · rw [q]; obtain ⟨_,e1,_⟩:=h1; exact Heap.lt_size e1
        · rw [q]; obtain ⟨_,e2,_⟩:=h2; exact Heap.lt_size e2
      rw [upd_ne (Nat.ne_of_lt hlt)]
      exact (hf c hcm).1
  done:=by
    intro X hP hw hK hc i pins s σ H E I hf st hg
    subst hP hw hK
    obtain ⟨hz,hTI,⟨x0,y0,hTO⟩,h1,h2⟩:=st
    obtain ⟨xs,ys,hqx,hqy,hend⟩:=hg
    obtain ⟨its,rv,p,_⟩:=I.list hqx
    obtain ⟨its2,rv2,p2,_⟩:=I.list hqy
    have l1:=rv.length
    have l2:=rv2.length
    have he:its.toArray[i]?=none∨its2.toArray[i]?=none:=by
      rcases hend with q | q
      · exact .inl (by simp; omega)
      · exact .inr (by simp; omega)
    exact wpAny_pyNext_zip_end (I.ok.hd hc) D hz hTI hTO h1 h2 p.isList p2.isList he fun h' hk=>⟨rfl,I.turnedL (t':=s.toks) (ch:=[z,TI,TO,i1,i2]) (fun c o hb q =>
      hk c o (fun q'=>hb (by simp [q'])) (fun q'=>hb (by simp [q'])) (fun q'=>hb (by simp [q'])) (fun q'=>hb (by simp [q'])) q) hf⟩
  self:=fun A i s Q E st h=>wpAny_pyIter_zip st.1 h
def iZip (K:PySem.W.Frag) (ta:TA):TI:=fun σ H R=>ta σ H fun vs H1=>∃ a b xs ys,vs=[.ref a,.ref b]∧SqL K H1 a xs∧SqL K H1 b ys∧R (Itz K a b) H1
theorem pi_zip {X:Cx} {e e2:Expr} {ta:TA} {p pos tpos:Pos} {elts:List Expr} {kk:Nat} (hg:Gl X "zip") (hm:X.mg "zip"=none) (ha:PA X [e,e2] ta)
    (hs:starEach [e,e2] X.env=(false,eval e X.env)::starEach [e2] X.env:=by rfl) (hpl:(backTo pos (starEach [e2] X.env)).any (·.1)=false:=by rfl) :
    PI X (.Tuple elts kk tpos) (.Call (.Name "zip" p) [e,e2] [] pos) (iZip X.K ta):=by
  intro pins s σ H R I h
  refine Call_ (ld_blt I hg hm boot_zip5 (PyProof.Rows.callWith_type1 (thn (ha pos pins s σ H _ I h) fun us s1 ⟨vs,H1,I1,r1,q1⟩=>?_) hs hpl))
  obtain ⟨a,b,xs,ys,ex,hqx,hqy,q⟩:=q1
  subst ex
  cases r1 with
  | cons r rr =>
    cases rr with
    | cons r' rr =>
      cases rr
      cases r
      cases r'
      obtain ⟨its,rv,p1,_⟩:=I1.list hqx
      obtain ⟨its2,rv2,p2,_⟩:=I1.list hqy
      have la:a<s1.heap.objs.size:=p1.lt
      have lb:b<s1.heap.objs.size:=p2.lt
      refine call_zip_2 p1.isList p2.isList fun h' hz hTI hTO h1 h2 hsz hk=>wpAny_pyIter_zip hz ?_
      have I2:Inv X pins σ H1 { s1 with heap:=h' }:=I1.kept (t':=s1.toks) hk
      refine ⟨s1.heap.objs.size+4,[s1.heap.objs.size+4,s1.heap.objs.size+2,s1.heap.objs.size+3,s1.heap.objs.size,s1.heap.objs.size+1],_,_,H1,rfl,I2,turn_zip (PySem.W.ktu_apart s1.heap.objs.size a b la lb),⟨hz,hTI,⟨_,_,hTO⟩,h1,h2⟩,fun c hcm=>?_,q⟩
      have e':c=s1.heap.objs.size+4∨c=s1.heap.objs.size+2∨c=s1.heap.objs.size+3∨c=s1.heap.objs.size∨c=s1.heap.objs.size+1:=by simpa using hcm
      have hle:s1.heap.objs.size≤c:=by
        rcases e' with z | z | z | z | z
        · rw [z]; exact Nat.le_add_right _ _
        · rw [z]; exact Nat.le_add_right _ _
        · rw [z]; exact Nat.le_add_right _ _
        · rw [z]; exact Nat.le_refl _
        · rw [z]; exact Nat.le_add_right _ _
      exact I1.fpOk hle (I1.hok.fresh hle)
end L2
namespace L2
open PySem PySem.Spec PyProof.Rows
def inClass (s:Stmt) (j:Nat):Stmt:=match s with
  | .ClassDef _ _ _ body _ _ _ _ _ _ _=>body.getD j (.Pass ⟨0,0,0,0⟩)
  | _=>.Pass ⟨0,0,0,0⟩
def defArgs (s:Stmt):Arguments:=match s with
  | .FunctionDef _ a _ _ _ _ _ _ _ _=>a
  | _=>{ posonlyargs:=[],args:=[],vararg:=none,kwonlyargs:=[],kw_defaults:=[],kwarg:=none,defaults:=[] }
def defBody (s:Stmt):List Stmt:=match s with
  | .FunctionDef _ _ b _ _ _ _ _ _ _=>b
  | _=>[]
def defScope (s:Stmt):Scope:=match s with
  | .FunctionDef _ _ _ _ _ _ sc _ _ _=>sc
  | _=>{ kind:=.function,names:=[],isGenerator:=false,isCoroutine:=false }
abbrev CX0:CXT:=fun _ _ _ _ _ _=>False
abbrev E0:XK:=fun _ _ _=>False
theorem pass0 {X:Cx}:Passes CX0 X E0:=fun _ _ _ _ _ _ _ h=>h.elim
structure Fun (K:PySem.W.Frag) (x qual:Str) (st:Stmt) (f:Addr) (fd:FuncData):Prop where
  ex:∃ (oc:Value) (od:Option Addr) (kV doc pm:Value) (an:Option Addr) (cdv ct:Value) (osl:Array (Option Value)),
    fd=PySem.W.fnOf x qual (defArgs st) (defBody st) (defScope st) .none kV doc pm an cdv ct∧K.lookup f=some ⟨oc,od,.func fd,osl⟩∧PySem.W.codeIn K cdv qual=true
  kp:PySem.W.keepIn K (.ref f)=true
section
variable {P:Program} {w:World} {K:PySem.W.Frag} {mg:Str→Option Value} {base:Heap}
theorem Fun.ok {x qual:Str} {st:Stmt} {f:Addr} {fd:FuncData} {N ps:List Str} {k:Nat} {sp:Sp} (F:Fun K x qual st f fd) (S:FnScope N ps (defScope st)) (len:∀ vs H Q E,sp vs H Q E→vs.length=ps.length)
    (hbody:∀ (cdv:Value) (A:Around) (outer:List Env) (s:Shared) (H:Hp) (vs:List V) (Q:VK) (E:XK),Room k (A.deeper (envOfC qual (defScope st) s.heap.objs.size f cdv))→sp vs H Q E →
      ∃ t,PSs (cxOf CX0 P w K mg base N qual (defScope st) f cdv A outer s H E).nox (defBody st) t∧t { nx:=fun _ H'=>Q .non H',rt:=Q } (start N vs) H):FnOk P w K mg base CX0 (k+1) f fd ps sp:=by
  obtain ⟨oc,od,kV,doc,pm,an,cdv,ct,osl,rfl,lk,hcd⟩:=F.ex
  refine fn_of lk hcd S len fun A outer s H vs Q E hr hsp=>?_
  obtain ⟨t,h,q⟩:=hbody cdv A outer s H vs Q E hr hsp
  exact ⟨t,h.nox,q⟩
theorem Fun.binds {x qual:Str} {st:Stmt} {f:Addr} {fd:FuncData} {ps:List Str} (F:Fun K x qual st f fd)
    (h:∀ (kV doc pm:Value) (an:Option Addr) (cdv ct:Value) (us:List Value),us.length=ps.length→bindArgs (PySem.W.fnOf x qual (defArgs st) (defBody st) (defScope st) .none kV doc pm an cdv ct) ⟨us,[]⟩=pure (ps.zip us)):Binds K fd ps []:=by
  obtain ⟨oc,od,kV,doc,pm,an,cdv,ct,osl,rfl,lk,hcd⟩:=F.ex
  exact .all (h kV doc pm an cdv ct)
theorem fun_mk {x qual:Str} {st:Stmt} {f:Addr} {oc:Value} {od an:Option Addr} {osl:Array (Option Value)} {kV doc pm cdv ct:Value} (l:K.lookup f=some ⟨oc,od,.func (PySem.W.fnOf x qual (defArgs st) (defBody st) (defScope st) .none kV doc pm an cdv ct),osl⟩)
    (c:PySem.W.codeIn K cdv qual=true) (k:PySem.W.keepIn K (.ref f)=true):Fun K x qual st f (PySem.W.fnOf x qual (defArgs st) (defBody st) (defScope st) .none kV doc pm an cdv ct):=⟨⟨oc,od,kV,doc,pm,an,cdv,ct,osl,rfl,l,c⟩,k⟩
end
theorem hu_of {A:Around} {k:Nat} (hr:Room k A):A.units+1<cLine:=Nat.lt_of_le_of_lt (Nat.add_le_add_left (by decide:1≤64) _) hr.units
section
variable {X:Cx}
theorem pv (i:Nat) {x:Str} {pos:Pos} (hN:X.N[i]?=some x:=by rfl) (hv:Vis X.env.scope x:=by first | exact Or.inl rfl | exact Or.inr (Or.inl rfl) | exact Or.inr (Or.inr rfl)) (hd:(x == ("__debug__":Str))=false:=by decide)
    (hcd:(x == ("__classdict__":Str))=false:=by decide):PE X (.Name x pos) (tVar i):=pe_var hN hv hd hcd
end
theorem iteF {A B:Prop} (h:B):if false=true then A else B:=by
  rw [if_neg Bool.false_ne_true]
  exact h
theorem iteT {A B:Prop} (h:A):if true=true then A else B:=by
  rw [if_pos rfl]
  exact h
theorem ite2 {c A B:Prop} [Decidable c] (h1:c→A) (h2:¬ c→B):if c then A else B:=by
  by_cases h:c
  · rw [if_pos h]
    exact h1 h
  · rw [if_neg h]
    exact h2 h
def Same (H H':Hp):Prop:=∀ b o,H b=some o→H' b=some o
theorem Same.refl (H:Hp):Same H H:=fun _ _ h=>h
theorem Same.trans {H H1 H2:Hp} (a:Same H H1) (b:Same H1 H2):Same H H2:=fun c o h=>b c o (a c o h)
theorem Same.free {H H':Hp} (e:Same H H') {l:Addr} (h:H' l=Option.none):H l=Option.none:=by
  cases q:H l with
  | none=>rfl
  | some o =>
    rw [e l o q] at h
    cases h
theorem Same.seq {K:PySem.W.Frag} {H H':Hp} {a:Addr} {xs:List V} (e:Same H H') (h:SqL K H a xs):SqL K H' a xs:=by
  rcases h with (h | ⟨o,h⟩) | h
  · exact .inl (.inl (e _ _ h))
  · exact .inl (.inr ⟨o,e _ _ h⟩)
  · exact .inr h
theorem at_of {xs:List V} {z:Int} {j:Nat} {v:V} (e:z=(j:Int)) (h:xs[j]?=some v):atI xs z=some v:=by
  rw [e]
  exact atI_nat h
theorem nd_ix {α:Type} {l:List α} (hN:l.Nodup) {i j:Nat} {x:α} (a:l[i]?=some x) (b:l[j]?=some x):i=j:=by
  obtain ⟨h1,e1⟩:=List.getElem?_eq_some_iff.mp a
  obtain ⟨h2,e2⟩:=List.getElem?_eq_some_iff.mp b
  exact (List.getElem_inj hN).mp (e1.trans e2.symm)
theorem Same.made {H H1:Hp} {x dx C:Addr} (nx:H x=Option.none) (nd:H dx=Option.none) (k:∀ b o,(upd (upd H dx (.own x)) x (.ins C dx [])) b=some o→b≠x→H1 b=some o):Same H H1:=fun b o e =>
  k b o (by rw [upd_ne (ne_of_none e nx),upd_ne (ne_of_none e nd)]; exact e) (ne_of_none e nx)
end L2
section
namespace L2
open PySem PySem.Spec PyProof.Rows
open PySem.W (WData Codec OpenSpec Well WellAll ReadsW ReadsAllW)
mutual
inductive Dw (K:PySem.W.Frag) (H:Hp):V→WData→Prop
  | non:Dw K H .non .none
  | bl (b:Bool):Dw K H (.bl b) (.bool b)
  | int (i:Int):Dw K H (.int i) (.int i)
  | str (x:Str):Dw K H (.str x) (.str x)
  | byt (b:Array UInt8):Dw K H (.byt b) (.bytes b.toList)
  | lst {a:Addr} {xs:List V} {ds:List WData}:SqL K H a xs→DwAll K H xs ds→Dw K H (.ref a) (.list ds)
  | tup {a:Addr} {xs:List V} {ds:List WData}:SqT K H a xs→DwAll K H xs ds→Dw K H (.ref a) (.tuple ds)
inductive DwAll (K:PySem.W.Frag) (H:Hp):List V→List WData→Prop
  | nil:DwAll K H [] []
  | cons {v:V} {vs:List V} {d:WData} {ds:List WData}:Dw K H v d→DwAll K H vs ds→DwAll K H (v::vs) (d::ds)
end
theorem dw_ints {K:PySem.W.Frag} {H:Hp}:∀ ns:List Int,DwAll K H (ns.map V.int) (ns.map WData.int)
  | []=>.nil
  | n::r=>.cons (.int n) (dw_ints r)
theorem ints_dw {K:PySem.W.Frag} {H:Hp}:∀ (ns:List Int) (xs:List V),DwAll K H xs (ns.map WData.int)→xs=ns.map V.int
  | [],xs,h=>by
    cases h
    rfl
  | n::r,xs,h=>by
    cases h with
    | cons h1 h2 =>
      cases h1
      rw [ints_dw r _ h2] <;> rfl
section
variable {P:Program} {w:World} {K:PySem.W.Frag} {H:Hp} {h:Heap} {R:PySem.W.WRecords} {cl:Str→Option Addr}
theorem sqL_at {a:Addr} {xs:List V} (hok:HOk P w H h) (KX:K.In h) (q:SqL K H a xs):∃ (its:List Value) (o:Obj) (n:Nat),Vals xs its∧h.get? a=some o∧o.cls=.type "list"∧o.data=.seq its.toArray n:=by
  rcases q with q | ⟨o,its,n,e,hc,_,hd,_,hv⟩
  · obtain ⟨_,its,n,hv,e⟩:=(show ObjOk P w H h a (.lst xs) from q.ok hok)
    exact ⟨its,_,n,hv,e,rfl,rfl⟩
  · exact ⟨its.toList,o,n,hv,KX _ _ e,hc,by simp [hd]⟩
theorem sqT_at {a:Addr} {xs:List V} (hok:HOk P w H h) (KX:K.In h) (q:SqT K H a xs):∃ (its:List Value) (o:Obj) (n:Nat),Vals xs its∧h.get? a=some o∧o.cls=.type "tuple"∧o.data=.seq its.toArray n:=by
  rcases q with q | ⟨o,its,n,e,hc,hd,_,hv⟩
  · obtain ⟨_,its,hv,o,e,hc,n,hd⟩:=(show ObjOk P w H h a (.tup xs) from q.ok hok)
    exact ⟨its,o,n,hv,e,hc,hd⟩
  · exact ⟨its.toList,o,n,hv,KX _ _ e,hc,by simp [hd]⟩
mutual
theorem Dw.reads (hok:HOk P w H h) (KX:K.In h):∀ (d:WData) (v:V) (u:Value),Dw K H v d→RelV v u→∃ as,ReadsW R cl h u d as
  | .none,_,_,x,r=>by
    cases x
    cases r
    exact ⟨_,ReadsW.none⟩
  | .bool b,_,_,x,r=>by
    cases x
    cases r
    exact ⟨_,ReadsW.bool b⟩
  | .int i,_,_,x,r=>by
    cases x
    obtain ⟨t,rfl⟩:=r
    exact ⟨_,ReadsW.int i t⟩
  | .str s,_,_,x,r=>by
    cases x
    obtain ⟨t,rfl⟩:=r
    exact ⟨_,ReadsW.str s t⟩
  | .bytes b,_,_,x,r=>by
    cases x
    obtain ⟨t,rfl⟩:=r
    exact ⟨_,ReadsW.bytes _ t⟩
  | .list ds,_,_,x,r=>by
    cases x with
    | lst hs ha =>
      cases r
      obtain ⟨its,o,n,rv,ho,hc,hd⟩:=sqL_at hok KX hs
      obtain ⟨as,hr⟩:=Dw.readsAll hok KX ds _ its ha rv
      exact ⟨_,ReadsW.list ho hc hd hr⟩
  | .tuple ds,_,_,x,r=>by
    cases x with
    | tup hs ha =>
      cases r
      obtain ⟨its,o,n,rv,ho,hc,hd⟩:=sqT_at hok KX hs
      obtain ⟨as,hr⟩:=Dw.readsAll hok KX ds _ its ha rv
      exact ⟨_,ReadsW.tuple ho hc hd hr⟩
  | .float _,_,_,x,_=>by cases x
  | .dict _,_,_,x,_=>by cases x
  | .bytearray _,_,_,x,_=>by cases x
  | .set _,_,_,x,_=>by cases x
  | .frozenset _,_,_,x,_=>by cases x
  | .obj _ _,_,_,x,_=>by cases x
theorem Dw.readsAll (hok:HOk P w H h) (KX:K.In h):∀ (ds:List WData) (vs:List V) (us:List Value),DwAll K H vs ds→Vals vs us→∃ as,ReadsAllW R cl h us ds as
  | [],_,_,x,r=>by
    cases x
    cases r
    exact ⟨_,ReadsAllW.nil⟩
  | d::ds,_,_,x,r=>by
    cases x with
    | cons h1 h2 =>
      cases r with
      | cons r1 r2 =>
        obtain ⟨as,q1⟩:=Dw.reads hok KX d _ _ h1 r1
        obtain ⟨bs,q2⟩:=Dw.readsAll hok KX ds _ _ h2 r2
        exact ⟨_,ReadsAllW.cons q1 q2⟩
end
end
mutual
def plW:WData→Bool
  | .none=>true
  | .bool _=>true
  | .int _=>true
  | .str _=>true
  | .bytes _=>true
  | .list xs=>plWs xs
  | .tuple xs=>plWs xs
  | _=>false
def plWs:List WData→Bool
  | []=>true
  | x::r=>plW x && plWs r
end
theorem plWs_map {α:Type} {f:α→WData} (h:∀ a,plW (f a)=true):∀ l:List α,plWs (l.map f)=true
  | []=>rfl
  | x::r=>by
    show (plW (f x) && plWs (r.map f))=true
    rw [h x,plWs_map h r] <;> rfl
theorem pl_enc:∀ (c:Codec) (a:c.denote),plW (c.enc a)=true
  | .unit,_=>rfl
  | .bool,_=>rfl
  | .int _ _,_=>rfl
  | .nat _ _,_=>rfl
  | .u8,_=>rfl
  | .bytes _ _,_=>rfl
  | .text _ _ _ _,_=>rfl
  | .list _ _ c,a=>plWs_map (fun x=>pl_enc c x) a
  | .pair c d,a=>by
    show (plW (c.enc a.1) && (plW (d.enc a.2) && true))=true
    rw [pl_enc c a.1,pl_enc d a.2] <;> rfl
  | .triple c d e,a=>by
    show (plW (c.enc a.1) && (plW (d.enc a.2.1) && (plW (e.enc a.2.2) && true)))=true
    rw [pl_enc c a.1,pl_enc d a.2.1,pl_enc e a.2.2] <;> rfl
  | .option c,none=>rfl
  | .option c,some x=>pl_enc c x
theorem pl_encAll:∀ (cs:List Codec) (a:Codec.denoteAll cs),plWs (Codec.encAll cs a)=true
  | [],_=>rfl
  | c::cs,a=>by
    show (plW (c.enc a.1) && plWs (Codec.encAll cs a.2))=true
    rw [pl_enc c a.1,pl_encAll cs a.2] <;> rfl
theorem weight_mem:∀ {xs:List WData} {d:WData},d ∈ xs→d.weight≤WData.weightAll xs
  | [],d,h=>absurd h (by simp)
  | x::r,d,h=>by
    show d.weight≤x.weight+1+WData.weightAll r
    rcases List.mem_cons.mp h with e | m
    · rw [e]
      omega
    · have z:=weight_mem m
      omega
def toV:Value→V
  | .none=>.non
  | .bool b=>.bl b
  | .int i _=>.int i
  | .str x _=>.str x
  | .bytes b _=>.byt b
  | .ref a=>.ref a
  | _=>.non
def OkU (A:List Addr):Value→Prop
  | .none=>True
  | .bool _=>True
  | .int _ _=>True
  | .str _ _=>True
  | .bytes _ _=>True
  | .ref a=>a ∈ A
  | _=>False
theorem OkU.mono {A B:List Addr} (h:∀ a ∈ A,a ∈ B):∀ {u:Value},OkU A u→OkU B u:=fun {u} x=>by
  cases u with
  | ref a=>exact h a x
  | none=>trivial
  | bool b=>trivial
  | int i t=>trivial
  | str s t=>trivial
  | bytes b t=>trivial
  | _=>exact False.elim x
theorem relV_toV {A:List Addr} {u:Value} (x:OkU A u):RelV (toV u) u:=by
  cases u with
  | ref a=>rfl
  | none=>rfl
  | bool b=>rfl
  | int i t=>exact ⟨t,rfl⟩
  | str s t=>exact ⟨t,rfl⟩
  | bytes b t=>exact ⟨t,rfl⟩
  | _=>exact False.elim x
theorem vals_toV {A:List Addr}:∀ {vs:List Value},(∀ u ∈ vs,OkU A u)→Vals (vs.map toV) vs
  | [],_=>.nil
  | u::r,h=>.cons (relV_toV (h u (List.mem_cons_self ..))) (vals_toV fun x hx=>h x (List.mem_cons_of_mem _ hx))
def ArgOb (h:Heap) (A:List Addr) (a:Addr):Prop:=∃ vs:List Value,vs.length≤sizeLine∧(∀ u ∈ vs,OkU A u) ∧
  (h.get? a=some { cls:=.type "list",data:=.seq vs.toArray }∨h.get? a=some { cls:=.type "tuple",data:=.seq vs.toArray })
theorem ArgOb.mono {h:Heap} {A B:List Addr} {a:Addr} (k:∀ a ∈ A,a ∈ B) (x:ArgOb h A a):ArgOb h B a:=by
  obtain ⟨vs,h1,h2,h3⟩:=x
  exact ⟨vs,h1,fun u hu=>(h2 u hu).mono k,h3⟩
theorem wellAll_len {P:Params} {h:Heap}:∀ {vs:List Value} {ds:List WData},WellAll P h vs ds→vs.length=ds.length
  | _,_,.nil=>rfl
  | _,_,.cons _ b=>by
    show _+1=_+1
    rw [wellAll_len b]
theorem well_list {P:Params} {h:Heap} {v:Value} {ds:List WData} (x:Well P h v (.list ds)):∃ (a:Addr) (vs:List Value),v=.ref a∧h.get? a=some { cls:=.type "list",data:=.seq vs.toArray }∧WellAll P h vs ds:=by
  cases x with
  | list ho hall=>exact ⟨_,_,rfl,ho,hall⟩
theorem well_tuple {P:Params} {h:Heap} {v:Value} {ds:List WData} (x:Well P h v (.tuple ds)):∃ (a:Addr) (vs:List Value),v=.ref a∧h.get? a=some { cls:=.type "tuple",data:=.seq vs.toArray }∧WellAll P h vs ds:=by
  cases x with
  | tuple ho hall=>exact ⟨_,_,rfl,ho,hall⟩
theorem well_cons {P:Params} {h:Heap} {us:List Value} {d:WData} {ds:List WData} (x:WellAll P h us (d::ds)):∃ (v:Value) (vs:List Value),us=v::vs∧Well P h v d∧WellAll P h vs ds:=by
  cases x with
  | cons a b=>exact ⟨_,_,rfl,a,b⟩
theorem line_of {n:Nat} (h:n≤1048576):n≤sizeLine:=Nat.le_trans h (by decide)
section
variable {P:Params} {h:Heap}
mutual
theorem area_one:∀ (d:WData) (v:Value),Well P h v d→plW d=true→d.weight≤1048576→∃ A:List Addr,OkU A v∧∀ a ∈ A,ArgOb h A a
  | .none,_,x,_,_=>by
    cases x
    exact ⟨[],trivial,fun a m=>absurd m (by simp)⟩
  | .bool b,_,x,_,_=>by
    cases x
    exact ⟨[],trivial,fun a m=>absurd m (by simp)⟩
  | .int i,_,x,_,_=>by
    cases x
    exact ⟨[],trivial,fun a m=>absurd m (by simp)⟩
  | .str s,_,x,_,_=>by
    cases x
    exact ⟨[],trivial,fun a m=>absurd m (by simp)⟩
  | .bytes b,_,x,_,_=>by
    cases x
    exact ⟨[],trivial,fun a m=>absurd m (by simp)⟩
  | .list ds,_,x,p,z=>by
    obtain ⟨a,vs,rfl,ho,hall⟩:=well_list x
    have z2:WData.weightAll ds≤1048576:=z
    obtain ⟨A,h1,h2⟩:=area_all ds _ hall p fun d hd=>Nat.le_trans (weight_mem hd) z2
    have k:∀ b ∈ A,b ∈ a::A:=fun b hb=>List.mem_cons_of_mem _ hb
    refine ⟨a::A,List.mem_cons_self ..,fun b hb=>?_⟩
    rcases List.mem_cons.mp hb with e | m
    · rw [e]
      exact ⟨vs,line_of (by rw [wellAll_len hall]; exact Nat.le_trans (PySem.W.length_le_weightAllW ds) z2),fun u hu=>(h1 u hu).mono k,.inl ho⟩
    · exact (h2 b m).mono k
  | .tuple ds,_,x,p,z=>by
    obtain ⟨a,vs,rfl,ho,hall⟩:=well_tuple x
    have z2:WData.weightAll ds≤1048576:=z
    obtain ⟨A,h1,h2⟩:=area_all ds _ hall p fun d hd=>Nat.le_trans (weight_mem hd) z2
    have k:∀ b ∈ A,b ∈ a::A:=fun b hb=>List.mem_cons_of_mem _ hb
    refine ⟨a::A,List.mem_cons_self ..,fun b hb=>?_⟩
    rcases List.mem_cons.mp hb with e | m
    · rw [e]
      exact ⟨vs,line_of (by rw [wellAll_len hall]; exact Nat.le_trans (PySem.W.length_le_weightAllW ds) z2),fun u hu=>(h1 u hu).mono k,.inr ho⟩
    · exact (h2 b m).mono k
  | .float _,_,_,p,_=>Bool.noConfusion (show false=true from p)
  | .dict _,_,_,p,_=>Bool.noConfusion (show false=true from p)
  | .bytearray _,_,_,p,_=>Bool.noConfusion (show false=true from p)
  | .set _,_,_,p,_=>Bool.noConfusion (show false=true from p)
  | .frozenset _,_,_,p,_=>Bool.noConfusion (show false=true from p)
  | .obj _ _,_,_,p,_=>Bool.noConfusion (show false=true from p)
theorem area_all:∀ (ds:List WData) (vs:List Value),WellAll P h vs ds→plWs ds=true→(∀ d ∈ ds,d.weight≤1048576)→∃ A:List Addr,(∀ u ∈ vs,OkU A u)∧∀ a ∈ A,ArgOb h A a
  | [],_,x,_,_=>by
    cases x
    exact ⟨[],fun u m=>absurd m (by simp),fun a m=>absurd m (by simp)⟩
  | d::ds,_,x,p,z=>by
    obtain ⟨v,vs,rfl,x1,x2⟩:=well_cons x
    have q:plW d=true∧plWs ds=true:=Bool.and_eq_true_iff.mp p
    obtain ⟨A,a1,a2⟩:=area_one d v x1 q.1 (z d (List.mem_cons_self ..))
    obtain ⟨B,b1,b2⟩:=area_all ds vs x2 q.2 fun e he=>z e (List.mem_cons_of_mem _ he)
    have kA:∀ b ∈ A,b ∈ A++B:=fun b hb=>List.mem_append.mpr (.inl hb)
    have kB:∀ b ∈ B,b ∈ A++B:=fun b hb=>List.mem_append.mpr (.inr hb)
    refine ⟨A++B,fun u hu=>?_,fun b hb=>?_⟩
    · rcases List.mem_cons.mp hu with e | m
      · rw [e]
        exact a1.mono kA
      · exact (b1 u m).mono kB
    · rcases List.mem_append.mp hb with m | m
      · exact (a2 b m).mono kA
      · exact (b2 b m).mono kB
end
end
def hoOf (o:Obj):Option HO:=match o.data with
  | .seq vs _=>if (o.cls == Value.type "list")=true then some (.frz o (.lst (vs.toList.map toV))) else some (.frz o (.tup (vs.toList.map toV)))
  | _=>none
def argH (K:PySem.W.Frag) (h:Heap) (A:List Addr):Hp:=fun b=>if b ∈ A then (if (K.lookup b).isNone=true then (h.get? b).bind hoOf else none) else none
def OnlyF (H:Hp):Prop:=∀ b,H b=none∨∃ o u,H b=some (.frz o u)
theorem hoOf_lst (vs:List Value):hoOf { cls:=.type "list",data:=.seq vs.toArray }=some (.frz { cls:=.type "list",data:=.seq vs.toArray } (.lst (vs.map toV))):=by
  show (if (Value.type "list" == Value.type "list")=true then some (HO.frz { cls:=.type "list",data:=.seq vs.toArray } (.lst (vs.toArray.toList.map toV))) else some (HO.frz { cls:=.type "list",data:=.seq vs.toArray } (.tup (vs.toArray.toList.map toV))))=_
  rw [if_pos (beq_self_eq_true _)]
theorem hoOf_tup (vs:List Value):hoOf { cls:=.type "tuple",data:=.seq vs.toArray }=some (.frz { cls:=.type "tuple",data:=.seq vs.toArray } (.tup (vs.map toV))):=by
  show (if (Value.type "tuple" == Value.type "list")=true then some (HO.frz { cls:=.type "tuple",data:=.seq vs.toArray } (.lst (vs.toArray.toList.map toV))) else some (HO.frz { cls:=.type "tuple",data:=.seq vs.toArray } (.tup (vs.toArray.toList.map toV))))=_
  rw [if_neg (by decide)]
section
variable {P:Program} {w:World} {K:PySem.W.Frag} {h:Heap} {A:List Addr}
theorem argH_at {b:Addr} {o:Obj} (hb:b ∈ A) (hk:K.lookup b=none) (e:h.get? b=some o):argH K h A b=hoOf o:=by
  unfold argH
  rw [if_pos hb,hk,if_pos (show (none:Option Obj).isNone=true from rfl),e] <;> rfl
theorem of_argH {b:Addr} {u:HO} (q:argH K h A b=some u):b ∈ A∧K.lookup b=none:=by
  unfold argH at q
  by_cases hb:b ∈ A
  · rw [if_pos hb] at q
    cases hk:K.lookup b with
    | none=>exact ⟨hb,rfl⟩
    | some o =>
      rw [hk,if_neg (by simp)] at q
      cases q
  · rw [if_neg hb] at q
    cases q
theorem argH_is (ar:∀ a ∈ A,ArgOb h A a) {b:Addr} {u:HO} (q:argH K h A b=some u):K.lookup b=none∧∃ vs:List Value,vs.length≤sizeLine∧(∀ u ∈ vs,OkU A u) ∧
    ((h.get? b=some { cls:=.type "list",data:=.seq vs.toArray }∧u=.frz { cls:=.type "list",data:=.seq vs.toArray } (.lst (vs.map toV))) ∨
     (h.get? b=some { cls:=.type "tuple",data:=.seq vs.toArray }∧u=.frz { cls:=.type "tuple",data:=.seq vs.toArray } (.tup (vs.map toV)))):=by
  obtain ⟨hb,hk⟩:=of_argH q
  obtain ⟨vs,h1,h2,h3⟩:=ar b hb
  refine ⟨hk,vs,h1,h2,?_⟩
  rcases h3 with e | e
  · rw [argH_at hb hk e,hoOf_lst] at q
    exact .inl ⟨e,(Option.some.inj q).symm⟩
  · rw [argH_at hb hk e,hoOf_tup] at q
    exact .inr ⟨e,(Option.some.inj q).symm⟩
theorem argH_only (ar:∀ a ∈ A,ArgOb h A a):OnlyF (argH K h A):=fun b=>by
  cases q:argH K h A b with
  | none=>exact .inl rfl
  | some u =>
    obtain ⟨_,vs,_,_,⟨_,e⟩ | ⟨_,e⟩⟩:=argH_is ar q
    · exact .inr ⟨_,_,by rw [e]⟩
    · exact .inr ⟨_,_,by rw [e]⟩
theorem argH_ok (ar:∀ a ∈ A,ArgOb h A a):HOk P w (argH K h A) h:=fun b u q=>by
  obtain ⟨_,vs,h1,h2,⟨e,rfl⟩ | ⟨e,rfl⟩⟩:=argH_is ar q
  · exact ⟨e,by rw [List.length_map]; exact h1,vs,_,vals_toV h2,e⟩
  · exact ⟨e,by rw [List.length_map]; exact h1,vs,vals_toV h2,_,e,rfl,_,rfl⟩
theorem seq_inj {c c':Value} {vs us:List Value} (e:(some { cls:=c,data:=.seq vs.toArray }:Option Obj)=some { cls:=c',data:=.seq us.toArray }):c=c'∧vs=us:=by
  have e1:=Option.some.inj e
  have e2:c=c':=congrArg Obj.cls e1
  have e3:Data.seq vs.toArray=Data.seq us.toArray:=congrArg Obj.data e1
  injection e3 with e4
  refine ⟨e2,?_⟩
  have e5:=congrArg Array.toList e4
  simpa using e5
theorem argL (KX:K.In h) (ar:∀ a ∈ A,ArgOb h A a) {a:Addr} {vs:List Value} (ha:a ∈ A) (e:h.get? a=some { cls:=.type "list",data:=.seq vs.toArray }):(∀ u ∈ vs,OkU A u)∧SqL K (argH K h A) a (vs.map toV):=by
  obtain ⟨us,h1,h2,h3⟩:=ar a ha
  have hu:us=vs:=by
    rcases h3 with q | q
    · rw [e] at q
      exact (seq_inj q).2.symm
    · rw [e] at q
      exact absurd (Value.type.inj (seq_inj q).1) (by decide)
  subst hu
  refine ⟨h2,?_⟩
  cases hk:K.lookup a with
  | none=>exact .inl (.inr ⟨_,by rw [argH_at ha hk e,hoOf_lst]⟩)
  | some o =>
    have e2:=KX a o hk
    rw [e] at e2
    obtain rfl:=Option.some.inj e2
    exact .inr ⟨_,us.toArray,_,hk,rfl,rfl,rfl,by rw [List.size_toArray]; exact h1,by simpa using vals_toV h2⟩
theorem argT (KX:K.In h) (ar:∀ a ∈ A,ArgOb h A a) {a:Addr} {vs:List Value} (ha:a ∈ A) (e:h.get? a=some { cls:=.type "tuple",data:=.seq vs.toArray }):(∀ u ∈ vs,OkU A u)∧SqT K (argH K h A) a (vs.map toV):=by
  obtain ⟨us,h1,h2,h3⟩:=ar a ha
  have hu:us=vs:=by
    rcases h3 with q | q
    · rw [e] at q
      exact absurd (Value.type.inj (seq_inj q).1) (by decide)
    · rw [e] at q
      exact (seq_inj q).2.symm
  subst hu
  refine ⟨h2,?_⟩
  cases hk:K.lookup a with
  | none=>exact .inl (.inr ⟨_,by rw [argH_at ha hk e,hoOf_tup]⟩)
  | some o =>
    have e2:=KX a o hk
    rw [e] at e2
    obtain rfl:=Option.some.inj e2
    exact .inr ⟨_,us.toArray,_,hk,rfl,rfl,by rw [List.size_toArray]; exact h1,by simpa using vals_toV h2⟩
mutual
theorem dw_one {Pm:Params} (KX:K.In h) (ar:∀ a ∈ A,ArgOb h A a):∀ (d:WData) (v:Value),Well Pm h v d→plW d=true→OkU A v→Dw K (argH K h A) (toV v) d
  | .none,_,x,_,_=>by
    cases x
    exact .non
  | .bool b,_,x,_,_=>by
    cases x
    exact .bl b
  | .int i,_,x,_,_=>by
    cases x
    exact .int i
  | .str s,_,x,_,_=>by
    cases x
    exact .str s
  | .bytes b,_,x,_,_=>by
    cases x
    have z:=Dw.byt (K:=K) (H:=argH K h A) b.toArray
    exact z
  | .list ds,_,x,p,hu=>by
    obtain ⟨a,vs,rfl,ho,hall⟩:=well_list x
    obtain ⟨h2,hs⟩:=argL KX ar hu ho
    exact .lst hs (dw_all KX ar ds _ hall p h2)
  | .tuple ds,_,x,p,hu=>by
    obtain ⟨a,vs,rfl,ho,hall⟩:=well_tuple x
    obtain ⟨h2,hs⟩:=argT KX ar hu ho
    exact .tup hs (dw_all KX ar ds _ hall p h2)
  | .float _,_,_,p,_=>Bool.noConfusion (show false=true from p)
  | .dict _,_,_,p,_=>Bool.noConfusion (show false=true from p)
  | .bytearray _,_,_,p,_=>Bool.noConfusion (show false=true from p)
  | .set _,_,_,p,_=>Bool.noConfusion (show false=true from p)
  | .frozenset _,_,_,p,_=>Bool.noConfusion (show false=true from p)
  | .obj _ _,_,_,p,_=>Bool.noConfusion (show false=true from p)
theorem dw_all {Pm:Params} (KX:K.In h) (ar:∀ a ∈ A,ArgOb h A a):∀ (ds:List WData) (vs:List Value),WellAll Pm h vs ds→plWs ds=true→(∀ u ∈ vs,OkU A u)→DwAll K (argH K h A) (vs.map toV) ds
  | [],_,x,_,_=>by
    cases x
    exact .nil
  | d::ds,_,x,p,hu=>by
    obtain ⟨v,vs,rfl,x1,x2⟩:=well_cons x
    have q:plW d=true∧plWs ds=true:=Bool.and_eq_true_iff.mp p
    exact .cons (dw_one KX ar d v x1 q.1 (hu _ (List.mem_cons_self ..))) (dw_all KX ar ds vs x2 q.2 fun u m=>hu u (List.mem_cons_of_mem _ m))
end
end
theorem spec_call {P:Program} {w:World} {K:PySem.W.Frag} {mg mb:Str→Option Value} {CX:CXT} {k:Nat} {fa:Addr} {fd:FuncData} {ps:List Str} {sp:Sp} {s₁:Shared} {vals:List Value} {ds:List WData} {R:PySem.W.WRecords} {cl:Str→Option Addr} {d0:WData}
    (KX:K.In s₁.heap) (hns:s₁.heap.Ns mainGlobals mg) (hb:s₁.heap.Ns builtinsNs mb) (hbb:∀ x:Str,x≠"__name__"→mb x=bootBuiltins x) (hlim:s₁.heap.NoLimit) (hg:s₁.gens=#[])
    (hwl:WellAll w.params s₁.heap vals ds) (hpl:plWs ds=true) (hwt:∀ d ∈ ds,d.weight≤1048576) (hr:Room k callerA)
    (F:∀ base:Heap,K.In base→base.Ns mainGlobals mg→FnOk P w K mg base CX k fa fd ps sp) (hbind:∀ (s:Shared) (us:List Value),us.length=ps.length→BindsTo s fd ⟨us,[]⟩ (ps.zip us)) (hlen:ds.length=ps.length)
    (hsp:∀ (H:Hp) (xs:List V),OnlyF H→DwAll K H xs ds→sp xs H (fun v H'=>Dw K H' v d0) fun _ _ _=>False)
    (hCX:∀ H e s',CX [] H s₁ (fun _ _ _=>False) e s'→False) :
    codeAny (model P w) callerA (.call (.ref fa) ⟨vals,[]⟩) (fun r s'=>∃ u as,r=.ok (.ret u)∧ReadsW R cl s'.heap u d0 as∧OldK s₁.heap s'.heap∧s'.os=s₁.os∧AllBare s'.gens) s₁:=by
  obtain ⟨A,ho,ar⟩:=area_all ds vals hwl hpl hwt
  have hO:OnlyF (argH K s₁.heap A):=argH_only ar
  have hok:HOk P w (argH K s₁.heap A) s₁.heap:=argH_ok ar
  have hS:=dw_all KX ar ds vals hwl hpl ho
  have hV:=vals_toV ho
  have hK:∀ b u,argH K s₁.heap A b=some u→K.lookup b=none:=fun b u q=>(argH_is ar q).1
  have noA:∀ {b:Addr} {o:Obj} {es:Array DictEntry} {ep:Nat},s₁.heap.get? b=some o→o.data=.dict es ep→argH K s₁.heap A b=none:=fun {b o es ep} e d=>by
    cases q:argH K s₁.heap A b with
    | none=>rfl
    | some u =>
      obtain ⟨_,vs,_,_,⟨e2,_⟩ | ⟨e2,_⟩⟩:=argH_is ar q
      · rw [e2] at e
        cases e
        have d':Data.seq vs.toArray _=Data.dict es ep:=d
        cases d'
      · rw [e2] at e
        cases e
        have d':Data.seq vs.toArray _=Data.dict es ep:=d
        cases d'
  generalize argH K s₁.heap A=H at hO hok hS hK noA
  have base_of:∀ {b:Addr} {o:Obj},s₁.heap.get? b=some o→H b=none→(hidT s₁.heap H).get? b=some o:=fun e n=>hidT_get e n
  have nsK:∀ {b:Addr} {m:Str→Option Value},s₁.heap.Ns b m→(hidT s₁.heap H).Ns b m:=fun {b m} ⟨o,es,ep,e,d,r⟩=>⟨o,es,ep,base_of e (noA e d),d,r⟩
  have nK:∀ b o,K.lookup b=some o→H b=none:=fun b o e=>by
    cases q:H b with
    | none=>rfl
    | some u =>
      rw [hK b u q] at e
      cases e
  have hKb:K.In (hidT s₁.heap H):=fun b o e=>base_of (KX b o e) (nK b o e)
  have hM:Mod K mg (hidT s₁.heap H):=⟨hKb,nsK hns,⟨mb,nsK hb,hbb⟩,let ⟨mc,h1,h2⟩:=hlim; ⟨mc,nsK h1,h2⟩⟩
  have e0:Env0 P w K mg (hidT s₁.heap H) callerA [] s₁ H:=⟨rfl,hM,fun b o e=>of_hidT e,Nat.le_of_eq (hidT_size _ _),trivial,fun b hb=>absurd (show b ∈ ([]:List Addr) from hb) (by simp),hok,.of_eq hg⟩
  have hl:vals.length=ps.length:=by rw [wellAll_len hwl]; exact hlen
  refine codeAny_mono ((F _ hKb (nsK hns)).run callerA [] s₁ H ⟨vals,[]⟩ vals (vals.map toV) _ _ hr e0 (hbind s₁ vals hl) hV (hsp H _ hO hS)) fun r s' x=>?_
  cases r with
  | error e=>exact (hCX H e s' x).elim
  | ok fl =>
    cases fl with
    | next=>exact False.elim x
    | brk=>exact False.elim x
    | cont=>exact False.elim x
    | ret u =>
      obtain ⟨v,H',os,bare,un,hok',r',q⟩:=x
      have kept:∀ b o,s₁.heap.get? b=some o→s'.heap.get? b=some o:=fun b o e=>by
        cases q2:H b with
        | none=>exact un.keep b o e q2 (by intro z; exact absurd (show b ∈ ([]:List Addr) from z) (by simp)) (by simp)
        | some u2 =>
          rcases hO b with z | ⟨ob,u3,z⟩
          · rw [q2] at z
            cases z
          · have z2:=un.frzs b ob _ z
            obtain ⟨e1,_⟩:=hok b _ z
            obtain ⟨e2,_⟩:=hok' b _ z2
            rw [e] at e1
            cases e1
            exact e2
      have KX':K.In s'.heap:=fun b o e=>kept b o (KX b o e)
      obtain ⟨as,hrd⟩:=Dw.reads (R:=R) (cl:=cl) hok' KX' d0 v u q r'
      exact ⟨u,as,rfl,hrd,OldK.of_keep kept,os,bare⟩
theorem layable_weight {ds:List WData} (h:WData.layableAll ds=true):∀ d ∈ ds,d.weight≤1048576:=fun d hd =>
  (PySem.W.layableW_iff.mp (List.all_eq_true.mp h d hd)).2.2
theorem encAll_len:∀ (cs:List Codec) (a:Codec.denoteAll cs),(Codec.encAll cs a).length=cs.length
  | [],_=>rfl
  | c::cs,a=>by
    show (Codec.encAll cs a.2).length+1=cs.length+1
    rw [encAll_len cs a.2]
theorem walk_spec {r:OpenSpec} {k:Nat} {q:Program} {loose:List Str} {XP:(Str→Option Value)→Heap→Prop} {YP:World→Heap→Prop} {d:DefRec} {K:Params→PySem.W.Frag} {CX:World→CXT} {ps:List Str} {sp:World→Sp}
    (hwell:r.wellSaid=true) (hdf:d.params.defaults=[]) (hlen:r.args.length=ps.length) (hr:Room k callerA)
    (hY:∀ (w:World) (h:Heap),YP w h→(K w.params).In h)
    (F:∀ (w:World) (mg:Str→Option Value) (fa:Addr) (h:Heap),YP w h→(K w.params).In h→h.Ns mainGlobals mg→mg d.name=some (.ref fa) →
      ∃ fd:FuncData,(∀ (s:Shared) (us:List Value),us.length=ps.length→BindsTo s fd ⟨us,[]⟩ (ps.zip us)) ∧
        ∀ base:Heap,(K w.params).In base→base.Ns mainGlobals mg→FnOk r.prog w (K w.params) mg base (CX w) k fa fd ps (sp w))
    (hsp:∀ (w:World) (H:Hp) (xs:List V) (a:Codec.denoteAll r.args),OnlyF H→Codec.withinAll r.args a=true→Codec.app r.args r.asked a=true→DwAll (K w.params) H xs (Codec.encAll r.args a) →
      sp w xs H (fun v H'=>Dw (K w.params) H' v (r.ret.enc (Codec.app r.args r.f a))) fun _ _ _=>False)
    (hCX:∀ (w:World) (H:Hp) (s:Shared) (e:Value) (s':Shared),CX w [] H s (fun _ _ _=>False) e s'→False) :
    PySem.W.WalkOS q loose XP YP r d [] (fun f vs=>PySem.call f vs):=by
  intro w s_0 s₁ mg mb G Y fa o pm cd doc dV kV ho hd hcd hD hmg hg args vals as hpre hlay hrd hwl hlo
  obtain ⟨a,e1,e2⟩:=PySem.W.os_pre_some hpre
  obtain ⟨e3,hwi⟩:=Codec.encAll_of_decAll r.args args a e1
  subst e3
  have KX:=hY w _ Y
  obtain ⟨fd,hb,hF⟩:=F w mg fa _ Y KX G.T.g hmg
  refine PySem.W.enter_call (codeAny_mono (spec_call (R:=[]) (cl:=classAt s_0.heap) (d0:=r.ret.enc (Codec.app r.args r.f a)) KX G.T.g G.T.b G.T.builtins G.T.nolimit hg hwl (pl_encAll _ _) (layable_weight hlay) hr hF hb (by rw [encAll_len]; exact hlen)
    (fun H xs hO hS=>hsp w H xs a hO hwi e2 hS) fun H e s'=>hCX w H s₁ e s') fun r' s' hq=>?_)
  obtain ⟨u,as',rfl,h1,h2,h3,h4⟩:=hq
  exact ⟨.inl ⟨u,_,as',rfl,fun _=>rfl,h1,(OpenSpec.post_iff hwell hwi _ _).mpr rfl,fun z=>Bool.noConfusion (show false=true from z)⟩,h2,h3,h4⟩
theorem walk_specK {r:OpenSpec} {k:Nat} {q:Program} {loose:List Str} {XP:(Str→Option Value)→Heap→Prop} {YP:World→Heap→Prop} {d:DefRec} {K:Params→PySem.W.Frag} {CX:CXT} {ps:List Str} {sp:PySem.W.Frag→Sp}
    (hwell:r.wellSaid=true) (hdf:d.params.defaults=[]) (hlen:r.args.length=ps.length) (hr:Room k callerA)
    (hY:∀ (w:World) (h:Heap),YP w h→(K w.params).In h)
    (F:∀ (w:World) (mg:Str→Option Value) (fa:Addr) (h:Heap),YP w h→(K w.params).In h→h.Ns mainGlobals mg→mg d.name=some (.ref fa) →
      ∃ fd:FuncData,(∀ (s:Shared) (us:List Value),us.length=ps.length→BindsTo s fd ⟨us,[]⟩ (ps.zip us)) ∧
        ∀ base:Heap,(K w.params).In base→base.Ns mainGlobals mg→FnOk r.prog w (K w.params) mg base CX k fa fd ps (sp (K w.params)))
    (hsp:∀ (K:PySem.W.Frag) (H:Hp) (xs:List V) (a:Codec.denoteAll r.args),OnlyF H→Codec.withinAll r.args a=true→Codec.app r.args r.asked a=true→DwAll K H xs (Codec.encAll r.args a) →
      sp K xs H (fun v H'=>Dw K H' v (r.ret.enc (Codec.app r.args r.f a))) fun _ _ _=>False)
    (hCX:∀ (H:Hp) (s:Shared) (e:Value) (s':Shared),CX [] H s (fun _ _ _=>False) e s'→False) :
    PySem.W.WalkOS q loose XP YP r d [] (fun f vs=>PySem.call f vs) :=
  walk_spec (K:=K) (CX:=fun _=>CX) (sp:=fun w=>sp (K w.params)) hwell hdf hlen hr hY F (fun w H xs a h1 h2 h3 h4=>hsp (K w.params) H xs a h1 h2 h3 h4) fun _ H s e s'=>hCX H s e s'
end L2
end
namespace Fr
open Su73
def ll:List Nat→List Nat→Prop
 | [],[]=>False
 | [],_::_=>True
 | _::_,[]=>False
 | a::l,b::m=>a<b∨(a=b∧ll l m)
theorem ll_irrefl:∀ l,¬ ll l l
 | [],h=>h
 | a::l,h=>by
  rcases h with h | ⟨_,h⟩
  ·exact Nat.lt_irrefl _ h
  ·exact ll_irrefl l h
theorem ll_trans:∀ {a b c:List Nat},ll a b→ll b c→ll a c
 | [],[],_,h,_=>h.elim
 | [],_::_,[],_,h=>h.elim
 | [],_::_,_::_,_,_=>trivial
 | _::_,[],_,h,_=>h.elim
 | _::_,_::_,[],_,h=>h.elim
 | x::a,y::b,z::c,h,k=>by
  rcases h with h | ⟨rfl,h⟩
  ·rcases k with k | ⟨rfl,k⟩
   ·exact .inl (Nat.lt_trans h k)
   ·exact .inl h
  ·rcases k with k | ⟨rfl,k⟩
   ·exact .inl k
   ·exact .inr ⟨rfl,ll_trans h k⟩
theorem ll_total:∀ a b:List Nat,ll a b∨a=b∨ll b a
 | [],[]=>.inr (.inl rfl)
 | [],_::_=>.inl trivial
 | _::_,[]=>.inr (.inr trivial)
 | x::a,y::b=>by
  rcases Nat.lt_trichotomy x y with h | rfl | h
  ·exact .inl (.inl h)
  ·rcases ll_total a b with h | rfl | h
   ·exact .inl (.inr ⟨rfl,h⟩)
   ·exact .inr (.inl rfl)
   ·exact .inr (.inr (.inr ⟨rfl,h⟩))
  ·exact .inr (.inr (.inl h))
theorem ll_snoc:∀ {a b:List Nat} (x:Nat),a.length=b.length→ll a b→ll (a++[x]) (b++[x])
 | [],[],_,_,h=>h.elim
 | _::a,_::b,x,e,h=>by
  rcases h with h | ⟨rfl,h⟩
  ·exact .inl h
  ·exact .inr ⟨rfl,ll_snoc x (Nat.succ.inj e) h⟩
def kl (p:Nat×Nat) (a:List Nat) (q:Nat×Nat) (b:List Nat):Prop:=p.1<q.1∨(p.1=q.1∧(p.2<q.2∨(p.2=q.2∧ll a b)))
theorem kl_irrefl (p:Nat×Nat) (a:List Nat):¬ kl p a p a:=by
 rintro (h | ⟨_,h | ⟨_,h⟩⟩)
 ·exact Nat.lt_irrefl _ h
 ·exact Nat.lt_irrefl _ h
 ·exact ll_irrefl _ h
theorem kl_trans {p q r:Nat×Nat} {a b c:List Nat} (h:kl p a q b) (k:kl q b r c):kl p a r c:=by
 rcases h with h | ⟨e,h | ⟨e2,h⟩⟩
 ·rcases k with k | ⟨e',_⟩
  ·exact .inl (Nat.lt_trans h k)
  ·exact .inl (by omega)
 ·rcases k with k | ⟨e',k | ⟨e2',k⟩⟩
  ·exact .inl (by omega)
  ·exact .inr ⟨by omega,.inl (by omega)⟩
  ·exact .inr ⟨by omega,.inl (by omega)⟩
 ·rcases k with k | ⟨e',k | ⟨e2',k⟩⟩
  ·exact .inl (by omega)
  ·exact .inr ⟨by omega,.inl (by omega)⟩
  ·exact .inr ⟨by omega,.inr ⟨by omega,ll_trans h k⟩⟩
def lessF (f:List Nat→Nat×Nat) (b w:List Nat):List Nat:=if (f w).1<(f b).1∨((f w).1=(f b).1∧(f w).2<(f b).2) then w else b
theorem fold_least (f:List Nat→Nat×Nat):∀ (l:List (List Nat)) (b:List Nat),(b::l).Pairwise ll →
  l.foldl (lessF f) b ∈ b::l∧∀ w ∈ b::l,w=l.foldl (lessF f) b∨kl (f (l.foldl (lessF f) b)) (l.foldl (lessF f) b) (f w) w
 | [],b,_=>⟨List.mem_cons_self,fun w hw=>by
   rcases List.mem_cons.mp hw with rfl | h
   ·exact .inl rfl
   ·cases h⟩
 | x::l,b,hp=>by
  have hb:ll b x:=(List.pairwise_cons.mp hp).1 x List.mem_cons_self
  have hpx:(x::l).Pairwise ll:=(List.pairwise_cons.mp hp).2
  have hpb:(b::l).Pairwise ll:=List.pairwise_cons.mpr ⟨fun y hy=>(List.pairwise_cons.mp hp).1 y (List.mem_cons_of_mem _ hy),(List.pairwise_cons.mp hpx).2⟩
  show l.foldl (lessF f) (lessF f b x) ∈ _∧∀ w ∈ _,w=l.foldl (lessF f) (lessF f b x)∨kl (f (l.foldl (lessF f) (lessF f b x))) (l.foldl (lessF f) (lessF f b x)) (f w) w
  by_cases hc:(f x).1<(f b).1∨((f x).1=(f b).1∧(f x).2<(f b).2)
  ·have e:lessF f b x=x:=if_pos hc
   rw [e]
   obtain ⟨h1,h2⟩:=fold_least f l x hpx
   refine ⟨List.mem_cons_of_mem _ h1,fun w hw=>?_⟩
   rcases List.mem_cons.mp hw with rfl | hw
   ·right
    have k:kl (f x) x (f w) w:=by
     rcases hc with hc | ⟨e1,hc⟩
     ·exact .inl hc
     ·exact .inr ⟨e1,.inl hc⟩
    rcases h2 x List.mem_cons_self with h | h
    ·rw [← h]; exact k
    ·exact kl_trans h k
   ·exact h2 w hw
  ·have e:lessF f b x=b:=if_neg hc
   rw [e]
   obtain ⟨h1,h2⟩:=fold_least f l b hpb
   refine ⟨?_,fun w hw=>?_⟩
   ·rcases List.mem_cons.mp h1 with h | h
    ·rw [h]; exact List.mem_cons_self
    ·exact List.mem_cons_of_mem _ (List.mem_cons_of_mem _ h)
   ·rcases List.mem_cons.mp hw with rfl | hw
    ·exact h2 w List.mem_cons_self
    ·rcases List.mem_cons.mp hw with rfl | hw
     ·right
      have k:kl (f b) b (f w) w:=by
       rcases Nat.lt_trichotomy (f b).1 (f w).1 with h | h | h
       ·exact .inl h
       ·rcases Nat.lt_trichotomy (f b).2 (f w).2 with h' | h' | h'
        ·exact .inr ⟨h,.inl h'⟩
        ·exact .inr ⟨h,.inr ⟨h',hb⟩⟩
        ·exact absurd (.inr ⟨h.symm,h'⟩) hc
       ·exact absurd (.inl h) hc
      rcases h2 b List.mem_cons_self with h | h
      ·rw [← h]; exact k
      ·exact kl_trans h k
     ·exact h2 w (List.mem_cons_of_mem _ hw)
theorem leastBy_eq {f:List Nat→Nat×Nat} {L:List (List Nat)} {r:List Nat} (hp:L.Pairwise ll) (hr:r ∈ L) (h:∀ w ∈ L,¬ kl (f w) w (f r) r):leastBy f L=r:=by
 cases L with
 | nil=>cases hr
 | cons b l =>
  have e:leastBy f (b::l)=l.foldl (lessF f) b:=rfl
  obtain ⟨h1,h2⟩:=fold_least f l b hp
  rw [e]
  rcases h2 r hr with h3 | h3
  ·exact h3.symm
  ·exact absurd h3 (h _ h1)
theorem mem_orders:∀ (n:Nat) (l:List Nat),l.length=n→l.Nodup→∀ w,w ∈ orders n l↔w.Perm l
 | 0,l,hl,_,w=>by
  have e:l=[]:=List.length_eq_zero_iff.mp hl
  subst e
  show w ∈ [[]]↔_
  rw [List.mem_singleton]
  exact ⟨fun h=>h ▸ List.Perm.refl _,fun h=>List.Perm.eq_nil h⟩
 | n+1,l,hl,hN,w=>by
  have hne:l.isEmpty=false:=by cases l with | nil=>cases hl | cons=>rfl
  show w ∈ (if l.isEmpty then [[]] else l.flatMap fun x=>(orders n (l.filter fun y=>y != x)).map fun r=>x::r)↔_
  rw [hne]
  simp only [Bool.false_eq_true,if_false,List.mem_flatMap,List.mem_map]
  have er:∀ x,l.filter (fun y=>y != x)=l.erase x:=fun x=>(hN.erase_eq_filter x).symm
  constructor
  ·rintro ⟨x,hx,r,hr,rfl⟩
   rw [er] at hr
   have:=(mem_orders n (l.erase x) (by rw [List.length_erase_of_mem hx]; omega) (hN.erase x) r).mp hr
   exact (List.Perm.cons x this).trans (List.perm_cons_erase hx).symm
  ·intro h
   cases w with
   | nil=>have:=h.length_eq; simp at this; omega
   | cons x r =>
    have hx:x ∈ l:=h.subset List.mem_cons_self
    refine ⟨x,hx,r,?_,rfl⟩
    rw [er]
    refine (mem_orders n (l.erase x) (by rw [List.length_erase_of_mem hx]; omega) (hN.erase x) r).mpr ?_
    exact List.Perm.cons_inv (h.trans (List.perm_cons_erase hx))
theorem orders_pairwise:∀ (n:Nat) (l:List Nat),l.Pairwise (·<·)→(orders n l).Pairwise ll
 | 0,l,_=>List.pairwise_singleton _ _
 | n+1,l,hl=>by
  show (if l.isEmpty then [[]] else l.flatMap fun x=>(orders n (l.filter fun y=>y != x)).map fun r=>x::r).Pairwise ll
  split
  ·exact List.pairwise_singleton _ _
  ·have key:∀ m:List Nat,m.Pairwise (·<·)→(m.flatMap fun x=>(orders n (l.filter fun y=>y != x)).map fun r=>x::r).Pairwise ll:=by
    intro m hm
    induction m with
    | nil=>exact List.Pairwise.nil
    | cons x m ih =>
     rw [List.flatMap_cons,List.pairwise_append]
     refine ⟨?_,ih (List.pairwise_cons.mp hm).2,?_⟩
     ·rw [List.pairwise_map]
      exact (orders_pairwise n _ (hl.filter _)).imp fun h=>.inr ⟨rfl,h⟩
     ·intro a ha b hb
      obtain ⟨r,_,rfl⟩:=List.mem_map.mp ha
      obtain ⟨y,hy,hb⟩:=List.mem_flatMap.mp hb
      obtain ⟨t,_,rfl⟩:=List.mem_map.mp hb
      exact .inl ((List.pairwise_cons.mp hm).1 y hy)
   exact key l hl
theorem nodup_of_rising {l:List Nat} (h:l.Pairwise (·<·)):l.Nodup:=h.imp fun h e=>by omega
theorem least_orders {f:List Nat→Nat×Nat} {l r:List Nat} (hl:l.Pairwise (·<·)) (hr:r.Perm l) (h:∀ w,w.Perm l→¬ kl (f w) w (f r) r):leastBy f (orders l.length l)=r :=
 leastBy_eq (orders_pairwise _ _ hl) ((mem_orders _ _ rfl (nodup_of_rising hl) _).mpr hr) fun w hw=>h w ((mem_orders _ _ rfl (nodup_of_rising hl) _).mp hw)
end Fr
namespace Fr
open Su73
section
variable (a:Abs) (c:Nat→Nat)
def turnO (on:Option Nat) (f:Nat):Nat:=match on with
 | none=>0
 | some g=>a.turn (g+1) f
def takes (on:Option Nat) (j:Nat):Nat:=turnO a on (a.job j).flavour+(a.job j).mins
abbrev Rn:=Option Nat×Nat×Nat
def runS (s:Rn) (j:Nat):Rn:=(some (a.job j).flavour,s.2.1+takes a s.1 j,s.2.2+c (s.2.1+takes a s.1 j - (a.job j).due))
def onOf (l:Nat):Option Nat:=match l with
 | 0=>none
 | f+1=>some f
def runO (o:List Nat):Rn:=o.foldl (runS a c) (onOf a.last,a.now_,0)
theorem runO_snoc (o:List Nat) (j:Nat):runO a c (o++[j])=runS a c (runO a c o) j:=by
 unfold runO
 rw [List.foldl_append]
 rfl
theorem turnO_onOf (l f:Nat):turnO a (onOf l) f=a.turn l f:=by
 cases l with
 | zero=>unfold turnO onOf Abs.turn; simp
 | succ n=>rfl
end
section
variable (a:Abs)
theorem run_gen (c:Nat→Nat) (on:Nat→Nat):∀ (o:List Nat) (l t k:Nat),
  (o.foldl (runS a c) (onOf l,t,k)).2.1=(a.ends l t o).getLastD t ∧
  (o.foldl (runS a c) (onOf l,t,k)).2.2=k+((o.zip (a.ends l t o)).map fun x=>c (x.2 - (a.job x.1).due)).sum
 | [],l,t,k=>by simp [Abs.ends]
 | j::o,l,t,k=>by
  have e1:runS a c (onOf l,t,k) j=(onOf ((a.job j).flavour+1),t+a.turn l (a.job j).flavour+(a.job j).mins,k+c (t+a.turn l (a.job j).flavour+(a.job j).mins - (a.job j).due)):=by
   unfold runS takes
   simp only [turnO_onOf,Nat.add_assoc]
   rfl
  rw [List.foldl_cons,e1]
  obtain ⟨h1,h2⟩:=run_gen c on o ((a.job j).flavour+1) (t+a.turn l (a.job j).flavour+(a.job j).mins) (k+c (t+a.turn l (a.job j).flavour+(a.job j).mins - (a.job j).due))
  rw [h1,h2]
  constructor
  ·show _=((t+a.turn l (a.job j).flavour+(a.job j).mins)::a.ends ((a.job j).flavour+1) (t+a.turn l (a.job j).flavour+(a.job j).mins) o).getLastD t
   rw [List.getLastD_cons]
  ·show _=k+(((j::o).zip ((t+a.turn l (a.job j).flavour+(a.job j).mins)::a.ends ((a.job j).flavour+1) (t+a.turn l (a.job j).flavour+(a.job j).mins) o)).map fun x=>c (x.2 - (a.job x.1).due)).sum
   rw [List.zip_cons_cons,List.map_cons,List.sum_cons]
   simp only
   omega
theorem end_run (c:Nat→Nat) (o:List Nat):a.end_ o=(runO a c o).2.1:=((run_gen a c id o a.last a.now_ 0).1).symm
theorem cost_run (c:Nat→Nat) (o:List Nat):(runO a c o).2.2=((o.zip (a.times o)).map fun x=>c (x.2 - (a.job x.1).due)).sum:=by
 have h:=(run_gen a c id o a.last a.now_ 0).2
 rw [Nat.zero_add] at h
 exact h
def c0 (_:Nat):Nat:=0
def c1 (x:Nat):Nat:=if 0<x then 1 else 0
def c2 (x:Nat):Nat:=x
theorem c0_mono:∀ x y,x≤y→c0 x≤c0 y:=fun _ _ _=>Nat.le_refl _
theorem c1_mono:∀ x y,x≤y→c1 x≤c1 y:=fun x y h=>by unfold c1; split <;> split <;> omega
theorem c2_mono:∀ x y,x≤y→c2 x≤c2 y:=fun _ _ h=>h
theorem sum_c0 {β:Type} (g:β→Nat):∀ l:List β,(l.map fun x=>c0 (g x)).sum=0
 | []=>rfl
 | x::l=>by rw [List.map_cons,List.sum_cons,sum_c0 g l]; rfl
theorem cost0 (o:List Nat):(runO a c0 o).2.2=0:=by rw [cost_run]; exact sum_c0 _ _
theorem cost1 (o:List Nat):(runO a c1 o).2.2=a.late o:=by
 rw [cost_run]
 unfold Abs.late
 generalize o.zip (a.times o)=l
 induction l with
 | nil=>rfl
 | cons x l ih =>
  rw [List.map_cons,List.sum_cons,ih,List.filter_cons]
  unfold c1
  by_cases h:(a.job x.1).due<x.2
  ·rw [if_pos (by omega),if_pos (by simpa using h),List.length_cons]; omega
  ·rw [if_neg (by omega),if_neg (by simpa using h)]; omega
theorem cost2 (o:List Nat):(runO a c2 o).2.2=a.behind o:=by rw [cost_run]; rfl
end
abbrev Way:=Nat×Nat×List Nat
def wlt (v w:Way):Prop:=kl (v.1,v.2.1) v.2.2 (w.1,w.2.1) w.2.2
theorem wlt_irrefl (v:Way):¬ wlt v v:=kl_irrefl _ _
theorem wlt_trans {u v w:Way} (h:wlt u v) (k:wlt v w):wlt u w:=kl_trans h k
theorem wlt_total (v w:Way):wlt v w∨v=w∨wlt w v:=by
 obtain ⟨p,e,o⟩:=v
 obtain ⟨q,f,r⟩:=w
 unfold wlt kl
 rcases Nat.lt_trichotomy p q with h | rfl | h
 ·exact .inl (.inl h)
 ·rcases Nat.lt_trichotomy e f with h | rfl | h
  ·exact .inl (.inr ⟨rfl,.inl h⟩)
  ·rcases ll_total o r with h | rfl | h
   ·exact .inl (.inr ⟨rfl,.inr ⟨rfl,h⟩⟩)
   ·exact .inr (.inl rfl)
   ·exact .inr (.inr (.inr ⟨rfl,.inr ⟨rfl,h⟩⟩))
  ·exact .inr (.inr (.inr ⟨rfl,.inl h⟩))
 ·exact .inr (.inr (.inl h))
def Dom (v w:Way):Prop:=v.1≤w.1∧v.2.1≤w.2.1∧(v.1=w.1→v.2.1=w.2.1→v.2.2=w.2.2∨ll v.2.2 w.2.2)
theorem Dom.refl (v:Way):Dom v v:=⟨Nat.le_refl _,Nat.le_refl _,fun _ _=>.inl rfl⟩
theorem Dom.trans {u v w:Way} (h:Dom u v) (k:Dom v w):Dom u w:=by
 obtain ⟨h1,h2,h3⟩:=h
 obtain ⟨k1,k2,k3⟩:=k
 refine ⟨Nat.le_trans h1 k1,Nat.le_trans h2 k2,fun e1 e2=>?_⟩
 rcases h3 (by omega) (by omega) with e | l
 ·rw [e]; exact k3 (by omega) (by omega)
 ·rcases k3 (by omega) (by omega) with e | l'
  ·rw [← e]; exact .inr l
  ·exact .inr (ll_trans l l')
theorem Dom.notBehind {v w:Way} (h:Dom v w):¬ wlt w v:=by
 obtain ⟨h1,h2,h3⟩:=h
 rintro (k | ⟨e,k | ⟨e2,k⟩⟩)
 ·exact absurd k (by simp only; omega)
 ·exact absurd k (by simp only; omega)
 ·rcases h3 e.symm e2.symm with q | q
  ·rw [q] at k; exact ll_irrefl _ k
  ·exact ll_irrefl _ (ll_trans k q)
def keepF (kept:List Way) (w:Way):List Way:=match kept.getLast? with
 | none=>kept++[w]
 | some v=>if w.2.1<v.2.1 then kept++[w] else kept
def worth (ws:List Way):List Way:=ws.foldl keepF []
theorem keepF_sub {kept:List Way} {w v:Way} (h:v ∈ keepF kept w):v ∈ kept∨v=w:=by
 unfold keepF at h
 cases e:kept.getLast? with
 | none =>
  rw [e] at h
  rcases List.mem_append.mp h with h | h
  ·exact .inl h
  ·exact .inr (List.mem_singleton.mp h)
 | some u =>
  rw [e] at h
  simp only at h
  split at h
  ·rcases List.mem_append.mp h with h | h
   ·exact .inl h
   ·exact .inr (List.mem_singleton.mp h)
  ·exact .inl h
theorem keepF_keeps {kept:List Way} {w v:Way} (h:v ∈ kept):v ∈ keepF kept w:=by
 unfold keepF
 cases e:kept.getLast? with
 | none=>exact List.mem_append_left _ h
 | some u =>
  simp only
  split
  ·exact List.mem_append_left _ h
  ·exact h
theorem worth_gen:∀ (ws kept:List Way),ws.Pairwise (fun v w=>¬ wlt w v)→(∀ v ∈ kept,∀ w ∈ ws,¬ wlt w v) →
  (∀ v ∈ ws.foldl keepF kept,v ∈ kept∨v ∈ ws)∧(∀ v ∈ kept,v ∈ ws.foldl keepF kept)∧∀ w ∈ ws,∃ v ∈ ws.foldl keepF kept,Dom v w
 | [],kept,_,_=>⟨fun v h=>.inl h,fun v h=>h,fun w h=>by cases h⟩
 | x::ws,kept,hp,hk=>by
  have hx:=(List.pairwise_cons.mp hp).1
  obtain ⟨h1,h2,h3⟩:=worth_gen ws (keepF kept x) (List.pairwise_cons.mp hp).2 (fun v hv w hw=>by
   rcases keepF_sub hv with h | rfl
   ·exact hk v h w (List.mem_cons_of_mem _ hw)
   ·exact hx w hw)
  refine ⟨fun v hv=>?_,fun v hv=>h2 v (keepF_keeps hv),fun w hw=>?_⟩
  ·rcases h1 v hv with h | h
   ·rcases keepF_sub h with h | rfl
    ·exact .inl h
    ·exact .inr List.mem_cons_self
   ·exact .inr (List.mem_cons_of_mem _ h)
  ·rcases List.mem_cons.mp hw with rfl | hw
   ·have key:∃ v ∈ keepF kept w,Dom v w:=by
     unfold keepF
     cases e:kept.getLast? with
     | none=>exact ⟨w,List.mem_append_right _ List.mem_cons_self,Dom.refl w⟩
     | some u =>
      simp only
      split
      ·exact ⟨w,List.mem_append_right _ List.mem_cons_self,Dom.refl w⟩
      ·rename_i hlt
       have hu:u ∈ kept:=List.mem_of_getLast? e
       refine ⟨u,hu,?_⟩
       have hn:=hk u hu w List.mem_cons_self
       rcases wlt_total u w with h | rfl | h
       ·rcases h with h | ⟨e1,h | ⟨e2,h⟩⟩
        ·simp only at h
         exact ⟨by omega,by omega,fun q _=>by omega⟩
        ·simp only at h e1
         exact ⟨by omega,by omega,fun _ q=>by omega⟩
        ·simp only at h e1 e2
         exact ⟨by omega,by omega,fun _ _=>.inr h⟩
       ·exact Dom.refl _
       ·exact absurd h hn
    obtain ⟨v,hv,hd⟩:=key
    exact ⟨v,h2 v hv,hd⟩
   ·exact h3 w hw
theorem worth_ok {ws:List Way} (hp:ws.Pairwise (fun v w=>¬ wlt w v)):(∀ v ∈ worth ws,v ∈ ws)∧∀ w ∈ ws,∃ v ∈ worth ws,Dom v w:=by
 obtain ⟨h1,_,h3⟩:=worth_gen ws [] hp (fun v h=>by cases h)
 exact ⟨fun v hv=>(h1 v hv).resolve_left (by intro h; cases h),h3⟩
theorem keepF_length (kept:List Way) (w:Way):(keepF kept w).length≤kept.length+1:=by
 unfold keepF
 cases kept.getLast? with
 | none=>simp
 | some u=>simp only; split <;> simp
theorem worth_length_gen:∀ (ws kept:List Way),(ws.foldl keepF kept).length≤kept.length+ws.length
 | [],kept=>by simp
 | x::ws,kept=>by
  have:=worth_length_gen ws (keepF kept x)
  have:=keepF_length kept x
  simp only [List.foldl_cons,List.length_cons]
  omega
theorem worth_length (ws:List Way):(worth ws).length≤ws.length:=by
 have:=worth_length_gen ws []
 unfold worth
 simpa using this
theorem sorted_unique:∀ {l m:List Way},l.Perm m→l.Pairwise (fun v w=>¬ wlt w v)→m.Pairwise (fun v w=>¬ wlt w v)→l=m
 | [],m,h,_,_=>(List.Perm.nil_eq h)
 | x::l,[],h,_,_=>by have:=h.length_eq; simp at this
 | x::l,y::m,h,hl,hm=>by
  have e:x=y:=by
   have hx:x ∈ y::m:=h.subset List.mem_cons_self
   have hy:y ∈ x::l:=h.symm.subset List.mem_cons_self
   rcases wlt_total x y with q | q | q
   ·rcases List.mem_cons.mp hx with r | r
    ·exact r
    ·exact absurd q ((List.pairwise_cons.mp hm).1 x r)
   ·exact q
   ·rcases List.mem_cons.mp hy with r | r
    ·exact r.symm
    ·exact absurd q ((List.pairwise_cons.mp hl).1 y r)
  subst e
  rw [sorted_unique (List.Perm.cons_inv h) (List.pairwise_cons.mp hl).2 (List.pairwise_cons.mp hm).2]
end Fr
namespace Fr
open Su73
instance decLL:∀ a b:List Nat,Decidable (ll a b)
 | [],[]=>.isFalse (fun h=>h)
 | [],_::_=>.isTrue trivial
 | _::_,[]=>.isFalse (fun h=>h)
 | x::a,y::b=>by
  have:=decLL a b
  unfold ll
  infer_instance
instance decWlt (v w:Way):Decidable (wlt v w):=by
 unfold wlt kl
 infer_instance
def wle (v w:Way):Bool:=decide (¬ wlt w v)
def sortW (ws:List Way):List Way:=ws.mergeSort wle
theorem sortW_perm (ws:List Way):(sortW ws).Perm ws:=List.mergeSort_perm _ _
theorem sortW_sorted (ws:List Way):(sortW ws).Pairwise (fun v w=>¬ wlt w v):=by
 have h:=List.pairwise_mergeSort (le:=wle) (by
  intro u v w h k
  unfold wle at *
  simp only [decide_eq_true_eq] at *
  intro q
  rcases wlt_total u v with r | r | r
  ·exact k (wlt_trans q r)
  ·subst r; exact k q
  ·exact h r) (by
  intro v w
  unfold wle
  simp only [Bool.or_eq_true,decide_eq_true_eq]
  by_cases h:wlt w v
  ·exact .inr fun q=>wlt_irrefl _ (wlt_trans h q)
  ·exact .inl h) ws
 exact h.imp fun h=>by unfold wle at h; simpa using h
theorem sortW_unique {ws l:List Way} (hp:l.Perm ws) (hs:l.Pairwise (fun v w=>¬ wlt w v)):l=sortW ws:=sorted_unique (hp.trans (sortW_perm ws).symm) hs (sortW_sorted ws)
abbrev GKey:=List Nat×Option Nat
abbrev Groups:=List (GKey×List Way)
def In (g:Groups) (k:GKey) (w:Way):Prop:=∃ W,(k,W) ∈ g∧w ∈ W
def hasK (g:Groups) (k:GKey):Bool:=g.any fun p=>decide (p.1=k)
def addG (g:Groups) (k:GKey) (ws:List Way):Groups:=if hasK g k then g.map (fun p=>if p.1=k then (p.1,p.2++ws) else p) else g++[(k,ws)]
theorem hasK_iff {g:Groups} {k:GKey}:hasK g k=true↔∃ W,(k,W) ∈ g:=by
 unfold hasK
 rw [List.any_eq_true]
 constructor
 ·rintro ⟨⟨k',W⟩,h,e⟩
  have e':k'=k:=by simpa using e
  subst e'
  exact ⟨W,h⟩
 ·rintro ⟨W,h⟩
  exact ⟨(k,W),h,by simp⟩
theorem In_addG {g:Groups} {k k':GKey} {ws:List Way} {w:Way}:In (addG g k ws) k' w↔In g k' w∨(k'=k∧w ∈ ws):=by
 unfold addG
 by_cases h:hasK g k=true
 ·rw [if_pos h]
  constructor
  ·rintro ⟨W,hW,hw⟩
   obtain ⟨⟨k1,W1⟩,h1,e⟩:=List.mem_map.mp hW
   simp only at e
   split at e
   ·rename_i ek
    injection e with e1 e2
    subst e1
    subst e2
    rcases List.mem_append.mp hw with hw | hw
    ·exact .inl ⟨W1,h1,hw⟩
    ·exact .inr ⟨ek,hw⟩
   ·injection e with e1 e2
    subst e1
    subst e2
    exact .inl ⟨W1,h1,hw⟩
  ·rintro (⟨W,hW,hw⟩ | ⟨rfl,hw⟩)
   ·by_cases ek:k'=k
    ·exact ⟨W++ws,List.mem_map.mpr ⟨(k',W),hW,by simp [ek]⟩,List.mem_append_left _ hw⟩
    ·exact ⟨W,List.mem_map.mpr ⟨(k',W),hW,by simp [ek]⟩,hw⟩
   ·obtain ⟨W,hW⟩:=hasK_iff.mp h
    exact ⟨W++ws,List.mem_map.mpr ⟨(k',W),hW,by simp⟩,List.mem_append_right _ hw⟩
 ·rw [if_neg h]
  constructor
  ·rintro ⟨W,hW,hw⟩
   rcases List.mem_append.mp hW with hW | hW
   ·exact .inl ⟨W,hW,hw⟩
   ·have e:=List.mem_singleton.mp hW
    injection e with e1 e2
    subst e1
    subst e2
    exact .inr ⟨rfl,hw⟩
  ·rintro (⟨W,hW,hw⟩ | ⟨rfl,hw⟩)
   ·exact ⟨W,List.mem_append_left _ hW,hw⟩
   ·exact ⟨ws,List.mem_append_right _ List.mem_cons_self,hw⟩
theorem addG_keys {g:Groups} {k:GKey} {ws:List Way} (h:(g.map (·.1)).Nodup):((addG g k ws).map (·.1)).Nodup:=by
 unfold addG
 split
 ·rw [List.map_map]
  have e:((fun x:GKey×List Way=>x.1) ∘ fun p=>if p.1=k then (p.1,p.2++ws) else p)=fun x=>x.1:=by
   funext p
   show (if p.1=k then (p.1,p.2++ws) else p).1=p.1
   split <;> rfl
  rw [e]
  exact h
 ·rename_i hk
  rw [List.map_append,List.nodup_append]
  refine ⟨h,by simp,fun x hx y hy e=>hk (hasK_iff.mpr ?_)⟩
  have ey:y=k:=by simpa using hy
  subst ey
  subst e
  obtain ⟨⟨k',W⟩,hp,rfl⟩:=List.mem_map.mp hx
  exact ⟨W,hp⟩
theorem addG_full {g:Groups} {k:GKey} {ws:List Way} (h:∀ p ∈ g,p.2≠[]) (hw:ws≠[]):∀ p ∈ addG g k ws,p.2≠[]:=by
 unfold addG
 split
 ·intro p hp
  obtain ⟨q,hq,rfl⟩:=List.mem_map.mp hp
  split
  ·intro e; exact hw (List.append_eq_nil_iff.mp e).2
  ·exact h q hq
 ·intro p hp
  rcases List.mem_append.mp hp with hp | hp
  ·exact h p hp
  ·rw [List.mem_singleton.mp hp]; exact hw
def cnt (g:Groups):Nat:=(g.map fun p=>p.2.length).sum
theorem cnt_map_out (k:GKey) (ws:List Way):∀ g:Groups,(∀ p ∈ g,p.1≠k)→g.map (fun p=>if p.1=k then (p.1,p.2++ws) else p)=g
 | [],_=>rfl
 | p::g,h=>by
  rw [List.map_cons,cnt_map_out k ws g fun q hq=>h q (List.mem_cons_of_mem _ hq),if_neg (h p List.mem_cons_self)]
theorem cnt_map (k:GKey) (ws:List Way):∀ g:Groups,(g.map (·.1)).Nodup→cnt (g.map fun p=>if p.1=k then (p.1,p.2++ws) else p)≤cnt g+ws.length
 | [],_=>Nat.zero_le _
 | p::g,h=>by
  have hp:=(List.nodup_cons.mp h)
  by_cases e:p.1=k
  ·rw [List.map_cons,if_pos e,cnt_map_out k ws g fun q hq eq=>hp.1 (List.mem_map.mpr ⟨q,hq,eq.trans e.symm⟩)]
   simp only [cnt,List.map_cons,List.sum_cons,List.length_append]
   omega
  ·rw [List.map_cons,if_neg e]
   have ih:=cnt_map k ws g hp.2
   simp only [cnt,List.map_cons,List.sum_cons] at ih ⊢
   omega
theorem cnt_addG {g:Groups} {k:GKey} {ws:List Way} (h:(g.map (·.1)).Nodup):cnt (addG g k ws)≤cnt g+ws.length:=by
 unfold addG
 split
 ·exact cnt_map k ws g h
 ·simp only [cnt,List.map_append,List.map_cons,List.map_nil,List.sum_append,List.sum_cons,List.sum_nil]
  omega
theorem len_addG (g:Groups) (k:GKey) (ws:List Way):(addG g k ws).length≤g.length+1:=by
 unfold addG
 split <;> simp
section
variable (a:Abs) (c:Nat→Nat)
def extW (on:Option Nat) (j:Nat) (w:Way):Way:=(w.1+c (w.2.1+takes a on j - (a.job j).due),w.2.1+takes a on j,w.2.2++[j])
def turnJ (k:GKey) (kept:List Way) (acc:Groups) (i:Nat):Groups :=
 addG acc (k.1.eraseIdx i,some (a.job (k.1.getD i 0)).flavour) (kept.map (extW a c k.2 (k.1.getD i 0)))
def turnG (acc:Groups) (p:GKey×List Way):Groups:=(List.range p.1.1.length).foldl (turnJ a c p.1 (worth (sortW p.2))) acc
def further (g:Groups):Groups:=g.foldl (turnG a c) []
def level:Nat→Groups
 | 0=>[((a.open_,onOf a.last),[(0,a.now_,[])])]
 | n+1=>further a c (level n)
theorem In_turnJs (k:GKey) (kept:List Way) (acc:Groups):∀ (n:Nat) (k':GKey) (w:Way),In ((List.range n).foldl (turnJ a c k kept) acc) k' w ↔
  In acc k' w∨∃ i,i<n∧k'=(k.1.eraseIdx i,some (a.job (k.1.getD i 0)).flavour)∧∃ u ∈ kept,w=extW a c k.2 (k.1.getD i 0) u
 | 0,k',w=>⟨.inl,fun h=>h.elim id fun ⟨i,hi,_⟩=>absurd hi (Nat.not_lt_zero _)⟩
 | n+1,k',w=>by
  rw [List.range_succ,List.foldl_append,List.foldl_cons,List.foldl_nil]
  unfold turnJ
  rw [In_addG]
  have ih:=In_turnJs k kept acc n k' w
  unfold turnJ at ih
  rw [ih]
  constructor
  ·rintro ((h | ⟨i,hi,h⟩) | ⟨e,h⟩)
   ·exact .inl h
   ·exact .inr ⟨i,Nat.lt_succ_of_lt hi,h⟩
   ·obtain ⟨u,hu,rfl⟩:=List.mem_map.mp h
    exact .inr ⟨n,Nat.lt_succ_self _,e,u,hu,rfl⟩
  ·rintro (h | ⟨i,hi,e,u,hu,rfl⟩)
   ·exact .inl (.inl h)
   ·rcases Nat.lt_succ_iff_lt_or_eq.mp hi with hi | rfl
    ·exact .inl (.inr ⟨i,hi,e,u,hu,rfl⟩)
    ·exact .inr ⟨e,List.mem_map.mpr ⟨u,hu,rfl⟩⟩
theorem In_fold:∀ (g acc:Groups) (k':GKey) (w:Way),In (g.foldl (turnG a c) acc) k' w ↔
  In acc k' w∨∃ k W,(k,W) ∈ g∧∃ i,i<k.1.length∧k'=(k.1.eraseIdx i,some (a.job (k.1.getD i 0)).flavour)∧∃ u ∈ worth (sortW W),w=extW a c k.2 (k.1.getD i 0) u
 | [],acc,k',w=>⟨.inl,fun h=>h.elim id fun ⟨_,_,h,_⟩=>by cases h⟩
 | p::g,acc,k',w=>by
  rw [List.foldl_cons,In_fold g]
  unfold turnG
  rw [In_turnJs]
  constructor
  ·rintro ((h | h) | ⟨k,W,hW,h⟩)
   ·exact .inl h
   ·exact .inr ⟨p.1,p.2,List.mem_cons_self,h⟩
   ·exact .inr ⟨k,W,List.mem_cons_of_mem _ hW,h⟩
  ·rintro (h | ⟨k,W,hW,h⟩)
   ·exact .inl (.inl h)
   ·rcases List.mem_cons.mp hW with e | hW
    ·subst e
     exact .inl (.inr h)
    ·exact .inr ⟨k,W,hW,h⟩
structure Okg (g:Groups):Prop where
 nd:(g.map (·.1)).Nodup
 full:∀ p ∈ g,p.2≠[]
theorem worth_ne {W:List Way} (h:W≠[]):worth (sortW W)≠[]:=by
 obtain ⟨x,hx⟩:=List.exists_mem_of_ne_nil W h
 obtain ⟨v,hv,_⟩:=(worth_ok (sortW_sorted W)).2 x ((sortW_perm W).symm.subset hx)
 exact List.ne_nil_of_mem hv
theorem okg_turnJs (k:GKey) {kept:List Way} (hk:kept≠[]) {acc:Groups} (h:Okg acc):∀ n,Okg ((List.range n).foldl (turnJ a c k kept) acc) ∧
  cnt ((List.range n).foldl (turnJ a c k kept) acc)≤cnt acc+n * kept.length∧((List.range n).foldl (turnJ a c k kept) acc).length≤acc.length+n
 | 0=>⟨h,by simp,Nat.le_refl _⟩
 | n+1=>by
  obtain ⟨h1,h2,h3⟩:=okg_turnJs k hk h n
  rw [List.range_succ,List.foldl_append,List.foldl_cons,List.foldl_nil]
  refine ⟨⟨addG_keys h1.nd,addG_full h1.full (by simpa using hk)⟩,?_,?_⟩
  ·have e:=cnt_addG (k:=(k.1.eraseIdx n,some (a.job (k.1.getD n 0)).flavour)) (ws:=kept.map (extW a c k.2 (k.1.getD n 0))) h1.nd
   rw [List.length_map] at e
   unfold turnJ at *
   rw [Nat.succ_mul]
   omega
  ·have e:=len_addG ((List.range n).foldl (turnJ a c k kept) acc) (k.1.eraseIdx n,some (a.job (k.1.getD n 0)).flavour) (kept.map (extW a c k.2 (k.1.getD n 0)))
   unfold turnJ at *
   omega
theorem okg_fold (m:Nat):∀ (g acc:Groups),Okg acc→(∀ p ∈ g,p.2≠[])→(∀ p ∈ g,p.1.1.length≤m)→Okg (g.foldl (turnG a c) acc)∧cnt (g.foldl (turnG a c) acc)≤cnt acc+m * cnt g∧(g.foldl (turnG a c) acc).length≤acc.length+m * g.length
 | [],acc,h,_,_=>⟨h,by simp [cnt],by simp⟩
 | p::g,acc,h,hf,hm=>by
  rw [List.foldl_cons]
  obtain ⟨h1,h2,h3⟩:=okg_turnJs a c p.1 (worth_ne (hf p List.mem_cons_self)) h p.1.1.length
  obtain ⟨k1,k2,k3⟩:=okg_fold m g (turnG a c acc p) h1 (fun q hq=>hf q (List.mem_cons_of_mem _ hq)) (fun q hq=>hm q (List.mem_cons_of_mem _ hq))
  have hl:=hm p List.mem_cons_self
  have hw:(worth (sortW p.2)).length≤p.2.length:=Nat.le_trans (worth_length _) (Nat.le_of_eq (sortW_perm p.2).length_eq)
  have b1:p.1.1.length * (worth (sortW p.2)).length≤m * p.2.length:=Nat.mul_le_mul hl hw
  refine ⟨k1,?_,?_⟩
  ·have e:cnt (p::g)=p.2.length+cnt g:=by simp [cnt]
   rw [e,Nat.mul_add]
   unfold turnG at *
   omega
  ·rw [List.length_cons,Nat.mul_succ]
   unfold turnG at *
   omega
def leftOf (o:List Nat):List Nat:=a.open_.filter fun j=>!o.contains j
def wayOf (o:List Nat):Way:=((runO a c o).2.2,(runO a c o).2.1,o)
theorem eraseIdx_filter:∀ {l:List Nat} {i x:Nat},l.Nodup→l[i]?=some x→l.eraseIdx i=l.filter fun y=>y != x
 | [],i,x,_,h=>by simp at h
 | y::l,0,x,hn,h=>by
  have e:y=x:=by simpa using h
  subst e
  rw [List.eraseIdx_cons_zero,List.filter_cons_of_neg (by simp)]
  symm
  rw [List.filter_eq_self]
  intro z hz
  have:z≠y:=fun e=>(List.nodup_cons.mp hn).1 (e ▸ hz)
  simpa using this
 | y::l,i+1,x,hn,h=>by
  have h':l[i]?=some x:=by simpa using h
  have hx:x ∈ l:=List.mem_of_getElem? h'
  have:y≠x:=fun e=>(List.nodup_cons.mp hn).1 (e ▸ hx)
  rw [List.eraseIdx_cons_succ,eraseIdx_filter (List.nodup_cons.mp hn).2 h',List.filter_cons_of_pos (by simpa using this)]
theorem leftOf_snoc (o:List Nat) (j:Nat):leftOf a (o++[j])=(leftOf a o).filter fun y=>y != j:=by
 unfold leftOf
 rw [List.filter_filter]
 congr 1
 funext y
 simp only [List.contains_eq_mem,List.mem_append,List.mem_singleton]
 by_cases h1:y ∈ o <;> by_cases h2:y=j <;> simp [h1,h2]
structure SoundW (n:Nat) (k:GKey) (w:Way) (o:List Nat):Prop where
 eq:w=wayOf a c o
 len:o.length=n
 key:k=(leftOf a o,(runO a c o).1)
 perm:(o++leftOf a o).Perm a.open_
structure Lv (n:Nat) (g:Groups):Prop where
 ok:Okg g
 sound:∀ k w,In g k w→∃ o,SoundW a c n k w o
 all:∀ o:List Nat,o.Nodup→(∀ x ∈ o,x ∈ a.open_)→o.length=n→∃ v,In g (leftOf a o,(runO a c o).1) v∧Dom v (wayOf a c o)
theorem lv_zero:Lv a c 0 (level a c 0):=by
 have e0:leftOf a []=a.open_:=by
  unfold leftOf
  rw [List.filter_eq_self]
  intro x _
  rfl
 refine ⟨⟨by simp [level],by simp [level]⟩,?_,?_⟩
 ·rintro k w ⟨W,hW,hw⟩
  have e:=List.mem_singleton.mp (show (k,W) ∈ [((a.open_,onOf a.last),[((0:Nat),a.now_,([]:List Nat))])] from hW)
  injection e with e1 e2
  subst e1
  subst e2
  have ew:=List.mem_singleton.mp hw
  subst ew
  exact ⟨[],rfl,rfl,by rw [e0]; rfl,by rw [e0]; exact List.Perm.refl _⟩
 ·intro o _ _ hl
  have e:=List.length_eq_zero_iff.mp hl
  subst e
  refine ⟨(0,a.now_,[]),⟨_,List.mem_singleton.mpr (by rw [e0]; rfl),List.mem_singleton.mpr rfl⟩,Dom.refl _⟩
theorem ext_way (o:List Nat) (j:Nat):extW a c (runO a c o).1 j (wayOf a c o)=wayOf a c (o++[j]):=by
 unfold wayOf
 rw [runO_snoc]
 rfl
theorem Dom.ext (hc:∀ x y,x≤y→c x≤c y) {v w:Way} (on:Option Nat) (j:Nat) (hl:v.2.2.length=w.2.2.length) (h:Dom v w):Dom (extW a c on j v) (extW a c on j w):=by
 obtain ⟨h1,h2,h3⟩:=h
 have m:=hc (v.2.1+takes a on j - (a.job j).due) (w.2.1+takes a on j - (a.job j).due) (by omega)
 unfold extW
 refine ⟨?_,?_,fun e1 e2=>?_⟩
 ·simp only; omega
 ·simp only; omega
 ·simp only at e1 e2 ⊢
  have ee:v.2.1=w.2.1:=by omega
  rw [ee] at e1
  rcases h3 (by omega) ee with q | q
  ·rw [q]; exact .inl rfl
  ·exact .inr (ll_snoc j hl q)
theorem le_sum_mem:∀ {l:List Nat} {x:Nat},x ∈ l→x≤l.sum
 | y::l,x,h=>by
  rw [List.sum_cons]
  rcases List.mem_cons.mp h with rfl | h
  ·omega
  ·have:=le_sum_mem h; omega
theorem lv_succ (hc:∀ x y,x≤y→c x≤c y) (hN:a.open_.Nodup) {n:Nat} {g:Groups} (h:Lv a c n g):Lv a c (n+1) (further a c g):=by
 have ndl:∀ o,(leftOf a o).Nodup:=fun o=>hN.filter _
 refine ⟨(okg_fold a c (g.map fun p=>p.1.1.length).sum g [] ⟨by simp,by simp⟩ h.ok.full (fun p hp=>le_sum_mem (List.mem_map.mpr ⟨p,hp,rfl⟩))).1,?_,?_⟩
 ·intro k w hin
  rcases (In_fold a c g [] k w).mp hin with ⟨W,hW,_⟩ | ⟨k1,W,hW,i,hi,rfl,u,hu,rfl⟩
  ·cases hW
  ·have hu':u ∈ W:=(sortW_perm W).subset ((worth_ok (sortW_sorted W)).1 u hu)
   obtain ⟨o,so⟩:=h.sound k1 u ⟨W,hW,hu'⟩
   obtain ⟨eq,len,rfl,perm⟩:=so
   have hj:(leftOf a o)[i]?=some ((leftOf a o).getD i 0):=by
    rw [List.getD_eq_getElem?_getD,List.getElem?_eq_getElem hi]; rfl
   generalize ej:(leftOf a o).getD i 0=j at hj ⊢
   have e1:(leftOf a o).eraseIdx i=leftOf a (o++[j]):=by rw [leftOf_snoc,eraseIdx_filter (ndl o) hj]
   have hjm:j ∈ leftOf a o:=List.mem_of_getElem? hj
   simp only
   refine ⟨o++[j],?_,by rw [List.length_append,len]; rfl,?_,?_⟩
   ·rw [eq,ext_way]
   ·rw [e1,runO_snoc]; rfl
   ·have e2:leftOf a (o++[j])=(leftOf a o).erase j:=by rw [leftOf_snoc,(ndl o).erase_eq_filter]
    rw [e2,List.append_assoc]
    exact (List.Perm.append_left o (List.perm_cons_erase hjm).symm).trans perm
 ·intro o hn hs hl
  obtain ⟨o1,j,rfl⟩:∃ o1 j,o=o1++[j]:=⟨o.dropLast,o.getLast (by intro e; rw [e] at hl; cases hl),(List.dropLast_concat_getLast _).symm⟩
  have hn':=List.nodup_append.mp hn
  have hl1:o1.length=n:=by simpa using hl
  have hjo:j ∉ o1:=fun hj=>hn'.2.2 j hj j (by simp) rfl
  obtain ⟨v,⟨W,hW,hv⟩,hd⟩:=h.all o1 hn'.1 (fun x hx=>hs x (List.mem_append_left _ hx)) hl1
  obtain ⟨u,hu,hd'⟩:=(worth_ok (sortW_sorted W)).2 v ((sortW_perm W).symm.subset hv)
  have hu':u ∈ W:=(sortW_perm W).subset ((worth_ok (sortW_sorted W)).1 u hu)
  obtain ⟨o',so⟩:=h.sound _ u ⟨W,hW,hu'⟩
  have hjl:j ∈ leftOf a o1:=by
   unfold leftOf
   rw [List.mem_filter]
   exact ⟨hs j (by simp),by simpa using hjo⟩
  obtain ⟨i,hi⟩:=List.getElem?_of_mem hjl
  have hil:i<(leftOf a o1).length:=(List.getElem?_eq_some_iff.mp hi).1
  have ej:(leftOf a o1).getD i 0=j:=by rw [List.getD_eq_getElem?_getD,hi]; rfl
  refine ⟨extW a c (runO a c o1).1 j u,?_,?_⟩
  ·refine (In_fold a c g [] _ _).mpr (.inr ⟨_,W,hW,i,hil,?_,u,hu,?_⟩)
   ·simp only [ej]
    rw [eraseIdx_filter (ndl o1) hi,leftOf_snoc,runO_snoc]
    rfl
   ·simp only [ej]
  ·rw [← ext_way]
   refine Dom.ext a c hc _ j ?_ (hd'.trans hd)
   rw [so.eq]
   show o'.length=o1.length
   rw [so.len,hl1]
theorem lv_all (hc:∀ x y,x≤y→c x≤c y) (hN:a.open_.Nodup):∀ n,Lv a c n (level a c n)
 | 0=>lv_zero a c
 | n+1=>lv_succ a c hc hN (lv_all hc hN n)
theorem last_least (hc:∀ x y,x≤y→c x≤c y) (hr:a.open_.Pairwise (·<·)) {k:GKey} {r:Way} (h1:In (level a c a.open_.length) k r) (h2:∀ k w,In (level a c a.open_.length) k w→¬ wlt w r) :
  ∃ o,r=wayOf a c o∧o.Perm a.open_∧leastBy (fun w=>((runO a c w).2.2,(runO a c w).2.1)) a.all=o:=by
 have hN:=nodup_of_rising hr
 have L:=lv_all a c hc hN a.open_.length
 obtain ⟨o,so⟩:=L.sound k r h1
 have hl:=so.perm.length_eq
 have e0:leftOf a o=[]:=by
  rw [List.length_append,so.len] at hl
  exact List.length_eq_zero_iff.mp (by omega)
 have hp:o.Perm a.open_:=by
  have:=so.perm
  rwa [e0,List.append_nil] at this
 refine ⟨o,so.eq,hp,?_⟩
 refine least_orders hr hp fun w hw hk=>?_
 obtain ⟨v,hv,hd⟩:=L.all w (hw.nodup_iff.mpr hN) (fun x hx=>hw.subset hx) hw.length_eq
 have hk':wlt (wayOf a c w) r:=by rw [so.eq]; exact hk
 rcases wlt_total v (wayOf a c w) with q | q | q
 ·exact h2 _ v hv (wlt_trans q hk')
 ·rw [← q] at hk'; exact h2 _ v hv hk'
 ·exact hd.notBehind q
theorem level_ne (hc:∀ x y,x≤y→c x≤c y) (hN:a.open_.Nodup):level a c a.open_.length≠[]:=by
 obtain ⟨v,⟨W,hW,_⟩,_⟩:=(lv_all a c hc hN a.open_.length).all a.open_ hN (fun _ h=>h) rfl
 exact List.ne_nil_of_mem hW
theorem level_small (hc:∀ x y,x≤y→c x≤c y) (hN:a.open_.Nodup) (h7:a.open_.length≤7):∀ n,cnt (level a c n)≤7 ^ n∧(level a c n).length≤7 ^ n
 | 0=>⟨by simp [level,cnt],by simp [level]⟩
 | n+1=>by
  obtain ⟨h1,h2⟩:=level_small hc hN h7 n
  have L:=lv_all a c hc hN n
  have hk:∀ p ∈ level a c n,p.1.1.length≤7:=by
   rintro ⟨k,W⟩ hp
   obtain ⟨w,hw⟩:=List.exists_mem_of_ne_nil W (L.ok.full _ hp)
   obtain ⟨o,so⟩:=L.sound k w ⟨W,hp,hw⟩
   have:=so.perm.length_eq
   rw [List.length_append] at this
   simp only [so.key]
   omega
  obtain ⟨_,k2,k3⟩:=okg_fold a c 7 (level a c n) [] ⟨by simp,by simp⟩ L.ok.full hk
  have e:cnt ([]:Groups)=0:=rfl
  rw [Nat.pow_succ]
  unfold level further
  simp only [List.length_nil] at k3
  omega
end
section
variable (a:Abs)
theorem best_level (hr:a.open_.Pairwise (·<·)) {k:GKey} {r:Way} (h1:In (level a c0 a.open_.length) k r) (h2:∀ k w,In (level a c0 a.open_.length) k w→¬ wlt w r):r=(0,a.end_ a.best,a.best):=by
 obtain ⟨o,e,hp,hl⟩:=last_least a c0 c0_mono hr h1 h2
 have hb:a.best=o:=by
  refine least_orders hr hp fun w hw hk=>?_
  rw [end_run a c0,end_run a c0] at hk
  have hm:w ∈ a.all:=(mem_orders _ _ rfl (nodup_of_rising hr) _).mpr hw
  have h3:=(mem_orders _ _ rfl (nodup_of_rising hr) o).mpr hp
  have L:=lv_all a c0 c0_mono (nodup_of_rising hr) a.open_.length
  obtain ⟨v,hv,hd⟩:=L.all w (hw.nodup_iff.mpr (nodup_of_rising hr)) (fun x hx=>hw.subset hx) hw.length_eq
  have hk':wlt (wayOf a c0 w) r:=by
   rw [e]
   unfold wayOf wlt
   rw [cost0,cost0]
   rcases hk with hk | ⟨e1,hk | ⟨_,hk⟩⟩
   ·exact .inr ⟨rfl,.inl hk⟩
   ·exact absurd hk (Nat.lt_irrefl _)
   ·exact .inr ⟨rfl,.inr ⟨e1,hk⟩⟩
  rcases wlt_total v (wayOf a c0 w) with q | q | q
  ·exact h2 _ v hv (wlt_trans q hk')
  ·rw [← q] at hk'; exact h2 _ v hv hk'
  ·exact hd.notBehind q
 rw [hb,e,end_run a c0 o]
 unfold wayOf
 rw [cost0]
theorem fewest_level (hr:a.open_.Pairwise (·<·)) {k:GKey} {r:Way} (h1:In (level a c1 a.open_.length) k r) (h2:∀ k w,In (level a c1 a.open_.length) k w→¬ wlt w r):r=(a.late a.fewest,a.end_ a.fewest,a.fewest):=by
 obtain ⟨o,e,hp,hl⟩:=last_least a c1 c1_mono hr h1 h2
 have hb:a.fewest=o:=by
  rw [← hl]
  unfold Abs.fewest
  congr 1
  funext w
  rw [cost1,end_run a c1]
 rw [hb,e,end_run a c1 o,← cost1]
 rfl
theorem least_level (hr:a.open_.Pairwise (·<·)) {k:GKey} {r:Way} (h1:In (level a c2 a.open_.length) k r) (h2:∀ k w,In (level a c2 a.open_.length) k w→¬ wlt w r):r=(a.behind a.least,a.end_ a.least,a.least):=by
 obtain ⟨o,e,hp,hl⟩:=last_least a c2 c2_mono hr h1 h2
 have hb:a.least=o:=by
  rw [← hl]
  unfold Abs.least
  congr 1
  funext w
  rw [cost2,end_run a c2]
 rw [hb,e,end_run a c2 o,← cost2]
 rfl
end
end Fr
namespace Fr
open Su73
abbrev RWay:=Nat×List Nat
def rlt (v u:RWay):Prop:=v.1<u.1∨(v.1=u.1∧ll v.2 u.2)
instance decRlt (v u:RWay):Decidable (rlt v u):=by
 unfold rlt
 infer_instance
theorem rlt_irrefl (v:RWay):¬ rlt v v:=by
 rintro (h | ⟨_,h⟩)
 ·exact Nat.lt_irrefl _ h
 ·exact ll_irrefl _ h
theorem rlt_trans {u v w:RWay} (h:rlt u v) (k:rlt v w):rlt u w:=by
 rcases h with h | ⟨e,h⟩
 ·rcases k with k | ⟨e',_⟩
  ·exact .inl (Nat.lt_trans h k)
  ·exact .inl (by omega)
 ·rcases k with k | ⟨e',k⟩
  ·exact .inl (by omega)
  ·exact .inr ⟨e.trans e',ll_trans h k⟩
theorem rlt_total (v w:RWay):rlt v w∨v=w∨rlt w v:=by
 obtain ⟨p,o⟩:=v
 obtain ⟨q,r⟩:=w
 unfold rlt
 rcases Nat.lt_trichotomy p q with h | rfl | h
 ·exact .inl (.inl h)
 ·rcases ll_total o r with h | rfl | h
  ·exact .inl (.inr ⟨rfl,h⟩)
  ·exact .inr (.inl rfl)
  ·exact .inr (.inr (.inr ⟨rfl,h⟩))
 ·exact .inr (.inr (.inl h))
def rle (v w:RWay):Prop:=¬ rlt w v
theorem rle_refl (v:RWay):rle v v:=rlt_irrefl v
theorem rle_trans {u v w:RWay} (h:rle u v) (k:rle v w):rle u w:=fun q=>by
 rcases rlt_total u v with r | r | r
 ·exact k (rlt_trans q r)
 ·rw [r] at q; exact k q
 ·exact h r
theorem rle_antisymm {u v:RWay} (h:rle u v) (k:rle v u):u=v:=by
 rcases rlt_total u v with r | r | r
 ·exact absurd r k
 ·exact r
 ·exact absurd r h
abbrev RGrp:=List (GKey×RWay)
def minR (v old:RWay):RWay:=if rlt old v then old else v
def hasR (g:RGrp) (k:GKey):Bool:=g.any fun p=>decide (p.1=k)
def putR (g:RGrp) (k:GKey) (v:RWay):RGrp:=if hasR g k then g.map (fun p=>if p.1=k then (p.1,minR v p.2) else p) else g++[(k,v)]
theorem hasR_iff {g:RGrp} {k:GKey}:hasR g k=true↔∃ v,(k,v) ∈ g:=by
 unfold hasR
 rw [List.any_eq_true]
 constructor
 ·rintro ⟨⟨k',v⟩,h,e⟩
  have e':k'=k:=by simpa using e
  subst e'
  exact ⟨v,h⟩
 ·rintro ⟨v,h⟩
  exact ⟨_,h,by simp⟩
theorem minR_or (v old:RWay):minR v old=v∨minR v old=old:=by
 unfold minR
 split
 ·exact .inr rfl
 ·exact .inl rfl
theorem minR_le (v old:RWay):rle (minR v old) v∧rle (minR v old) old:=by
 unfold minR rle
 split
 ·rename_i h
  exact ⟨fun q=>rlt_irrefl _ (rlt_trans h q),rlt_irrefl _⟩
 ·rename_i h
  exact ⟨rlt_irrefl _,h⟩
theorem putR_sub {g:RGrp} {k k0:GKey} {v v0:RWay} (h:(k,v) ∈ putR g k0 v0):(k,v) ∈ g∨(k=k0∧v=v0):=by
 unfold putR at h
 split at h
 ·obtain ⟨⟨k1,u⟩,h1,e⟩:=List.mem_map.mp h
  simp only at e
  split at e
  ·rename_i hk
   have e1:k1=k:=congrArg Prod.fst e
   have e2:minR v0 u=v:=congrArg Prod.snd e
   rcases minR_or v0 u with q | q
   ·exact .inr ⟨by rw [← e1]; exact hk,by rw [← e2,q]⟩
   ·exact .inl (by rw [← e1,← e2,q]; exact h1)
  ·exact .inl (by rw [← e]; exact h1)
 ·rcases List.mem_append.mp h with h | h
  ·exact .inl h
  ·have e:=List.mem_singleton.mp h
   exact .inr ⟨congrArg Prod.fst e,congrArg Prod.snd e⟩
theorem putR_old {g:RGrp} {k k0:GKey} {u v0:RWay} (h:(k,u) ∈ g):∃ v,(k,v) ∈ putR g k0 v0∧rle v u:=by
 unfold putR
 split
 ·by_cases e:k=k0
  ·exact ⟨minR v0 u,List.mem_map.mpr ⟨(k,u),h,if_pos e⟩,(minR_le v0 u).2⟩
  ·exact ⟨u,List.mem_map.mpr ⟨(k,u),h,if_neg e⟩,rle_refl u⟩
 ·exact ⟨u,List.mem_append_left _ h,rle_refl u⟩
theorem putR_new {g:RGrp} {k0:GKey} {v0:RWay}:∃ v,(k0,v) ∈ putR g k0 v0∧rle v v0:=by
 unfold putR
 split
 ·rename_i h
  obtain ⟨u,hu⟩:=hasR_iff.mp h
  exact ⟨minR v0 u,List.mem_map.mpr ⟨(k0,u),hu,if_pos rfl⟩,(minR_le v0 u).1⟩
 ·exact ⟨v0,by simp,rle_refl v0⟩
theorem putR_keys {g:RGrp} {k:GKey} {v:RWay} (h:(g.map (·.1)).Nodup):((putR g k v).map (·.1)).Nodup:=by
 unfold putR
 split
 ·rw [List.map_map]
  have e:((fun x:GKey×RWay=>x.1) ∘ fun p=>if p.1=k then (p.1,minR v p.2) else p)=fun x=>x.1:=by
   funext p
   show (if p.1=k then (p.1,minR v p.2) else p).1=p.1
   split <;> rfl
  rw [e]
  exact h
 ·rename_i hk
  rw [List.map_append,List.nodup_append]
  refine ⟨h,by simp,fun x hx y hy e=>hk ?_⟩
  have ey:y=k:=by simpa using hy
  obtain ⟨⟨k1,u⟩,h1,e1⟩:=List.mem_map.mp hx
  have e2:k1=k:=by rw [← ey,← e]; exact e1
  subst e2
  exact hasR_iff.mpr ⟨u,h1⟩
theorem putR_len (g:RGrp) (k:GKey) (v:RWay):(putR g k v).length≤g.length+1:=by
 unfold putR
 split <;> simp
section
variable (a:Abs)
def extR (on:Option Nat) (f:Nat) (v:RWay):RWay:=(v.1+turnO a on f,v.2++[f])
def stepR (p:GKey×RWay) (acc:RGrp) (i:Nat):RGrp:=putR acc (p.1.1.eraseIdx i,some (p.1.1.getD i 0)) (extR a p.1.2 (p.1.1.getD i 0) p.2)
def turnR (acc:RGrp) (p:GKey×RWay):RGrp:=(List.range p.1.1.length).foldl (stepR a p) acc
def furtherR (g:RGrp):RGrp:=g.foldl (turnR a) []
def othersR:List Nat:=(List.range a.flavours).drop 1
def levelR:Nat→RGrp
 | 0=>[((othersR a,some 0),(0,[0]))]
 | n+1=>furtherR a (levelR n)
theorem stepsR_sub (p:GKey×RWay) (acc:RGrp):∀ (n:Nat) (k:GKey) (v:RWay),(k,v) ∈ (List.range n).foldl (stepR a p) acc→(k,v) ∈ acc∨∃ i,i<n∧k=(p.1.1.eraseIdx i,some (p.1.1.getD i 0))∧v=extR a p.1.2 (p.1.1.getD i 0) p.2
 | 0,k,v,h=>.inl h
 | n+1,k,v,h=>by
  rw [List.range_succ,List.foldl_append,List.foldl_cons,List.foldl_nil] at h
  rcases putR_sub h with h | ⟨h1,h2⟩
  ·rcases stepsR_sub p acc n k v h with h | ⟨i,hi,h⟩
   ·exact .inl h
   ·exact .inr ⟨i,by omega,h⟩
  ·exact .inr ⟨n,by omega,h1,h2⟩
theorem stepsR_old (p:GKey×RWay) (acc:RGrp):∀ (n:Nat) (k:GKey) (u:RWay),(k,u) ∈ acc→∃ v,(k,v) ∈ (List.range n).foldl (stepR a p) acc∧rle v u
 | 0,k,u,h=>⟨u,h,rle_refl u⟩
 | n+1,k,u,h=>by
  rw [List.range_succ,List.foldl_append,List.foldl_cons,List.foldl_nil]
  obtain ⟨v,h1,h2⟩:=stepsR_old p acc n k u h
  obtain ⟨w,h3,h4⟩:=putR_old (k0:=(p.1.1.eraseIdx n,some (p.1.1.getD n 0))) (v0:=extR a p.1.2 (p.1.1.getD n 0) p.2) h1
  exact ⟨w,h3,rle_trans h4 h2⟩
theorem stepsR_new (p:GKey×RWay) (acc:RGrp):∀ (n i:Nat),i<n→∃ v,((p.1.1.eraseIdx i,some (p.1.1.getD i 0)),v) ∈ (List.range n).foldl (stepR a p) acc∧rle v (extR a p.1.2 (p.1.1.getD i 0) p.2)
 | 0,i,h=>absurd h (Nat.not_lt_zero _)
 | n+1,i,h=>by
  rw [List.range_succ,List.foldl_append,List.foldl_cons,List.foldl_nil]
  by_cases e:i=n
  ·subst e
   exact putR_new
  ·obtain ⟨v,h1,h2⟩:=stepsR_new p acc n i (by omega)
   obtain ⟨w,h3,h4⟩:=putR_old (k0:=(p.1.1.eraseIdx n,some (p.1.1.getD n 0))) (v0:=extR a p.1.2 (p.1.1.getD n 0) p.2) h1
   exact ⟨w,h3,rle_trans h4 h2⟩
theorem stepsR_keys (p:GKey×RWay) {acc:RGrp} (h:(acc.map (·.1)).Nodup):∀ n,(((List.range n).foldl (stepR a p) acc).map (·.1)).Nodup∧((List.range n).foldl (stepR a p) acc).length≤acc.length+n
 | 0=>⟨h,Nat.le_refl _⟩
 | n+1=>by
  rw [List.range_succ,List.foldl_append,List.foldl_cons,List.foldl_nil]
  obtain ⟨h1,h2⟩:=stepsR_keys p h n
  refine ⟨putR_keys h1,Nat.le_trans (putR_len _ _ _) (by omega)⟩
theorem foldR_sub:∀ (g acc:RGrp) (k:GKey) (v:RWay),(k,v) ∈ g.foldl (turnR a) acc→(k,v) ∈ acc∨∃ p ∈ g,∃ i,i<p.1.1.length∧k=(p.1.1.eraseIdx i,some (p.1.1.getD i 0))∧v=extR a p.1.2 (p.1.1.getD i 0) p.2
 | [],acc,k,v,h=>.inl h
 | q::g,acc,k,v,h=>by
  rw [List.foldl_cons] at h
  rcases foldR_sub g _ k v h with h | ⟨p,hp,h⟩
  ·rcases stepsR_sub a q acc _ k v h with h | h
   ·exact .inl h
   ·exact .inr ⟨q,List.mem_cons_self,h⟩
  ·exact .inr ⟨p,List.mem_cons_of_mem _ hp,h⟩
theorem foldR_old:∀ (g acc:RGrp) (k:GKey) (u:RWay),(k,u) ∈ acc→∃ v,(k,v) ∈ g.foldl (turnR a) acc∧rle v u
 | [],acc,k,u,h=>⟨u,h,rle_refl u⟩
 | q::g,acc,k,u,h=>by
  rw [List.foldl_cons]
  obtain ⟨v,h1,h2⟩:=stepsR_old a q acc q.1.1.length k u h
  obtain ⟨w,h3,h4⟩:=foldR_old g _ k v h1
  exact ⟨w,h3,rle_trans h4 h2⟩
theorem foldR_new:∀ (g acc:RGrp) (p:GKey×RWay),p ∈ g→∀ i,i<p.1.1.length→∃ v,((p.1.1.eraseIdx i,some (p.1.1.getD i 0)),v) ∈ g.foldl (turnR a) acc∧rle v (extR a p.1.2 (p.1.1.getD i 0) p.2)
 | q::g,acc,p,hp,i,hi=>by
  rw [List.foldl_cons]
  rcases List.mem_cons.mp hp with rfl | hp
  ·obtain ⟨v,h1,h2⟩:=stepsR_new a p acc p.1.1.length i hi
   obtain ⟨w,h3,h4⟩:=foldR_old a g _ _ v h1
   exact ⟨w,h3,rle_trans h4 h2⟩
  ·exact foldR_new g _ p hp i hi
theorem foldR_keys (m:Nat):∀ (g acc:RGrp),(acc.map (·.1)).Nodup→(∀ p ∈ g,p.1.1.length≤m)→((g.foldl (turnR a) acc).map (·.1)).Nodup∧(g.foldl (turnR a) acc).length≤acc.length+m * g.length
 | [],acc,h,_=>⟨h,by simp⟩
 | q::g,acc,h,hm=>by
  rw [List.foldl_cons]
  obtain ⟨h1,h2⟩:=stepsR_keys a q h q.1.1.length
  obtain ⟨h3,h4⟩:=foldR_keys m g _ h1 fun p hp=>hm p (List.mem_cons_of_mem _ hp)
  refine ⟨h3,?_⟩
  have q1:=hm q List.mem_cons_self
  have q2:((List.range q.1.1.length).foldl (stepR a q) acc).length=(turnR a acc q).length:=rfl
  have e:m * (g.length+1)=m * g.length+m:=Nat.mul_succ ..
  have h4':(g.foldl (turnR a) (turnR a acc q)).length≤(turnR a acc q).length+m * g.length:=h4
  rw [q2] at h2
  show (g.foldl (turnR a) (turnR a acc q)).length≤_
  rw [List.length_cons,e]
  omega
def pc:Nat→List Nat→Nat
 | _,[]=>0
 | x,y::l=>a.turn (x+1) y+pc y l
theorem pc_snoc:∀ (l:List Nat) (x y:Nat),pc a x (l++[y])=pc a x l+a.turn (l.getLastD x+1) y
 | [],x,y=>by simp [pc]
 | z::l,x,y=>by
  show a.turn (x+1) z+pc a z (l++[y])=a.turn (x+1) z+pc a z l+_
  rw [pc_snoc l z y,List.getLastD_cons]
  omega
theorem round_gen:∀ (l:List Nat) (x z:Nat),(((x::l).zip (l++[z])).map fun p=>a.turn (p.1+1) p.2).sum=pc a x l+a.turn (l.getLastD x+1) z
 | [],x,z=>by simp [pc]
 | y::l,x,z=>by
  rw [List.cons_append,List.zip_cons_cons,List.map_cons,List.sum_cons,round_gen l y z,List.getLastD_cons]
  show a.turn (x+1) y+(pc a y l+a.turn (l.getLastD y+1) z)=a.turn (x+1) y+pc a y l+a.turn (l.getLastD y+1) z
  omega
theorem round_pc (x:Nat) (l:List Nat):a.round (x::l)=pc a x l+a.turn (l.getLastD x+1) x:=round_gen a l x x
def leftR (o:List Nat):List Nat:=(othersR a).filter fun j=>!o.contains j
def wayR (o:List Nat):RWay:=(pc a 0 o,0::o)
structure LvR (n:Nat) (g:RGrp):Prop where
 nd:(g.map (·.1)).Nodup
 sound:∀ k v,(k,v) ∈ g→∃ o,v=wayR a o∧o.length=n∧k=(leftR a o,some (o.getLastD 0))∧(o++leftR a o).Perm (othersR a)
 all:∀ o:List Nat,o.Nodup→(∀ x ∈ o,x ∈ othersR a)→o.length=n→∃ v,((leftR a o,some (o.getLastD 0)),v) ∈ g∧rle v (wayR a o)
theorem others_nd:(othersR a).Nodup:=(List.nodup_range).sublist (List.drop_sublist _ _)
theorem leftR_snoc (o:List Nat) (j:Nat):leftR a (o++[j])=(leftR a o).filter fun y=>y != j:=by
 unfold leftR
 rw [List.filter_filter]
 congr 1
 funext y
 simp only [List.contains_eq_mem,List.mem_append,List.mem_singleton]
 by_cases h1:y ∈ o <;> by_cases h2:y=j <;> simp [h1,h2]
theorem ext_wayR (o:List Nat) (j:Nat):extR a (some (o.getLastD 0)) j (wayR a o)=wayR a (o++[j]):=by
 unfold extR wayR
 rw [pc_snoc]
 rfl
theorem ll_cons {x:Nat} {l m:List Nat}:ll (x::l) (x::m)↔ll l m:=by
 show (x<x∨(x=x∧ll l m))↔_
 constructor
 ·rintro (h | ⟨_,h⟩)
  ·exact absurd h (Nat.lt_irrefl _)
  ·exact h
 ·exact fun h=>.inr ⟨rfl,h⟩
theorem rle_ext {v w:RWay} (on:Option Nat) (j:Nat) (hl:v.2.length=w.2.length) (h:rle v w):rle (extR a on j v) (extR a on j w):=by
 rcases rlt_total v w with q | q | q
 ·intro z
  unfold extR at z
  rcases q with q | ⟨q1,q2⟩
  ·rcases z with z | ⟨z1,_⟩
   ·simp only at z; omega
   ·simp only at z1; omega
  ·rcases z with z | ⟨z1,z2⟩
   ·simp only at z; omega
   ·exact ll_irrefl _ (ll_trans (ll_snoc j hl q2) z2)
 ·rw [q]; exact rle_refl _
 ·exact absurd q h
theorem lvR_zero:LvR a 0 (levelR a 0):=by
 have e0:leftR a []=othersR a:=by
  unfold leftR
  rw [List.filter_eq_self]
  intro x _
  rfl
 refine ⟨by simp [levelR],fun k v h=>?_,fun o _ _ hl=>?_⟩
 ·have e:=List.mem_singleton.mp (show (k,v) ∈ [((othersR a,some 0),((0,[0]):RWay))] from h)
  cases e
  exact ⟨[],rfl,rfl,by rw [e0]; rfl,by rw [e0]; exact List.Perm.refl _⟩
 ·have e:o=[]:=List.length_eq_zero_iff.mp hl
  subst e
  refine ⟨(0,[0]),?_,rle_refl _⟩
  rw [e0]
  exact List.mem_singleton.mpr rfl
theorem lvR_succ {n:Nat} {g:RGrp} (h:LvR a n g):LvR a (n+1) (furtherR a g):=by
 have ndl:∀ o,(leftR a o).Nodup:=fun o=>(others_nd a).filter _
 refine ⟨(foldR_keys a (g.map fun p=>p.1.1.length).sum g [] (by simp) (fun p hp=>le_sum_mem (List.mem_map.mpr ⟨p,hp,rfl⟩))).1,fun k v hin=>?_,fun o hnd hsub hlen=>?_⟩
 ·rcases foldR_sub a g [] k v hin with hin | ⟨p,hp,i,hi,rfl,rfl⟩
  ·cases hin
  ·obtain ⟨k1,v1⟩:=p
   obtain ⟨o,e1,e2,e3,e4⟩:=h.sound k1 v1 hp
   subst e3
   simp only at hi ⊢
   have hx:(leftR a o)[i]?=some ((leftR a o).getD i 0):=by rw [List.getD_eq_getElem?_getD,List.getElem?_eq_getElem hi]; rfl
   generalize (leftR a o).getD i 0=j at hx ⊢
   refine ⟨o++[j],?_,by rw [List.length_append,e2]; rfl,?_,?_⟩
   ·rw [e1,ext_wayR]
   ·rw [leftR_snoc,eraseIdx_filter (ndl o) hx]
    simp
   ·have hjm:j ∈ leftR a o:=List.mem_of_getElem? hx
    have er:(leftR a o).filter (fun y=>y != j)=(leftR a o).erase j:=((ndl o).erase_eq_filter j).symm
    rw [leftR_snoc,er,List.append_assoc]
    exact (List.Perm.append_left o (List.perm_cons_erase hjm).symm).trans e4
 ·rcases List.eq_nil_or_concat o with rfl | ⟨o',j,rfl⟩
  ·simp at hlen
  ·rw [List.concat_eq_append] at hnd hsub hlen ⊢
   have hn':o'.length=n:=by rw [List.length_append] at hlen; simpa using hlen
   have nd':=(List.nodup_append.mp hnd).1
   obtain ⟨v,hv,hle⟩:=h.all o' nd' (fun x hx=>hsub x (List.mem_append_left _ hx)) hn'
   have hj:j ∈ leftR a o':=by
    refine List.mem_filter.mpr ⟨hsub j (by simp),?_⟩
    have:j ∉ o':=fun z=>(List.nodup_append.mp hnd).2.2 j z j (by simp) rfl
    simpa using this
   obtain ⟨i,hi⟩:=List.getElem?_of_mem hj
   have hil:=(List.getElem?_eq_some_iff.mp hi).1
   have hg:(leftR a o').getD i 0=j:=by rw [List.getD_eq_getElem?_getD,hi]; rfl
   obtain ⟨u,hu,hul⟩:=foldR_new a g [] _ hv i hil
   simp only at hu hul
   rw [hg] at hu hul
   refine ⟨u,?_,?_⟩
   ·rw [leftR_snoc,← eraseIdx_filter (ndl o') hi]
    have e:(o'++[j]).getLastD 0=j:=by simp
    rw [e]
    exact hu
   ·rw [← ext_wayR]
    obtain ⟨o2,f1,f2,_,_⟩:=h.sound _ v hv
    refine rle_trans hul (rle_ext a _ j ?_ hle)
    rw [f1]
    show (0::o2).length=(0::o').length
    rw [List.length_cons,List.length_cons,f2,hn']
theorem lvR_all:∀ n,LvR a n (levelR a n)
 | 0=>lvR_zero a
 | n+1=>lvR_succ a (lvR_all n)
theorem levelR_small (h7:a.flavours≤7):∀ n,(levelR a n).length≤7 ^ n
 | 0=>by simp [levelR]
 | n+1=>by
  have h:=levelR_small h7 n
  have L:=lvR_all a n
  have hk:∀ p ∈ levelR a n,p.1.1.length≤7:=by
   rintro ⟨k,v⟩ hp
   obtain ⟨o,_,_,e,_⟩:=L.sound k v hp
   rw [e]
   refine Nat.le_trans (List.length_filter_le _ _) ?_
   unfold othersR
   rw [List.length_drop,List.length_range]
   omega
  have:=(foldR_keys a 7 (levelR a n) [] (by simp) hk).2
  show (furtherR a (levelR a n)).length≤_
  unfold furtherR
  rw [List.length_nil,Nat.zero_add] at this
  rw [Nat.pow_succ]
  omega
def backR (v:RWay) (x:Nat):RWay:=(v.1+a.turn (x+1) 0,v.2)
theorem ring_level (hn:0<a.flavours) {k:GKey} {v r:RWay} {x:Nat} (h1:(k,v) ∈ levelR a (a.flavours - 1)) (hx:k.2=some x) (hr:r=backR a v x)
  (h2:∀ k v x,(k,v) ∈ levelR a (a.flavours - 1)→k.2=some x→rle r (backR a v x)):r=(a.round (0::a.ring),0::a.ring):=by
 have L:=lvR_all a (a.flavours - 1)
 have ol:(othersR a).length=a.flavours - 1:=by
  unfold othersR
  rw [List.length_drop,List.length_range]
 have rise:(othersR a).Pairwise (·<·):=(List.pairwise_lt_range).sublist (List.drop_sublist _ _)
 obtain ⟨o,e1,e2,e3,e4⟩:=L.sound k v h1
 have hle:=e4.length_eq
 rw [List.length_append,e2,ol] at hle
 have e0:leftR a o=[]:=List.length_eq_zero_iff.mp (by omega)
 rw [e0,List.append_nil] at e4
 have ex:x=o.getLastD 0:=by
  rw [e3] at hx
  exact (Option.some.inj hx).symm
 have er:r=(a.round (0::o),0::o):=by
  rw [hr,e1,ex,round_pc]
  rfl
 have hb:a.ring=o:=by
  unfold Abs.ring
  have el:orders (a.flavours - 1) ((List.range a.flavours).drop 1)=orders (othersR a).length (othersR a):=by rw [ol]; rfl
  rw [el]
  refine least_orders rise e4 fun u hu hk=>?_
  have und:u.Nodup:=hu.nodup_iff.mpr (others_nd a)
  obtain ⟨v2,hv2,hl2⟩:=L.all u und (fun y hy=>hu.subset hy) (by rw [hu.length_eq,ol])
  have q:=h2 _ v2 _ hv2 rfl
  obtain ⟨o2,f1,f2,_,_⟩:=L.sound _ v2 hv2
  have q2:rle (backR a v2 (u.getLastD 0)) (a.round (0::u),0::u):=by
   rw [round_pc]
   rcases rlt_total v2 (wayR a u) with t | t | t
   ·intro z
    unfold backR at z
    rcases t with t | ⟨t1,t2⟩
    ·have t':v2.1<pc a 0 u:=t
     rcases z with z | ⟨z1,_⟩
     ·simp only at z; omega
     ·simp only at z1; omega
    ·have t':v2.1=pc a 0 u:=t1
     rcases z with z | ⟨_,z2⟩
     ·simp only at z; omega
     ·exact ll_irrefl _ (ll_trans t2 z2)
   ·rw [t]; exact rle_refl _
   ·exact absurd t hl2
  have q3:=rle_trans q q2
  rw [er] at q3
  refine q3 ?_
  rcases hk with hk | ⟨hk1,hk | ⟨_,hk⟩⟩
  ·exact .inl hk
  ·exact absurd hk (Nat.lt_irrefl _)
  ·exact .inr ⟨hk1,ll_cons.mpr hk⟩
 rw [hb]
 exact er
end
end Fr
namespace N2
open PySem PySem.Spec PyProof.Rows
inductive I2 where
 | non | int (i:Int) | tup (l:List Int)
 deriving DecidableEq
def Is2 (h:Heap):I2→Value→Prop
 | .non,v=>v=.none
 | .int i,v=>∃ t,v=.int i t
 | .tup l,v=>∃ a items,v=.ref a∧IsTup h a items∧IntsAre items.toList l
inductive Are2 (h:Heap):List I2→List Value→Prop
 | nil:Are2 h [] []
 | cons {k:I2} {v:Value} {ks:List I2} {vs:List Value}:Is2 h k v→Are2 h ks vs→Are2 h (k::ks) (v::vs)
def Key2 (h:Heap) (ks:List I2) (a:Addr):Prop:=∃ items,IsTup h a items∧Are2 h ks items.toList
theorem ints_inj {vs:List Value} {l m:List Int} (h:IntsAre vs l) (k:IntsAre vs m):l=m:=by
 induction h generalizing m with
 | nil=>cases k; rfl
 | cons n t _ ih=>cases k with | cons _ _ k=>rw [ih k]
theorem tup_inj {h:Heap} {a:Addr} {x y:Array Value} (hx:IsTup h a x) (hy:IsTup h a y):x=y:=by
 obtain ⟨o,e,_,n,d⟩:=hx
 obtain ⟨o',e',_,n',d'⟩:=hy
 rw [e] at e'
 cases e'
 rw [d] at d'
 injection d'
theorem Is2.inj {h:Heap} {x y:I2} {v:Value} (hx:Is2 h x v) (hy:Is2 h y v):x=y:=by
 cases x with
 | non =>
  cases y with
  | non=>rfl
  | int j=>obtain ⟨t,e⟩:=hy; rw [show v=.none from hx] at e; cases e
  | tup m=>obtain ⟨a,its,e,_⟩:=hy; rw [show v=.none from hx] at e; cases e
 | int i =>
  obtain ⟨t,rfl⟩:=hx
  cases y with
  | non=>cases (show Value.int i t=.none from hy)
  | int j=>obtain ⟨u,e⟩:=hy; injection e with e; rw [e]
  | tup m=>obtain ⟨a,its,e,_⟩:=hy; cases e
 | tup l =>
  obtain ⟨a,its,rfl,ht,hi⟩:=hx
  cases y with
  | non=>cases (show Value.ref a=.none from hy)
  | int j=>obtain ⟨u,e⟩:=hy; cases e
  | tup m =>
   obtain ⟨b,its',e,ht',hi'⟩:=hy
   cases e
   rw [tup_inj ht ht'] at hi
   rw [ints_inj hi hi']
theorem Are2.inj {h:Heap} {x y:List I2} {vs:List Value} (hx:Are2 h x vs) (hy:Are2 h y vs):x=y:=by
 induction hx generalizing y with
 | nil=>cases hy; rfl
 | cons h1 _ ih=>cases hy with | cons h2 t=>rw [h1.inj h2,ih t]
theorem Are2.length {h:Heap} {x:List I2} {vs:List Value} (hx:Are2 h x vs):x.length=vs.length:=by
 induction hx with
 | nil=>rfl
 | cons _ _ ih=>simp [ih]
theorem Are2.get {h:Heap} {x:List I2} {vs:List Value} (hx:Are2 h x vs):∀ {j:Nat} {v:Value},vs[j]?=some v→∃ k,x[j]?=some k∧Is2 h k v:=by
 induction hx with
 | nil=>intro j v e; simp at e
 | cons h1 _ ih =>
  intro j v e
  cases j with
  | zero=>simp at e; subst e; exact ⟨_,rfl,h1⟩
  | succ j=>obtain ⟨k,e1,e2⟩:=ih (j:=j) (v:=v) (by simpa using e); exact ⟨k,by simpa using e1,e2⟩
theorem Key2.inj {h:Heap} {x y:List I2} {a:Addr} (hx:Key2 h x a) (hy:Key2 h y a):x=y:=by
 obtain ⟨its,ht,hi⟩:=hx
 obtain ⟨its',ht',hi'⟩:=hy
 rw [tup_inj ht ht'] at hi
 exact hi.inj hi'
def KeepT (h h':Heap):Prop:=∀ a items,IsTup h a items→IsTup h' a items
theorem Is2.keep {h h':Heap} {k:I2} {v:Value} (kp:KeepT h h') (x:Is2 h k v):Is2 h' k v:=by
 cases k with
 | non=>exact x
 | int i=>exact x
 | tup l=>obtain ⟨a,its,e,ht,hi⟩:=x; exact ⟨a,its,e,kp _ _ ht,hi⟩
theorem Are2.keep {h h':Heap} {ks:List I2} {vs:List Value} (kp:KeepT h h') (x:Are2 h ks vs):Are2 h' ks vs:=by
 induction x with
 | nil=>exact .nil
 | cons h1 _ ih=>exact .cons (h1.keep kp) ih
theorem Key2.keep {h h':Heap} {ks:List I2} {a:Addr} (kp:KeepT h h') (x:Key2 h ks a):Key2 h' ks a:=by
 obtain ⟨its,ht,hi⟩:=x
 exact ⟨its,kp _ _ ht,hi.keep kp⟩
theorem keepT_dict {h h':Heap} {d:Addr} {o:Obj} {es ep} (ho:h.get? d=some o) (hd:o.data=.dict es ep) (hs:Heap.SameBut d h h'):KeepT h h':=by
 rintro a items ⟨o',ho',hc,n,hd'⟩
 have hne:a≠d:=by
  rintro rfl
  obtain rfl:o'=o:=Option.some.inj (ho'.symm.trans ho)
  rw [hd] at hd'; exact nomatch hd'
 exact ⟨o',(hs.2 a hne).trans ho',hc,n,hd'⟩
section
variable {prog:Program} {w:World}
theorem items_of_ints {l:List Int} {vs:List Value} (h:IntsAre vs l):ItemsAre (PySem.intKind prog w) l vs:=by
 induction h with
 | nil=>exact .nil
 | cons n t _ ih=>exact .cons (by simp [PySem.intKind,Value.isInt]) ih
theorem tupKey_of {h:Heap} {a:Addr} {items:Array Value} {l:List Int} (ht:IsTup h a items) (hi:IntsAre items.toList l):IsTupleKey (PySem.intKind prog w) h l a:=by
 obtain ⟨o,e,hc,n,hd⟩:=ht
 exact ⟨o,items,n,e,hc,hd,items_of_ints hi⟩
def hash2 (prog:Program) (w:World):I2→Int
 | .non=>reduceHash 0xFCA86420
 | .int i=>hashInt i
 | .tup l=>tupleKeyHash (PySem.intKind prog w) l
def draws2:I2→Nat
 | .non=>1
 | .int _=>1
 | .tup l=>l.length+1
variable {A:Around} {E:Value→Shared→Prop} {s:Shared}
theorem pyHash_none {Q:Int→Shared→Prop} (h:Q (reduceHash 0xFCA86420) { s with toks:=s.toks+1 }):wpAny (model prog w) A (pyHash .none) Q E s:=by
 show wpAny (model prog w) A (pyHashByItsType .none) Q E s
 exact PySem.W.pyHash_slot (T:="NoneType") rfl F.slot_NoneType_hash F.entry_NoneType_hash (F.args_NoneType_hash_1 _) (beq_builtin_none _) (.inl rfl) (wpAny_bind (wpAny_pure (wpAny_bind (wpAny_mkInt (wpAny_pure ⟨_,_,rfl,h⟩)))))
theorem pyHash_item {k:I2} {v:Value} {Q:Int→Shared→Prop} (hu:A.units<cLine) (x:Is2 s.heap k v) (h:Q (hash2 prog w k) { s with toks:=s.toks+draws2 k }):wpAny (model prog w) A (pyHash v) Q E s:=by
 cases k with
 | non=>rw [show v=.none from x]; exact pyHash_none h
 | int i=>obtain ⟨t,rfl⟩:=x; exact wpAny_pyHash_int h
 | tup l =>
  obtain ⟨a,its,rfl,ht,hi⟩:=x
  exact wpAny_pyHash_tuple (knd:=PySem.intKind prog w) hu (tupKey_of ht hi) h
def keyHash2 (prog:Program) (w:World) (ks:List I2):Int:=reduceHash (Builtin.Tuple.tupleHashOf (ks.map (hash2 prog w)))
def keyDraws2 (ks:List I2):Nat:=(ks.map draws2).sum+1
theorem pyHash_key {ks:List I2} {a:Addr} {Q:Int→Shared→Prop} (hu:A.units+1<cLine) (hk:Key2 s.heap ks a) (h:Q (keyHash2 prog w ks) { s with toks:=s.toks+keyDraws2 ks }) :
  wpAny (model prog w) A (pyHash (.ref a)) Q E s:=by
 obtain ⟨items,ht,hi⟩:=hk
 have hT:=ht.typeIs
 obtain ⟨o,ho,hc,n,hd⟩:=ht
 show wpAny (model prog w) A (pyHashByItsType (.ref a)) Q E s
 refine PySem.W.pyHash_slot (T:="tuple") hT F.slot_tuple_hash F.entry_tuple_hash (F.args_tuple_hash_1 _) (beq_builtin_none _) (.inr (by omega)) ?_
 show wpAny _ _ (Builtin.Tuple.tupleItemsOf (.ref a) >>= _) _ _ s
 refine wpAny_bind (wpAny_tupleItemsOf ho hd ?_)
 refine wpAny_bind ?_
 rw [← Array.forIn_toList]
 refine wpAny_forIn_list _
  (fun rest (b:Array Int) s'=>∃ done left,ks=done++left∧Are2 s.heap left rest∧b.toList=done.map (hash2 prog w)∧s'={ s with toks:=s.toks+(done.map draws2).sum })
  _ ?_ ?_ _ _ ⟨[],ks,rfl,hi,rfl,rfl⟩
 ·rintro x rest b s' ⟨done,left,rfl,hl,hb,rfl⟩
  cases hl with
  | @cons k _ ks' _ h1 hl' =>
   refine wpAny_bind (pyHash_item (k:=k) (by rw [Around.in1_units]; exact hu) h1 ?_)
   have e1:((done++[k]).map draws2).sum=(done.map draws2).sum+draws2 k:=by simp
   first
    | exact wpAny_pure ⟨done++[k],ks',by simp,hl',by simp [hb],by rw [e1,← Nat.add_assoc]⟩
    | exact wpAny_bind (wpAny_pure (wpAny_pure ⟨done++[k],ks',by simp,hl',by simp [hb],by rw [e1,← Nat.add_assoc]⟩))
 ·rintro b s' ⟨done,left,rfl,hl,hb,rfl⟩
  cases hl
  rw [List.append_nil] at h
  show wpAny _ _ (retInt (Builtin.Tuple.tupleHashOf b.toList)) _ _ _
  rw [hb]
  unfold keyHash2 keyDraws2 at h
  rw [← Nat.add_assoc] at h
  exact wpAny_bind (wpAny_mkInt (wpAny_pure ⟨_,_,rfl,h⟩))
theorem ints_get {vs:List Value} {l:List Int} (h:IntsAre vs l):∀ {j:Nat} {v:Value},vs[j]?=some v→∃ i t,l[j]?=some i∧v=.int i t:=by
 induction h with
 | nil=>intro j v e; simp at e
 | cons n t _ ih =>
  intro j v e
  cases j with
  | zero=>simp at e; subst e; exact ⟨n,t,rfl,rfl⟩
  | succ j=>obtain ⟨i,u,e1,e2⟩:=ih (j:=j) (v:=v) (by simpa using e); exact ⟨i,u,by simpa using e1,e2⟩
theorem ints_len {vs:List Value} {l:List Int} (h:IntsAre vs l):vs.length=l.length:=by
 induction h with
 | nil=>rfl
 | cons _ _ _ ih=>simp [ih]
theorem all_places {α:Type} [DecidableEq α]:∀ (x y:List α) (e:Nat→Bool),(∀ (j:Nat) u v,x[j]?=some u→y[j]?=some v→e j=decide (u=v)) →
  ((List.range (min x.length y.length)).all e && x.length == y.length)=decide (x=y):=by
 intro x y e he
 by_cases hxy:x=y
 ·subst hxy
  rw [decide_eq_true rfl,Bool.and_eq_true]
  refine ⟨List.all_eq_true.mpr fun j hj=>?_,by simp⟩
  rw [Nat.min_self,List.mem_range] at hj
  rw [he j _ _ (List.getElem?_eq_getElem hj) (List.getElem?_eq_getElem hj)]
  exact decide_eq_true rfl
 ·rw [decide_eq_false hxy]
  by_cases hl:x.length=y.length
  ·rw [Bool.and_eq_false_iff]
   left
   apply Bool.eq_false_iff.mpr
   intro ha
   apply hxy
   refine List.ext_getElem hl fun j h1 h2=>?_
   have:=List.all_eq_true.mp ha j (List.mem_range.mpr (by omega))
   rw [he j _ _ (List.getElem?_eq_getElem h1) (List.getElem?_eq_getElem h2)] at this
   exact of_decide_eq_true this
  ·rw [Bool.and_eq_false_iff]
   right
   simpa using hl
theorem eqAt_ints {a b:Addr} {x y:Array Value} {l m:List Int} (hu:A.units<cLine) (ha:IsTup s.heap a x) (hb:IsTup s.heap b y) (hl:IntsAre x.toList l) (hm:IntsAre y.toList m):SeqAt.EqAt A s (.ref a) (.ref b) (decide (l=m)):=by
 by_cases hab:a=b
 ·subst hab
  rw [tup_inj ha hb] at hl
  rw [ints_inj hl hm,decide_eq_true rfl]
  exact SeqAt.EqAt.same _
 ·refine .of_refs hab ?_
  have h:=SeqAt.RcAt.tuples (A:=A) (s:=s) (e:=fun j=>decide (l[j]?=m[j]?)) ha hb hu (fun j h1 h2=>by
   obtain ⟨i,t,e1,e2⟩:=ints_get hl (j:=j) (v:=x[j]) (by rw [Array.getElem?_toList]; exact Array.getElem?_eq_getElem h1)
   obtain ⟨i',t',e1',e2'⟩:=ints_get hm (j:=j) (v:=y[j]) (by rw [Array.getElem?_toList]; exact Array.getElem?_eq_getElem h2)
   rw [e2,e2']
   have q:=SeqAt.EqAt.int_int (A:=A.in1) (s:=s) i t i' t'
   have:decide (l[j]?=m[j]?)=(i == i'):=by
    rw [e1,e1',Bool.beq_eq_decide_eq]
    simp
   rw [this]
   exact q)
  have e0:((List.range (min x.size y.size)).all (fun j=>decide (l[j]?=m[j]?)) && x.size == y.size)=decide (l=m):=by
   have e1:x.size=l.length:=by rw [← Array.length_toList]; exact ints_len hl
   have e2:y.size=m.length:=by rw [← Array.length_toList]; exact ints_len hm
   rw [e1,e2]
   refine all_places l m _ fun j u v q1 q2=>?_
   rw [q1,q2]
   simp
  rw [e0] at h
  exact h
theorem eqAt_item {k k':I2} {v v':Value} (hu:A.units<cLine) (x:Is2 s.heap k v) (y:Is2 s.heap k' v'):SeqAt.EqAt A s v v' (decide (k=k')):=by
 cases k with
 | non =>
  rw [show v=.none from x]
  cases k' with
  | non=>rw [show v'=.none from y]; exact SeqAt.EqAt.same _
  | int j=>obtain ⟨t,rfl⟩:=y; exact SeqAt.EqAt.none_int j t
  | tup m=>obtain ⟨a,its,rfl,ht,hi⟩:=y; exact SeqAt.EqAt.none_tuple ht hu
 | int i =>
  obtain ⟨t,rfl⟩:=x
  cases k' with
  | non=>rw [show v'=.none from y]; exact SeqAt.EqAt.int_none i t
  | int j =>
   obtain ⟨u,rfl⟩:=y
   have:decide (I2.int i=I2.int j)=(i == j):=by rw [Bool.beq_eq_decide_eq]; simp
   rw [this]; exact SeqAt.EqAt.int_int i t j u
  | tup m=>obtain ⟨a,its,rfl,ht,hi⟩:=y; exact SeqAt.EqAt.int_tuple i t ht hu
 | tup l =>
  obtain ⟨a,its,rfl,ht,hi⟩:=x
  cases k' with
  | non=>rw [show v'=.none from y]; exact SeqAt.EqAt.tuple_none ht hu
  | int j=>obtain ⟨u,rfl⟩:=y; exact SeqAt.EqAt.tuple_int j u ht hu
  | tup m =>
   obtain ⟨b,its',rfl,ht',hi'⟩:=y
   have:decide (I2.tup l=I2.tup m)=decide (l=m):=by simp
   rw [this]; exact eqAt_ints hu ht ht' hi hi'
theorem eqAt_key {x y:List I2} {a b:Addr} (hu:A.units+1<cLine) (hx:Key2 s.heap x a) (hy:Key2 s.heap y b):SeqAt.EqAt A s (.ref a) (.ref b) (decide (x=y)):=by
 by_cases hab:a=b
 ·subst hab
  rw [hx.inj hy,decide_eq_true rfl]
  exact SeqAt.EqAt.same _
 ·obtain ⟨its,ht,hi⟩:=hx
  obtain ⟨its',ht',hi'⟩:=hy
  refine .of_refs hab ?_
  have h:=SeqAt.RcAt.tuples (A:=A) (s:=s) (e:=fun j=>decide (x[j]?=y[j]?)) ht ht' (by omega) (fun j h1 h2=>by
   obtain ⟨k,e1,e2⟩:=hi.get (j:=j) (v:=its[j]) (by rw [Array.getElem?_toList]; exact Array.getElem?_eq_getElem h1)
   obtain ⟨k',e1',e2'⟩:=hi'.get (j:=j) (v:=its'[j]) (by rw [Array.getElem?_toList]; exact Array.getElem?_eq_getElem h2)
   have q:=eqAt_item (A:=A.in1) (s:=s) (by rw [Around.in1_units]; exact hu) e2 e2'
   have:decide (x[j]?=y[j]?)=decide (k=k'):=by
    rw [e1,e1']
    simp
   rw [this]
   exact q)
  have e0:((List.range (min its.size its'.size)).all (fun j=>decide (x[j]?=y[j]?)) && its.size == its'.size)=decide (x=y):=by
   have e1:its.size=x.length:=by rw [← Array.length_toList]; exact hi.length.symm
   have e2:its'.size=y.length:=by rw [← Array.length_toList]; exact hi'.length.symm
   rw [e1,e2]
   refine all_places x y _ fun j u v q1 q2=>?_
   rw [q1,q2]
   simp
  rw [e0] at h
  exact h
theorem quiet_tup (n:Nat) {a:Addr} {items:Array Value} {Q:Bool→Shared→Prop} (ht:IsTup s.heap a items) (hq:∀ v ∈ items.toList,∀ (R:Bool→Shared→Prop),R true s→wpAny (model prog w) A (eqIsQuiet n v) R E s) (h:Q true s) :
  wpAny (model prog w) A (eqIsQuiet (n+1) (.ref a)) Q E s:=by
 have hT:=ht.typeIs
 obtain ⟨o,ho,hc,m,hd⟩:=ht
 unfold eqIsQuiet
 refine wpAny_bind (wpAny_specialOf hT F.slot_tuple_eq.lookup ?_)
 show wpAny _ _ (isInstance (.ref a) (.type "tuple") >>= _) _ _ s
 refine wpAny_bind (wpAny_isInstance hT isSubtype_tuple_tuple ?_)
 simp only [Bool.not_true,Bool.false_eq_true,if_false]
 refine wpAny_bind (wpAny_seqItems ho hd ?_)
 refine wpAny_bind ?_
 show wpAny _ _ (forIn items _ _) _ _ s
 rw [← Array.forIn_toList]
 refine wpAny_forIn_list _ (fun rest r s'=>r.1=none∧s'=s∧∀ v ∈ rest,v ∈ items.toList) _ ?_ ?_ _ _ ⟨rfl,rfl,fun _ h=>h⟩
 ·rintro v rest r s' ⟨hr,rfl,hall⟩
  refine wpAny_bind (hq v (hall v List.mem_cons_self) _ ?_)
  simp only [Bool.not_true,Bool.false_eq_true,if_false]
  exact wpAny_pure ⟨rfl,rfl,fun u hu'=>hall u (List.mem_cons_of_mem _ hu')⟩
 ·rintro ⟨r1,r2⟩ s' ⟨hr,rfl,_⟩
  simp only at hr
  subst hr
  exact wpAny_pure h
theorem quiet_plain (n:Nat) {v:Value} {R:Bool→Shared→Prop} (hv:carriedByValue v=true) (h:R true s):wpAny (model prog w) A (eqIsQuiet n v) R E s:=by
 rw [eqIsQuiet_byValue n hv]
 exact wpAny_pure h
theorem quiet_key {ks:List I2} {a:Addr} {Q:Bool→Shared→Prop} (hk:Key2 s.heap ks a) (h:Q true s):wpAny (model prog w) A (eqIsQuiet 8 (.ref a)) Q E s:=by
 obtain ⟨items,ht,hi⟩:=hk
 refine quiet_tup 7 ht (fun v hv R hR=>?_) h
 obtain ⟨j,hj⟩:=List.getElem?_of_mem hv
 obtain ⟨k,_,x⟩:=hi.get hj
 cases k with
 | non=>rw [show v=.none from x]; exact quiet_plain 7 rfl hR
 | int i=>obtain ⟨t,rfl⟩:=x; exact quiet_plain 7 rfl hR
 | tup l =>
  obtain ⟨b,its,rfl,ht',hi'⟩:=x
  refine quiet_tup 6 ht' (fun v hv R hR=>?_) hR
  obtain ⟨j,hj⟩:=List.getElem?_of_mem hv
  obtain ⟨i,t,_,rfl⟩:=ints_get hi' hj
  exact quiet_plain 6 rfl hR
end
def kind2 (prog:Program) (w:World):HeapKind prog w (List I2) where
 is:=Key2
 hash:=keyHash2 prog w
 draws:=keyDraws2
 room:=fun A=>A.units+1<cLine
 inj:=fun hx hy=>hx.inj hy
 keeps:=fun x ho hd hs=>x.keep (keepT_dict ho hd hs)
 pyHash:=fun hu hk h=>pyHash_key hu hk h
 eqBool:=fun hu hx hy h=>eqAt_key hu hx hy _ _ _ _ h
 quiet:=fun hk h=>quiet_key hk h
end N2
namespace N2
open PySem
def Seg (M:Model) (G:Ctx) (F:Frame) (fs:List Frame) (e1:End) (s1:Shared) (e:End) (s':Shared):Prop :=
 match e1 with
 | .ret r=>match F with
  | .ret k _ _ _ c p _=>Runs M (G.goto c) p (k r) fs s1 e s'
  | .gen g k _ c p=>Runs M (G.goto c) p (k (End.ret r).result) fs (s1.setGen g .finished) e s'
 | .susp v g0 l0 k0 c0 p0 f0=>match splitAtGen (F::fs) with
  | none=>e=.susp v g0 l0 k0 c0 p0 (f0++F::fs)∧s'=s1
  | some (pre,(g,k,c,p),rest)=>Runs M (G.goto c) p (k (.yielded v)) rest (s1.setGen g (End.susp v g0 l0 k0 c0 p0 (f0++pre)).genState) e s'
def Inv (M:Model) (G:Ctx) (p:Pos) (t:Sem Fin) (fs:List Frame) (s:Shared) (e:End) (s':Shared):Prop :=
 match fs with
 | F::fs=>∃ e1 s1,Runs M (G.over (F::fs)) p t [] s e1 s1∧Seg M G F fs e1 s1 e s'
 | []=>match t with
  | .pure (.done f)=>e=.ret (.ok f)∧s'=s
  | .raise x=>e=.ret (.error x)∧s'=s
  | .pure (.again c)=>Runs M (G.goto c) p (M.den c) [] s e s'
  | .rule _ k=>Runs M G p (k ()) [] s e s'
  | .at q k=>Runs M G q (k ()) [] s e s'
  | .load a _ k=>∃ o,s.heap.get? a=some o∧Runs M G p (k o) [] s e s'
  | .update a _ f k=>Runs M G p (k ()) [] { s with heap:=s.heap.update a f } e s'
  | .loadIfAlive a k=>Runs M G p (k (s.heap.get? a)) [] s e s'
  | .point _ k=>Runs M G p (k ()) [] s e s'
  | .alloc o k=>Runs M G p (k s.heap.objs.size) [] { s with heap:=s.heap.push o } e s'
  | .fresh k=>Runs M G p (k s.toks) [] { s with toks:=s.toks+1 } e s'
  | .ask k=>Runs M G p (k ⟨M.prog,M.w.params⟩) [] s e s'
  | .choose src n k=>Runs M G p (k (M.w.draws src (s.drawn.get src) % n)) [] { s with drawn:=s.drawn.bump src } e s'
  | .os q _ k=>Runs M G p (k (Os.step s.os q).2) [] { s with os:=(Os.step s.os q).1 } e s'
  | .handled own k=>Runs M G p (k (if own then G.own else G.handled)) [] s e s'
  | .genState g k=>∃ st,s.gens[g]?=some st∧Runs M G p (k st.seen) [] s e s'
  | .stack k=>Runs M G p (k ((G.code,p)::G.below)) [] s e s'
  | .thread k=>Runs M G p (k 0) [] s e s'
  | .newGen c k=>Runs M G p (k s.gens.size) [] { s with gens:=s.gens.push (.fresh c) } e s'
  | .call c h g l k=>∃ e1 s1,Runs M (G.enter c h p) p (M.den c) [] s e1 s1∧match e1 with
   | .ret r=>Runs M G p (k r) [] s1 e s'
   | .susp v g0 l0 k0 c0 p0 f0=>e=.susp v g0 l0 k0 c0 p0 (f0++[.ret k h g l G.code p []])∧s'=s1
  | .yield v g l k=>e=.susp v g l k G.code p []∧s'=s
  | .resume g r l k=>∃ st,s.gens[g]?=some st∧match st with
   | .fresh c=>(r=.send .none∧∃ e1 s1,Runs M (G.wake c p) p (M.den c) [] (s.setGen g .running) e1 s1∧Runs M G p (k e1.result) [] (s1.setGen g e1.genState) e s') ∨
     (∃ v,r=.send v∧v≠.none∧Runs M G p (k .justStarted) [] s e s')∨∃ x,r=.throw x∧Runs M G p (k (.raised x)) [] (s.setGen g .finished) e s'
   | .suspended k0 _ c0 p0 f0 _=>∃ e1 s1,Runs M (G.wake c0 p) p0 (k0 r) f0 (s.setGen g .running) e1 s1∧Runs M G p (k e1.result) [] (s1.setGen g e1.genState) e s'
   | .running=>Runs M G p (k .running) [] s e s'
   | .finished=>Runs M G p (k .finished) [] s e s'
  | _=>False
theorem inv {M:Model} {G:Ctx} {p:Pos} {t:Sem Fin} {fs:List Frame} {s:Shared} {e:End} {s':Shared} (h:Runs M G p t fs s e s'):Inv M G p t fs s e s':=by
 cases h with
 | done=>exact ⟨rfl,rfl⟩
 | raise=>exact ⟨rfl,rfl⟩
 | again _ h=>exact h
 | rule h=>exact h
 | «at» h=>exact h
 | load e h=>exact ⟨_,e,h⟩
 | update _ h=>exact h
 | loadIfAlive h=>exact h
 | point h=>exact h
 | alloc h=>exact h
 | fresh h=>exact h
 | ask h=>exact h
 | choose _ h=>exact h
 | os h=>exact h
 | handled h=>exact h
 | genState e h=>exact ⟨_,e,h⟩
 | stack h=>exact h
 | thread h=>exact h
 | newGen h=>exact h
 | call h1 h2=>exact ⟨_,_,h1,h2⟩
 | callSusp h=>exact ⟨_,_,h,rfl,rfl⟩
 | yield=>exact ⟨rfl,rfl⟩
 | resumeFresh e h1 _ h2=>exact ⟨_,e,.inl ⟨rfl,_,_,h1,h2⟩⟩
 | resumeSuspended e h1 _ h2=>exact ⟨_,e,_,_,h1,h2⟩
 | resumeJustStarted e v h=>exact ⟨_,e,.inr (.inl ⟨_,rfl,v,h⟩)⟩
 | resumeThrowFresh e h=>exact ⟨_,e,.inr (.inr ⟨_,rfl,h⟩)⟩
 | resumeRunning e h=>exact ⟨_,e,h⟩
 | resumeFinished e h=>exact ⟨_,e,h⟩
 | segRet h1 h2=>exact ⟨_,_,h1,h2⟩
 | segGen h1 h2=>exact ⟨_,_,h1,h2⟩
 | segSuspOut e h=>refine ⟨_,_,h,?_⟩; unfold Seg; dsimp only; rw [e]; exact ⟨rfl,rfl⟩
 | segSuspGen e h1 _ h2=>refine ⟨_,_,h1,?_⟩; unfold Seg; dsimp only; rw [e]; exact h2
theorem seg_out {M:Model} {G:Ctx} {F:Frame} {fs v g0 l0 k0 c0 p0 f0 s1 e s'} (h:Seg M G F fs (.susp v g0 l0 k0 c0 p0 f0) s1 e s') (q:splitAtGen (F::fs)=none):e=.susp v g0 l0 k0 c0 p0 (f0++F::fs)∧s'=s1:=by
 unfold Seg at h; dsimp only at h; rw [q] at h; exact h
theorem seg_gen {M:Model} {G:Ctx} {F:Frame} {fs v g0 l0 k0 c0 p0 f0 s1 e s' pre g k c p rest} (h:Seg M G F fs (.susp v g0 l0 k0 c0 p0 f0) s1 e s') (q:splitAtGen (F::fs)=some (pre,(g,k,c,p),rest)) :
  Runs M (G.goto c) p (k (.yielded v)) rest (s1.setGen g (End.susp v g0 l0 k0 c0 p0 (f0++pre)).genState) e s':=by
 unfold Seg at h; dsimp only at h; rw [q] at h; exact h
theorem runs_det {M:Model} {G:Ctx} {p:Pos} {t:Sem Fin} {fs:List Frame} {s:Shared} {e:End} {s':Shared} (h:Runs M G p t fs s e s') :
  ∀ {e2:End} {s2:Shared},Runs M G p t fs s e2 s2→e=e2∧s'=s2:=by
 induction h with
 | done=>intro e2 s2 h2; have i:=inv h2; exact ⟨i.1.symm,i.2.symm⟩
 | raise=>intro e2 s2 h2; have i:=inv h2; exact ⟨i.1.symm,i.2.symm⟩
 | again hq _ ih=>exact fun h=>ih (inv h)
 | rule _ ih=>exact fun h=>ih (inv h)
 | «at» _ ih=>exact fun h=>ih (inv h)
 | load e0 _ ih =>
  intro e2 s2 h2
  obtain ⟨o,e1,h⟩:=inv h2
  cases e0.symm.trans e1
  exact ih h
 | update _ _ ih=>exact fun h=>ih (inv h)
 | loadIfAlive _ ih=>exact fun h=>ih (inv h)
 | point _ ih=>exact fun h=>ih (inv h)
 | alloc _ ih=>exact fun h=>ih (inv h)
 | fresh _ ih=>exact fun h=>ih (inv h)
 | ask _ ih=>exact fun h=>ih (inv h)
 | choose _ _ ih=>exact fun h=>ih (inv h)
 | os _ ih=>exact fun h=>ih (inv h)
 | handled _ ih=>exact fun h=>ih (inv h)
 | genState e0 _ ih =>
  intro e2 s2 h2
  obtain ⟨o,e1,h⟩:=inv h2
  cases e0.symm.trans e1
  exact ih h
 | stack _ ih=>exact fun h=>ih (inv h)
 | thread _ ih=>exact fun h=>ih (inv h)
 | newGen _ ih=>exact fun h=>ih (inv h)
 | call _ _ ih1 ih2 =>
  intro e2 s2 h2
  obtain ⟨e1,s1,h1,h⟩:=inv h2
  obtain ⟨a,b⟩:=ih1 h1
  subst a b
  exact ih2 h
 | callSusp _ ih1 =>
  intro e2 s2 h2
  obtain ⟨e1,s1,h1,h⟩:=inv h2
  obtain ⟨a,b⟩:=ih1 h1
  subst a b
  exact ⟨h.1.symm,h.2.symm⟩
 | yield=>intro e2 s2 h2; have i:=inv h2; exact ⟨i.1.symm,i.2.symm⟩
 | resumeFresh e0 _ _ _ ih1 ih2 =>
  intro e2 s2 h2
  obtain ⟨o,e1,h⟩:=inv h2
  cases e0.symm.trans e1
  rcases h with ⟨_,e3,s3,h1,h⟩ | ⟨v,a,n,_⟩ | ⟨x,a,_⟩
  ·obtain ⟨a,b⟩:=ih1 h1
   subst a b
   exact ih2 h
  ·cases a; exact absurd rfl n
  ·cases a
 | resumeSuspended e0 _ _ _ ih1 ih2 =>
  intro e2 s2 h2
  obtain ⟨o,e1,h⟩:=inv h2
  cases e0.symm.trans e1
  obtain ⟨e3,s3,h1,h⟩:=h
  obtain ⟨a,b⟩:=ih1 h1
  subst a b
  exact ih2 h
 | resumeJustStarted e0 hv _ ih =>
  intro e2 s2 h2
  obtain ⟨o,e1,h⟩:=inv h2
  cases e0.symm.trans e1
  rcases h with ⟨a,_⟩ | ⟨v,a,n,h⟩ | ⟨x,a,_⟩
  ·cases a; exact absurd rfl hv
  ·exact ih h
  ·cases a
 | resumeThrowFresh e0 _ ih =>
  intro e2 s2 h2
  obtain ⟨o,e1,h⟩:=inv h2
  cases e0.symm.trans e1
  rcases h with ⟨a,_⟩ | ⟨v,a,_⟩ | ⟨x,a,h⟩
  ·cases a
  ·cases a
  ·cases a; exact ih h
 | resumeRunning e0 _ ih =>
  intro e2 s2 h2
  obtain ⟨o,e1,h⟩:=inv h2
  cases e0.symm.trans e1
  exact ih h
 | resumeFinished e0 _ ih =>
  intro e2 s2 h2
  obtain ⟨o,e1,h⟩:=inv h2
  cases e0.symm.trans e1
  exact ih h
 | segRet _ _ ih1 ih2 =>
  intro e2 s2 h2
  obtain ⟨e1,s1,h1,h⟩:=inv h2
  obtain ⟨a,b⟩:=ih1 h1
  subst a b
  exact ih2 h
 | segGen _ _ ih1 ih2 =>
  intro e2 s2 h2
  obtain ⟨e1,s1,h1,h⟩:=inv h2
  obtain ⟨a,b⟩:=ih1 h1
  subst a b
  exact ih2 h
 | segSuspOut e0 _ ih1 =>
  intro e2 s2 h2
  obtain ⟨e1,s1,h1,h⟩:=inv h2
  obtain ⟨a,b⟩:=ih1 h1
  subst a b
  have i:=seg_out h e0
  exact ⟨i.1.symm,i.2.symm⟩
 | segSuspGen e0 _ _ _ ih1 ih2 =>
  intro e2 s2 h2
  obtain ⟨e1,s1,h1,h⟩:=inv h2
  obtain ⟨a,b⟩:=ih1 h1
  subst a b
  exact ih2 (seg_gen h e0)
end N2
namespace N2
open PySem Sem
theorem wakes_det {M:Model} {G:Ctx} {p:Pos} {g:Nat} {r:Resume} {s:Shared} {x y:GenResult} {s1 s2:Shared} (h:Wakes M G p g r s x s1) (k:Wakes M G p g r s y s2):x=y∧s1=s2:=by
 unfold Wakes at h k
 cases e:s.gens[g]? with
 | none=>rw [e] at h; exact h.elim
 | some st =>
  rw [e] at h k
  cases st with
  | fresh c =>
   simp only at h k
   cases r with
   | send v =>
    cases v with
    | none =>
     obtain ⟨e1,t1,h1,_,rfl,rfl⟩:=h
     obtain ⟨e2,t2,k1,_,rfl,rfl⟩:=k
     obtain ⟨a,b⟩:=runs_det h1 k1
     subst a
     subst b
     exact ⟨rfl,rfl⟩
    | _=>obtain ⟨rfl,rfl⟩:=h; obtain ⟨rfl,rfl⟩:=k; exact ⟨rfl,rfl⟩
   | throw v=>obtain ⟨rfl,rfl⟩:=h; obtain ⟨rfl,rfl⟩:=k; exact ⟨rfl,rfl⟩
  | suspended k0 l0 c0 p0 fs b0 =>
   simp only at h k
   obtain ⟨e1,t1,h1,_,rfl,rfl⟩:=h
   obtain ⟨e2,t2,k1,_,rfl,rfl⟩:=k
   obtain ⟨a,b⟩:=runs_det h1 k1
   subst a
   subst b
   exact ⟨rfl,rfl⟩
  | running=>obtain ⟨rfl,rfl⟩:=h; obtain ⟨rfl,rfl⟩:=k; exact ⟨rfl,rfl⟩
  | finished=>obtain ⟨rfl,rfl⟩:=h; obtain ⟨rfl,rfl⟩:=k; exact ⟨rfl,rfl⟩
theorem wp_both {M:Model} {G:Ctx} {α:Type} {Q1 Q2:α→Pos→Shared→Prop} {E1 E2:Value→Pos→Shared→Prop} (t:Sem α):∀ {p:Pos} {s:Shared},wp M G t Q1 E1 p s→wp M G t Q2 E2 p s →
  (∃ a p1 s1,Q1 a p1 s1∧Q2 a p1 s1)∨∃ e p1 s1,E1 e p1 s1∧E2 e p1 s1:=by
 induction t with
 | pure a=>intro p s h k; exact .inl ⟨a,p,s,h,k⟩
 | raise e=>intro p s h k; exact .inr ⟨e,p,s,h,k⟩
 | unsupported w=>intro p s h k; exact False.elim h
 | finish e=>intro p s h k; exact False.elim h
 | rule t k ih=>intro p s h k; exact ih () h k
 | «at» p' k ih=>intro p s h k; exact ih () h k
 | load a pt k ih =>
  intro p s h k
  obtain ⟨o,e,h⟩:=h
  obtain ⟨o',e',k⟩:=k
  rw [e] at e'
  cases e'
  exact ih o h k
 | update a pt f k ih=>intro p s h k; exact ih () h.2 k.2
 | alloc o k ih=>intro p s h k; exact ih _ h k
 | register a k ih=>intro p s h k; exact False.elim h
 | loadIfAlive a k ih=>intro p s h k; exact ih _ h k
 | point l k ih=>intro p s h k; exact ih _ h k
 | fresh k ih=>intro p s h k; exact ih _ h k
 | ask k ih=>intro p s h k; exact ih _ h k
 | choose src n k ih=>intro p s h k; exact ih _ h.2 k.2
 | os q l k ih=>intro p s h k; exact ih _ h k
 | call c hd g l k ih =>
  intro p s h k
  obtain ⟨r,s1,h1,h2⟩:=h
  obtain ⟨r',s1',k1,k2⟩:=k
  obtain ⟨a,b⟩:=runs_det h1 k1
  cases a
  subst b
  exact ih r h2 k2
 | handled own k ih=>intro p s h k; exact ih _ h k
 | newGen c k ih=>intro p s h k; exact ih _ h k
 | genState g k ih =>
  intro p s h k
  obtain ⟨o,e,h⟩:=h
  obtain ⟨o',e',k⟩:=k
  rw [e] at e'
  cases e'
  exact ih _ h k
 | resume g r l k ih =>
  intro p s h k
  obtain ⟨r1,s1,h1,h2⟩:=h
  obtain ⟨r2,s2,k1,k2⟩:=k
  obtain ⟨a,b⟩:=wakes_det h1 k1
  subst a
  subst b
  exact ih _ h2 k2
 | yield v g l k ih=>intro p s h k; exact False.elim h
 | stack k ih=>intro p s h k; exact ih _ h k
 | fork c k ih=>intro p s h k; exact False.elim h
 | thread k ih=>intro p s h k; exact ih _ h k
 | await a tk tm l k ih=>intro p s h k; exact False.elim h
section
variable (M:Model) (G G':Ctx) (s s':Shared)
def Ans (G:Ctx) (s:Shared) {β:Type} (u:Sem β) (b:β):Prop:=∀ (p:Pos) (Q:β→Pos→Shared→Prop) (E:Value→Pos→Shared→Prop),(∀ p1,Q b p1 s)→wp M G u Q E p s
inductive TR {α α':Type} (R:α→α'→Prop):Sem α→Sem α'→Prop
 | pure {a a'}:R a a'→TR R (.pure a) (.pure a')
 | uns {t m}:TR R t (.unsupported m)
 | rule {g g':String} {k k'}:TR R (k ()) (k' ())→TR R (.rule g k) (.rule g' k')
 | cmp {u u':Sem (Except Value Bool)} {b:Except Value Bool} {k:Except Value Bool→Sem α} {k':Except Value Bool→Sem α'}:Ans M G s u b→Ans M G' s' u' b→TR R (k b) (k' b)→TR R (u.bind k) (u'.bind k')
variable {M G G' s s'}
theorem TR.sound {α α':Type} {R:α→α'→Prop} {t:Sem α} {t':Sem α'} (h:TR M G G' s s' R t t') {Q:α→Prop} {Q':α'→Prop} {E:Value→Pos→Shared→Prop} (hR:∀ a a',R a a'→Q' a'→Q a) :
  ∀ (p p':Pos),wp M G' t' (fun a _ _=>Q' a) (fun _ _ _=>False) p' s'→wp M G t (fun a _ s1=>s1=s∧Q a) E p s:=by
 induction h with
 | pure r=>intro p p' w; exact ⟨rfl,hR _ _ r w⟩
 | uns=>intro p p' w; exact False.elim w
 | rule _ ih=>intro p p' w; exact ih p p' w
 | cmp a a' _ ih =>
  intro p p' w
  rw [Sem.wp_bind] at w ⊢
  refine a p _ _ fun p1=>?_
  rcases wp_both _ w (a' p' (fun x p1 s1=>x=_∧s1=s') (fun _ _ _=>False) fun p1=>⟨rfl,rfl⟩) with ⟨x,p2,s2,h1,rfl,rfl⟩ | ⟨_,_,_,h1,_⟩
  ·exact ih p1 p2 h1
  ·exact h1.elim
theorem TR.bind {α α' β β':Type} {R:α→α'→Prop} {R2:β→β'→Prop} {t:Sem α} {t':Sem α'} {f:α→Sem β} {f':α'→Sem β'} (h:TR M G G' s s' R t t') (hf:∀ a a',R a a'→TR M G G' s s' R2 (f a) (f' a')) :
  TR M G G' s s' R2 (t.bind f) (t'.bind f'):=by
 induction h with
 | pure r=>exact hf _ _ r
 | uns=>exact .uns
 | rule _ ih=>exact .rule ih
 | cmp a a' _ ih =>
  rw [Sem.bind_assoc,Sem.bind_assoc]
  exact .cmp a a' ih
end
end N2
namespace N2
open PySem PyProof.Rows
class Mp (f:Keyed→Keyed) (Gd:Keyed→Prop) (β:Type) where
 mp:β→β
 ok:β→Prop
section
variable {f:Keyed→Keyed} {Gd:Keyed→Prop}
def AG (Gd:Keyed→Prop) (xs:Array Keyed):Prop:=∀ q ∈ xs.toList,Gd q
@[reducible] instance:Mp f Gd Nat:=⟨id,fun _=>True⟩
@[reducible] instance:Mp f Gd Bool:=⟨id,fun _=>True⟩
@[reducible] instance:Mp f Gd Unit:=⟨id,fun _=>True⟩
@[reducible] instance {β:Type} [Mp f Gd β]:Mp f Gd (Option β):=⟨fun o=>o.map (Mp.mp f Gd),fun o=>∀ b,o=some b→Mp.ok f Gd b⟩
@[reducible] instance {β γ:Type} [Mp f Gd β] [Mp f Gd γ]:Mp f Gd (β×γ):=⟨fun x=>(Mp.mp f Gd x.1,Mp.mp f Gd x.2),fun x=>Mp.ok f Gd x.1∧Mp.ok f Gd x.2⟩
@[reducible] instance (priority:=high):Mp f Gd (Value×Value):=⟨f,Gd⟩
@[reducible] instance:Mp f Gd (Array Keyed):=⟨fun xs=>xs.map f,AG Gd⟩
def stepMp {β:Type} [Mp f Gd β]:ForInStep β→ForInStep β
 | .done b=>.done (Mp.mp f Gd b)
 | .yield b=>.yield (Mp.mp f Gd b)
def stepOk {β:Type} [Mp f Gd β]:ForInStep β→Prop
 | .done b=>Mp.ok f Gd b
 | .yield b=>Mp.ok f Gd b
@[reducible] instance {β:Type} [Mp f Gd β]:Mp f Gd (ForInStep β):=⟨stepMp (f:=f) (Gd:=Gd),stepOk (f:=f) (Gd:=Gd)⟩
theorem AG.push {xs:Array Keyed} {q:Keyed} (h:AG Gd xs) (hq:Gd q):AG Gd (xs.push q):=fun r hr=>by
 rw [Array.toList_push,List.mem_append,List.mem_singleton] at hr
 rcases hr with hr | rfl
 ·exact h r hr
 ·exact hq
theorem AG.append {xs ys:Array Keyed} (h:AG Gd xs) (k:AG Gd ys):AG Gd (xs++ys):=fun r hr=>by
 rw [Array.toList_append,List.mem_append] at hr
 exact hr.elim (h r) (k r)
theorem AG.extract {xs:Array Keyed} (h:AG Gd xs) (i j:Nat):AG Gd (xs.extract i j):=fun r hr=>by
 rw [Array.toList_extract] at hr
 exact h r (List.mem_of_mem_drop (List.mem_of_mem_take hr))
theorem AG.reverse {xs:Array Keyed} (h:AG Gd xs):AG Gd xs.reverse:=fun r hr=>by
 rw [Array.toList_reverse,List.mem_reverse] at hr
 exact h r hr
theorem AG.perm {xs ys:Array Keyed} (h:AG Gd xs) (p:ys.Perm xs):AG Gd ys:=fun r hr=>h r ((Array.perm_iff_toList_perm.mp p).subset hr)
end
section
variable (M:Model) (G G':Ctx) (s s':Shared) (f:Keyed→Keyed) (Gd:Keyed→Prop) (kd:SortKind)
def Agree:Prop:=∀ x y,Gd x→Gd y→∃ b:Bool,Ans M G s (keyLt' kd x.1 y.1).attempt (.ok b)∧Ans M G' s' (keyLt' oneType' (f x).1 (f y).1).attempt (.ok b)
def FS (st:SortSt):SortSt:=SortSt.mk' oneType' ((arrOf st).map f) (pendingOf st) (gallopOf st) (failedOf st)
structure GS (st:SortSt):Prop where
 kind:kindOf st=kd
 good:AG Gd (arrOf st)
def RM {β:Type} [Mp f Gd β] (t t':StateT SortSt Sem β):Prop :=
 ∀ st,GS Gd kd st→TR M G G' s s' (fun (x x':β×SortSt)=>x'.1=Mp.mp f Gd x.1∧Mp.ok f Gd x.1∧x'.2=FS f x.2∧GS Gd kd x.2) (t.run st) (t'.run (FS f st))
variable {M G G' s s' f Gd kd}
theorem RM.pure {β:Type} [Mp f Gd β] {b b':β} (e:b'=Mp.mp f Gd b) (h:Mp.ok f Gd b):RM M G G' s s' f Gd kd (Pure.pure b) (Pure.pure b'):=fun st hs=>by
 subst e
 exact .pure ⟨rfl,h,rfl,hs⟩
theorem RM.bind {β γ:Type} [Mp f Gd β] [Mp f Gd γ] {t t':StateT SortSt Sem β} {g g':β→StateT SortSt Sem γ} (h:RM M G G' s s' f Gd kd t t') (k:∀ b,Mp.ok f Gd b→RM M G G' s s' f Gd kd (g b) (g' (Mp.mp f Gd b))) :
  RM M G G' s s' f Gd kd (t >>= g) (t' >>= g'):=fun st hs=>by
 rw [StateT.run_bind,StateT.run_bind]
 refine TR.bind (h st hs) ?_
 rintro ⟨b,st1⟩ ⟨b',st1'⟩ ⟨e1,e2,e3,e4⟩
 simp only at e1 e2 e3 e4
 subst e1
 subst e3
 exact k b e2 st1 e4
theorem RM.getS {γ:Type} [Mp f Gd γ] {g g':SortSt→StateT SortSt Sem γ} (k:∀ st,GS Gd kd st→RM M G G' s s' f Gd kd (g st) (g' (FS f st))):RM M G G' s s' f Gd kd (get >>= g) (get >>= g'):=fun st hs=>by
 rw [StateT.run_bind,StateT.run_bind,StateT.run_get,StateT.run_get]
 exact k st hs st hs
theorem RM.modify {g g':SortSt→SortSt} (h:∀ st,GS Gd kd st→g' (FS f st)=FS f (g st)∧GS Gd kd (g st)):RM M G G' s s' f Gd kd (_root_.modify g:StateT SortSt Sem Unit) (_root_.modify g'):=fun st hs=>by
 obtain ⟨e,k⟩:=h st hs
 exact .pure ⟨rfl,trivial,e,k⟩
theorem RM.setS {st1 st1':SortSt} (e:st1'=FS f st1) (k:GS Gd kd st1):RM M G G' s s' f Gd kd (set st1:StateT SortSt Sem Unit) (set st1'):=fun st hs=>.pure ⟨rfl,trivial,e,k⟩
theorem RM.rule {n:String}:RM M G G' s s' f Gd kd (liftM (PySem.rule n):StateT SortSt Sem Unit) (liftM (PySem.rule n)):=fun st hs=>.rule (.pure ⟨rfl,trivial,rfl,hs⟩)
theorem RM.uns {β:Type} [Mp f Gd β] {t:StateT SortSt Sem β} {m:String}:RM M G G' s s' f Gd kd t (liftM (unsupported m:Sem β)):=fun st hs=>.uns
theorem RM.ite {β:Type} [Mp f Gd β] {c c':Prop} [Decidable c] [Decidable c'] {t t' u u':StateT SortSt Sem β} (e:c↔c') (h1:c→RM M G G' s s' f Gd kd t t') (h2:¬ c→RM M G G' s s' f Gd kd u u') :
  RM M G G' s s' f Gd kd (if c then t else u) (if c' then t' else u'):=by
 by_cases h:c
 ·rw [if_pos h,if_pos (e.mp h)]; exact h1 h
 ·rw [if_neg h,if_neg fun q=>h (e.mpr q)]; exact h2 h
theorem RM.forL {β:Type} [Mp f Gd β] {body body':Nat→β→StateT SortSt Sem (ForInStep β)} (hb:∀ i c,Mp.ok f Gd c→RM M G G' s s' f Gd kd (body i c) (body' i (Mp.mp f Gd c))) :
  ∀ (l:List Nat) (b b':β),b'=Mp.mp f Gd b→Mp.ok f Gd b→RM M G G' s s' f Gd kd (forIn l b body) (forIn l b' body')
 | [],b,b',e,ok=>by
  rw [List.forIn_nil,List.forIn_nil]
  exact RM.pure e ok
 | i::l,b,b',e,ok=>by
  subst e
  rw [List.forIn_cons,List.forIn_cons]
  refine RM.bind (hb i b ok) fun r hr=>?_
  cases r with
  | done c=>exact RM.pure rfl hr
  | yield c=>exact RM.forL hb l c _ rfl hr
theorem RM.forR {β:Type} [Mp f Gd β] {body body':Nat→β→StateT SortSt Sem (ForInStep β)} {a n:Nat} {b b':β} (e:b'=Mp.mp f Gd b) (ok:Mp.ok f Gd b) (hb:∀ i c,Mp.ok f Gd c→RM M G G' s s' f Gd kd (body i c) (body' i (Mp.mp f Gd c))) :
  RM M G G' s s' f Gd kd (forIn [a:n] b body) (forIn [a:n] b' body'):=by
 rw [Std.Legacy.Range.forIn_eq_forIn_range',Std.Legacy.Range.forIn_eq_forIn_range']
 exact RM.forL hb _ b b' e ok
theorem r_elem {xs:Array Keyed} (h:AG Gd xs) (i:Nat):RM M G G' s s' f Gd kd (elem' xs i) (elem' (xs.map f) i):=by
 rw [elem'_eq,elem'_eq,Array.getElem?_map]
 cases e:xs[i]? with
 | none=>exact RM.uns
 | some q=>exact RM.pure rfl (h q (by rw [← Array.getElem?_toList] at e; exact List.mem_of_getElem? e))
theorem r_lt (ag:Agree M G G' s s' f Gd kd) {x y:Keyed} (hx:Gd x) (hy:Gd y):RM M G G' s s' f Gd kd (lt' x y) (lt' (f x) (f y)):=by
 rw [lt'_eq,lt'_eq]
 refine RM.getS fun st hs=>?_
 intro st0 h0
 obtain ⟨b,h1,h2⟩:=ag x y hx hy
 rw [StateT.run_bind,StateT.run_bind]
 rw [hs.kind]
 show TR M G G' s s' _ ((Sem.bind ((keyLt' kd x.1 y.1).attempt) fun r=>.pure (r,st0)).bind _) ((Sem.bind ((keyLt' oneType' (f x).1 (f y).1).attempt) fun r=>.pure (r,FS f st0)).bind _)
 rw [Sem.bind_assoc,Sem.bind_assoc]
 exact .cmp h1 h2 (.pure ⟨rfl,fun _ _=>trivial,rfl,h0⟩)
theorem r_ltAt (ag:Agree M G G' s s' f Gd kd) (i j:Nat):RM M G G' s s' f Gd kd (ltAt' i j) (ltAt' i j):=by
 rw [ltAt'_eq]
 refine RM.getS fun st hs=>?_
 refine RM.bind (r_elem hs.good i) fun x hx=>RM.bind (r_elem hs.good j) fun y hy=>r_lt ag hx hy
theorem gs_arr {st:SortSt} (h:GS Gd kd st) {xs:Array Keyed} (k:AG Gd xs):GS Gd kd (setArr st xs):=⟨h.kind,k⟩
end
end N2
namespace N2
open PySem PyProof.Rows
section
variable {f:Keyed→Keyed}
theorem swap_map (xs:Array Keyed) (i j:Nat):(xs.map f).swapIfInBounds i j=(xs.swapIfInBounds i j).map f:=by
 unfold Array.swapIfInBounds
 by_cases h1:i<xs.size
 ·by_cases h2:j<xs.size
  ·simp only [Array.size_map,h1,h2,dite_true]
   refine Array.ext (by simp) fun k q1 q2=>?_
   rw [Array.getElem_map,Array.getElem_swap,Array.getElem_swap,Array.getElem_map,Array.getElem_map,Array.getElem_map]
   split
   ·rfl
   ·split <;> rfl
  ·simp [h1,h2]
 ·simp [h1]
theorem swaps_map (g h:Nat→Nat):∀ (l:List Nat) (xs:Array Keyed),l.foldl (fun a k=>a.swapIfInBounds (g k) (h k)) (xs.map f)=(l.foldl (fun a k=>a.swapIfInBounds (g k) (h k)) xs).map f
 | [],xs=>rfl
 | k::l,xs=>by
  rw [List.foldl_cons,List.foldl_cons,swap_map,swaps_map g h l]
theorem bubble_map (xs:Array Keyed) (src d:Nat):bubble (xs.map f) src d=(bubble xs src d).map f:=swaps_map _ _ _ _
theorem mirror_map (xs:Array Keyed) (i j d:Nat):mirror (xs.map f) i j d=(mirror xs i j d).map f:=swaps_map _ _ _ _
end
section
variable {M:Model} {G G':Ctx} {s s':Shared} {f:Keyed→Keyed} {Gd:Keyed→Prop} {kd:SortKind}
theorem r_rev (i j:Nat):RM M G G' s s' f Gd kd (reverseSlice' i j) (reverseSlice' i j):=by
 rw [reverseSlice'_eq]
 refine RM.modify fun st hs=>⟨?_,gs_arr hs (hs.good.perm (mirror_perm _ _ _ _))⟩
 show SortSt.mk' _ (mirror ((arrOf st).map f) i j ((j - i) / 2)) _ _ _=SortSt.mk' _ ((mirror (arrOf st) i j ((j - i) / 2)).map f) _ _ _
 rw [mirror_map]
 rfl
theorem r_move (i j:Nat):RM M G G' s s' f Gd kd (moveDown' i j) (moveDown' i j):=by
 rw [moveDown'_eq]
 refine RM.modify fun st hs=>⟨?_,gs_arr hs (hs.good.perm (bubble_perm _ _ _))⟩
 show SortSt.mk' _ (bubble ((arrOf st).map f) i (i - j)) _ _ _=SortSt.mk' _ ((bubble (arrOf st) i (i - j)).map f) _ _ _
 rw [bubble_map]
 rfl
theorem r_setG (g:Nat):RM M G G' s s' f Gd kd (setMinGallop' g) (setMinGallop' g):=by
 rw [setMinGallop'_eq]
 exact RM.modify fun st hs=>⟨rfl,hs.kind,hs.good⟩
theorem RM.bindO {β γ:Type} [Mp f Gd β] [Mp f Gd γ] {t t':StateT SortSt Sem (Option β)} {g g':Option β→StateT SortSt Sem γ} (h:RM M G G' s s' f Gd kd t t') (k0:RM M G G' s s' f Gd kd (g none) (g' none))
  (k1:∀ b,Mp.ok f Gd b→RM M G G' s s' f Gd kd (g (some b)) (g' (some (Mp.mp f Gd b)))):RM M G G' s s' f Gd kd (t >>= g) (t' >>= g') :=
 RM.bind h fun b hb=>by
  cases b with
  | none=>exact k0
  | some b=>exact k1 b (hb b rfl)
theorem RM.bindP {β δ γ:Type} [Mp f Gd β] [Mp f Gd δ] [Mp f Gd γ] {t t':StateT SortSt Sem (Option β×δ)} {g g':Option β×δ→StateT SortSt Sem γ} (h:RM M G G' s s' f Gd kd t t')
  (k0:∀ d,Mp.ok f Gd d→RM M G G' s s' f Gd kd (g (none,d)) (g' (none,Mp.mp f Gd d)))
  (k1:∀ b d,Mp.ok f Gd b→Mp.ok f Gd d→RM M G G' s s' f Gd kd (g (some b,d)) (g' (some (Mp.mp f Gd b),Mp.mp f Gd d))):RM M G G' s s' f Gd kd (t >>= g) (t' >>= g') :=
 RM.bind h fun b hb=>by
  obtain ⟨b,d⟩:=b
  cases b with
  | none=>exact k0 d hb.2
  | some b=>exact k1 b d (hb.1 b rfl) hb.2
theorem ok_none {β:Type} [Mp f Gd β]:Mp.ok f Gd (none:Option β):=fun _ e=>nomatch e
theorem ok_some {β:Type} [Mp f Gd β] {b:β} (h:Mp.ok f Gd b):Mp.ok f Gd (some b):=fun _ e=>by cases e; exact h
theorem r_count (ag:Agree M G G' s s' f Gd kd) (lo n:Nat):RM M G G' s s' f Gd kd (countRun' lo n) (countRun' lo n):=by
 rw [countRun'_eq]
 repeat' first
  | exact r_ltAt ag _ _
  | exact r_rev _ _
  | exact RM.rule
  | (refine RM.pure rfl ?_; first | exact ok_none | exact ok_some trivial | exact ok_some ok_none | exact ok_some (ok_some trivial) | exact ⟨ok_none,trivial⟩ | exact ⟨ok_some ok_none,trivial⟩ | exact ⟨ok_none,trivial,trivial⟩ | exact ⟨ok_some ok_none,trivial,trivial⟩ | assumption | trivial)
  | refine RM.bindO ?_ ?_ fun b hb=>?_
  | refine RM.bindP ?_ (fun d hd=>?_) fun b d hb hd=>?_
  | refine RM.bind ?_ fun b hb=>?_
  | refine RM.ite Iff.rfl (fun _=>?_) fun _=>?_
  | refine RM.forR rfl ?_ fun i c hc=>?_
  | exact ⟨ok_none,trivial⟩
  | exact ⟨ok_none,trivial,trivial⟩
theorem r_binary (ag:Agree M G G' s s' f Gd kd) (lo n ok:Nat):RM M G G' s s' f Gd kd (binarySort' lo n ok) (binarySort' lo n ok):=by
 rw [binarySort'_eq]
 repeat' first
  | exact r_ltAt ag _ _
  | exact r_move _ _
  | exact RM.rule
  | (refine RM.pure rfl ?_; first | exact ok_none | exact ok_some trivial | exact ⟨ok_none,trivial⟩ | exact ⟨ok_some trivial,trivial⟩ | exact ⟨ok_none,trivial,trivial⟩ | exact ⟨ok_some trivial,trivial,trivial⟩ | assumption | trivial)
  | refine RM.bindO ?_ ?_ fun b hb=>?_
  | refine RM.bindP ?_ (fun d hd=>?_) fun b d hb hd=>?_
  | refine RM.bind ?_ fun b hb=>?_
  | refine RM.ite Iff.rfl (fun _=>?_) fun _=>?_
  | refine RM.forR rfl ?_ fun i c hc=>?_
  | exact ⟨ok_none,trivial⟩
  | exact ⟨ok_none,trivial,trivial⟩
theorem r_beyond (ag:Agree M G G' s s' f Gd kd) (left:Bool) {key:Keyed} (hk:Gd key) {arr:Array Keyed} (ha:AG Gd arr) (base i:Nat):RM M G G' s s' f Gd kd (beyond' left key arr base i) (beyond' left (f key) (arr.map f) base i):=by
 unfold beyond'
 refine RM.bind (r_elem ha _) fun x hx=>?_
 refine RM.ite Iff.rfl (fun _=>r_lt ag hx hk) fun _=>?_
 refine RM.bindO (r_lt ag hk hx) (RM.pure rfl ok_none) fun b hb=>RM.pure rfl (ok_some trivial)
theorem r_gallop (ag:Agree M G G' s s' f Gd kd) (left:Bool) {key:Keyed} (hk:Gd key) {arr:Array Keyed} (ha:AG Gd arr) (base n hint:Nat):RM M G G' s s' f Gd kd (gallop' left key arr base n hint) (gallop' left (f key) (arr.map f) base n hint):=by
 rw [gallop'_eq,gallop'_eq]
 repeat' first
  | exact r_beyond ag left hk ha _ _
  | exact RM.rule
  | (refine RM.pure rfl ?_; first | exact ok_none | exact ok_some trivial | exact ok_some ok_none | exact ⟨ok_none,trivial⟩ | exact ⟨ok_some ok_none,trivial⟩ | exact ⟨ok_none,trivial,trivial⟩ | exact ⟨ok_some ok_none,trivial,trivial⟩ | assumption | trivial)
  | refine RM.bindO ?_ ?_ fun b hb=>?_
  | refine RM.bindP ?_ (fun d hd=>?_) fun b d hb hd=>?_
  | refine RM.bind ?_ fun b hb=>?_
  | refine RM.ite Iff.rfl (fun _=>?_) fun _=>?_
  | refine RM.forR rfl ?_ fun i c hc=>?_
  | exact ⟨ok_none,trivial⟩
  | exact ⟨ok_none,trivial,trivial⟩
end
end N2
namespace N2
open PySem PyProof.Rows
section
variable {M:Model} {G G':Ctx} {s s':Shared} {f:Keyed→Keyed} {Gd:Keyed→Prop} {kd:SortKind}
theorem RM.forA {δ:Type} [Mp f Gd δ] {body body':Nat→Option (Array Keyed)×Array Keyed×δ→StateT SortSt Sem (ForInStep (Option (Array Keyed)×Array Keyed×δ))} {a n:Nat} {b b':Option (Array Keyed)×Array Keyed×δ}
  (e:b'=Mp.mp f Gd b) (ok:Mp.ok f Gd b) (hb:∀ i r out d,AG Gd out→Mp.ok f Gd d→RM M G G' s s' f Gd kd (body i (r,out,d)) (body' i (Mp.mp f Gd r,out.map f,Mp.mp f Gd d))) :
  RM M G G' s s' f Gd kd (forIn [a:n] b body) (forIn [a:n] b' body'):=RM.forR e ok fun i c hc=>by
 obtain ⟨r,out,d⟩:=c
 exact hb i r out d hc.2.1 hc.2.2
theorem RM.bindA {δ γ:Type} [Mp f Gd δ] [Mp f Gd γ] {t t':StateT SortSt Sem (Option (Array Keyed)×Array Keyed×δ)} {g g':Option (Array Keyed)×Array Keyed×δ→StateT SortSt Sem γ} (h:RM M G G' s s' f Gd kd t t')
  (k0:∀ out d,AG Gd out→RM M G G' s s' f Gd kd (g (none,out,d)) (g' (none,out.map f,Mp.mp f Gd d)))
  (k1:∀ r out d,AG Gd r→AG Gd out→RM M G G' s s' f Gd kd (g (some r,out,d)) (g' (some (r.map f),out.map f,Mp.mp f Gd d))):RM M G G' s s' f Gd kd (t >>= g) (t' >>= g') :=
 RM.bindP h (fun d hd=>by obtain ⟨out,d⟩:=d; exact k0 out d hd.1) fun r d hr hd=>by obtain ⟨out,d⟩:=d; exact k1 r out d hr hd.1
theorem ag_one {x:Keyed} (h:Gd x):AG Gd #[x]:=fun q hq=>by simp at hq; subst hq; exact h
theorem leafA {x x':Array Keyed} (h:x'=x.map f) (k:AG Gd x):RM M G G' s s' f Gd kd (Pure.pure x) (Pure.pure x'):=RM.pure h k
theorem leafD {δ:Type} [Mp f Gd δ] {x x' out out':Array Keyed} {d d':δ} (h:x'=x.map f) (ho:out'=out.map f) (hd:d'=Mp.mp f Gd d) (k:AG Gd x) (ko:AG Gd out) (kd':Mp.ok f Gd d) :
  RM M G G' s s' f Gd kd (Pure.pure (ForInStep.done (some x,out,d))) (Pure.pure (ForInStep.done (some x',out',d'))):=by
 subst h; subst ho; subst hd
 exact RM.pure rfl ⟨ok_some k,ko,kd'⟩
theorem leafN {δ:Type} [Mp f Gd δ] {out out':Array Keyed} {d d':δ} (ho:out'=out.map f) (hd:d'=Mp.mp f Gd d) (ko:AG Gd out) (kd':Mp.ok f Gd d) :
  RM M G G' s s' f Gd kd (Pure.pure (ForInStep.done ((none:Option (Array Keyed)),out,d))) (Pure.pure (ForInStep.done (none,out',d'))):=by
 subst ho; subst hd
 exact RM.pure rfl ⟨ok_none,ko,kd'⟩
theorem leafY {δ:Type} [Mp f Gd δ] {out out':Array Keyed} {d d':δ} (ho:out'=out.map f) (hd:d'=Mp.mp f Gd d) (ko:AG Gd out) (kd':Mp.ok f Gd d) :
  RM M G G' s s' f Gd kd (Pure.pure (ForInStep.yield ((none:Option (Array Keyed)),out,d))) (Pure.pure (ForInStep.yield (none,out',d'))):=by
 subst ho; subst hd
 exact RM.pure rfl ⟨ok_none,ko,kd'⟩
theorem cat3 (x a b:Array Keyed) (i j k l:Nat):x.map f++(a.map f).extract i j++(b.map f).extract k l=(x++a.extract i j++b.extract k l).map f:=by simp
theorem cat2 (x a:Array Keyed) (i j:Nat):x.map f++(a.map f).extract i j=(x++a.extract i j).map f:=by simp
theorem psh (x:Array Keyed) (q:Keyed):(x.map f).push (f q)=(x.push q).map f:=by simp
theorem one (q:Keyed):#[f q]=(#[q]:Array Keyed).map f:=by simp
theorem ag3 {x a b:Array Keyed} (hx:AG Gd x) (ha:AG Gd a) (hb:AG Gd b) (i j k l:Nat):AG Gd (x++a.extract i j++b.extract k l):=(hx.append (ha.extract _ _)).append (hb.extract _ _)
theorem ag3r {x a b:Array Keyed} (hx:AG Gd x) (ha:AG Gd a) (hb:AG Gd b) (i j k l:Nat):AG Gd (a.extract i j++b.extract k l++x.reverse):=((ha.extract _ _).append (hb.extract _ _)).append hx.reverse
theorem r_lo (ag:Agree M G G' s s' f Gd kd) {a b:Array Keyed} (ha:AG Gd a) (hb:AG Gd b):RM M G G' s s' f Gd kd (mergeLo' a b) (mergeLo' (a.map f) (b.map f)):=by
 rw [mergeLo'_eq,mergeLo'_eq]
 simp only [Array.size_map]
 refine RM.bind RM.rule fun _ _=>?_
 refine RM.bind (r_elem hb 0) fun x hx=>?_
 refine RM.ite Iff.rfl (fun _=>leafA ((congrArg (fun o=>o++_++_) (one x)).trans (cat3 #[x] a b _ _ _ _)) (ag3 (ag_one hx) ha hb _ _ _ _)) fun _=>?_
 refine RM.ite Iff.rfl (fun _=>leafA ((congrArg (fun o=>o++_++_) (one x)).trans (cat3 #[x] b a _ _ _ _)) (ag3 (ag_one hx) hb ha _ _ _ _)) fun _=>?_
 refine RM.getS fun st hs=>?_
 refine RM.bindA (RM.forA (δ:=Nat×Nat×Nat) (congrArg (fun o=>(none,o,0,1,gallopOf st)) (one x)) ⟨ok_none,ag_one hx,trivial,trivial,trivial⟩ fun i r out d ho hd=>?_) (fun out d ho=>RM.uns) (fun r out d hr ho=>leafA rfl hr)
 obtain ⟨ia,ib,mg⟩:=d
 refine RM.bindA (RM.forA (δ:=Nat×Nat×Nat×Nat) rfl ⟨ok_none,ho,trivial,trivial,trivial,trivial⟩ fun i r out d ho hd=>?_) (fun out d ho=>?_) (fun r out d hr ho=>leafD rfl rfl rfl hr ho ⟨trivial,trivial,trivial⟩)
 ·obtain ⟨ia,ib,ac,bc⟩:=d
  refine RM.bind (r_elem hb _) fun y hy=>RM.bind (r_elem ha _) fun z hz=>RM.bindO (r_lt ag hy hz) (leafD (cat3 _ _ _ _ _ _ _) rfl rfl (ag3 ho ha hb _ _ _ _) ho ⟨trivial,trivial,trivial,trivial⟩) fun w _=>?_
  refine RM.ite Iff.rfl (fun _=>?_) fun _=>?_
  ·refine RM.bind (r_elem hb _) fun v hv=>?_
   have hp:=AG.push ho hv
   refine RM.ite Iff.rfl (fun _=>leafD ((congrArg (fun o=>o++_++_) (psh out v)).trans (cat3 _ _ _ _ _ _ _)) (psh _ _) rfl (ag3 hp ha hb _ _ _ _) hp ⟨trivial,trivial,trivial,trivial⟩) fun _=>?_
   exact RM.ite Iff.rfl (fun _=>leafN (psh _ _) rfl hp ⟨trivial,trivial,trivial,trivial⟩) fun _=>leafY (psh _ _) rfl hp ⟨trivial,trivial,trivial,trivial⟩
  ·refine RM.bind (r_elem ha _) fun v hv=>?_
   have hp:=AG.push ho hv
   refine RM.ite Iff.rfl (fun _=>leafD ((congrArg (fun o=>o++_++_) (psh out v)).trans (cat3 _ _ _ _ _ _ _)) (psh _ _) rfl (ag3 hp hb ha _ _ _ _) hp ⟨trivial,trivial,trivial,trivial⟩) fun _=>?_
   exact RM.ite Iff.rfl (fun _=>leafN (psh _ _) rfl hp ⟨trivial,trivial,trivial,trivial⟩) fun _=>leafY (psh _ _) rfl hp ⟨trivial,trivial,trivial,trivial⟩
 ·obtain ⟨ia,ib,ac,bc⟩:=d
  refine RM.bind RM.rule fun _ _=>?_
  refine RM.bindA (RM.forA (δ:=Nat×Nat×Nat×Nat×Nat) rfl ⟨ok_none,ho,trivial,trivial,trivial,trivial,trivial⟩ fun i r out d ho hd=>?_) (fun out d ho=>?_) (fun r out d hr ho=>leafD rfl rfl rfl hr ho ⟨trivial,trivial,trivial⟩)
  ·obtain ⟨ia,ib,mg,ac,bc⟩:=d
   refine RM.ite Iff.rfl (fun _=>?_) (fun _=>?_)
   all_goals
    refine RM.bind (r_setG _) fun _ _=>RM.bind (r_elem hb _) fun y hy=>RM.bindO (r_gallop ag _ hy ha _ _ _) (leafD (cat3 _ _ _ _ _ _ _) rfl rfl (ag3 ho ha hb _ _ _ _) ho ⟨trivial,trivial,trivial,trivial,trivial⟩) fun k _=>?_
    have h2:=ho.append (ha.extract ia (ia+k))
    refine RM.ite Iff.rfl (fun _=>RM.ite Iff.rfl (fun _=>leafD ((congrArg (fun o=>o++_++_) (cat2 out a ia (ia+k))).trans (cat3 _ _ _ _ _ _ _)) (cat2 _ _ _ _) rfl (ag3 h2 hb ha _ _ _ _) h2 ⟨trivial,trivial,trivial,trivial,trivial⟩)
     fun _=>RM.ite Iff.rfl (fun _=>leafD ((congrArg (fun o=>o++_++_) (cat2 out a ia (ia+k))).trans (cat3 _ _ _ _ _ _ _)) (cat2 _ _ _ _) rfl (ag3 h2 ha hb _ _ _ _) h2 ⟨trivial,trivial,trivial,trivial,trivial⟩) fun _=>?_) fun _=>?_
   all_goals
    refine RM.bind (r_elem hb _) fun z hz=>?_
    refine RM.ite Iff.rfl (fun _=>leafD (by simp [Mp.mp]) (by simp [Mp.mp]) rfl (by repeat' first | assumption | apply AG.append | apply AG.push | apply AG.extract) (by repeat' first | assumption | apply AG.append | apply AG.push | apply AG.extract) ⟨trivial,trivial,trivial,trivial,trivial⟩) fun _=>?_
    refine RM.bind (r_elem ha _) fun u hu=>RM.bindO (r_gallop ag _ hu hb _ _ _) (leafD (by simp [Mp.mp]) (by simp [Mp.mp]) rfl (by repeat' first | assumption | apply AG.append | apply AG.push | apply AG.extract) (by repeat' first | assumption | apply AG.append | apply AG.push | apply AG.extract) ⟨trivial,trivial,trivial,trivial,trivial⟩) fun k2 _=>?_
    refine RM.ite Iff.rfl (fun _=>RM.ite Iff.rfl (fun _=>leafD (by simp [Mp.mp]) (by simp [Mp.mp]) rfl (by repeat' first | assumption | apply AG.append | apply AG.push | apply AG.extract) (by repeat' first | assumption | apply AG.append | apply AG.push | apply AG.extract) ⟨trivial,trivial,trivial,trivial,trivial⟩) fun _=>?_) fun _=>?_
   all_goals
    refine RM.bind (r_elem ha _) fun v hv=>RM.ite Iff.rfl (fun _=>leafD (by simp [Mp.mp]) (by simp [Mp.mp]) rfl (by repeat' first | assumption | apply AG.append | apply AG.push | apply AG.extract) (by repeat' first | assumption | apply AG.append | apply AG.push | apply AG.extract) ⟨trivial,trivial,trivial,trivial,trivial⟩) fun _=>RM.ite Iff.rfl (fun _=>leafN (by simp [Mp.mp]) rfl (by repeat' first | assumption | apply AG.append | apply AG.push | apply AG.extract) ⟨trivial,trivial,trivial,trivial,trivial⟩) fun _=>leafY (by simp [Mp.mp]) rfl (by repeat' first | assumption | apply AG.append | apply AG.push | apply AG.extract) ⟨trivial,trivial,trivial,trivial,trivial⟩
  ·obtain ⟨ia,ib,mg,ac,bc⟩:=d
   exact RM.bind (r_setG _) fun _ _=>leafY rfl rfl ho ⟨trivial,trivial,trivial⟩
end
end N2
namespace N2
open PySem PyProof.Rows
section
variable {M:Model} {G G':Ctx} {s s':Shared} {f:Keyed→Keyed} {Gd:Keyed→Prop} {kd:SortKind}
abbrev HSt (δ:Type):=Option (Array Keyed)×Nat×Nat×Array Keyed×δ
theorem RM.forH {δ:Type} [Mp f Gd δ] {body body':Nat→HSt δ→StateT SortSt Sem (ForInStep (HSt δ))} {a n:Nat} {b b':HSt δ}
  (e:b'=Mp.mp f Gd b) (ok:Mp.ok f Gd b) (hb:∀ i r x y out d,AG Gd out→Mp.ok f Gd d→RM M G G' s s' f Gd kd (body i (r,x,y,out,d)) (body' i (Mp.mp f Gd r,x,y,out.map f,Mp.mp f Gd d))) :
  RM M G G' s s' f Gd kd (forIn [a:n] b body) (forIn [a:n] b' body'):=RM.forR e ok fun i c hc=>by
 obtain ⟨r,x,y,out,d⟩:=c
 exact hb i r x y out d hc.2.2.2.1 hc.2.2.2.2
theorem RM.bindH {δ γ:Type} [Mp f Gd δ] [Mp f Gd γ] {t t':StateT SortSt Sem (HSt δ)} {g g':HSt δ→StateT SortSt Sem γ} (h:RM M G G' s s' f Gd kd t t')
  (k0:∀ x y out d,AG Gd out→RM M G G' s s' f Gd kd (g (none,x,y,out,d)) (g' (none,x,y,out.map f,Mp.mp f Gd d)))
  (k1:∀ r x y out d,AG Gd r→AG Gd out→RM M G G' s s' f Gd kd (g (some r,x,y,out,d)) (g' (some (r.map f),x,y,out.map f,Mp.mp f Gd d))):RM M G G' s s' f Gd kd (t >>= g) (t' >>= g') :=
 RM.bindP h (fun d hd=>by obtain ⟨x,y,out,d⟩:=d; exact k0 x y out d hd.2.2.1) fun r d hr hd=>by obtain ⟨x,y,out,d⟩:=d; exact k1 r x y out d hr hd.2.2.1
theorem leafDH {δ:Type} [Mp f Gd δ] {x x' out out':Array Keyed} {u v u' v':Nat} {d d':δ} (h:x'=x.map f) (hu:u'=u) (hv:v'=v) (ho:out'=out.map f) (hd:d'=Mp.mp f Gd d) (k:AG Gd x) (ko:AG Gd out) (kd':Mp.ok f Gd d) :
  RM M G G' s s' f Gd kd (Pure.pure (ForInStep.done (some x,u,v,out,d))) (Pure.pure (ForInStep.done (some x',u',v',out',d'))):=by
 subst h; subst hu; subst hv; subst ho; subst hd
 exact RM.pure rfl ⟨ok_some k,trivial,trivial,ko,kd'⟩
theorem leafNH {δ:Type} [Mp f Gd δ] {out out':Array Keyed} {u v u' v':Nat} {d d':δ} (hu:u'=u) (hv:v'=v) (ho:out'=out.map f) (hd:d'=Mp.mp f Gd d) (ko:AG Gd out) (kd':Mp.ok f Gd d) :
  RM M G G' s s' f Gd kd (Pure.pure (ForInStep.done ((none:Option (Array Keyed)),u,v,out,d))) (Pure.pure (ForInStep.done (none,u',v',out',d'))):=by
 subst hu; subst hv; subst ho; subst hd
 exact RM.pure rfl ⟨ok_none,trivial,trivial,ko,kd'⟩
theorem leafYH {δ:Type} [Mp f Gd δ] {out out':Array Keyed} {u v u' v':Nat} {d d':δ} (hu:u'=u) (hv:v'=v) (ho:out'=out.map f) (hd:d'=Mp.mp f Gd d) (ko:AG Gd out) (kd':Mp.ok f Gd d) :
  RM M G G' s s' f Gd kd (Pure.pure (ForInStep.yield ((none:Option (Array Keyed)),u,v,out,d))) (Pure.pure (ForInStep.yield (none,u',v',out',d'))):=by
 subst hu; subst hv; subst ho; subst hd
 exact RM.pure rfl ⟨ok_none,trivial,trivial,ko,kd'⟩
theorem refl_map (o:Array Keyed):o.map f=o.map f:=rfl
theorem pshE {o o':Array Keyed} (h:o'=o.map f) (q:Keyed):o'.push (f q)=(o.push q).map f:=by rw [h]; simp
theorem cat2rE {o o':Array Keyed} (h:o'=o.map f) (a:Array Keyed) (i j:Nat):o'++((a.map f).extract i j).reverse=(o++(a.extract i j).reverse).map f:=by rw [h]; simp
theorem dnE {o o':Array Keyed} (h:o'=o.map f) {a b:Array Keyed} {i j k l:Nat}:(a.map f).extract i j++(b.map f).extract k l++o'.reverse=(a.extract i j++b.extract k l++o.reverse).map f:=by rw [h]; simp
theorem r_hi (ag:Agree M G G' s s' f Gd kd) {a b:Array Keyed} (ha:AG Gd a) (hb:AG Gd b):RM M G G' s s' f Gd kd (mergeHi' a b) (mergeHi' (a.map f) (b.map f)):=by
 rw [mergeHi'_eq,mergeHi'_eq]
 simp only [Array.size_map]
 refine RM.bind RM.rule fun _ _=>?_
 refine RM.bind (r_elem ha _) fun x hx=>?_
 refine RM.ite Iff.rfl (fun _=>leafA (dnE (one x)) (ag3r (ag_one hx) ha hb _ _ _ _)) fun _=>?_
 refine RM.ite Iff.rfl (fun _=>leafA (dnE (one x)) (ag3r (ag_one hx) hb ha _ _ _ _)) fun _=>?_
 refine RM.getS fun st hs=>?_
 refine RM.bindH (RM.forH (δ:=Nat) (congrArg (fun o=>(none,a.size - 1,b.size,o,gallopOf st)) (one x)) ⟨ok_none,trivial,trivial,ag_one hx,trivial⟩ fun i r na nb out mg ho hd=>?_) (fun na nb out d ho=>RM.uns) (fun r na nb out d hr ho=>leafA rfl hr)
 refine RM.bindH (RM.forH (δ:=Nat×Nat) rfl ⟨ok_none,trivial,trivial,ho,trivial,trivial⟩ fun i r na nb out d ho hd=>?_) (fun na nb out d ho=>?_) (fun r na nb out d hr ho=>leafDH rfl rfl rfl rfl rfl hr ho trivial)
 ·obtain ⟨ac,bc⟩:=d
  refine RM.bind (r_elem hb _) fun y hy=>RM.bind (r_elem ha _) fun z hz=>RM.bindO (r_lt ag hy hz) (leafDH (dnE (refl_map out)) rfl rfl (refl_map out) rfl (ag3r ho ha hb _ _ _ _) ho ⟨trivial,trivial⟩) fun w _=>?_
  refine RM.ite Iff.rfl (fun _=>?_) fun _=>?_
  ·refine RM.bind (r_elem ha _) fun v hv=>?_
   exact RM.ite Iff.rfl (fun _=>leafDH (dnE (psh out v)) rfl rfl (psh out v) rfl (ag3r (ho.push hv) ha hb _ _ _ _) (ho.push hv) ⟨trivial,trivial⟩) fun _=>RM.ite Iff.rfl (fun _=>leafNH rfl rfl (psh out v) rfl (ho.push hv) ⟨trivial,trivial⟩) fun _=>leafYH rfl rfl (psh out v) rfl (ho.push hv) ⟨trivial,trivial⟩
  ·refine RM.bind (r_elem hb _) fun v hv=>?_
   exact RM.ite Iff.rfl (fun _=>leafDH (dnE (psh out v)) rfl rfl (psh out v) rfl (ag3r (ho.push hv) hb ha _ _ _ _) (ho.push hv) ⟨trivial,trivial⟩) fun _=>RM.ite Iff.rfl (fun _=>leafNH rfl rfl (psh out v) rfl (ho.push hv) ⟨trivial,trivial⟩) fun _=>leafYH rfl rfl (psh out v) rfl (ho.push hv) ⟨trivial,trivial⟩
 ·obtain ⟨ac,bc⟩:=d
  refine RM.bind RM.rule fun _ _=>?_
  refine RM.bindH (RM.forH (δ:=Nat×Nat×Nat) rfl ⟨ok_none,trivial,trivial,ho,trivial,trivial,trivial⟩ fun i r na nb out d ho hd=>?_) (fun na nb out d ho=>?_) (fun r na nb out d hr ho=>leafDH rfl rfl rfl rfl rfl hr ho trivial)
  ·obtain ⟨mg,ac,bc⟩:=d
   refine RM.ite Iff.rfl (fun _=>?_) (fun _=>?_)
   all_goals
    refine RM.bind (r_setG _) fun _ _=>RM.bind (r_elem hb _) fun y hy=>RM.bindO (r_gallop ag _ hy ha _ _ _) (leafDH (dnE (refl_map out)) rfl rfl (refl_map out) rfl (ag3r ho ha hb _ _ _ _) ho ⟨trivial,trivial,trivial⟩) fun k _=>?_
    refine RM.ite Iff.rfl (fun _=>RM.ite Iff.rfl (fun _=>leafDH (dnE (cat2rE (refl_map out) a _ _)) rfl rfl (cat2rE (refl_map out) a _ _) rfl (ag3r (ho.append (ha.extract _ _).reverse) ha hb _ _ _ _) (ho.append (ha.extract _ _).reverse) ⟨trivial,trivial,trivial⟩) fun _=>?_) fun _=>?_
    ·exact RM.bind (r_elem hb _) fun z hz=>RM.ite Iff.rfl (fun _=>leafDH (dnE (pshE (cat2rE (refl_map out) a _ _) z)) rfl rfl (pshE (cat2rE (refl_map out) a _ _) z) rfl (ag3r ((ho.append (ha.extract _ _).reverse).push hz) hb ha _ _ _ _) ((ho.append (ha.extract _ _).reverse).push hz) ⟨trivial,trivial,trivial⟩) fun _=>RM.bind (r_elem ha _) fun u hu=>RM.bindO (r_gallop ag _ hu hb _ _ _) (leafDH (dnE (pshE (cat2rE (refl_map out) a _ _) z)) rfl rfl (pshE (cat2rE (refl_map out) a _ _) z) rfl (ag3r ((ho.append (ha.extract _ _).reverse).push hz) ha hb _ _ _ _) ((ho.append (ha.extract _ _).reverse).push hz) ⟨trivial,trivial,trivial⟩) fun k2 _=>RM.ite Iff.rfl (fun _=>RM.ite Iff.rfl (fun _=>leafDH (dnE (cat2rE (pshE (cat2rE (refl_map out) a _ _) z) b _ _)) rfl rfl (cat2rE (pshE (cat2rE (refl_map out) a _ _) z) b _ _) rfl (ag3r (((ho.append (ha.extract _ _).reverse).push hz).append (hb.extract _ _).reverse) hb ha _ _ _ _) (((ho.append (ha.extract _ _).reverse).push hz).append (hb.extract _ _).reverse) ⟨trivial,trivial,trivial⟩) fun _=>RM.ite Iff.rfl (fun _=>leafDH (dnE (cat2rE (pshE (cat2rE (refl_map out) a _ _) z) b _ _)) rfl rfl (cat2rE (pshE (cat2rE (refl_map out) a _ _) z) b _ _) rfl (ag3r (((ho.append (ha.extract _ _).reverse).push hz).append (hb.extract _ _).reverse) ha hb _ _ _ _) (((ho.append (ha.extract _ _).reverse).push hz).append (hb.extract _ _).reverse) ⟨trivial,trivial,trivial⟩) fun _=>RM.bind (r_elem ha _) fun v hv=>RM.ite Iff.rfl (fun _=>leafDH (dnE (pshE (cat2rE (pshE (cat2rE (refl_map out) a _ _) z) b _ _) v)) rfl rfl (pshE (cat2rE (pshE (cat2rE (refl_map out) a _ _) z) b _ _) v) rfl (ag3r ((((ho.append (ha.extract _ _).reverse).push hz).append (hb.extract _ _).reverse).push hv) ha hb _ _ _ _) ((((ho.append (ha.extract _ _).reverse).push hz).append (hb.extract _ _).reverse).push hv) ⟨trivial,trivial,trivial⟩) fun _=>RM.ite Iff.rfl (fun _=>leafNH rfl rfl (pshE (cat2rE (pshE (cat2rE (refl_map out) a _ _) z) b _ _) v) rfl ((((ho.append (ha.extract _ _).reverse).push hz).append (hb.extract _ _).reverse).push hv) ⟨trivial,trivial,trivial⟩) fun _=>leafYH rfl rfl (pshE (cat2rE (pshE (cat2rE (refl_map out) a _ _) z) b _ _) v) rfl ((((ho.append (ha.extract _ _).reverse).push hz).append (hb.extract _ _).reverse).push hv) ⟨trivial,trivial,trivial⟩) fun _=>RM.bind (r_elem ha _) fun v hv=>RM.ite Iff.rfl (fun _=>leafDH (dnE (pshE (pshE (cat2rE (refl_map out) a _ _) z) v)) rfl rfl (pshE (pshE (cat2rE (refl_map out) a _ _) z) v) rfl (ag3r (((ho.append (ha.extract _ _).reverse).push hz).push hv) ha hb _ _ _ _) (((ho.append (ha.extract _ _).reverse).push hz).push hv) ⟨trivial,trivial,trivial⟩) fun _=>RM.ite Iff.rfl (fun _=>leafNH rfl rfl (pshE (pshE (cat2rE (refl_map out) a _ _) z) v) rfl (((ho.append (ha.extract _ _).reverse).push hz).push hv) ⟨trivial,trivial,trivial⟩) fun _=>leafYH rfl rfl (pshE (pshE (cat2rE (refl_map out) a _ _) z) v) rfl (((ho.append (ha.extract _ _).reverse).push hz).push hv) ⟨trivial,trivial,trivial⟩
    ·exact RM.bind (r_elem hb _) fun z hz=>RM.ite Iff.rfl (fun _=>leafDH (dnE (pshE (refl_map out) z)) rfl rfl (pshE (refl_map out) z) rfl (ag3r (ho.push hz) hb ha _ _ _ _) (ho.push hz) ⟨trivial,trivial,trivial⟩) fun _=>RM.bind (r_elem ha _) fun u hu=>RM.bindO (r_gallop ag _ hu hb _ _ _) (leafDH (dnE (pshE (refl_map out) z)) rfl rfl (pshE (refl_map out) z) rfl (ag3r (ho.push hz) ha hb _ _ _ _) (ho.push hz) ⟨trivial,trivial,trivial⟩) fun k2 _=>RM.ite Iff.rfl (fun _=>RM.ite Iff.rfl (fun _=>leafDH (dnE (cat2rE (pshE (refl_map out) z) b _ _)) rfl rfl (cat2rE (pshE (refl_map out) z) b _ _) rfl (ag3r ((ho.push hz).append (hb.extract _ _).reverse) hb ha _ _ _ _) ((ho.push hz).append (hb.extract _ _).reverse) ⟨trivial,trivial,trivial⟩) fun _=>RM.ite Iff.rfl (fun _=>leafDH (dnE (cat2rE (pshE (refl_map out) z) b _ _)) rfl rfl (cat2rE (pshE (refl_map out) z) b _ _) rfl (ag3r ((ho.push hz).append (hb.extract _ _).reverse) ha hb _ _ _ _) ((ho.push hz).append (hb.extract _ _).reverse) ⟨trivial,trivial,trivial⟩) fun _=>RM.bind (r_elem ha _) fun v hv=>RM.ite Iff.rfl (fun _=>leafDH (dnE (pshE (cat2rE (pshE (refl_map out) z) b _ _) v)) rfl rfl (pshE (cat2rE (pshE (refl_map out) z) b _ _) v) rfl (ag3r (((ho.push hz).append (hb.extract _ _).reverse).push hv) ha hb _ _ _ _) (((ho.push hz).append (hb.extract _ _).reverse).push hv) ⟨trivial,trivial,trivial⟩) fun _=>RM.ite Iff.rfl (fun _=>leafNH rfl rfl (pshE (cat2rE (pshE (refl_map out) z) b _ _) v) rfl (((ho.push hz).append (hb.extract _ _).reverse).push hv) ⟨trivial,trivial,trivial⟩) fun _=>leafYH rfl rfl (pshE (cat2rE (pshE (refl_map out) z) b _ _) v) rfl (((ho.push hz).append (hb.extract _ _).reverse).push hv) ⟨trivial,trivial,trivial⟩) fun _=>RM.bind (r_elem ha _) fun v hv=>RM.ite Iff.rfl (fun _=>leafDH (dnE (pshE (pshE (refl_map out) z) v)) rfl rfl (pshE (pshE (refl_map out) z) v) rfl (ag3r ((ho.push hz).push hv) ha hb _ _ _ _) ((ho.push hz).push hv) ⟨trivial,trivial,trivial⟩) fun _=>RM.ite Iff.rfl (fun _=>leafNH rfl rfl (pshE (pshE (refl_map out) z) v) rfl ((ho.push hz).push hv) ⟨trivial,trivial,trivial⟩) fun _=>leafYH rfl rfl (pshE (pshE (refl_map out) z) v) rfl ((ho.push hz).push hv) ⟨trivial,trivial,trivial⟩
  ·obtain ⟨mg,ac,bc⟩:=d
   exact RM.bind (r_setG _) fun _ _=>leafYH rfl rfl rfl rfl ho trivial
end
end N2
namespace N2
open PySem PyProof.Rows
section
variable {M:Model} {G G':Ctx} {s s':Shared} {f:Keyed→Keyed} {Gd:Keyed→Prop} {kd:SortKind}
theorem put_map (sa:Nat):∀ (l:List (Keyed×Nat)) (xs:Array Keyed),(l.map fun p=>(f p.1,p.2)).foldl (fun a (p:Keyed×Nat)=>a.setIfInBounds (sa+p.2) p.1) (xs.map f)=(l.foldl (fun a (p:Keyed×Nat)=>a.setIfInBounds (sa+p.2) p.1) xs).map f
 | [],xs=>rfl
 | p::l,xs=>by
  rw [List.map_cons,List.foldl_cons,List.foldl_cons,← put_map sa l]
  congr 1
  simp
theorem put_good (sa:Nat):∀ (l:List (Keyed×Nat)) (xs:Array Keyed),AG Gd xs→(∀ p ∈ l,Gd p.1)→AG Gd (l.foldl (fun a (p:Keyed×Nat)=>a.setIfInBounds (sa+p.2) p.1) xs)
 | [],xs,h,_=>h
 | p::l,xs,h,hl=>by
  rw [List.foldl_cons]
  refine put_good sa l _ (fun q hq=>?_) fun q hq=>hl q (List.mem_cons_of_mem _ hq)
  rw [Array.toList_setIfInBounds] at hq
  rcases List.mem_or_eq_of_mem_set hq with hq | rfl
  ·exact h q hq
  ·exact hl p List.mem_cons_self
theorem zipIdx_map:∀ (l:List Keyed) (n:Nat),(l.map f).zipIdx n=(l.zipIdx n).map fun p=>(f p.1,p.2)
 | [],n=>rfl
 | x::l,n=>by rw [List.map_cons,List.zipIdx_cons,List.zipIdx_cons,zipIdx_map l,List.map_cons]
theorem r_at (ag:Agree M G G' s s' f Gd kd) (i:Nat):RM M G G' s s' f Gd kd (mergeAt' i) (mergeAt' i):=by
 rw [mergeAt'_eq]
 refine RM.getS fun st hs=>?_
 show RM M G G' s s' f Gd kd (match ((pendingOf st)[i]?,(pendingOf st)[i+1]?) with | (some (sa,na,power),some (sb,nb,_))=>_ | _=>_) (match ((pendingOf st)[i]?,(pendingOf st)[i+1]?) with | (some (sa,na,power),some (sb,nb,_))=>_ | _=>_)
 cases e1:(pendingOf st)[i]? with
 | none=>exact RM.uns
 | some x1 =>
  cases e2:(pendingOf st)[i+1]? with
  | none=>exact RM.uns
  | some x2 =>
   obtain ⟨sa,na,pw⟩:=x1
   obtain ⟨sb,nb,pw2⟩:=x2
   refine RM.bind (RM.setS rfl ⟨hs.kind,hs.good⟩) fun _ _=>?_
   refine RM.bind (r_elem hs.good _) fun y hy=>RM.bindO (r_gallop ag _ hy hs.good _ _ _) (RM.pure rfl trivial) fun k _=>?_
   dsimp only
   refine RM.ite Iff.rfl (fun _=>RM.pure rfl trivial) fun _=>?_
   refine RM.bind (r_elem hs.good _) fun z hz=>RM.bindO (r_gallop ag _ hz hs.good _ _ _) (RM.pure rfl trivial) fun k2 _=>?_
   dsimp only
   refine RM.ite Iff.rfl (fun _=>RM.pure rfl trivial) fun _=>?_
   have hA:∀ (u v:Nat),AG Gd ((arrOf st).extract u v):=fun u v=>hs.good.extract u v
   have eA:∀ (u v:Nat),(arrOf (FS f st)).extract u v=((arrOf st).extract u v).map f:=fun u v=>by
    show ((arrOf st).map f).extract u v=_
    simp
   rw [eA,eA]
   refine RM.ite Iff.rfl (fun _=>RM.bind (r_lo ag (hA _ _) (hA _ _)) fun m hm=>?_) fun _=>RM.bind (r_hi ag (hA _ _) (hA _ _)) fun m hm=>?_
   all_goals
    refine RM.bind (RM.modify fun st1 hs1=>⟨?_,hs1.kind,?_⟩) fun _ _=>?_
    ·show SortSt.mk' _ ((m.map f).toList.zipIdx.foldl (fun a (p:Keyed×Nat)=>a.setIfInBounds (sa+k+p.2) p.1) ((arrOf st1).map f)) _ _ _=SortSt.mk' _ ((m.toList.zipIdx.foldl (fun a (p:Keyed×Nat)=>a.setIfInBounds (sa+k+p.2) p.1) (arrOf st1)).map f) _ _ _
     rw [Array.toList_map,zipIdx_map,put_map]
     rfl
    ·refine put_good _ _ _ hs1.good fun p hp=>hm p.1 ?_
     have:=List.mem_zipIdx hp
     rw [this.2.2]
     exact List.getElem_mem _
    ·exact RM.getS fun st1 hs1=>RM.pure rfl trivial
end
end N2
namespace N2
open PySem PyProof.Rows
section
variable {M:Model} {G G':Ctx} {s s':Shared} {f:Keyed→Keyed} {Gd:Keyed→Prop} {kd:SortKind}
theorem r_sort (ag:Agree M G G' s s' f Gd kd) (r_at:∀ i,RM M G G' s s' f Gd kd (mergeAt' i) (mergeAt' i)):RM M G G' s s' f Gd kd sortRuns' sortRuns':=by
 rw [sortRuns'_eq]
 refine RM.getS fun st hs=>?_
 have e:(arrOf (FS f st)).size=(arrOf st).size:=by
  show ((arrOf st).map f).size=_
  simp
 rw [e]
 generalize (arrOf st).size=n
 refine RM.bindP (RM.forR (β:=Option Unit×Nat) rfl ⟨ok_none,trivial⟩ fun i c hc=>?_) (fun d hd=>?_) fun b d hb hd=>RM.pure rfl trivial
 ·refine RM.ite Iff.rfl (fun _=>RM.pure rfl ⟨ok_none,trivial⟩) fun _=>?_
  refine RM.bindO (r_count ag _ _) (RM.pure rfl ⟨ok_some trivial,trivial⟩) fun found _=>?_
  refine RM.ite Iff.rfl (fun _=>RM.bind RM.rule fun _ _=>RM.bind (r_binary ag _ _ _) fun ok _=>RM.ite Iff.rfl (fun _=>RM.pure rfl ⟨ok_some trivial,trivial⟩) fun _=>?_) fun _=>?_
  all_goals
   refine RM.getS fun st1 hs1=>?_
   rw [show pendingOf (FS f st1)=pendingOf st1 from rfl]
   cases (pendingOf st1).back? with
   | none=>exact RM.bind (RM.modify fun st hs=>⟨rfl,hs.kind,hs.good⟩) fun _ _=>RM.pure rfl ⟨ok_none,trivial⟩
   | some x =>
    obtain ⟨s1,n1,p1⟩:=x
    refine RM.bindP (RM.forR (β:=Option Unit×Unit) rfl ⟨ok_none,trivial⟩ fun i c hc=>?_) (fun d hd=>?_) fun b d hb hd=>RM.pure rfl ⟨ok_some trivial,trivial⟩
    ·refine RM.getS fun st2 hs2=>?_
     rw [show pendingOf (FS f st2)=pendingOf st2 from rfl]
     dsimp only
     generalize (if (pendingOf st2).size > 1 then (pendingOf st2)[(pendingOf st2).size - 2]? else none)=o
     cases o with
     | none=>exact RM.pure rfl ⟨ok_none,trivial⟩
     | some y =>
      obtain ⟨y1,y2,y3⟩:=y
      exact RM.ite Iff.rfl (fun _=>RM.pure rfl ⟨ok_none,trivial⟩) fun _=>RM.bind (r_at _) fun b hb=>RM.ite Iff.rfl (fun _=>RM.pure rfl ⟨ok_some trivial,trivial⟩) fun _=>RM.pure rfl ⟨ok_none,trivial⟩
    ·exact RM.bind (RM.modify fun st hs=>⟨rfl,hs.kind,hs.good⟩) fun _ _=>RM.bind (RM.modify fun st hs=>⟨rfl,hs.kind,hs.good⟩) fun _ _=>RM.pure rfl ⟨ok_none,trivial⟩
 ·refine RM.bindP (RM.forR (β:=Option Unit×Unit) rfl ⟨ok_none,trivial⟩ fun i c hc=>?_) (fun d hd=>RM.pure rfl trivial) fun b d hb hd=>RM.pure rfl trivial
  refine RM.getS fun st2 hs2=>?_
  refine RM.ite Iff.rfl (fun _=>RM.pure rfl ⟨ok_none,trivial⟩) fun _=>?_
  exact RM.bind (r_at _) fun b hb=>RM.ite Iff.rfl (fun _=>RM.pure rfl ⟨ok_some trivial,trivial⟩) fun _=>RM.pure rfl ⟨ok_none,trivial⟩
end
end N2
namespace N2
open PySem PyProof.Rows
section
variable {prog:Program} {w:World} {A:Around} {s:Shared}
theorem ans_of {β:Type} {u:Sem β} {b:β} {G:Ctx} (hG:G.In A) (h:wpAny (model prog w) A u (fun x s1=>x=b∧s1=s) (fun _ _=>False) s):Ans (model prog w) G s u b:=fun p Q E hq=>by
 refine Sem.wp_mono _ _ u (fun a p1 s1 e=>?_) (fun e p1 s1 z=>False.elim z) p s (h G p hG)
 obtain ⟨rfl,rfl⟩:=e
 exact hq p1
def rkF (rk:Value→Int) (q:Keyed):Keyed:=(.int (rk q.1) 0,q.2)
theorem sort_at {E:Value→Shared→Prop} {kd:SortKind} {rk:Value→Int} {Good:Value→Prop} {vs:List Value} (rs:∀ {G:Ctx},Agree (model prog w) G G s s (rkF rk) (fun q=>q.1=q.2∧Good q.1) kd→RM (model prog w) G G s s (rkF rk) (fun q=>q.1=q.2∧Good q.1) kd sortRuns' sortRuns')
  (hg:∀ v ∈ vs,Good v) (h2:2≤vs.length)
  (hlt:∀ x y,Good x→Good y→wpAny (model prog w) A (keyLt' kd x y) (fun b s1=>b=decide (rk x<rk y)∧s1=s) (fun _ _=>False) s) :
  wpAny (model prog w) A (sortRuns'.run (SortSt.mk' kd (pairsOf vs) #[] 7 none))
   (fun r s1=>s1=s∧failedOf r.2=none∧((arrOf r.2).map (·.2)).toList.Perm vs∧((arrOf r.2).map (·.2)).toList.Pairwise (fun x y=>rk x≤rk y)) E s:=by
 intro G p hG
 have ag:Agree (model prog w) G G s s (rkF rk) (fun q=>q.1=q.2∧Good q.1) kd:=fun x y hx hy =>
  ⟨decide (rk x.1<rk y.1),ans_of hG (wpAny_attempt (wpAny_mono (hlt x.1 y.1 hx.2 hy.2) (fun b s1 e=>by obtain ⟨rfl,rfl⟩:=e; exact ⟨rfl,rfl⟩) fun _ _ z=>z.elim)),
   ans_of hG (wpAny_attempt (by
    show wpAny (model prog w) A (oneLt' true (.int (rk x.1) 0) (.int (rk y.1) 0)) _ _ s
    exact oneLt_int ⟨rfl,rfl⟩))⟩
 have hAG:AG (fun q=>q.1=q.2∧Good q.1) (pairsOf vs):=fun q hq=>by
  rw [pairsOf_toList] at hq
  obtain ⟨e,m⟩:=mem_zip_self hq
  exact ⟨e,hg _ m⟩
 have tr:=rs ag (SortSt.mk' kd (pairsOf vs) #[] 7 none) ⟨rfl,hAG⟩
 have hk:KeysOf PyProof.Rows.intKind ((pairsOf vs).map (rkF rk)):=fun q hq=>by
  rw [Array.toList_map] at hq
  obtain ⟨r,_,rfl⟩:=List.mem_map.mp hq
  exact ⟨rk r.1,rfl⟩
 have lib:wpS (model prog w) A (fun _ _=>False) s sortRuns' (fun _ st'=>(arrOf st').Perm ((pairsOf vs).map (rkF rk))∧failedOf st'=none∧SortedToK PyProof.Rows.intKind (arrOf st') ((pairsOf vs).map (rkF rk)).size) (FS (rkF rk) (SortSt.mk' kd (pairsOf vs) #[] 7 none)) :=
  wpS_sortRunsAny (κ:=PyProof.Rows.intKind) intKind_oneLt hk ⟨Array.Perm.refl _,rfl,rfl⟩ rfl (by rw [Array.size_map,pairsOf_size]; exact h2) fun st' a b c=>⟨a,b,c⟩
 have lib':=lib G p hG
 refine Sem.wp_mono _ _ _ ?_ (fun _ _ _ z=>z) p s (TR.sound tr (Q:=fun r=>failedOf r.2=none∧((arrOf r.2).map (·.2)).toList.Perm vs∧((arrOf r.2).map (·.2)).toList.Pairwise (fun x y=>rk x≤rk y))
  (Q':=fun r=>(arrOf r.2).Perm ((pairsOf vs).map (rkF rk))∧failedOf r.2=none∧SortedToK PyProof.Rows.intKind (arrOf r.2) ((pairsOf vs).map (rkF rk)).size) ?_ p p (Sem.wp_mono _ _ _ (fun a p1 s1 e=>e.2) (fun _ _ _ z=>z) p s lib'))
 ·rintro a p1 s1 ⟨e,q⟩
  exact ⟨e,q⟩
 ·rintro ⟨u,st⟩ ⟨u',st'⟩ ⟨_,_,e3,e4⟩ ⟨q1,q2,q3⟩
  simp only at e3 e4 q1 q2 q3 ⊢
  subst e3
  have ea:arrOf (FS (rkF rk) st)=(arrOf st).map (rkF rk):=rfl
  rw [ea] at q1 q3
  have esz:(arrOf st).size=(pairsOf vs).size:=by
   have:=q1.size_eq
   rw [Array.size_map,Array.size_map] at this
   exact this
  refine ⟨q2,?_,?_⟩
  ·have:=(Array.perm_iff_toList_perm.mp q1).map (·.2)
   rw [Array.toList_map,Array.toList_map,List.map_map,List.map_map,pairsOf_toList] at this
   have e1:((fun x:Keyed=>x.2) ∘ rkF rk)=fun x=>x.2:=rfl
   rw [e1] at this
   rw [Array.toList_map]
   have e2:(vs.zip vs).map (fun x:Keyed=>x.2)=vs:=by
    have:=List.map_snd_zip (l₁:=vs) (l₂:=vs) (Nat.le_refl _)
    exact this
   rw [e2] at this
   exact this
  ·rw [List.pairwise_iff_getElem]
   intro i j hi hj hij
   have hi':i<(arrOf st).size:=by simpa using hi
   have hj':j<(arrOf st).size:=by simpa using hj
   have gi:=e4.good (arrOf st)[i] (Array.getElem_mem_toList hi')
   have gj:=e4.good (arrOf st)[j] (Array.getElem_mem_toList hj')
   have q:=q3 i j (Nat.le_of_lt hij) (by rw [Array.size_map,← esz]; exact hj')
   have k1:KK PyProof.Rows.intKind ((arrOf st).map (rkF rk)) i=rk (arrOf st)[i].1:=by
    unfold KK
    rw [Array.getElem?_map,Array.getElem?_eq_getElem hi']
    rfl
   have k2:KK PyProof.Rows.intKind ((arrOf st).map (rkF rk)) j=rk (arrOf st)[j].1:=by
    unfold KK
    rw [Array.getElem?_map,Array.getElem?_eq_getElem hj']
    rfl
   rw [k1,k2] at q
   have q':decide (rk (arrOf st)[j].1<rk (arrOf st)[i].1)=false:=q
   have q'':=of_decide_eq_false q'
   rw [gi.1,gj.1] at q''
   simp only [Array.toList_map,List.getElem_map,Array.getElem_toList]
   omega
end
end N2
namespace N2
open PySem PyProof.Rows Fr
def wkey (v:Way):List I2:=[.int v.1,.int v.2.1,.tup (v.2.2.map fun n:Nat=>(n:Int))]
def WayAt (h:Heap) (x:Value) (v:Way):Prop:=∃ a,x=.ref a∧Key2 h (wkey v) a
theorem lexLt_ll:∀ (l m:List Nat),HT.lexLt (l.map fun n:Nat=>(n:Int)) (m.map fun n:Nat=>(n:Int))=decide (ll l m)
 | [],[]=>(decide_eq_false (fun h=>h)).symm
 | [],_::_=>(decide_eq_true trivial).symm
 | _::_,[]=>(decide_eq_false (fun h=>h)).symm
 | a::l,b::m=>by
  rw [List.map_cons,List.map_cons,HT.lexLt_cons,lexLt_ll l m]
  by_cases e:a=b
  ·subst e
   rw [if_pos rfl]
   simp [ll]
  ·rw [if_neg (by omega)]
   simp [ll,e]
theorem map_cast_inj:∀ {l m:List Nat},l.map (fun n:Nat=>(n:Int))=m.map (fun n:Nat=>(n:Int))→l=m
 | [],[],_=>rfl
 | [],_::_,h=>by simp at h
 | _::_,[],h=>by simp at h
 | a::l,b::m,h=>by
  rw [List.map_cons,List.map_cons] at h
  injection h with h1 h2
  rw [map_cast_inj h2]
  congr 1
  omega
theorem WayAt.inj {h:Heap} {x:Value} {v u:Way} (hx:WayAt h x v) (hy:WayAt h x u):v=u:=by
 obtain ⟨a,rfl,k⟩:=hx
 obtain ⟨b,e,k'⟩:=hy
 cases e
 have e:=k.inj k'
 obtain ⟨c,e1,o⟩:=v
 obtain ⟨c',e1',o'⟩:=u
 unfold wkey at e
 simp only [List.cons.injEq,I2.int.injEq,I2.tup.injEq,and_true] at e
 obtain ⟨h1,h2,h3⟩:=e
 have h1':c=c':=by omega
 have h2':e1=e1':=by omega
 rw [h1',h2',map_cast_inj h3]
theorem WayAt.parts {h:Heap} {x:Value} {v:Way} (hx:WayAt h x v):∃ a o t t' b its,x=.ref a∧h.get? a=some o∧o.cls=.type "tuple"∧(∃ n,o.data=.seq #[.int v.1 t,.int v.2.1 t',.ref b] n)∧IsTup h b its∧IntsAre its.toList (v.2.2.map fun n:Nat=>(n:Int)):=by
 obtain ⟨a,rfl,items,⟨o,ho,hc,n,hd⟩,hi⟩:=hx
 unfold wkey at hi
 obtain ⟨l⟩:=items
 simp only at hi
 cases hi with
 | cons h1 r1 =>
  cases r1 with
  | cons h2 r2 =>
   cases r2 with
   | cons h3 r3 =>
    cases r3
    obtain ⟨t,rfl⟩:=h1
    obtain ⟨t',rfl⟩:=h2
    obtain ⟨b,its,rfl,ht,hi⟩:=h3
    exact ⟨a,o,t,t',b,its,rfl,ho,hc,⟨n,hd⟩,ht,hi⟩
section
variable {prog:Program} {w:World} {A:Around} {E:Value→Shared→Prop} {s:Shared}
theorem wlt_dec (v u:Way):decide (wlt v u)=if v.1=u.1 then (if v.2.1=u.2.1 then decide (ll v.2.2 u.2.2) else decide (v.2.1<u.2.1)) else decide (v.1<u.1):=by
 unfold wlt kl
 by_cases h1:v.1=u.1
 ·rw [if_pos h1]
  by_cases h2:v.2.1=u.2.1
  ·rw [if_pos h2]
   simp [h1,h2]
  ·rw [if_neg h2]
   simp [h1,h2]
 ·rw [if_neg h1]
  simp [h1]
theorem key_lt_way {x y:Value} {v u:Way} {Q:Bool→Shared→Prop} (hu:A.units+1<cLine) (hx:WayAt s.heap x v) (hy:WayAt s.heap y u) (h:Q (decide (wlt v u)) s):wpAny (model prog w) A (keyLt' (tuples' true) x y) Q E s:=by
 obtain ⟨a,o,t,t',b,its,rfl,ho,hc,⟨n,hd⟩,ht,hi⟩:=hx.parts
 obtain ⟨a2,o2,t2,t2',b2,its2,rfl,ho2,hc2,⟨n2,hd2⟩,ht2,hi2⟩:=hy.parts
 rw [wlt_dec] at h
 refine PySem.W.kat_lt ho hd ho2 hd2 ?_
 refine PySem.W.kat_cons (wpAny_eqBool_int ?_)
 refine PySem.W.kat_go (fun e=>PySem.W.kat_yes ?_) fun e=>PySem.W.kat_no ?_
 ·have e1:v.1=u.1:=by have:=of_decide_eq_true (by simpa using e:decide ((v.1:Int)=(u.1:Int))=true); omega
  rw [if_pos e1] at h
  refine PySem.W.kat_cons (wpAny_eqBool_int ?_)
  refine PySem.W.kat_go (fun e=>PySem.W.kat_yes ?_) fun e=>PySem.W.kat_no ?_
  ·have e2:v.2.1=u.2.1:=by have:=of_decide_eq_true (by simpa using e:decide ((v.2.1:Int)=(u.2.1:Int))=true); omega
   rw [if_pos e2] at h
   refine PySem.W.kat_cons (eqAt_ints (by omega) ht ht2 hi hi2 _ _ _ _ ?_)
   refine PySem.W.kat_go (fun e=>PySem.W.kat_yes (PySem.W.kat_nil ?_)) fun e=>PySem.W.kat_no (PySem.W.kat_one _ _ ?_)
   ·have e3:=map_cast_inj (of_decide_eq_true e)
    have e4:decide (ll v.2.2 u.2.2)=false:=by rw [e3]; exact decide_eq_false (ll_irrefl _)
    rw [e4] at h
    exact h
   ·refine HT.lt_tupInts ht ht2 hi hi2 (by omega) ?_
    rw [lexLt_ll]
    exact h
  ·have e2:¬ v.2.1=u.2.1:=by
    intro q
    rw [q] at e
    simp at e
   rw [if_neg e2] at h
   refine oneLt_any_int ?_
   have e3:decide ((v.2.1:Int)<(u.2.1:Int))=decide (v.2.1<u.2.1):=by simp
   rw [e3]
   exact h
 ·have e1:¬ v.1=u.1:=by
   intro q
   rw [q] at e
   simp at e
  rw [if_neg e1] at h
  refine oneLt_any_int ?_
  have e3:decide ((v.1:Int)<(u.1:Int))=decide (v.1<u.1):=by simp
  rw [e3]
  exact h
end
end N2
namespace N2
open PySem PyProof.Rows Fr
def rankW (ws:List Way) (v:Way):Nat:=(ws.filter fun u=>decide (wlt u v)).length
theorem filter_le {α:Type} {p q:α→Bool} (h:∀ x,p x=true→q x=true):∀ l:List α,(l.filter p).length≤(l.filter q).length
 | []=>Nat.le_refl _
 | x::l=>by
  have ih:=filter_le h l
  rw [List.filter_cons,List.filter_cons]
  by_cases hp:p x=true
  ·rw [if_pos hp,if_pos (h x hp)]
   simp only [List.length_cons]
   omega
  ·rw [if_neg hp]
   split
   ·simp only [List.length_cons]; omega
   ·exact ih
theorem filter_lt {α:Type} {p q:α→Bool} (h:∀ x,p x=true→q x=true) {y:α} (hq:q y=true) (hp:¬ p y=true):∀ l:List α,y ∈ l→(l.filter p).length<(l.filter q).length
 | [],hm=>by cases hm
 | x::l,hm=>by
  rw [List.filter_cons,List.filter_cons]
  rcases List.mem_cons.mp hm with rfl | hm
  ·rw [if_neg hp,if_pos hq]
   have:=filter_le h l
   simp only [List.length_cons]
   omega
  ·have ih:=filter_lt h hq hp l hm
   by_cases hpx:p x=true
   ·rw [if_pos hpx,if_pos (h x hpx)]
    simp only [List.length_cons]
    omega
   ·rw [if_neg hpx]
    split
    ·simp only [List.length_cons]; omega
    ·exact ih
theorem rank_lt {ws:List Way} {v u:Way} (hv:v ∈ ws):rankW ws v<rankW ws u↔wlt v u:=by
 constructor
 ·intro h
  rcases wlt_total v u with q | q | q
  ·exact q
  ·rw [q] at h; exact absurd h (Nat.lt_irrefl _)
  ·have:=filter_le (p:=fun x=>decide (wlt x u)) (q:=fun x=>decide (wlt x v)) (fun x hx=>decide_eq_true (wlt_trans (of_decide_eq_true hx) q)) ws
   unfold rankW at h
   omega
 ·intro h
  exact filter_lt (p:=fun x=>decide (wlt x v)) (q:=fun x=>decide (wlt x u)) (fun x hx=>decide_eq_true (wlt_trans (of_decide_eq_true hx) h)) (decide_eq_true h) (fun hx=>wlt_irrefl v (of_decide_eq_true hx)) ws hv
open Classical in
noncomputable def wayV (h:Heap) (x:Value):Way:=if e:∃ v,WayAt h x v then choose e else (0,0,[])
theorem wayV_eq {h:Heap} {x:Value} {v:Way} (k:WayAt h x v):wayV h x=v:=by
 have e:∃ v,WayAt h x v:=⟨v,k⟩
 unfold wayV
 rw [dif_pos e]
 exact (Classical.choose_spec e).inj k
inductive WaysAt (h:Heap):List Value→List Way→Prop
 | nil:WaysAt h [] []
 | cons {x:Value} {v:Way} {xs:List Value} {ws:List Way}:WayAt h x v→WaysAt h xs ws→WaysAt h (x::xs) (v::ws)
theorem WaysAt.length {h:Heap} {xs:List Value} {ws:List Way} (k:WaysAt h xs ws):xs.length=ws.length:=by
 induction k with
 | nil=>rfl
 | cons _ _ ih=>simp [ih]
theorem WaysAt.eq {h:Heap} {xs:List Value} {ws:List Way} (k:WaysAt h xs ws):ws=xs.map (wayV h):=by
 induction k with
 | nil=>rfl
 | cons k _ ih=>rw [List.map_cons,wayV_eq k,← ih]
theorem WaysAt.mem {h:Heap} {xs:List Value} {ws:List Way} (k:WaysAt h xs ws):∀ x ∈ xs,∃ v ∈ ws,WayAt h x v:=by
 induction k with
 | nil=>intro x hx; cases hx
 | cons k _ ih =>
  intro x hx
  rcases List.mem_cons.mp hx with rfl | hx
  ·exact ⟨_,List.mem_cons_self,k⟩
  ·obtain ⟨v,hv,hw⟩:=ih x hx
   exact ⟨v,List.mem_cons_of_mem _ hv,hw⟩
theorem WaysAt.of_mem {h:Heap}:∀ {xs:List Value},(∀ x ∈ xs,∃ v,WayAt h x v)→WaysAt h xs (xs.map (wayV h))
 | [],_=>.nil
 | x::xs,hx=>by
  obtain ⟨v,hv⟩:=hx x List.mem_cons_self
  refine .cons ?_ (WaysAt.of_mem fun y hy=>hx y (List.mem_cons_of_mem _ hy))
  rw [wayV_eq hv]
  exact hv
theorem WayAt.keep {h h':Heap} {x:Value} {v:Way} (k:KeepT h h') (w:WayAt h x v):WayAt h' x v:=by
 obtain ⟨a,e,q⟩:=w
 exact ⟨a,e,q.keep k⟩
theorem WaysAt.keep {h h':Heap} {xs:List Value} {ws:List Way} (k:KeepT h h') (w:WaysAt h xs ws):WaysAt h' xs ws:=by
 induction w with
 | nil=>exact .nil
 | cons q _ ih=>exact .cons (q.keep k) ih
theorem keepT_of {h h':Heap} (k:PyProof.Rows.G.KeepsTups h h'):KeepT h h':=fun a items ⟨o,ho,hc,n,hd⟩=>⟨o,k a o ho hc,hc,n,hd⟩
theorem katTups_ways {h:Heap} {xs:List Value} {ws:List Way} (k:WaysAt h xs ws):∃ fs:List Value,PySem.W.KatTups h xs fs∧fs.length=xs.length∧∀ f ∈ fs,∃ i t,f=.int i t:=by
 induction k with
 | nil=>exact ⟨[],PySem.W.KatTups.nil,rfl,fun f hf=>by cases hf⟩
 | @cons x v xs ws k _ ih =>
  obtain ⟨fs,h1,h2,h3⟩:=ih
  obtain ⟨a,o,t,t',b,its,rfl,ho,hc,⟨n,hd⟩,_,_⟩:=k.parts
  refine ⟨.int v.1 t::fs,PySem.W.KatTups.cons ho hc hd rfl h1,by simp [h2],fun f hf=>?_⟩
  rcases List.mem_cons.mp hf with rfl | hf
  ·exact ⟨_,_,rfl⟩
  ·exact h3 f hf
section
variable {prog:Program} {w:World} {A:Around} {E:Value→Shared→Prop} {s:Shared}
theorem kind_ways {xs:List Value} {ws:List Way} {Q:SortKind→Shared→Prop} (k:WaysAt s.heap xs ws) (h2:2≤xs.length) (h:Q (tuples' true) s):wpAny (model prog w) A (keyKind' xs.toArray) Q E s:=by
 obtain ⟨fs,h1,hl,hf⟩:=katTups_ways k
 refine PySem.W.kat_kind (T:=Value.type "int") h1 (by omega) (fun v hv=>?_) rfl ?_
 ·obtain ⟨i,t,rfl⟩:=hf v hv
  exact PySem.W.Looks.of_pure rfl
 ·exact h
theorem runs_ways {xs:List Value} {ws:List Way} (k:WaysAt s.heap xs ws) (hu:A.units+1<cLine) (h2:2≤xs.length) :
  wpAny (model prog w) A (sortRuns'.run (SortSt.mk' (tuples' true) (pairsOf xs) #[] 7 none))
   (fun r s1=>s1=s∧failedOf r.2=none∧((arrOf r.2).map (·.2)).toList.Perm xs∧WaysAt s.heap ((arrOf r.2).map (·.2)).toList (sortW ws)) E s:=by
 have h:=sort_at (prog:=prog) (w:=w) (A:=A) (s:=s) (E:=E) (kd:=tuples' true) (rk:=fun x=>(rankW ws (wayV s.heap x):Int)) (Good:=fun x=>∃ v ∈ ws,WayAt s.heap x v) (vs:=xs)
  (fun ag=>r_sort ag (r_at ag)) k.mem h2 (fun x y ⟨v,hv,kx⟩ ⟨u,hu',ky⟩=>by
   refine key_lt_way hu kx ky ⟨?_,rfl⟩
   rw [wayV_eq kx,wayV_eq ky]
   have e:((rankW ws v:Int)<(rankW ws u:Int))↔wlt v u:=by
    rw [← rank_lt (u:=u) hv]
    omega
   exact (decide_eq_decide.mpr e).symm)
 refine wpAny_mono h (fun r s1 q=>?_) fun _ _ z=>z
 obtain ⟨rfl,q1,q2,q3⟩:=q
 refine ⟨rfl,q1,q2,?_⟩
 have hm:∀ x ∈ ((arrOf r.2).map (·.2)).toList,∃ v ∈ ws,WayAt s1.heap x v:=fun x hx=>k.mem x (q2.subset hx)
 have hw:=WaysAt.of_mem (h:=s1.heap) (xs:=((arrOf r.2).map (·.2)).toList) fun x hx=>(hm x hx).elim fun v hv=>⟨v,hv.2⟩
 have e:((arrOf r.2).map (·.2)).toList.map (wayV s1.heap)=sortW ws:=by
  refine sortW_unique ?_ ?_
  ·have:=q2.map (wayV s1.heap)
   rw [← k.eq] at this
   exact this
  ·rw [List.pairwise_map]
   refine List.Pairwise.imp_of_mem ?_ q3
   intro x y hx hy hxy hl
   obtain ⟨v,hv,kx⟩:=hm x hx
   obtain ⟨u,hu',ky⟩:=hm y hy
   rw [wayV_eq kx,wayV_eq ky] at hxy hl
   have:=(rank_lt (ws:=ws) (u:=v) hu').mpr hl
   omega
 rw [e] at hw
 exact hw
theorem sort_ways {a:Addr} {xs:List Value} {ws:List Way} {n:Nat} {P:Fin→Shared→Prop} (ho:s.heap.get? a=some (seqObj "list" xs.toArray n)) (k:WaysAt s.heap xs ws) (hu:A.units+1<cLine) (hL:xs.length≤sizeLine)
  (h:∀ out:Array Value,out.toList.Perm xs→WaysAt s.heap out.toList (sortW ws)→P (.done (.ret .none)) { s with heap:=sortedHeap s.heap a xs out }):wpAny (model prog w) A (Builtin.«list.sort» ⟨[.ref a],[]⟩) P E s:=by
 rw [list_sort_plain]
 obtain ⟨e1,o1⟩:∃ e1,(s.heap.update a (Obj.mapSeq fun _=>#[])).get? a=some (seqObj "list" #[] e1):=⟨_,get?_update_seq ho fun _=>#[]⟩
 have la:a<s.heap.objs.size:=Heap.lt_size ho
 have o2:(PyProof.Rows.G.sortHeap6 s.heap a xs).get? a=some (seqObj "list" #[] e1):=by
  unfold PyProof.Rows.G.sortHeap6
  have l1:a<(s.heap.update a (Obj.mapSeq fun _=>#[])).objs.size:=by rw [Heap.size_update]; exact la
  rw [Heap.get?_push_ne _ _ _ (Nat.ne_of_lt (by rw [size_push']; exact Nat.lt_succ_of_lt l1)),Heap.get?_push_ne _ _ _ (Nat.ne_of_lt l1)]
  exact o1
 have kp:KeepT s.heap (PyProof.Rows.G.sortHeap6 s.heap a xs):=keepT_of (PyProof.Rows.G.keeps_sort6 ho)
 have xl:xs.toArray.size=xs.length:=by simp
 refine wpAny_bind (listItems_at ho rfl (wpAny_bind (listUpdate_at ho rfl (wpAny_bind (seqEpoch_at o1 rfl (wpAny_bind (wpAny_newTuple (wpAny_bind (wpAny_newList (wpAny_holding ?_)))))))
  (by rw [xl]; exact hL) (Nat.zero_le _))))
 show wpAny (model prog w) A _ P E { s with heap:=PyProof.Rows.G.sortHeap6 s.heap a xs }
 by_cases h2:xs.toArray.size<2
 ·rw [if_pos h2,if_pos h2]
  refine wpAny_bind (wpAny_pure ?_)
  dsimp only
  rw [StateT.run_pure]
  refine wpAny_bind (wpAny_pure ?_)
  dsimp only
  refine wpAny_bind (seqEpoch_at o2 rfl (wpAny_bind (listUpdate_at o2 rfl ?_ (Nat.zero_le _) (by rw [Array.size_map]; show (pairsOf xs).size≤_; rw [pairsOf_size]; omega))))
  simp only [bne_self_eq_false,Bool.false_eq_true,if_false]
  refine wpAny_pure ?_
  have e:((xs.toArray.zip xs.toArray).map (·.2))=xs.toArray:=by
   apply Array.toList_inj.mp
   rw [Array.toList_map]
   show ((pairsOf xs).toList.map (·.2))=xs
   rw [pairsOf_toList]
   exact List.map_snd_zip (Nat.le_refl _)
  show P (.done (.ret .none)) { s with heap:=sortedHeap s.heap a xs ((xs.toArray.zip xs.toArray).map (·.2)) }
  rw [e]
  refine h xs.toArray (List.Perm.refl _) ?_
  have e2:sortW ws=ws:=by
   refine (sortW_unique (List.Perm.refl _) ?_).symm
   have:=k.length
   match ws,this with
   | [],_=>exact .nil
   | [v],_=>exact List.pairwise_singleton _ _
   | v::u::r,q=>simp only [List.length_cons] at q; omega
  rw [e2]
  exact k
 ·rw [if_neg h2,if_neg h2]
  have hx2:2≤xs.length:=by omega
  refine wpAny_bind (kind_ways (s:={ s with heap:=PyProof.Rows.G.sortHeap6 s.heap a xs }) (k.keep kp) hx2 ?_)
  refine wpAny_bind (wpAny_mono (runs_ways (s:={ s with heap:=PyProof.Rows.G.sortHeap6 s.heap a xs }) (k.keep kp) hu hx2) ?_ fun _ _ z=>z)
  rintro ⟨⟨⟩,st⟩ s1 ⟨rfl,q1,q2,q3⟩
  simp only at q1 q2 q3
  have hz:(arrOf st).size≤sizeLine:=by
   have:=q2.length_eq
   rw [Array.length_toList,Array.size_map] at this
   omega
  dsimp only
  refine wpAny_bind (seqEpoch_at o2 rfl (wpAny_bind (listUpdate_at o2 rfl ?_ (Nat.zero_le _) (by rw [Array.size_map]; omega))))
  rw [q1]
  simp only [bne_self_eq_false,Bool.false_eq_true,if_false]
  refine wpAny_pure (h _ q2 ?_)
  have hm:∀ x ∈ ((arrOf st).map (·.2)).toList,∃ v,WayAt s.heap x v:=fun x hx=>(k.mem x (q2.subset hx)).elim fun v hv=>⟨v,hv.2⟩
  have hw:=WaysAt.of_mem (h:=s.heap) hm
  have e:=(hw.keep kp).eq.symm.trans rfl
  rw [← q3.eq] at e
  rw [← e] at hw
  exact hw
theorem sorted_ways {l:Addr} {xs:List Value} {ws:List Way} {Q:Value→Shared→Prop} (hl:s.heap.IsList l xs.toArray) (k:WaysAt s.heap xs ws) (hu:A.units+3<cLine) (hL:xs.length≤sizeLine)
  (h:∀ out:Array Value,out.toList.Perm xs→WaysAt s.heap out.toList (sortW ws)→Q (.ref (s.heap.objs.size+1)) { s with heap:=sortedAll s.heap xs out }):wpAny (model prog w) A (call (.builtin "sorted") [.ref l]) Q E s:=by
 have gl:(((s.heap.push (seqObj "list" #[] 0)).update s.heap.objs.size (Obj.mapSeq (·++xs.toArray))).objs.size)=s.heap.objs.size+1:=by rw [Heap.size_update,size_push']
 have g1:(((s.heap.push (seqObj "list" #[] 0)).update s.heap.objs.size (Obj.mapSeq (·++xs.toArray))).push (seqObj "list" xs.toArray 0)).get? (s.heap.objs.size+1)=some (seqObj "list" xs.toArray 0):=by
  rw [← gl]
  exact Heap.get?_push_size _ rfl
 have g0:(s.heap.push (seqObj "list" #[] 0)).get? s.heap.objs.size=some (seqObj "list" #[] 0):=Heap.get?_push_size _ rfl
 have kp:KeepT s.heap (((s.heap.push (seqObj "list" #[] 0)).update s.heap.objs.size (Obj.mapSeq (·++xs.toArray))).push (seqObj "list" xs.toArray 0)) :=
  keepT_of (((PyProof.Rows.G.KeepsTups.push _ _).trans (PyProof.Rows.G.KeepsTups.update _ g0 PyProof.Rows.G.not_tuple_list)).trans (PyProof.Rows.G.KeepsTups.push _ _))
 refine Calls.call_function_entry kind_sorted plain_sorted entry_sorted (args_sorted1 _) ?_
 unfold Builtin.«sorted»
 refine wpAny_bind (m:=checkCount "sorted" 1 1 _) (wpAny_pure (wpAny_bind (collect_list hl (wpAny_bind (wpAny_newList ?_)) hL)))
 show wpAny _ _ _ _ _ { s with heap:=((s.heap.push (seqObj "list" #[] 0)).update s.heap.objs.size (Obj.mapSeq (·++xs.toArray))).push (seqObj "list" xs.toArray 0) }
 rw [gl]
 refine wpAny_bind (wpAny_holding (wpAny_call_entry slot_list_sort ⟨_,g1,rfl⟩ entry_list_sort (sort_ways g1 (k.keep kp) ?un hL fun out p1 p2=>⟨_,rfl,?ret⟩) (args_list_sort _)))
 case un=>simp only [Around.in1_units]; exact hu
 case ret =>
  refine wpAny_pure ⟨_,rfl,h out p1 ?_⟩
  have hm:∀ x ∈ out.toList,∃ v,WayAt s.heap x v:=fun x hx=>(k.mem x (p1.subset hx)).elim fun v hv=>⟨v,hv.2⟩
  have hw:=WaysAt.of_mem (h:=s.heap) hm
  have e:=(hw.keep kp).eq
  rw [← p2.eq] at e
  rw [e] at hw
  exact hw
end
end N2
namespace N2
open PySem PyProof.Rows Fr
inductive LexA (A:Around) (s:Shared):List Value→List Value→Bool→Prop
 | nil:LexA A s [] [] false
 | eq {x y:Value} {xs ys:List Value} {b:Bool}:SeqAt.EqAt A s x y true→LexA A s xs ys b→LexA A s (x::xs) (y::ys) b
 | ne {x y:Value} {xs ys:List Value} {b:Bool}:SeqAt.EqAt A s x y false→(∀ (prog:Program) (w:World) (E:Value→Shared→Prop) (Q:Value→Shared→Prop),Q (.bool b) s→wpAny (model prog w) A (richCompare .Lt x y) Q E s)→xs.length=ys.length→LexA A s (x::xs) (y::ys) b
theorem LexA.len {A:Around} {s:Shared} {xs ys:List Value} {b:Bool} (h:LexA A s xs ys b):xs.length=ys.length:=by
 induction h with
 | nil=>rfl
 | eq _ _ ih=>simp [ih]
 | ne _ _ e=>simp [e]
section
open PySem.SeqAt
open PySem.AutoSeq1 (wpAny_loadPart')
open PySem.MeetsSeq PySem.MeetsSeq2 PySem.MeetsSeq3
theorem tuple_ltA (l b:Addr) (items items2:Array Value) (n n2:Nat) (dd dd2:Option Addr) (sl sl2:Array (Option Value)) (c:Bool) :
  Meets (Builtin.«tuple.__lt__» ⟨[.ref l,.ref b],[]⟩)
   (fun A R s=>s.heap.get? l=some ⟨.type "tuple",dd,.seq items n,sl⟩∧s.heap.get? b=some ⟨.type "tuple",dd2,.seq items2 n2,sl2⟩∧LexA A.in1 s items.toList items2.toList c∧R (.ok (.ret (.bool c))) s) :=
 .of_wp fun prog w A R s0 h=>by
  obtain ⟨hp,g,d,tk,os⟩:=s0
  obtain ⟨hl,hb,he,h⟩:=h
  have f2:=AutoSeq1.sub_tuple_tuple
  have z1:=he.len
  rw [Array.length_toList,Array.length_toList] at z1
  wp_walk using wpAny_loadPart' hl,wpAny_loadPart' hb,wpAny_forIn_list _ (fun rest r s'=>r.1=none∧s'=⟨hp,g,d,tk,os⟩∧∃ vs ws:List Value,rest=vs.zip ws∧LexA A.in1 ⟨hp,g,d,tk,os⟩ vs ws c) _
  case turn =>
   rintro ⟨y,x⟩ rest r s' ⟨hr,rfl,vs,ws,hz,hL⟩
   cases hL with
   | nil=>cases hz
   | eq q1 q2 =>
    rw [List.zip_cons_cons] at hz
    injection hz with hyx hrest
    injection hyx with hy hx
    subst hy hx
    refine wpAny_bind (q1 prog w _ _ ?_)
    wp_walk
    exact ⟨rfl,rfl,_,_,hrest,q2⟩
   | ne q1 q2 q3 =>
    rw [List.zip_cons_cons] at hz
    injection hz with hyx hrest
    injection hyx with hy hx
    subst hy hx
    refine wpAny_bind (q1 prog w _ _ ?_)
    have q2':=q2 prog w
    wp_walk using q2'
    exact ⟨_,rfl,by simpa using h⟩
  case fin =>
   rintro ⟨r1,r2⟩ s' ⟨hr,rfl,vs,ws,hz,hL⟩
   simp only at hr
   subst hr
   have hv:c=decide (items.size<items2.size):=by
    cases hL with
    | nil=>exact (decide_eq_false (by omega)).symm
    | eq _ _=>rw [List.zip_cons_cons] at hz; cases hz
    | ne _ _ _=>rw [List.zip_cons_cons] at hz; cases hz
   rw [hv] at h
   wp_walk
   exact ⟨_,rfl,by simpa [Builtin.Tuple.tupleCompareSizes] using h⟩
  case h=>exact ⟨rfl,rfl,items.toList,items2.toList,rfl,he⟩
end
section
variable {prog:Program} {w:World} {A:Around} {E:Value→Shared→Prop} {s:Shared}
theorem lexA_way {x y:Value} {v u:Way} (hu:A.units<cLine) {t t' t2 t2':Tok} {b b2:Addr} {its its2:Array Value} (ht:IsTup s.heap b its) (hi:IntsAre its.toList (v.2.2.map fun n:Nat=>(n:Int))) (ht2:IsTup s.heap b2 its2) (hi2:IntsAre its2.toList (u.2.2.map fun n:Nat=>(n:Int))) :
  LexA A s [.int v.1 t,.int v.2.1 t',.ref b] [.int u.1 t2,.int u.2.1 t2',.ref b2] (decide (wlt v u)):=by
 rw [wlt_dec]
 by_cases e1:v.1=u.1
 ·rw [if_pos e1]
  refine .eq (by have q:=SeqAt.EqAt.int_int (A:=A) (s:=s) (v.1:Int) t (u.1:Int) t2; rw [e1] at q ⊢; simpa using q) ?_
  by_cases e2:v.2.1=u.2.1
  ·rw [if_pos e2]
   refine .eq (by have q:=SeqAt.EqAt.int_int (A:=A) (s:=s) (v.2.1:Int) t' (u.2.1:Int) t2'; rw [e2] at q ⊢; simpa using q) ?_
   have q:=eqAt_ints (A:=A) (s:=s) hu ht ht2 hi hi2
   by_cases e3:v.2.2=u.2.2
   ·have e4:decide (ll v.2.2 u.2.2)=false:=by rw [e3]; exact decide_eq_false (ll_irrefl _)
    rw [e4]
    rw [e3,decide_eq_true rfl] at q
    exact .eq q .nil
   ·rw [decide_eq_false (fun z=>e3 (map_cast_inj z))] at q
    refine .ne q (fun prog w E Q hq=>?_) rfl
    show wpAny (model prog w) A (compareOp .Lt (.ref b) (.ref b2)) Q E s
    refine HT.lt_tupInts ht ht2 hi hi2 hu ?_
    rw [lexLt_ll]
    exact hq
  ·rw [if_neg e2]
   refine .ne (by have q:=SeqAt.EqAt.int_int (A:=A) (s:=s) (v.2.1:Int) t' (u.2.1:Int) t2'; rwa [show ((v.2.1:Int) == (u.2.1:Int))=false from beq_eq_false_iff_ne.mpr (by omega)] at q) (fun prog w E Q hq=>?_) rfl
   refine HT.rcLt_int A s _ _ _ _ prog w E Q ?_
   have e3:decide ((v.2.1:Int)<(u.2.1:Int))=decide (v.2.1<u.2.1):=by simp
   rw [e3]
   exact hq
 ·rw [if_neg e1]
  refine .ne (by have q:=SeqAt.EqAt.int_int (A:=A) (s:=s) (v.1:Int) t (u.1:Int) t2; rwa [show ((v.1:Int) == (u.1:Int))=false from beq_eq_false_iff_ne.mpr (by omega)] at q) (fun prog w E Q hq=>?_) rfl
  refine HT.rcLt_int A s _ _ _ _ prog w E Q ?_
  have e3:decide ((v.1:Int)<(u.1:Int))=decide (v.1<u.1):=by simp
  rw [e3]
  exact hq
theorem lt_ways {x y:Value} {v u:Way} {Q:Value→Shared→Prop} (hu:A.units+1<cLine) (hx:WayAt s.heap x v) (hy:WayAt s.heap y u) (h:Q (.bool (decide (wlt v u))) s):wpAny (model prog w) A (richCompare .Lt x y) Q E s:=by
 obtain ⟨a,o,t,t',b,its,rfl,ho,hc,⟨n,hd⟩,ht,hi⟩:=hx.parts
 obtain ⟨a2,o2,t2,t2',b2,its2,rfl,ho2,hc2,⟨n2,hd2⟩,ht2,hi2⟩:=hy.parts
 obtain ⟨cls,dd,data,sl⟩:=o
 obtain ⟨cls2,dd2,data2,sl2⟩:=o2
 simp only at hc hd hc2 hd2
 subst hc hd hc2 hd2
 exact richCompare_meets_room (op:=.Lt) ⟨_,ho,rfl⟩ ⟨_,ho2,rfl⟩ PySem.F.slot_tuple_lt PySem.F.entry_tuple_lt (PySem.F.args_tuple_lt_2 _ _) (tuple_ltA a a2 _ _ n n2 dd dd2 sl sl2 (decide (wlt v u)))
  ⟨ho,ho2,lexA_way (A:=A.in1) (x:=.ref a) (y:=.ref a2) (by rw [Around.in1_units]; exact hu) ht hi ht2 hi2,show Value.bool (decide (wlt v u))≠Value.notImplemented∧Q (.bool (decide (wlt v u))) s from ⟨(fun x=>nomatch x),h⟩⟩ (by omega)
def Old (h h':Heap):Prop:=∀ b o,h.get? b=some o→h'.get? b=some o
theorem Old.keepT {h h':Heap} (k:Old h h'):KeepT h h':=fun a items ⟨o,ho,r⟩=>⟨o,k a o ho,r⟩
theorem min_loop {R:Result→Shared→Prop} {h0:Heap} {l I S:Addr} {xs:Array Value} {ws:List Way} (hh:A.handled=none) (hu:A.units+2<cLine) (k:WaysAt h0 xs.toList ws) (nI:h0.get? I=none) (nS:h0.get? S=none) (nIS:S≠I) (nIl:l≠I) (nSl:S≠l) :
  ∀ (m j:Nat) (s:Shared) (vb:Value) (v:Way) (c:Nat),xs.size - j=m→Old h0 s.heap→s.heap.IsListIter I l j→s.heap.IsList l xs→vb ∈ xs.toList→WayAt h0 vb v→v ∈ ws→(∀ u ∈ ws.take j,¬ wlt u v) →
  s.heap.get? S=some ⟨.type "list",none,.seq #[vb,vb] c,#[]⟩ →
  (∀ x u h' tk,x ∈ xs.toList→WayAt h0 x u→u ∈ ws→(∀ z ∈ ws,¬ wlt z u)→Old h0 h'→R (.ok (.ret x)) { s with heap:=h',toks:=tk })→codeAny (model prog w) A (.builtin "min.loop" ⟨[.ref I,.none,.ref S],[]⟩) R s:=by
 have W:=Walks.list (prog:=prog) (w:=w) (A:=A.in1) hh I l nIl xs
 have nm:(toString "min"++toString ".loop":String)="min.loop":=by decide
 have kl:xs.size=ws.length:=by rw [← Array.length_toList]; exact k.length
 intro m
 induction m with
 | zero =>
  intro j s vb v c hm ho hI hL hvb hv hvw hmin hS hR
  refine codeAny_builtin F.entry_min_loop ?_
  rw [Around.under_plainId F.plain_min_loop _]
  show wpAny _ A.in1 (seqItems? (.ref S) >>= _) _ _ s
  refine wpAny_bind (wpAny_seqItems hS rfl ?_)
  show wpAny _ A.in1 (tryCatch (pyNext (.ref I)) _ >>= _) _ _ s
  have hj:xs.size≤j:=by omega
  refine wpAny_bind (wpAny_tryCatch (wpAny_pyNext_list_end hh hI hL (Array.getElem?_eq_none hj) fun h' he'=>?_))
  have hS':=he' S _ nIS hS
  show wpAny _ A.in1 (updateSeq S (fun _=>#[]) >>= _) _ _ _
  refine wpAny_bind (wpAny_updateSeq hS' rfl (wpAny_bind (wpAny_letGo (wpAny_pure ?_))))
  have old:Old h0 (h'.update S (Obj.mapSeq fun _=>#[])):=fun b o e=>by
   have hb1:b≠I:=fun q=>by rw [q,nI] at e; cases e
   have hb2:S≠b:=fun q=>by rw [← q,nS] at e; cases e
   exact (Heap.get?_update_other _ _ hb2).trans (he' b o hb1 (ho b o e))
  refine hR vb v _ s.toks hvb hv hvw (fun z hz=>hmin z ?_) old
  rw [List.take_of_length_le (by omega)]
  exact hz
 | succ m ih =>
  intro j s vb v c hm ho hI hL hvb hv hvw hmin hS hR
  have hj:j<xs.size:=by omega
  refine codeAny_builtin F.entry_min_loop ?_
  rw [Around.under_plainId F.plain_min_loop _]
  show wpAny _ A.in1 (seqItems? (.ref S) >>= _) _ _ s
  refine wpAny_bind (wpAny_seqItems hS rfl ?_)
  show wpAny _ A.in1 (tryCatch (pyNext (.ref I)) _ >>= _) _ _ s
  refine wpAny_bind (wpAny_tryCatch (W.item j s _ _ hj ⟨hI,hL⟩ fun x h' tk hx st' kp=>?_))
  have ho':Old h0 h':=fun b o e=>kp b o (fun q=>by rw [List.mem_singleton.mp q,nI] at e; cases e) (ho b o e)
  have hS':=kp S _ (fun q=>nIS (List.mem_singleton.mp q)) hS
  have hxm:x ∈ xs.toList:=by rw [← Array.getElem?_toList] at hx; exact List.mem_of_getElem? hx
  have hwj:∃ u,ws[j]?=some u∧WayAt h0 x u:=by
   rw [← Array.getElem?_toList] at hx
   rw [k.eq,List.getElem?_map,hx]
   obtain ⟨u,hu',hq⟩:=k.mem x hxm
   exact ⟨wayV h0 x,rfl,by rw [wayV_eq hq]; exact hq⟩
  obtain ⟨u,eu,hxu⟩:=hwj
  have huw:u ∈ ws:=List.mem_of_getElem? eu
  have tk1:ws.take (j+1)=ws.take j++[u]:=by rw [List.take_add_one,eu]; rfl
  show wpAny _ A.in1 (tryCatch (holding [x,x] (richCompare .Lt x vb >>= _)) _ >>= _) _ _ _
  refine wpAny_bind (wpAny_tryCatch (wpAny_holding (wpAny_bind (lt_ways (by rw [Around.in1_units]; exact hu) (hxu.keep ho'.keepT) (hv.keep ho'.keepT) ?_))))
  refine wpAny_bind (wpAny_holding (wpAny_truthy_bool (wpAny_bind (wpAny_letGo (wpAny_pure ?_)))))
  by_cases hlt:wlt u v
  ·rw [decide_eq_true hlt]
   simp only [if_true]
   refine wpAny_bind (wpAny_updateSeq hS' rfl (wpAny_bind (wpAny_letGo ?_)))
   rw [nm]
   have ho2:Old h0 (h'.update S (Obj.mapSeq fun _=>#[x,x])):=fun b o e=>(Heap.get?_update_other _ _ (fun q:S=b=>by rw [← q,nS] at e; cases e)).trans (ho' b o e)
   refine wpAny_pure ⟨plainId_quiet F.plain_min_loop _,ih (j+1) _ x u _ (by omega) ho2 (st'.1.at fun o e=>(Heap.get?_update_other _ _ nIS).trans e) (st'.2.at fun o e=>(Heap.get?_update_other _ _ nSl).trans e) hxm hxu huw ?_ (Heap.get?_update_self _ hS' rfl) fun x2 u2 h2 t2 a1 a2 a3 a4 a5=>hR x2 u2 h2 t2 a1 a2 a3 a4 a5⟩
   intro z hz
   rw [tk1,List.mem_append,List.mem_singleton] at hz
   rcases hz with hz | rfl
   ·exact fun q=>hmin z hz (wlt_trans q hlt)
   ·exact wlt_irrefl _
  ·rw [decide_eq_false hlt]
   simp only [Bool.false_eq_true,if_false]
   refine wpAny_bind (wpAny_letGo ?_)
   rw [nm]
   refine wpAny_pure ⟨plainId_quiet F.plain_min_loop _,ih (j+1) _ vb v c (by omega) ho' st'.1 st'.2 hvb hv hvw ?_ hS' fun x2 u2 h2 t2 a1 a2 a3 a4 a5=>hR x2 u2 h2 t2 a1 a2 a3 a4 a5⟩
   intro z hz
   rw [tk1,List.mem_append,List.mem_singleton] at hz
   rcases hz with hz | rfl
   ·exact hmin z hz
   ·exact hlt
theorem min_ways {Q:Value→Shared→Prop} {l:Addr} {xs:List Value} {ws:List Way} (hh:A.handled=none) (hu:A.units+4<cLine) (hl:s.heap.IsList l xs.toArray) (k:WaysAt s.heap xs ws) (hne:xs≠[])
  (h:∀ x u h' tk,x ∈ xs→WayAt s.heap x u→u ∈ ws→(∀ z ∈ ws,¬ wlt z u)→Old s.heap h'→Q x { s with heap:=h',toks:=tk }):wpAny (model prog w) A (call (.builtin "min") [.ref l]) Q E s:=by
 have nm:(toString "min"++toString ".loop":String)="min.loop":=by decide
 refine call_function_tree F.kind_min F.plain_min F.entry_min (F.args_min1 _) ?_
 show wpAny _ A.in1 (Builtin.Builtins.bindParams "min" ["key","default"] 0 ⟨[],[]⟩ >>= _) _ _ s
 refine wpAny_bind (wpAny_of_eq (show Builtin.Builtins.bindParams "min" ["key","default"] 0 ⟨[],[]⟩=pure [none,none] from rfl) (wpAny_bind (wpAny_pure (wpAny_bind (wpAny_pyIter_list hl ?_)))))
 refine wpAny_bind (wpAny_newObj_type ?_)
 rw [nm]
 obtain ⟨x,r,rfl⟩:∃ x r,xs=x::r:=by
  cases xs with
  | nil=>exact absurd rfl hne
  | cons x r=>exact ⟨x,r,rfl⟩
 have lt:l<s.heap.objs.size:=by obtain ⟨_,e,_⟩:=hl; exact Heap.lt_size e
 refine wpAny_pure ⟨plainId_quiet F.plain_min_loop _,?_⟩
 refine codeAny_builtin F.entry_min_loop ?_
 rw [Around.under_plainId F.plain_min_loop _]
 have sz1:(s.heap.push { cls:=.type "list_iterator",data:=.fields #[.ref l,.int 0 0] }).objs.size=s.heap.objs.size+1:=Heap.size_push ..
 have hS:((s.heap.push { cls:=.type "list_iterator",data:=.fields #[.ref l,.int 0 0] }).push { cls:=.type "list",data:=.seq #[] }).get? (s.heap.push { cls:=.type "list_iterator",data:=.fields #[.ref l,.int 0 0] }).objs.size=some { cls:=.type "list",data:=.seq #[] }:=Heap.get?_push_size _ rfl
 have hI:((s.heap.push { cls:=.type "list_iterator",data:=.fields #[.ref l,.int 0 0] }).push { cls:=.type "list",data:=.seq #[] }).IsListIter s.heap.objs.size l 0:=⟨_,Heap.get?_push_of_some _ (Heap.get?_push_size _ rfl),rfl,rfl⟩
 have hL:=(hl.push { cls:=.type "list_iterator",data:=.fields #[.ref l,.int 0 0] }).push { cls:=.type "list",data:=.seq #[] }
 have old0:Old s.heap ((s.heap.push { cls:=.type "list_iterator",data:=.fields #[.ref l,.int 0 0] }).push { cls:=.type "list",data:=.seq #[] }):=fun b o e=>Heap.get?_push_of_some _ (Heap.get?_push_of_some _ e)
 have nI:s.heap.get? s.heap.objs.size=none:=Heap.get?_none_of_le (Nat.le_refl _)
 have nS:s.heap.get? (s.heap.push { cls:=.type "list_iterator",data:=.fields #[.ref l,.int 0 0] }).objs.size=none:=Heap.get?_none_of_le (by rw [sz1]; omega)
 have nIS:(s.heap.push { cls:=.type "list_iterator",data:=.fields #[.ref l,.int 0 0] }).objs.size≠s.heap.objs.size:=by rw [sz1]; omega
 have nIl:l≠s.heap.objs.size:=Nat.ne_of_lt lt
 have nSl:(s.heap.push { cls:=.type "list_iterator",data:=.fields #[.ref l,.int 0 0] }).objs.size≠l:=Nat.ne_of_gt (by rw [sz1]; exact Nat.lt_succ_of_lt lt)
 have W:=Walks.list (prog:=prog) (w:=w) (A:=A.in1) hh s.heap.objs.size l nIl (x::r).toArray
 show wpAny _ A.in1 (seqItems? (.ref _) >>= _) _ _ _
 refine wpAny_bind (wpAny_seqItems hS rfl ?_)
 show wpAny _ A.in1 (tryCatch (pyNext (.ref _)) _ >>= _) _ _ _
 refine wpAny_bind (wpAny_tryCatch (W.item 0 _ _ _ (by simp) ⟨hI,hL⟩ fun y h' tk hy st' kp=>?_))
 have ey:y=x:=by simpa using hy.symm
 subst ey
 have hS':=kp _ _ (fun q=>nIS (List.mem_singleton.mp q)) hS
 have ho':Old s.heap h':=fun b o e=>kp b o (fun q=>by rw [List.mem_singleton.mp q,nI] at e; cases e) (old0 b o e)
 cases k with
 | @cons _ v _ ws kv kr =>
  show wpAny _ A.in1 (updateSeq _ (fun _=>#[y,y]) >>= _) _ _ _
  refine wpAny_bind (wpAny_updateSeq hS' rfl ?_)
  rw [nm]
  have ho2:Old s.heap (h'.update (s.heap.push { cls:=.type "list_iterator",data:=.fields #[.ref l,.int 0 0] }).objs.size (Obj.mapSeq fun _=>#[y,y])):=fun b o e=>(Heap.get?_update_other _ _ (fun q=>by rw [← q,nS] at e; cases e)).trans (ho' b o e)
  refine wpAny_pure ⟨plainId_quiet F.plain_min_loop _,min_loop (h0:=s.heap) (ws:=v::ws) (xs:=(y::r).toArray) hh (by omega) (.cons kv kr) nI nS nIS nIl nSl _ 1 _ y v _ rfl ho2 (st'.1.at fun o e=>(Heap.get?_update_other _ _ nIS).trans e) (st'.2.at fun o e=>(Heap.get?_update_other _ _ nSl).trans e)
   List.mem_cons_self kv List.mem_cons_self ?_ (Heap.get?_update_self _ hS' rfl) fun x2 u2 h2 t2 a1 a2 a3 a4 a5=>?_⟩
  ·intro z hz
   have:z=v:=by simpa using hz
   rw [this]
   exact wlt_irrefl _
  ·exact h x2 u2 h2 t2 a1 a2 a3 a4 a5
end
end N2
namespace L2
open PySem PySem.Spec PyProof.Rows N2 Fr
def intsV (l:List Nat):List V:=l.map fun n:Nat=>V.int (n:Int)
def TupN (H:Hp) (a:Addr) (l:List Nat):Prop:=H a=some (.tup (intsV l))
def WayH (H:Hp) (a:Addr) (v:Way):Prop:=∃ o,H a=some (.tup [.int (v.1:Int),.int (v.2.1:Int),.ref o])∧TupN H o v.2.2
abbrev WaysH (H:Hp):List Addr→List Way→Prop:=Paired (WayH H)
theorem intsV_eq (l:List Nat):intsV l=(l.map fun n:Nat=>(n:Int)).map V.int:=by
 unfold intsV
 rw [List.map_map]
 rfl
theorem TupN.is {P:Program} {w:World} {H:Hp} {h:Heap} {a:Addr} {l:List Nat} (ok:HOk P w H h) (t:TupN H a l):∃ its:List Value,IsTup h a its.toArray∧IntsAre its (l.map fun n:Nat=>(n:Int)):=by
 obtain ⟨_,its,r,q⟩:=ok a _ t
 rw [intsV_eq] at r
 exact ⟨its,q,r.ints⟩
theorem WayH.is {P:Program} {w:World} {H:Hp} {h:Heap} {a:Addr} {v:Way} (ok:HOk P w H h) (t:WayH H a v):WayAt h (.ref a) v:=by
 obtain ⟨o,h1,h2⟩:=t
 obtain ⟨_,its,r,q⟩:=ok a _ h1
 obtain ⟨os,q2,i2⟩:=h2.is ok
 refine ⟨a,rfl,its.toArray,q,?_⟩
 simp only
 cases r with
 | cons r1 r =>
  cases r with
  | cons r2 r =>
   cases r with
   | cons r3 r =>
    cases r
    cases r3
    exact .cons r1 (.cons r2 (.cons ⟨o,os.toArray,rfl,q2,i2⟩ .nil))
theorem WaysH.is {P:Program} {w:World} {H:Hp} {h:Heap} (ok:HOk P w H h):∀ {as:List Addr} {ws:List Way},WaysH H as ws→WaysAt h (as.map Value.ref) ws
 | _,_,.nil=>.nil
 | _,_,.cons t r=>.cons (t.is ok) (WaysH.is ok r)
theorem vals_refs:∀ as:List Addr,Vals (as.map V.ref) (as.map Value.ref)
 | []=>.nil
 | a::as=>.cons rfl (vals_refs as)
theorem WaysH.length {H:Hp} {as:List Addr} {ws:List Way} (k:WaysH H as ws):as.length=ws.length:=Paired.length k
theorem WaysH.mem {H:Hp}:∀ {as:List Addr} {ws:List Way},WaysH H as ws→∀ a ∈ as,∃ v ∈ ws,WayH H a v
 | _,_,.nil,a,h=>by cases h
 | _,_,.cons t r,a,h=>by
  rcases List.mem_cons.mp h with rfl | h
  ·exact ⟨_,List.mem_cons_self,t⟩
  ·obtain ⟨v,hv,q⟩:=WaysH.mem r a h
   exact ⟨v,List.mem_cons_of_mem _ hv,q⟩
theorem refs_inj:∀ {us:List Value} {as:List Addr},us.Perm (as.map Value.ref)→∃ bs:List Addr,us=bs.map Value.ref∧bs.Perm as:=by
 intro us as h
 have hm:∀ u ∈ us,∃ b,u=Value.ref b:=fun u hu=>by
  obtain ⟨b,_,e⟩:=List.mem_map.mp (h.subset hu)
  exact ⟨b,e.symm⟩
 have key:∀ l:List Value,(∀ u ∈ l,∃ b,u=Value.ref b)→∃ bs:List Addr,l=bs.map Value.ref:=by
  intro l
  induction l with
  | nil=>intro _; exact ⟨[],rfl⟩
  | cons x l ih =>
   intro hx
   obtain ⟨b,e⟩:=hx x List.mem_cons_self
   obtain ⟨bs,es⟩:=ih fun u hu=>hx u (List.mem_cons_of_mem _ hu)
   exact ⟨b::bs,by rw [e,es]; rfl⟩
 obtain ⟨bs,rfl⟩:=key us hm
 refine ⟨bs,rfl,?_⟩
 have:=h.map (fun u:Value=>match u with | .ref a=>a | _=>0)
 rw [List.map_map,List.map_map] at this
 have e:((fun u:Value=>match u with | .ref a=>a | _=>0) ∘ Value.ref)=(id:Addr→Addr):=rfl
 rw [e,List.map_id,List.map_id] at this
 exact this
theorem WaysH.back {P:Program} {w:World} {H:Hp} {h:Heap} (ok:HOk P w H h):∀ {bs:List Addr} {ws:List Way},WaysAt h (bs.map Value.ref) ws→(∀ b ∈ bs,∃ v,WayH H b v)→WaysH H bs ws
 | [],_,k,_=>by cases k; exact .nil
 | b::bs,ws,k,hm=>by
  cases k with
  | cons k1 k2 =>
   obtain ⟨v,hv⟩:=hm b List.mem_cons_self
   have e:=(hv.is ok).inj k1
   subst e
   exact .cons hv (WaysH.back ok k2 fun c hc=>hm c (List.mem_cons_of_mem _ hc))
section
variable {X:Cx}
def rSortedW (K:PySem.W.Frag):List V→Hp→VK→Prop:=fun vs H Q=>∃ (a:Addr) (as:List Addr) (ws:List Way),vs=[V.ref a]∧SqL K H a (as.map V.ref)∧WaysH H as ws ∧
 ∀ (bs:List Addr) (p:Addr),bs.Perm as→WaysH H bs (sortW ws)→H p=none→Q (.ref p) (upd H p (.lst (bs.map V.ref)))
theorem cr_sortedW (hu:X.A.units+3<cLine):CallR X (.builtin "sorted") (rSortedW X.K):=by
 intro pins s σ H vs us Q I r h
 obtain ⟨a,as,ws,rfl,hs,hw,q⟩:=h
 obtain ⟨its,rv,hl,hz⟩:=I.list hs
 have ei:=refs_at rv
 subst ei
 rw [Vals.ref1 r]
 refine sorted_ways hl.isList (hw.is I.hok) hu (by simpa using hz) fun out p1 p2=>?_
 obtain ⟨ep,he'⟩:=PyProof.Rows.sortedAll_at s.heap (as.map Value.ref) out
 obtain ⟨bs,eb,pb⟩:=refs_inj p1
 have hwb:WaysH H bs (sortW ws):=WaysH.back I.hok (by rw [← eb]; exact p2) fun b hb=>(hw.mem b (pb.subset hb)).elim fun v hv=>⟨v,hv.2⟩
 have hlen:(bs.map V.ref).length≤sizeLine:=by
  rw [List.length_map,pb.length_eq]
  simpa using hz
 exact ⟨.ref _,upd H (s.heap.objs.size+1) (.lst (bs.map V.ref)),I.laid (t':=s.toks) (fun _ _=>PyProof.Rows.sortedAll_old) (Nat.le_succ _) ⟨hlen,out.toList,ep,by rw [eb]; exact vals_refs bs,he'⟩,rfl,q bs _ pb hwb (I.hok.fresh (Nat.le_succ _))⟩
def rMinW (K:PySem.W.Frag):List V→Hp→VK→Prop:=fun vs H Q=>∃ (a:Addr) (as:List Addr) (ws:List Way),vs=[V.ref a]∧SqL K H a (as.map V.ref)∧WaysH H as ws∧as≠[] ∧
 ∀ (b:Addr) (v:Way),b ∈ as→WayH H b v→v ∈ ws→(∀ u ∈ ws,¬ wlt u v)→Q (.ref b) H
theorem cr_minW (hc:X.calm=true) (hu:X.A.units+4<cLine):CallR X (.builtin "min") (rMinW X.K):=by
 intro pins s σ H vs us Q I r h
 obtain ⟨a,as,ws,rfl,hs,hw,hne,q⟩:=h
 obtain ⟨its,rv,hl,hz⟩:=I.list hs
 have ei:=refs_at rv
 subst ei
 rw [Vals.ref1 r]
 refine min_ways (I.ok.hd hc) hu hl.isList (hw.is I.hok) (by simpa using hne) fun x u h' tk hx hxu huw hmin old=>?_
 obtain ⟨b,hb,rfl⟩:=List.mem_map.mp hx
 obtain ⟨v,hv,hbv⟩:=hw.mem b hb
 have e:=(hbv.is I.hok).inj hxu
 subst e
 exact ⟨.ref b,H,I.kept old,rfl,q b v hb hbv huw hmin⟩
end
end L2
namespace N2
open PySem PyProof.Rows L2
section
variable {prog:Program} {w:World} {A:Around} {E:Value→Shared→Prop} {s:Shared}
theorem own_it:Builtin.Dict_items.ownsTuple "dict_itemiterator"=true:=by decide
theorem own_va:Builtin.Dict_items.ownsTuple "dict_valueiterator"=false:=by decide
theorem val_item {it d:Addr} {i n ep:Nat} {od:Obj} {es:Array DictEntry} {en:DictEntry} {Q:Option Value→Shared→Prop} (hit:s.heap.IsValIter it d i n ep) (hod:s.heap.get? d=some od) (hdd:od.data=.dict es ep)
  (hsz:es.size=n) (hx:es[i]?=some en) (hQ:∀ h',h'.IsValIter it d (i+1) n ep→Heap.SameBut it s.heap h'→Q (some en.val) { s with heap:=h' }):wpAny (model prog w) A (pyNext (.ref it)) Q E s:=by
 obtain ⟨o,ho,hc,hd⟩:=id hit
 unfold pyNext
 refine wpAny_bind (wpAny_attempt (wpAny_callSpecial?_slot (name:=Str.ofString "__next__") hit.typeIs F.slot_dict_valueiterator_next (wpAny_call_entry F.slot_dict_valueiterator_next hit.typeIs F.entry_dict_valueiterator_next (wpAny_bind (wpAny_pure (wpAny_bind (wpAny_bind ?_)))) (F.args_dict_valueiterator_next_1 _))))
 first | refine wpAny_bind (wpAny_typeNameOfWhole_valiter hit.typeIs (wpAny_pure (wpAny_bind (wpAny_fieldsOf ho hd ?_)))) | refine wpAny_bind (wpAny_typeNameOf_valiter hit.typeIs (wpAny_pure (wpAny_bind (wpAny_fieldsOf ho hd ?_))))
 simp only [own_va,Bool.false_eq_true,if_false]
 show wpAny _ _ (if (Value.ref d == Value.none)=true then _ else _) _ _ s
 rw [if_neg (show ¬ ((Value.ref d == Value.none)=true) from Bool.false_ne_true)]
 refine wpAny_bind (wpAny_pure (wpAny_bind (wpAny_dictEntries hod hdd ?_)))
 rw [if_neg (by rw [hsz]; simp)]
 refine wpAny_bind (wpAny_pure (wpAny_bind (wpAny_dictEpoch hod hdd ?_)))
 rw [if_neg (by simp)]
 refine wpAny_pure ?_
 obtain ⟨hlt',hen⟩:=Array.getElem?_eq_some_iff.mp hx
 simp only [show ¬ ((i:Int)<0) from by omega,if_false,Int.toNat_natCast,Array.getElem?_eq_getElem hlt']
 refine wpAny_bind ?_
 first | refine wpAny_bind (wpAny_typeNameOfWhole_valiter hit.typeIs (wpAny_pure (wpAny_bind (wpAny_isOneOf_valiter hit.typeIs ?_)))) | refine wpAny_bind (wpAny_typeNameOf_valiter hit.typeIs (wpAny_pure (wpAny_bind (wpAny_isOneOf_valiter hit.typeIs ?_))))
 show wpAny _ _ (setField (.ref it) 1 (rawInt ((i:Int)+1)) >>= _) _ _ s
 refine wpAny_bind (wpAny_setField ho hd (by simp) ?_)
 have hit':(s.heap.update it (Obj.mapFields (·.setIfInBounds 1 (rawInt ((i:Int)+1))))).IsValIter it d (i+1) n ep :=
  ⟨_,Heap.get?_update_self _ ho (Obj.isFreed_of_fields (Obj.data_mapFields hd _)),(Obj.cls_mapFields ..).trans hc,by rw [Obj.data_mapFields hd]; simp [rawInt]⟩
 refine wpAny_bind (wpAny_holding (wpAny_bind (wpAny_isOneOf_valiter (s:={ s with heap:=s.heap.update it (Obj.mapFields (·.setIfInBounds 1 (rawInt ((i:Int)+1)))) }) hit'.typeIs ?_)))
 refine wpAny_bind (wpAny_isOneOf_valiter (s:={ s with heap:=s.heap.update it (Obj.mapFields (·.setIfInBounds 1 (rawInt ((i:Int)+1)))) }) hit'.typeIs ?_)
 show wpAny _ _ (pure es[i].val) _ _ _
 rw [hen]
 exact wpAny_pure (wpAny_pure ⟨_,rfl,wpAny_pure (hQ _ hit' (Heap.SameBut.update ..))⟩)
theorem val_end {it d:Addr} {i n ep:Nat} {od:Obj} {es:Array DictEntry} {Q:Option Value→Shared→Prop} (hh:A.handled=none) (hit:s.heap.IsValIter it d i n ep) (hod:s.heap.get? d=some od) (hdd:od.data=.dict es ep)
  (hsz:es.size=n) (hge:n≤i) (hQ:∀ h',Heap.ExtBut it s.heap h'→Q none { s with heap:=h' }):wpAny (model prog w) A (pyNext (.ref it)) Q E s:=by
 obtain ⟨o,ho,hc,hd⟩:=id hit
 unfold pyNext
 refine wpAny_bind (wpAny_attempt (wpAny_callSpecial?_slot (name:=Str.ofString "__next__") hit.typeIs F.slot_dict_valueiterator_next (wpAny_call_entry F.slot_dict_valueiterator_next hit.typeIs F.entry_dict_valueiterator_next (wpAny_bind (wpAny_pure (wpAny_bind (wpAny_bind ?_)))) (F.args_dict_valueiterator_next_1 _))))
 first | refine wpAny_bind (wpAny_typeNameOfWhole_valiter hit.typeIs (wpAny_pure (wpAny_bind (wpAny_fieldsOf ho hd ?_)))) | refine wpAny_bind (wpAny_typeNameOf_valiter hit.typeIs (wpAny_pure (wpAny_bind (wpAny_fieldsOf ho hd ?_))))
 simp only [own_va,Bool.false_eq_true,if_false]
 show wpAny _ _ (if (Value.ref d == Value.none)=true then _ else _) _ _ s
 rw [if_neg (show ¬ ((Value.ref d == Value.none)=true) from Bool.false_ne_true)]
 refine wpAny_bind (wpAny_pure (wpAny_bind (wpAny_dictEntries hod hdd ?_)))
 rw [if_neg (by rw [hsz]; simp)]
 refine wpAny_bind (wpAny_pure (wpAny_bind (wpAny_dictEpoch hod hdd ?_)))
 rw [if_neg (by simp)]
 refine wpAny_pure ?_
 have hge':es.size≤i:=by rw [hsz]; exact hge
 simp only [show ¬ ((i:Int)<0) from by omega,if_false,Int.toNat_natCast,Array.getElem?_eq_none hge']
 refine wpAny_bind ?_
 first | refine wpAny_bind (wpAny_typeNameOfWhole_valiter hit.typeIs (wpAny_pure ?_)) | refine wpAny_bind (wpAny_typeNameOf_valiter hit.typeIs (wpAny_pure ?_))
 show wpAny _ _ (setField (.ref it) 0 .none >>= _) _ _ s
 refine wpAny_bind (wpAny_setField ho hd (by simp) ?_)
 show wpAny _ _ (newExc (.type "StopIteration") [] >>= _) _ _ _
 refine wpAny_bind ?_
 simp only [newExc,newTuple]
 refine wpAny_bind (wpAny_newObj_type ?_ (by size_fits))
 refine wpAny_bind (m:=firstArgMember _ _) (wpAny_of_eq (a:=Value.none) (by first | rfl | (simp only [firstArgMember]; rfl)) ?_)
 refine wpAny_newObj_type ?_ (by size_fits)
 simp only [raiseNew]
 refine wpAny_bind (wpAny_handled ?_)
 rw [show A.in1.handled=none from hh]
 refine wpAny_bind (wpAny_pure (wpAny_throw ?_))
 refine wpAny_bind (wpAny_isInstance (T:="StopIteration") (b:=true) ⟨_,Heap.get?_push_size _ rfl,rfl⟩ isSubtype_stop ?_)
 exact wpAny_pure (hQ _ (((Heap.SameBut.update ..).extBut.push _).push _))
theorem it_end {it d:Addr} {i n ep:Nat} {ok ov:Value} {od:Obj} {es:Array DictEntry} {Q:Option Value→Shared→Prop} (hh:A.handled=none) (hit:IsItemIter s.heap it d i n ep ok ov) (hod:s.heap.get? d=some od) (hdd:od.data=.dict es ep)
  (hsz:es.size=n) (hge:n≤i) (hQ:∀ h',Heap.ExtBut it s.heap h'→Q none { s with heap:=h' }):wpAny (model prog w) A (pyNext (.ref it)) Q E s:=by
 have hT:s.TypeIs (.ref it) "dict_itemiterator":=⟨_,hit,rfl⟩
 unfold pyNext
 refine wpAny_bind (wpAny_attempt (wpAny_callSpecial?_slot (name:=Str.ofString "__next__") hT F.slot_dict_itemiterator_next (wpAny_call_entry F.slot_dict_itemiterator_next hT F.entry_dict_itemiterator_next (wpAny_bind (wpAny_pure (wpAny_bind (wpAny_bind ?_)))) (F.args_dict_itemiterator_next_1 _))))
 first | refine wpAny_bind (wpAny_typeNameOfWhole_itemiter hT (wpAny_pure (wpAny_bind (wpAny_fieldsOf hit rfl ?_)))) | refine wpAny_bind (wpAny_typeNameOf_itemiter hT (wpAny_pure (wpAny_bind (wpAny_fieldsOf hit rfl ?_))))
 simp only [own_it,if_true]
 show wpAny _ _ (if (Value.ref d == Value.none)=true then _ else _) _ _ s
 rw [if_neg (show ¬ ((Value.ref d == Value.none)=true) from Bool.false_ne_true)]
 refine wpAny_bind (wpAny_pure (wpAny_bind (wpAny_dictEntries hod hdd ?_)))
 rw [if_neg (by rw [hsz]; simp)]
 refine wpAny_bind (wpAny_pure (wpAny_bind (wpAny_dictEpoch hod hdd ?_)))
 rw [if_neg (by simp)]
 refine wpAny_pure ?_
 have hge':es.size≤i:=by rw [hsz]; exact hge
 simp only [show ¬ ((i:Int)<0) from by omega,if_false,Int.toNat_natCast,Array.getElem?_eq_none hge']
 refine wpAny_bind ?_
 first | refine wpAny_bind (wpAny_typeNameOfWhole_itemiter hT (wpAny_pure ?_)) | refine wpAny_bind (wpAny_typeNameOf_itemiter hT (wpAny_pure ?_))
 show wpAny _ _ (setField (.ref it) 2 .none >>= _) _ _ s
 refine wpAny_bind (wpAny_setField hit rfl (by simp) ?_)
 show wpAny _ _ (newExc (.type "StopIteration") [] >>= _) _ _ _
 refine wpAny_bind ?_
 simp only [newExc,newTuple]
 refine wpAny_bind (wpAny_newObj_type ?_ (by size_fits))
 refine wpAny_bind (m:=firstArgMember _ _) (wpAny_of_eq (a:=Value.none) (by first | rfl | (simp only [firstArgMember]; rfl)) ?_)
 refine wpAny_newObj_type ?_ (by size_fits)
 simp only [raiseNew]
 refine wpAny_bind (wpAny_handled ?_)
 rw [show A.in1.handled=none from hh]
 refine wpAny_bind (wpAny_pure (wpAny_throw ?_))
 refine wpAny_bind (wpAny_isInstance (T:="StopIteration") (b:=true) ⟨_,Heap.get?_push_size _ rfl,rfl⟩ isSubtype_stop ?_)
 exact wpAny_pure (hQ _ (((Heap.SameBut.update ..).extBut.push _).push _))
theorem pair_from {it d:Addr} {i n ep:Nat} {ok ov kx vx:Value} {Q:Value→Shared→Prop} (hit:IsItemIter s.heap it d i n ep ok ov)
  (hQ:∀ h',IsItemIterOut h' it d i n ep kx vx s.heap.objs.size→h'.get? s.heap.objs.size=some { cls:=.type "tuple",data:=.seq #[kx,vx] }→h'.objs.size=s.heap.objs.size+1 →
   (∀ b o,b≠it→s.heap.get? b=some o→h'.get? b=some o)→Q (.ref s.heap.objs.size) { s with heap:=h' }):wpAny (model prog w) A (Builtin.Dict_items.pairFromOwner (.ref it) 6 kx vx) Q E s:=by
 have lt:it<s.heap.objs.size:=Heap.lt_size hit
 have ne:s.heap.objs.size≠it:=Nat.ne_of_gt lt
 unfold Builtin.Dict_items.pairFromOwner
 refine wpAny_bind (wpAny_newTuple ?_)
 have g0:IsItemIter (s.heap.push { cls:=.type "tuple",data:=.seq #[kx,vx] }) it d i n ep ok ov:=Heap.get?_push_of_some _ hit
 have t0:(s.heap.push { cls:=.type "tuple",data:=.seq #[kx,vx] }).get? s.heap.objs.size=some { cls:=.type "tuple",data:=.seq #[kx,vx] }:=Heap.get?_push_size _ rfl
 have z0:(s.heap.push { cls:=.type "tuple",data:=.seq #[kx,vx] }).objs.size=s.heap.objs.size+1:=Heap.size_push ..
 have k0:∀ b o,b≠it→s.heap.get? b=some o→(s.heap.push { cls:=.type "tuple",data:=.seq #[kx,vx] }).get? b=some o:=fun b o _ e=>Heap.get?_push_of_some _ e
 show wpAny _ _ (Builtin.Dict_items.ownedTupleIsFree (.ref it) >>= _) _ _ { s with heap:=s.heap.push { cls:=.type "tuple",data:=.seq #[kx,vx] } }
 generalize s.heap.push { cls:=.type "tuple",data:=.seq #[kx,vx] }=h2 at g0 t0 z0 k0
 refine wpAny_bind ?_
 unfold Builtin.Dict_items.ownedTupleIsFree
 refine wpAny_bind (wpAny_field g0 rfl (x:=.none) rfl (wpAny_pure ?_))
 simp only [if_true]
 refine wpAny_bind (wpAny_field g0 rfl (x:=ok) rfl (wpAny_bind (wpAny_field g0 rfl (x:=ov) rfl ?_)))
 refine wpAny_bind (wpAny_setField_rec g0 (by simp) fun h3 g3 s3=>?_)
 refine wpAny_bind (wpAny_setField_rec (show IsItemIter h3 it d i n ep kx ov from g3) (by simp) fun h4 g4 s4=>?_)
 refine wpAny_bind (wpAny_setField_rec (show IsItemIter h4 it d i n ep kx vx from g4) (by simp) fun h5 g5 s5=>?_)
 refine wpAny_bind (wpAny_setField_rec (show IsItemIterOut h5 it d i n ep kx vx s.heap.objs.size from g5) (by simp) fun h6 g6 s6=>?_)
 have kp:∀ b o,b≠it→h2.get? b=some o→h6.get? b=some o:=fun b o hb e=>Heap.SameBut.extBut s6 b o hb (Heap.SameBut.extBut s5 b o hb (Heap.SameBut.extBut s4 b o hb (Heap.SameBut.extBut s3 b o hb e)))
 refine wpAny_bind (wpAny_letGo (wpAny_pure (hQ h6 g6 (kp _ _ ne t0) ?_ fun b o hb e=>kp b o hb (k0 b o hb e))))
 exact (s6.1.trans (s5.1.trans (s4.1.trans s3.1))).trans z0
theorem it_item {it d:Addr} {i n ep:Nat} {ok ov:Value} {od:Obj} {es:Array DictEntry} {en:DictEntry} {Q:Option Value→Shared→Prop} (hit:IsItemIter s.heap it d i n ep ok ov) (hod:s.heap.get? d=some od) (hdd:od.data=.dict es ep)
  (hsz:es.size=n) (hx:es[i]?=some en)
  (hQ:∀ h',IsItemIterOut h' it d (i+1) n ep en.key en.val s.heap.objs.size→h'.get? s.heap.objs.size=some { cls:=.type "tuple",data:=.seq #[en.key,en.val] }→h'.objs.size=s.heap.objs.size+1 →
   (∀ b o,b≠it→s.heap.get? b=some o→h'.get? b=some o)→Q (some (.ref s.heap.objs.size)) { s with heap:=h' }):wpAny (model prog w) A (pyNext (.ref it)) Q E s:=by
 have hT:s.TypeIs (.ref it) "dict_itemiterator":=⟨_,hit,rfl⟩
 unfold pyNext
 refine wpAny_bind (wpAny_attempt (wpAny_callSpecial?_slot (name:=Str.ofString "__next__") hT F.slot_dict_itemiterator_next (wpAny_call_entry F.slot_dict_itemiterator_next hT F.entry_dict_itemiterator_next (wpAny_bind (wpAny_pure (wpAny_bind (wpAny_bind ?_)))) (F.args_dict_itemiterator_next_1 _))))
 first | refine wpAny_bind (wpAny_typeNameOfWhole_itemiter hT (wpAny_pure (wpAny_bind (wpAny_fieldsOf hit rfl ?_)))) | refine wpAny_bind (wpAny_typeNameOf_itemiter hT (wpAny_pure (wpAny_bind (wpAny_fieldsOf hit rfl ?_))))
 simp only [own_it,if_true]
 show wpAny _ _ (if (Value.ref d == Value.none)=true then _ else _) _ _ s
 rw [if_neg (show ¬ ((Value.ref d == Value.none)=true) from Bool.false_ne_true)]
 refine wpAny_bind (wpAny_pure (wpAny_bind (wpAny_dictEntries hod hdd ?_)))
 rw [if_neg (by rw [hsz]; simp)]
 refine wpAny_bind (wpAny_pure (wpAny_bind (wpAny_dictEpoch hod hdd ?_)))
 rw [if_neg (by simp)]
 refine wpAny_pure ?_
 obtain ⟨hlt',hen⟩:=Array.getElem?_eq_some_iff.mp hx
 simp only [show ¬ ((i:Int)<0) from by omega,if_false,Int.toNat_natCast,Array.getElem?_eq_getElem hlt']
 refine wpAny_bind ?_
 first | refine wpAny_bind (wpAny_typeNameOfWhole_itemiter hT (wpAny_pure (wpAny_bind (wpAny_isOneOf_itemiter hT ?_)))) | refine wpAny_bind (wpAny_typeNameOf_itemiter hT (wpAny_pure (wpAny_bind (wpAny_isOneOf_itemiter hT ?_))))
 show wpAny _ _ (setField (.ref it) 3 (rawInt ((i:Int)+1)) >>= _) _ _ s
 refine wpAny_bind (wpAny_setField_rec hit (by simp) fun h1 e1 s1=>?_)
 have g1:IsItemIter h1 it d (i+1) n ep ok ov:=by
  have e:((i+1:Nat):Int)=(i:Int)+1:=by omega
  unfold IsItemIter
  rw [e]
  simpa [rawInt] using e1
 have hT1:Shared.TypeIs { s with heap:=h1 } (.ref it) "dict_itemiterator":=⟨_,g1,rfl⟩
 have z1:h1.objs.size=s.heap.objs.size:=s1.1
 refine wpAny_bind (wpAny_holding (wpAny_bind (wpAny_isOneOf_itemiter hT1 (wpAny_bind (wpAny_isOneOf_itemiter hT1 ?_)))))
 show wpAny _ _ (Builtin.Dict_items.pairFromOwner (.ref it) 6 es[i].key es[i].val) _ _ { s with heap:=h1 }
 rw [hen]
 refine pair_from (s:={ s with heap:=h1 }) g1 fun h6 a1 a2 a3 a4=>?_
 simp only at a1 a2 a3 a4
 rw [z1] at a1 a2 a3
 simp only [z1]
 exact wpAny_pure ⟨_,rfl,wpAny_pure (hQ h6 a1 a2 a3 fun b o hb e=>a4 b o hb (Heap.SameBut.extBut s1 b o hb e))⟩
end
end N2
namespace N2
open PySem PyProof.Rows
section
variable {prog:Program} {w:World} {K:Type} [DecidableEq K] {knd:HeapKind prog w K} {A:Around} {E:Value→Shared→Prop} {s:Shared}
theorem setdef_heap {d a:Addr} {xs:List (K×Addr×Value)} {k:K} {v:Value} {Q:Value→Shared→Prop} (hu:knd.room A) (hkey:knd.is s.heap k a) (hm:s.heap.DictOfH knd d xs) (hsz:xs.length≤sizeLine)
  (h1:∀ p,atKey xs k=some p→Q p.2 { s with toks:=s.toks+knd.draws k })
  (h2:atKey xs k=none→∀ h',h'.DictOfH knd d (xs++[(k,a,v)])→Heap.SameBut d s.heap h'→Q v { s with heap:=h',toks:=s.toks+knd.draws k }):wpAny (model prog w) A (dictSetDefault d (.ref a) v) Q E s:=by
 obtain ⟨o,es,ep,ho,hc,hd,he,his,hn⟩:=hm
 unfold dictSetDefault
 try with_reducible refine wpAny_holding ?_
 refine wpAny_bind (knd.pyHash hu hkey (wpAny_bind (wpAny_dictFind_heap (s:={ s with toks:=s.toks+knd.draws k }) hu hkey ho hd he his hn (fun hno=>?_) fun j p hj=>?_)))
 ·have hnot:k ∉ xs.map (·.1):=not_mem_keys_of_get hno
  refine wpAny_bind (wpAny_rule (wpAny_bind (wpAny_updateDictKeys (hz:=by have e:=size_of_entries he; omega) (s:={ s with toks:=s.toks+knd.draws k }) ho hd (wpAny_pure (h2 (atKey_none_of_get hno) _ ⟨_,_,ep+1,Heap.get?_update_self _ ho (Obj.isFreed_of_dict (Obj.data_mapDictKeys hd _)),
   hc.mapDictKeys _,Obj.data_mapDictKeys hd _,?_,?_,?_⟩ (Heap.SameBut.update ..))))))
  ·simp [he,entryOfKey]
  ·intro x hx
   rcases List.mem_append.mp hx with hx | hx
   ·exact knd.keeps (his x hx) ho hd (Heap.SameBut.update ..)
   ·rw [List.mem_singleton.mp hx]
    exact knd.keeps hkey ho hd (Heap.SameBut.update ..)
  ·rw [List.map_append,List.nodup_append]
   refine ⟨hn,by simp,fun x hx y hy e=>hnot ?_⟩
   have ey:y=k:=by simpa using hy
   rw [← ey,← e]
   exact hx
 ·refine wpAny_bind (wpAny_dictEntries (s:={ s with toks:=s.toks+knd.draws k }) ho hd ?_)
  rw [entry_at he j,hj]
  exact wpAny_bind (wpAny_rule (wpAny_pure (h1 p (atKey_of_get hn hj))))
theorem call_setdef {d a:Addr} {xs:List (K×Addr×Value)} {k:K} {v:Value} {Q:Value→Shared→Prop} (hu:knd.room A.in1) (hkey:knd.is s.heap k a) (hm:s.heap.DictOfH knd d xs) (hd:(d == sysModules)=false) (hsz:xs.length≤sizeLine)
  (h1:∀ p,atKey xs k=some p→Q p.2 { s with toks:=s.toks+knd.draws k })
  (h2:atKey xs k=none→∀ h',h'.DictOfH knd d (xs++[(k,a,v)])→Heap.SameBut d s.heap h'→Q v { s with heap:=h',toks:=s.toks+knd.draws k }) :
  wpAny (model prog w) A (call (.builtin "dict.setdefault") [.ref d,.ref a,v]) Q E s:=by
 refine wpAny_call_entry F.slot_dict_setdefault hm.typeIs F.entry_dict_setdefault ?_ (F.args_dict_setdefault_3 _ _ _)
 unfold Builtin.«dict.setdefault»
 refine wpAny_bind ?_
 unfold Builtin.Dict.keyAndDefault
 refine wpAny_bind (wpAny_notOrdered_dict hm.typeIs ?_)
 show wpAny _ _ (pure (d,Value.ref a,some v)) _ _ s
 refine wpAny_pure ?_
 show wpAny _ _ (if (d == sysModules)=true then _ else (dictSetDefault d (.ref a) v >>= _)) _ _ s
 rw [if_neg (by rw [hd]; exact Bool.false_ne_true)]
 exact wpAny_bind (setdef_heap hu hkey hm hsz (fun p hp=>wpAny_pure ⟨p.2,rfl,h1 p hp⟩) fun hn h' hm' hs'=>wpAny_pure ⟨v,rfl,h2 hn h' hm' hs'⟩)
theorem items_view {d:Addr} {o:Obj} {Q:Value→Shared→Prop} (hd:(d == sysModules)=false) (ho:s.heap.get? d=some o) (hc:o.ExactDict)
  (h:Q (.ref s.heap.objs.size) { s with heap:=s.heap.push { cls:=.type "dict_items",data:=.fields #[.ref d] } }):wpAny (model prog w) A (call (.builtin "dict.items") [.ref d]) Q E s:=by
 have hT:s.TypeIs (.ref d) "dict":=⟨o,ho,hc.1⟩
 refine wpAny_call_entry F.slot_dict_items hT F.entry_dict_items ?_ (F.args_dict_items_1 _)
 unfold Builtin.«dict.items»
 refine wpAny_bind ?_
 unfold Builtin.Dict.noArgs
 refine wpAny_bind (wpAny_notOrdered_dict hT ?_)
 show wpAny _ _ (pure d) _ _ s
 refine wpAny_pure ?_
 show wpAny _ _ (Builtin.Dict.showsAll d >>= _) _ _ s
 unfold Builtin.Dict.showsAll
 rw [if_neg (by rw [hd]; exact Bool.false_ne_true)]
 exact wpAny_bind (wpAny_pure (wpAny_bind (wpAny_newObj_type (wpAny_pure ⟨_,rfl,h⟩))))
theorem values_view {d:Addr} {o:Obj} {Q:Value→Shared→Prop} (hd:(d == sysModules)=false) (ho:s.heap.get? d=some o) (hc:o.ExactDict)
  (h:Q (.ref s.heap.objs.size) { s with heap:=s.heap.push { cls:=.type "dict_values",data:=.fields #[.ref d] } }):wpAny (model prog w) A (call (.builtin "dict.values") [.ref d]) Q E s:=by
 have hT:s.TypeIs (.ref d) "dict":=⟨o,ho,hc.1⟩
 refine wpAny_call_entry F.slot_dict_values hT F.entry_dict_values ?_ (F.args_dict_values_1 _)
 refine wpAny_bind ?_
 unfold Builtin.Dict.noArgs
 refine wpAny_bind (wpAny_notOrdered_dict hT ?_)
 show wpAny _ _ (pure d) _ _ s
 refine wpAny_pure ?_
 show wpAny _ _ (Builtin.Dict.showsAll d >>= _) _ _ s
 unfold Builtin.Dict.showsAll
 rw [if_neg (by rw [hd]; exact Bool.false_ne_true)]
 exact wpAny_bind (wpAny_pure (wpAny_bind (wpAny_newObj_type (wpAny_pure ⟨_,rfl,h⟩))))
theorem iter_values {v d:Addr} {o:Obj} {es:Array DictEntry} {ep:Nat} {Q:Value→Shared→Prop} (hv:s.heap.IsValuesView v d) (ho:s.heap.get? d=some o) (hdat:o.data=.dict es ep)
  (hQ:Q (.ref s.heap.objs.size) { s with heap:=s.heap.push { cls:=.type "dict_valueiterator",data:=.fields #[.ref d,.int 0 0,.int es.size 0,.int ep 0] } }):wpAny (model prog w) A (pyIter (.ref v)) Q E s:=by
 obtain ⟨ov,hov,hcv,hdv⟩:=id hv
 refine wpAny_pyIter_slot hv.typeIs F.slot_dict_values_iter (wpAny_call_entry F.slot_dict_values_iter hv.typeIs F.entry_dict_values_iter ?_ (F.args_dict_values_iter_1 _))
 unfold Builtin.«dict_values.__iter__»
 refine wpAny_bind (wpAny_pure (wpAny_bind ?_))
 unfold Builtin.Dict_items.dictOf
 refine wpAny_bind (wpAny_field hov hdv (x:=.ref d) rfl (wpAny_pure (wpAny_bind ?_)))
 unfold Builtin.Dict_items.newIterator
 refine wpAny_bind (wpAny_dictEntries ho hdat (wpAny_bind (wpAny_dictEpoch ho hdat ?_)))
 simp only [own_va,Bool.false_eq_true,if_false]
 refine wpAny_newObj_type (wpAny_pure ⟨_,rfl,"dict_valueiterator",_,⟨_,Heap.get?_push_size _ rfl,rfl⟩,F.slot_dict_valueiterator_next.lookup,?_⟩)
 simpa [rawInt] using hQ
theorem iter_items {v d:Addr} {o:Obj} {es:Array DictEntry} {ep:Nat} {Q:Value→Shared→Prop} (hv:s.heap.IsItemsView v d) (ho:s.heap.get? d=some o) (hdat:o.data=.dict es ep)
  (hQ:Q (.ref s.heap.objs.size) { s with heap:=s.heap.push { cls:=.type "dict_itemiterator",data:=.fields #[.none,.bool false,.ref d,.int 0 0,.int es.size 0,.int ep 0,.none,.none] } }):wpAny (model prog w) A (pyIter (.ref v)) Q E s:=by
 obtain ⟨ov,hov,hcv,hdv⟩:=id hv
 refine wpAny_pyIter_slot hv.typeIs F.slot_dict_items_iter (wpAny_call_entry F.slot_dict_items_iter hv.typeIs F.entry_dict_items_iter ?_ (F.args_dict_items_iter_1 _))
 unfold Builtin.«dict_items.__iter__»
 refine wpAny_bind (wpAny_pure (wpAny_bind ?_))
 unfold Builtin.Dict_items.dictOf
 refine wpAny_bind (wpAny_field hov hdv (x:=.ref d) rfl (wpAny_pure (wpAny_bind ?_)))
 unfold Builtin.Dict_items.newIterator
 refine wpAny_bind (wpAny_dictEntries ho hdat (wpAny_bind (wpAny_dictEpoch ho hdat ?_)))
 simp only [own_it,if_true]
 refine wpAny_newObj_type (wpAny_pure ⟨_,rfl,"dict_itemiterator",_,⟨_,Heap.get?_push_size _ rfl,rfl⟩,F.slot_dict_itemiterator_next.lookup,?_⟩)
  (by simp only [sizeOk,Builtin.Dict_items.ownedTupleFields,List.size_toArray,List.length_append,List.length_cons,List.length_nil,sizeLine_eq]; omega)
 simpa [rawInt,Builtin.Dict_items.ownedTupleFields] using hQ
end
end N2
namespace L2
open PySem PySem.Spec PyProof.Rows N2 Fr
def onV:Option Nat→V
 | none=>.non
 | some f=>.int (f:Int)
def onI:Option Nat→I2
 | none=>.non
 | some f=>.int (f:Int)
def gk (k:GKey):List I2:=[.tup (k.1.map fun n:Nat=>(n:Int)),onI k.2]
theorem gk_inj {k l:GKey} (h:gk k=gk l):k=l:=by
 obtain ⟨a,b⟩:=k
 obtain ⟨c,d⟩:=l
 unfold gk at h
 simp only [List.cons.injEq,I2.tup.injEq,and_true] at h
 obtain ⟨h1,h2⟩:=h
 rw [map_cast_inj h1]
 cases b with
 | none =>
  cases d with
  | none=>rfl
  | some y=>cases h2
 | some x =>
  cases d with
  | none=>cases h2
  | some y =>
   have:(x:Int)=(y:Int):=by simpa [onI] using h2
   have e:x=y:=by omega
   rw [e]
def KeyH (H:Hp) (a:Addr) (k:GKey):Prop:=∃ b,H a=some (.tup [.ref b,onV k.2])∧TupN H b k.1
theorem KeyH.is {P:Program} {w:World} {H:Hp} {h:Heap} {a:Addr} {k:GKey} (ok:HOk P w H h) (t:KeyH H a k):Key2 h (gk k) a:=by
 obtain ⟨b,h1,h2⟩:=t
 obtain ⟨_,its,r,q⟩:=ok a _ h1
 obtain ⟨os,q2,i2⟩:=h2.is ok
 refine ⟨its.toArray,q,?_⟩
 simp only
 cases r with
 | cons r1 r =>
  cases r with
  | cons r2 r =>
   cases r
   cases r1
   refine .cons ⟨b,os.toArray,rfl,q2,i2⟩ (.cons ?_ .nil)
   cases e:k.2 with
   | none=>rw [e] at r2; exact r2
   | some f=>rw [e] at r2; exact r2
abbrev GXs:=List (List I2×Addr×Value)
def gphi (P:Program) (w:World) (d:Addr) (xs:GXs) (h:Heap):Prop :=
 ∃ o es ep,h.get? d=some o∧o.ExactDict∧o.data=.dict es ep∧es.toList=xs.map (entryOfKey (kind2 P w))∧(xs.map (·.1)).Nodup∧(d == sysModules)=false
abbrev GX (H:Hp):List (GKey×V)→GXs→Prop:=Paired fun (p:GKey×V) (q:List I2×Addr×Value)=>q.1=gk p.1∧KeyH H q.2.1 p.1∧RelV p.2 q.2.2
def GD (P:Program) (w:World) (H:Hp) (d:Addr) (kvs:List (GKey×V)):Prop:=kvs.length≤sizeLine∧∃ xs,H d=some (.ext (gphi P w d xs))∧GX H kvs xs
theorem gphi_ok {P:Program} {w:World} {H:Hp} {h:Heap} {d:Addr} {xs:GXs} (g:gphi P w d xs h):ObjOk P w H h d (.ext (gphi P w d xs)):=by
 refine ⟨g,?_,fun h1 h2 k e=>?_⟩
 ·obtain ⟨o,_,_,e,_⟩:=g
  exact ⟨o,e⟩
 ·obtain ⟨o,es,ep,ho,r⟩:=k
  exact ⟨o,es,ep,e o ho,r⟩
theorem GX.dict {P:Program} {w:World} {H:Hp} {h:Heap} {d:Addr} {kvs:List (GKey×V)} {xs:GXs} (ok:HOk P w H h) (g:gphi P w d xs h) (r:GX H kvs xs):h.DictOfH (kind2 P w) d xs:=by
 obtain ⟨o,es,ep,ho,hc,hd,he,hn,_⟩:=g
 refine ⟨o,es,ep,ho,hc,hd,he,fun x hx=>?_,hn⟩
 have key:∀ {kvs:List (GKey×V)} {xs:GXs},GX H kvs xs→∀ x ∈ xs,Key2 h x.1 x.2.1:=by
  intro kvs xs r
  induction r with
  | nil=>intro x hx; cases hx
  | cons r1 _ ih =>
   intro x hx
   rcases List.mem_cons.mp hx with rfl | hx
   ·rw [r1.1]; exact r1.2.1.is ok
   ·exact ih x hx
 exact key r x hx
theorem GX.find {H:Hp} {kvs:List (GKey×V)} {xs:GXs} (r:GX H kvs xs) (k:GKey):(∃ v u,valV kvs k=some v∧atKey xs (gk k)=some u∧RelV v u.2)∨(valV kvs k=none∧atKey xs (gk k)=none):=by
 induction r with
 | nil=>exact .inr ⟨rfl,rfl⟩
 | @cons p q ps qs h _ ih =>
  by_cases e:p.1=k
  ·left
   refine ⟨p.2,q.2,valV_pos e,?_,h.2.2⟩
   have e':q.1=gk k:=by rw [h.1,e]
   simp [atKey,List.find?_cons,e']
  ·have e':¬ q.1=gk k:=fun z=>e (gk_inj (h.1.symm.trans z))
   have e2:atKey (q::qs) (gk k)=atKey qs (gk k):=by simp [atKey,List.find?_cons,e']
   rw [valV_neg e,e2]
   exact ih
theorem GX.snoc {H:Hp} {kvs:List (GKey×V)} {xs:GXs} (r:GX H kvs xs) {k:GKey} {v:V} {a:Addr} {u:Value} (hk:KeyH H a k) (hv:RelV v u):GX H (kvs++[(k,v)]) (xs++[(gk k,a,u)]):=by
 induction r with
 | nil=>exact .cons ⟨rfl,hk,hv⟩ .nil
 | cons h _ ih=>exact .cons h ih
theorem GX.mono {H H':Hp} {kvs:List (GKey×V)} {xs:GXs} (r:GX H kvs xs) (k:∀ b ys,H b=some (.tup ys)→H' b=some (.tup ys)):GX H' kvs xs:=by
 induction r with
 | nil=>exact .nil
 | cons h _ ih =>
  obtain ⟨h1,⟨b,h2,h3⟩,h4⟩:=h
  exact .cons ⟨h1,⟨b,k _ _ h2,k _ _ h3⟩,h4⟩ ih
section
variable {X:Cx}
def tGNew (X:Cx):TE:=fun _ H Q=>∀ p,H p=none→(∀ H':Hp,H' p=some (.ext (gphi X.prog X.w p []))→GD X.prog X.w H' p [])→Q (.ref p) (upd H p (.ext (gphi X.prog X.w p [])))
theorem gphi_new {P:Program} {w:World} (h:Heap) (hb:sysModules<h.objs.size):gphi P w h.objs.size [] (h.push { cls:=.type "dict",data:=.dict #[] }) :=
 ⟨_,#[],0,Heap.get?_push_size _ rfl,⟨rfl,rfl,rfl⟩,rfl,rfl,List.nodup_nil,beq_eq_false_iff_ne.mpr (Ne.symm (Nat.ne_of_lt hb))⟩
theorem pe_gnew {pos:Pos}:PE X (.Dict [] [] pos) (tGNew X):=fun pins s σ H Q I h =>
 wpAny_Dict_empty ⟨.ref s.heap.objs.size,_,I.laid (a:=s.heap.objs.size) (o:=.ext (gphi X.prog X.w s.heap.objs.size [])) (t':=s.toks) (fun _ _ q=>Heap.get?_push_of_some _ q) (Nat.le_refl _) (gphi_ok (gphi_new s.heap I.big)),rfl,
  h _ (I.hok.fresh (Nat.le_refl _)) fun H' e=>⟨Nat.zero_le _,[],e,.nil⟩⟩
def tGDisp (X:Cx) (tk tv:TE):TE:=fun σ H Q=>∀ p,H p=none→tk σ (upd H p (.ext (gphi X.prog X.w p []))) fun x H1=>tv σ H1 fun y H2=>H2 p=some (.ext (gphi X.prog X.w p []))∧∃ a k,x=.ref a∧KeyH H2 a k ∧
 ∀ xs,(∀ H':Hp,H' p=some (.ext (gphi X.prog X.w p xs))→(∀ b ys,H2 b=some (.tup ys)→H' b=some (.tup ys))→GD X.prog X.w H' p [(k,y)])→Q (.ref p) (upd H2 p (.ext (gphi X.prog X.w p xs)))
theorem pe_gdisp {k v:Expr} {pos:Pos} {tk tv:TE} (hu:X.A.units+1<cLine) (hk:PE X k tk) (hv:PE X v tv):PE X (.Dict [some k] [v] pos) (tGDisp X tk tv):=by
 intro pins s σ H Q I q
 have hn:=I.hok.fresh (Nat.le_refl s.heap.objs.size)
 have I1:=I.laid (a:=s.heap.objs.size) (o:=.ext (gphi X.prog X.w s.heap.objs.size [])) (h':=s.heap.push { cls:=.type "dict",data:=.dict #[] }) (t':=s.toks) (fun _ _ q=>Heap.get?_push_of_some _ q) (Nat.le_refl _) (gphi_ok (gphi_new s.heap I.big))
 refine wpAny_Dict_any rfl rfl (by simp) (by simp) ?_
 refine pairTrees_cons_walk (thn (hk pins _ σ _ _ I1 (q _ hn)) fun u s1 ⟨x,H1,I2,rx,q1⟩=>thn (hv pins s1 σ H1 _ I2 q1) fun y' s2 ⟨y,H2,I3,ry,e2,a,key,ex,kh,q2⟩=>pairTrees_nil_walk ?_)
 subst ex
 obtain rfl:u=Value.ref a:=rx
 unfold storeAll
 rw [List.forIn_cons]
 have g0:=(I3.hok _ _ e2).1
 refine wpAny_bind (wpAny_bind (wpAny_dictSet_heap (knd:=kind2 X.prog X.w) (k:=gk key) (xs:=[]) hu (kh.is I3.hok) (GX.dict (kvs:=[]) I3.hok g0 .nil) (fun h' hm' hs'=>wpAny_pure ?_) (Nat.zero_le _)))
 dsimp only
 rw [List.forIn_nil]
 obtain ⟨o,es,ep,ho,hc,hd,he,his,hnd⟩:=hm'
 obtain ⟨_,_,_,_,_,_,_,_,hsys⟩:=g0
 have g1:gphi X.prog X.w s.heap.objs.size (storedH [] (gk key) a y') h':=⟨o,es,ep,ho,hc,hd,he,hnd,hsys⟩
 have es1:storedH ([]:GXs) (gk key) a y'=[(gk key,a,y')]:=storedH_new rfl _ _
 rw [es1] at g1
 refine wpAny_pure ⟨.ref s.heap.objs.size,_,?_,rfl,q2 [(gk key,a,y')] fun H' e k=>⟨by show 1≤sizeLine; decide,_,e,.cons ⟨rfl,?_,ry⟩ .nil⟩⟩
 ·exact d_write I3 (by rw [e2]; exact True.intro) hs' ⟨o,ho⟩ (gphi_ok g1)
 ·obtain ⟨b,k1,k2⟩:=kh
  exact ⟨b,k _ _ k1,k _ _ k2⟩
def GSP (P:Program) (w:World) (H:Hp) (d:Addr) (kvs:List (GKey×V)) (k:GKey) (z v:V) (H':Hp):Prop:=(valV kvs k=some v∧H'=H) ∨
 (valV kvs k=none∧v=z∧∃ o,H'=upd H d o∧∀ H2:Hp,H2 d=some o→(∀ b ys,H b=some (.tup ys)→H2 b=some (.tup ys))→GD P w H2 d (kvs++[(k,z)]))
def tGSet (X:Cx) (td tk tx:TE):TE:=fun σ H Q=>td σ H fun x H1=>∃ d,x=.ref d∧(∃ kvs,GD X.prog X.w H1 d kvs)∧tk σ H1 fun y H2=>tx σ H2 fun z H3=>∃ a k kvs,y=.ref a∧KeyH H3 a k∧GD X.prog X.w H3 d kvs∧kvs.length<sizeLine ∧
 ∀ v H',GSP X.prog X.w H3 d kvs k z v H'→Q v H'
theorem pe_gset {o e f:Expr} {apos cpos:Pos} {td tk tx:TE} (hu:X.A.units+2<cLine) (ho:PE X o td) (he:PE X e tk) (hf:PE X f tx) (m:M2 X o "setdefault" apos e f cpos):PE X (.Call (.Attribute o "setdefault" apos) [e,f] [] cpos) (tGSet X td tk tx):=by
 intro pins s σ H Q I h
 refine wpAny_Call_method m.base m.few m.line PySem.F.plainAttrs_dict PySem.F.slot_dict_setdefault PySem.F.type_dict_setdefault (thn (ho pins s σ H _ I h) fun u s1 ⟨x,H1,I1,rx,d,ex,⟨kvs0,_,xs0,e0,r0⟩,q1⟩=>?_)
 subst ex
 obtain rfl:u=Value.ref d:=rx
 obtain ⟨od,_,_,hod,hoc,_⟩:=(I1.hok _ _ e0).1
 refine ⟨⟨od,hod,hoc.1⟩,fun b z=>(by cases z; exact ⟨od,hod,hoc.2.1⟩),?_⟩
 rw [m.trees]
 refine Calls.callWith_builtin rfl (Calls.evalArgs_plain (Calls.spliced_cons (thn (he pins s1 σ H1 _ I1 q1) fun iv s2 ⟨y,H2,I2,ry,q2⟩ =>
  Calls.spliced_cons (thn (hf pins s2 σ H2 _ I2 q2) fun fv s3 ⟨z,H3,I3,rz,a,k,kvs,ey,kh,⟨hl,xs,e3,r3⟩,hlt,qa⟩=>Calls.spliced_nil ?_))))
 subst ey
 obtain rfl:iv=Value.ref a:=ry
 have g:=(I3.hok _ _ e3).1
 have hsys:(d == sysModules)=false:=by obtain ⟨_,_,_,_,_,_,_,_,z⟩:=g; exact z
 have hlen:xs.length=kvs.length:=(Paired.length r3).symm
 refine call_setdef (knd:=kind2 X.prog X.w) (k:=gk k) hu (kh.is I3.hok) (GX.dict I3.hok g r3) hsys (by omega) (fun p hp=>?_) fun hn h' hm' hs'=>?_
 ·rcases r3.find k with ⟨v,u,v1,v2,v3⟩ | ⟨_,v2⟩
  ·rw [v2] at hp
   cases hp
   exact ⟨v,H3,I3.tok _,v3,qa v H3 (.inl ⟨v1,rfl⟩)⟩
  ·rw [v2] at hp; cases hp
 ·rcases r3.find k with ⟨v,u,v1,v2,v3⟩ | ⟨v1,_⟩
  ·rw [v2] at hn; cases hn
  ·obtain ⟨o',es,ep,ho',hc,hd,he',his,hnd⟩:=hm'
   have g1:gphi X.prog X.w d (xs++[(gk k,a,fv)]) h':=⟨o',es,ep,ho',hc,hd,he',hnd,hsys⟩
   refine ⟨z,_,d_write I3 (by rw [e3]; exact True.intro) hs' ⟨o',ho'⟩ (gphi_ok g1),rz,qa _ _ (.inr ⟨v1,rfl,_,rfl,fun H' e t=>⟨?_,_,e,(r3.mono t).snoc ?_ rz⟩⟩)⟩
   ·rw [List.length_append]
    show kvs.length+1≤sizeLine
    omega
   ·obtain ⟨b,k1,k2⟩:=kh
    exact ⟨b,t _ _ k1,t _ _ k2⟩
end
end L2
namespace L2
open PySem PySem.Spec PyProof.Rows N2 Fr
def GLk (P:Program) (w:World) (d:Addr) (o:Obj) (kvs:List (GKey×V)) (xs:GXs) (H:Hp):Prop:=H d=some (.frz o (.ext (gphi P w d xs)))∧GX H kvs xs
theorem GLk.at {X:Cx} {pins:List (Addr×Obj)} {σ:St} {H:Hp} {s:Shared} {d:Addr} {o:Obj} {kvs:List (GKey×V)} {xs:GXs} (I:Inv X pins σ H s) (g:GLk X.prog X.w d o kvs xs H) :
  (d == sysModules)=false∧s.heap.get? d=some o∧o.ExactDict∧∃ (es:Array DictEntry) (ep:Nat),o.data=.dict es ep∧es.size=kvs.length ∧
   ∀ (i:Nat) (k:GKey) (v:V),kvs[i]?=some (k,v)→∃ (en:DictEntry) (a:Addr),es[i]?=some en∧en.key=.ref a∧KeyH H a k∧RelV v en.val:=by
 obtain ⟨g1,g2⟩:=g
 obtain ⟨hd,⟨o',es,ep,ho,hx,hdt,he,_,hs⟩,_⟩:=I.hok d _ g1
 rw [hd] at ho
 cases ho
 refine ⟨hs,hd,hx,es,ep,hdt,?_,fun i k v e=>?_⟩
 ·have l1:es.size=xs.length:=size_of_entries he
  have l2:kvs.length=xs.length:=Paired.length g2
  omega
 ·obtain ⟨b,hb,e1,e2,e3⟩:=paired_get g2 e
  have q:=entry_at he i
  rw [hb] at q
  exact ⟨_,b.2.1,q,rfl,e2,e3⟩
def Itgi (P:Program) (w:World) (d:Addr) (o:Obj) (kvs:List (GKey×V)) (xs:GXs):It :=
 ⟨fun i H=>GLk P w d o kvs xs H∧i<kvs.length,fun i H x H'=>∃ T a k v,kvs[i]?=some (k,v)∧x=.ref T∧H T=none∧KeyH H a k∧H'=upd H T (.tup [.ref a,v]),fun i H=>GLk P w d o kvs xs H∧kvs.length≤i⟩
def Itgv (P:Program) (w:World) (d:Addr) (o:Obj) (kvs:List (GKey×V)) (xs:GXs):It :=
 ⟨fun i H=>GLk P w d o kvs xs H∧i<kvs.length,fun i H x H'=>H'=H∧∃ k,kvs[i]?=some (k,x),fun i H=>GLk P w d o kvs xs H∧kvs.length≤i⟩
section
variable {P:Program} {w:World} {K:PySem.W.Frag} {tg:Expr} {d:Addr} {o:Obj} {es:Array DictEntry} {ep:Nat} {kvs:List (GKey×V)} {xs:GXs}
theorem turn_gvals (it:Addr) (hod:o.data=.dict es ep):Turn P w K tg (Itgv P w d o kvs xs) [it] it (fun i h=>h.IsValIter it d i kvs.length ep) where
 mem:=by simp
 obj:=fun i h st b hb=>by
  have e:b=it:=by simpa using hb
  subst e
  obtain ⟨oi,e,c,dd⟩:=st
  exact ⟨oi,e,fun v z=>by rw [dd] at z; cases z⟩
 keep:=fun i h h' st k=>st.at fun oi e=>k it (by simp) oi e
 item:=by
  intro X hP hw hK hc i pins s σ H E I hf st hg
  subst hP hw hK
  obtain ⟨hd,hi⟩:=hg
  obtain ⟨f0,f1,f2,f3,f4,f5⟩:=hf it (by simp)
  obtain ⟨hs,hgd,hx,es',ep',hdt,hsz,ent⟩:=hd.at I
  obtain ⟨rfl,rfl⟩:=dict_ep hod hdt
  obtain ⟨⟨k,v⟩,hkv⟩:∃ p,kvs[i]?=some p:=⟨kvs[i],List.getElem?_eq_getElem hi⟩
  obtain ⟨en,a,hen,hkey,hka,hval⟩:=ent i k v hkv
  refine val_item st hgd hdt hsz hen fun h' st' sb=>?_
  have I1:Inv X pins σ H { s with heap:=h' }:=I.turned (t':=s.toks) (fun b ob hb e=>(sb.2 b hb).trans e) f0 f1 f3 f4 f5
  obtain ⟨oi,e,c,dd⟩:=id st'
  exact ⟨en.val,rfl,go_of (s:={ s with heap:=h' }) e c dd (by decide) ⟨v,H,I1,hval,⟨rfl,k,hkv⟩,st',fun b hb=>(hf b hb).1⟩⟩
 done:=by
  intro X hP hw hK hc i pins s σ H E I hf st hg
  subst hP hw hK
  obtain ⟨hd,hi⟩:=hg
  obtain ⟨f0,f1,f2,f3,f4,f5⟩:=hf it (by simp)
  obtain ⟨hs,hgd,hx,es',ep',hdt,hsz,ent⟩:=hd.at I
  obtain ⟨rfl,rfl⟩:=dict_ep hod hdt
  exact val_end (I.ok.hd hc) st hgd hdt hsz hi fun h' eb=>⟨rfl,I.turned (t':=s.toks) (fun b ob hb e=>eb b ob hb e) f0 f1 f3 f4 f5⟩
 self:=fun A i s Q E st h=>wpAny_pyIter_valiter st h
theorem turn_gitems {elts:List Expr} {kk:Nat} {tpos:Pos} (it:Addr) (hod:o.data=.dict es ep) :
  Turn P w K (.Tuple elts kk tpos) (Itgi P w d o kvs xs) [it] it (fun i h=>∃ ok ov,IsItemIter h it d i kvs.length ep ok ov) where
 mem:=by simp
 obj:=fun i h st b hb=>by
  have e:b=it:=by simpa using hb
  subst e
  obtain ⟨ok,ov,e⟩:=st
  exact ⟨_,e,fun v z=>nomatch z⟩
 keep:=fun i h h' st k=>let ⟨ok,ov,e⟩:=st; ⟨ok,ov,k it (by simp) _ e⟩
 item:=by
  intro X hP hw hK hc i pins s σ H E I hf st hg
  subst hP hw hK
  obtain ⟨hd,hi⟩:=hg
  obtain ⟨hs,hgd,hx,es',ep',hdt,hsz,ent⟩:=hd.at I
  obtain ⟨rfl,rfl⟩:=dict_ep hod hdt
  obtain ⟨⟨k,v⟩,hkv⟩:∃ p,kvs[i]?=some p:=⟨kvs[i],List.getElem?_eq_getElem hi⟩
  obtain ⟨en,a,hen,hkey,hka,hval⟩:=ent i k v hkv
  obtain ⟨ok,ov,he⟩:=st
  have hlt:it<s.heap.objs.size:=Heap.lt_size he
  refine it_item he hgd hdt hsz hen fun h' ho hT hz hk=>?_
  refine ⟨_,rfl,wpAny_letOwnedTupleGo_items (s:={ s with heap:=h' }) ho fun h'' he' sb=>?_⟩
  have hT2:h''.get? s.heap.objs.size=some { cls:=.type "tuple",data:=.seq #[en.key,en.val] }:=(sb.2 _ (Nat.ne_of_gt hlt)).trans hT
  have new:ObjOk X.prog X.w (upd H s.heap.objs.size (.tup [.ref a,v])) h'' s.heap.objs.size (.tup [.ref a,v]) :=
   ⟨by show 2≤sizeLine; decide,[en.key,en.val],.cons hkey (.cons hval .nil),⟨_,hT2,rfl,_,rfl⟩⟩
  have I1:Inv X pins σ (upd H s.heap.objs.size (.tup [.ref a,v])) { s with heap:=h'' } :=
   I.turnedNew (t':=s.toks) (ch:=[it]) (fun b ob hb e=>(sb.2 b (by simpa using hb)).trans (hk b ob (by simpa using hb) e)) hf (Nat.le_refl _) new
  refine ⟨.ref s.heap.objs.size,_,I1,rfl,⟨_,a,k,v,hkv,rfl,I.hok.fresh (Nat.le_refl _),hka,rfl⟩,⟨en.key,en.val,he'⟩,fun b hb=>?_⟩
  have e:b=it:=by simpa using hb
  rw [e,upd_ne (Nat.ne_of_lt hlt)]
  exact (hf it (by simp)).1
 done:=by
  intro X hP hw hK hc i pins s σ H E I hf st hg
  subst hP hw hK
  obtain ⟨hd,hi⟩:=hg
  obtain ⟨f0,f1,f2,f3,f4,f5⟩:=hf it (by simp)
  obtain ⟨hs,hgd,hx,es',ep',hdt,hsz,ent⟩:=hd.at I
  obtain ⟨rfl,rfl⟩:=dict_ep hod hdt
  obtain ⟨ok,ov,he⟩:=st
  exact it_end (I.ok.hd hc) he hgd hdt hsz hi fun h' eb=>⟨rfl,I.turned (t':=s.toks) (fun b ob hb e=>eb b ob hb e) f0 f1 f3 f4 f5⟩
 self:=fun A i s Q E st h=>let ⟨_,_,e⟩:=st; PySem.W.kcp_self e h
end
section
variable {X:Cx} {tg e:Expr} {td:TE} {apos cpos:Pos}
def iGVals (X:Cx) (td:TE):TI:=fun σ H R=>td σ H fun x H1=>∃ d o kvs xs,x=.ref d∧GLk X.prog X.w d o kvs xs H1∧R (Itgv X.prog X.w d o kvs xs) H1
def iGItems (X:Cx) (td:TE):TI:=fun σ H R=>td σ H fun x H1=>∃ d o kvs xs,x=.ref d∧GLk X.prog X.w d o kvs xs H1∧R (Itgi X.prog X.w d o kvs xs) H1
theorem pi_gvals (he:PE X e td) (hbase:attributeBase e "values" X.env (eval e X.env)=eval e X.env:=by rfl) (hline:(apos.endLine == cpos.line)=true:=by rfl):PI X tg (.Call (.Attribute e "values" apos) [] [] cpos) (iGVals X td):=by
 intro pins s σ H R I h
 refine wpAny_Call_method (T:="dict") (id:="dict.values") hbase rfl hline F.plainAttrs_dict F.slot_dict_values F.type_dict_values (thn (he pins s σ H _ I h) fun u s1 ⟨x,H1,I1,rx,d,o,kvs,xs,ex,hd,q⟩=>?_)
 subst ex
 obtain rfl:u=Value.ref d:=rx
 obtain ⟨hs,hgd,hx,es,ep,hdt,hsz,ent⟩:=hd.at I1
 refine ⟨⟨o,hgd,hx.1⟩,fun b z=>(by cases z; exact ⟨o,hgd,hx.2.1⟩),?_⟩
 have I2:Inv X pins σ H1 { s1 with heap:=s1.heap.push { cls:=.type "dict_values",data:=.fields #[.ref d] } }:=I1.kept (t':=s1.toks) fun b ob q=>Heap.get?_push_of_some _ q
 have fin:wpAny (model X.prog X.w) X.A (pyIter (.ref s1.heap.objs.size)) (PIE X pins σ tg R) X.xe { s1 with heap:=s1.heap.push { cls:=.type "dict_values",data:=.fields #[.ref d] } }:=by
  refine iter_values (d:=d) (s:={ s1 with heap:=s1.heap.push { cls:=.type "dict_values",data:=.fields #[.ref d] } }) ⟨_,Heap.get?_push_size _ rfl,rfl,rfl⟩ (Heap.get?_push_of_some _ hgd) hdt (pi_one (tk:=s1.toks) I2 _ (turn_gvals _ hdt) ⟨_,Heap.get?_push_size _ rfl,rfl,?_⟩ q)
  rw [hsz] <;> rfl
 show wpAny _ _ (callWith cpos (.builtin "dict.values") [.ref d] [] []) _ X.xe s1
 exact Calls.callWith_builtin rfl (PySem.evalArgs_none (values_view hs hgd hx fin))
theorem pi_gitems {elts:List Expr} {kk:Nat} {tpos:Pos} (he:PE X e td) (hbase:attributeBase e "items" X.env (eval e X.env)=eval e X.env:=by rfl) (hline:(apos.endLine == cpos.line)=true:=by rfl) :
  PI X (.Tuple elts kk tpos) (.Call (.Attribute e "items" apos) [] [] cpos) (iGItems X td):=by
 intro pins s σ H R I h
 refine wpAny_Call_method (T:="dict") (id:="dict.items") hbase rfl hline F.plainAttrs_dict F.slot_dict_items F.type_dict_items (thn (he pins s σ H _ I h) fun u s1 ⟨x,H1,I1,rx,d,o,kvs,xs,ex,hd,q⟩=>?_)
 subst ex
 obtain rfl:u=Value.ref d:=rx
 obtain ⟨hs,hgd,hx,es,ep,hdt,hsz,ent⟩:=hd.at I1
 refine ⟨⟨o,hgd,hx.1⟩,fun b z=>(by cases z; exact ⟨o,hgd,hx.2.1⟩),?_⟩
 have I2:Inv X pins σ H1 { s1 with heap:=s1.heap.push { cls:=.type "dict_items",data:=.fields #[.ref d] } }:=I1.kept (t':=s1.toks) fun b ob q=>Heap.get?_push_of_some _ q
 have fin:wpAny (model X.prog X.w) X.A (pyIter (.ref s1.heap.objs.size)) (PIE X pins σ (.Tuple elts kk tpos) R) X.xe { s1 with heap:=s1.heap.push { cls:=.type "dict_items",data:=.fields #[.ref d] } }:=by
  refine iter_items (d:=d) (s:={ s1 with heap:=s1.heap.push { cls:=.type "dict_items",data:=.fields #[.ref d] } }) ⟨_,Heap.get?_push_size _ rfl,rfl,rfl⟩ (Heap.get?_push_of_some _ hgd) hdt (pi_one (tk:=s1.toks) I2 _ (turn_gitems _ hdt) ⟨.none,.none,?_⟩ q)
  rw [← hsz]
  exact Heap.get?_push_size _ rfl
 show wpAny _ _ (callWith cpos (.builtin "dict.items") [.ref d] [] []) _ X.xe s1
 exact Calls.callWith_builtin rfl (PySem.evalArgs_none (items_view hs hgd hx fin))
end
end L2
namespace N2
open PySem PyProof.Rows
open AutoSeq1 (wpAny_loadPart')
section
variable {prog:Program} {w:World} {A:Around} {E:Value→Shared→Prop} {s:Shared}
theorem nx_tup_item {it t:Addr} {i:Nat} {items:Array Value} {x:Value} {Q:Value→Shared→Prop} (hit:s.heap.IsTupleIter it t i) (ht:s.heap.IsTuple t items) (hx:items[i]?=some x)
  (hQ:∀ h',h'.IsTupleIter it t (i+1)→Heap.SameBut it s.heap h'→Q x { s with heap:=h' }):wpAny (model prog w) A (Builtin.SmallTypes.nextOf (.ref it)) Q E s:=by
 obtain ⟨o,ho,hc,hd⟩:=id hit
 obtain ⟨ol,hol,_,nl,hdl⟩:=ht
 unfold Builtin.SmallTypes.nextOf
 refine wpAny_bind (wpAny_callSpecial?_slot (name:=Str.ofString "__next__") hit.typeIs F.slot_tuple_iterator_next (wpAny_call_entry F.slot_tuple_iterator_next hit.typeIs F.entry_tuple_iterator_next ?_ (F.args_tuple_iterator_next_1 _)))
 show wpAny _ _ (field (.ref it) 0 >>= _) _ _ s
 refine wpAny_bind (wpAny_field ho hd (x:=.ref t) rfl ?_)
 show wpAny _ _ (if (Value.ref t == Value.none)=true then _ else _) _ _ s
 rw [if_neg (show ¬ ((Value.ref t == Value.none)=true) from Bool.false_ne_true)]
 show wpAny _ _ (field (.ref it) 1 >>= _) _ _ s
 refine wpAny_bind (wpAny_field ho hd (x:=.int i 0) rfl ?_)
 show wpAny _ _ (seqItems? (.ref t) >>= _) _ _ s
 refine wpAny_bind (wpAny_seqItems hol hdl ?_)
 simp only [Int.toNat_natCast,hx]
 refine wpAny_bind (wpAny_setField ho hd (by simp) (wpAny_pure ⟨x,rfl,wpAny_pure (hQ _ ?_ (Heap.SameBut.update ..))⟩))
 exact ⟨_,Heap.get?_update_self _ ho (Obj.isFreed_of_fields (Obj.data_mapFields hd _)),(Obj.cls_mapFields ..).trans hc,by rw [Obj.data_mapFields hd]; simp [rawInt]⟩
theorem nx_tup_end {it t:Addr} {i:Nat} {items:Array Value} {Q:Value→Shared→Prop} (hh:A.handled=none) (hit:s.heap.IsTupleIter it t i) (ht:s.heap.IsTuple t items) (hx:items[i]?=none)
  (hE:∀ h' e,Heap.ExtBut it s.heap h'→(∃ o,h'.get? e=some o∧o.cls=.type "StopIteration")→E (.ref e) { s with heap:=h' }):wpAny (model prog w) A (Builtin.SmallTypes.nextOf (.ref it)) Q E s:=by
 obtain ⟨o,ho,hc,hd⟩:=id hit
 obtain ⟨ol,hol,_,nl,hdl⟩:=ht
 unfold Builtin.SmallTypes.nextOf
 refine wpAny_bind (wpAny_callSpecial?_slot (name:=Str.ofString "__next__") hit.typeIs F.slot_tuple_iterator_next (wpAny_call_entry F.slot_tuple_iterator_next hit.typeIs F.entry_tuple_iterator_next ?_ (F.args_tuple_iterator_next_1 _)))
 show wpAny _ _ (field (.ref it) 0 >>= _) _ _ s
 refine wpAny_bind (wpAny_field ho hd (x:=.ref t) rfl ?_)
 show wpAny _ _ (if (Value.ref t == Value.none)=true then _ else _) _ _ s
 rw [if_neg (show ¬ ((Value.ref t == Value.none)=true) from Bool.false_ne_true)]
 show wpAny _ _ (field (.ref it) 1 >>= _) _ _ s
 refine wpAny_bind (wpAny_field ho hd (x:=.int i 0) rfl ?_)
 show wpAny _ _ (seqItems? (.ref t) >>= _) _ _ s
 refine wpAny_bind (wpAny_seqItems hol hdl ?_)
 simp only [Int.toNat_natCast,hx]
 refine wpAny_bind (wpAny_rule (wpAny_bind (wpAny_setField ho hd (by simp) ?_)))
 show wpAny _ _ (newExc (.type "StopIteration") [] >>= _) _ _ _
 refine wpAny_bind ?_
 simp only [newExc,newTuple]
 refine wpAny_bind (wpAny_newObj_type ?_ (by size_fits))
 refine wpAny_bind (m:=firstArgMember _ _) (wpAny_of_eq (a:=Value.none) (by first | rfl | (simp only [firstArgMember]; rfl)) ?_)
 refine wpAny_newObj_type ?_ (by size_fits)
 simp only [raiseNew]
 refine wpAny_bind (wpAny_handled ?_)
 first | rw [show A.in1.handled=none from hh] | rw [hh]
 refine wpAny_bind (wpAny_pure (wpAny_throw ?_))
 exact hE _ _ (((Heap.SameBut.update ..).extBut.push _).push _) ⟨_,Heap.get?_push_size _ rfl,rfl⟩
theorem isTup_at {h h':Heap} {t:Addr} {items:Array Value} (x:h.IsTuple t items) (e:∀ o,h.get? t=some o→h'.get? t=some o):h'.IsTuple t items:=let ⟨o,ho,r⟩:=x; ⟨o,e o ho,r⟩
theorem isTupIter_at {h h':Heap} {it t:Addr} {i:Nat} (x:h.IsTupleIter it t i) (e:∀ o,h.get? it=some o→h'.get? it=some o):h'.IsTupleIter it t i:=let ⟨o,ho,r⟩:=x; ⟨o,e o ho,r⟩
theorem drawsT (hh:A.handled=none) (it t:Addr) (hne:t≠it) (items:Array Value):Draws prog w A it [it,t] items.size (fun i v=>items[i]?=some v) (fun i h=>h.IsTupleIter it t i∧h.IsTuple t items) where
 live:=fun i h st=>let ⟨o,ho,_⟩:=st.1; ⟨o,ho⟩
 frame:=fun i h h' st k=>⟨isTupIter_at st.1 fun o e=>k it (by simp) o e,isTup_at st.2 fun o e=>k t (by simp) o e⟩
 item:=fun i s Q E hi st hQ=>nx_tup_item st.1 st.2 (x:=items[i]) (Array.getElem?_eq_getElem hi) fun h' a b=>hQ _ h' s.toks (Array.getElem?_eq_getElem hi) ⟨a,isTup_at st.2 fun o e=>(b.2 t hne).trans e⟩ b
 done:=fun s Q E st hE=>nx_tup_end hh st.1 st.2 (Array.getElem?_eq_none (Nat.le_refl _)) hE
set_option maxHeartbeats 4000000 in
theorem enum_newT (t:Addr) (items:Array Value) (n:Nat) (dct:Option Addr) (sl:Array (Option Value)) :
  Meets (Builtin.«enumerate.__new__» ⟨[.type "enumerate",.ref t],[]⟩) (fun _ R s=>s.heap.get? t=some ⟨.type "tuple",dct,.seq items n,sl⟩ ∧
   R (.ok (.ret (.ref (s.heap.push { cls:=.type "tuple_iterator",data:=.fields #[.ref t,.int 0 0] }).objs.size)))
    { s with heap:=(s.heap.push { cls:=.type "tuple_iterator",data:=.fields #[.ref t,.int 0 0] }).push { cls:=.type "enumerate",data:=.fields #[.none,.bool false,.ref s.heap.objs.size,rawInt 0,.none,.none] } }) :=
 .of_wp fun prog w A R s h=>by
  obtain ⟨hp,g,d,tk,os⟩:=s
  obtain ⟨hl,h⟩:=h
  have hsub:=sub_enumerate
  have hL:Heap.IsTuple (Shared.heap ⟨hp,g,d,tk,os⟩) t items:=⟨_,hl,rfl,n,rfl⟩
  wp_walk using wpAny_loadPart' hl
  refine wpAny_stack_any fun st=>wpAny_pure ?_
  split
  ·rename_i c _ _ _ _ _
   cases (c == Value.type "enumerate") <;>
   ·wp_walk using wpAny_loadPart' hl,wpAny_pyIter_tuple hL
    exact ⟨_,rfl,h⟩
  ·wp_walk using wpAny_loadPart' hl,wpAny_pyIter_tuple hL
   exact ⟨_,rfl,h⟩
theorem call_enumT {t:Addr} {items:Array Value} {Q:Value→Shared→Prop} (hL:s.heap.IsTuple t items)
  (h:∀ h',IsEnum h' (s.heap.objs.size+1) s.heap.objs.size 0 .none→h'.IsTupleIter s.heap.objs.size t 0→(∀ b o,s.heap.get? b=some o→h'.get? b=some o)→Q (.ref (s.heap.objs.size+1)) { s with heap:=h' }) :
  wpAny (model prog w) A (call (.type "enumerate") [.ref t]) Q E s:=by
 obtain ⟨⟨c,dct,dt,sl⟩,hl,hc,n,hd⟩:=hL
 replace hc:c=.type "tuple":=hc
 replace hd:dt=.seq items n:=hd
 subst hc hd
 refine callType_new F.called_enumerate (by decide) (F.typeCall_enumerate_1 _) (F.newCall_enumerate_1 _) (fun obj=>F.args_object_init_2 obj _) F.entry_enumerate_new (enum_newT t items n dct sl) ⟨hl,?_⟩
 have hz:(s.heap.push { cls:=.type "tuple_iterator",data:=.fields #[.ref t,.int 0 0] }).objs.size=s.heap.objs.size+1:=Heap.size_push ..
 show _∧_
 rw [hz]
 have he:IsEnum ((s.heap.push { cls:=.type "tuple_iterator",data:=.fields #[.ref t,.int 0 0] }).push { cls:=.type "enumerate",data:=.fields #[.none,.bool false,.ref s.heap.objs.size,rawInt 0,.none,.none] }) (s.heap.objs.size+1) s.heap.objs.size 0 .none:=by
  have q:=Heap.get?_push_size (s.heap.push { cls:=.type "tuple_iterator",data:=.fields #[.ref t,.int 0 0] }) (o:={ cls:=.type "enumerate",data:=.fields #[.none,.bool false,.ref s.heap.objs.size,rawInt 0,.none,.none] }) rfl
  rw [hz] at q
  exact q
 exact ⟨⟨_,he,rfl⟩,h _ he ⟨_,Heap.get?_push_of_some _ (Heap.get?_push_size _ rfl),rfl,rfl⟩ fun b o x=>Heap.get?_push_of_some _ (Heap.get?_push_of_some _ x)⟩
end
end N2
namespace L2
open PySem PySem.Spec PyProof.Rows N2 Fr
def IteT (K:PySem.W.Frag) (a:Addr):It :=
 ⟨fun i H=>∃ (xs:List V) (x:V),SqT K H a xs∧xs[i]?=some x,fun i H v H'=>∃ T x,v=.ref T∧H T=none∧H'=upd H T (.tup [.int (i:Nat),x])∧∀ xs,SqT K H a xs→xs[i]?=some x,fun i H=>∃ xs:List V,SqT K H a xs∧xs.length=i⟩
theorem turn_enumT {P:Program} {w:World} {K:PySem.W.Frag} {elts:List Expr} {kk:Nat} {tpos:Pos} (a e it:Addr) :
  Turn P w K (.Tuple elts kk tpos) (IteT K a) [e,it] e (fun i h=>(∃ old,IsEnum h e it ((i:Nat):Int) old)∧h.IsTupleIter it a i∧e≠it) where
 mem:=by simp
 obj:=fun i h st b hb=>by
  obtain ⟨⟨old,he⟩,⟨o,ho,hc,hd⟩,_⟩:=st
  have e':b=e∨b=it:=by simpa using hb
  rcases e' with z | z
  ·rw [z]; exact ⟨_,he,fun v q=>nomatch q⟩
  ·rw [z]; exact ⟨o,ho,fun v q=>by rw [hd] at q; cases q⟩
 keep:=fun i h h' st k=>let ⟨⟨old,he⟩,hi,hne⟩:=st; ⟨⟨old,k e (by simp) _ he⟩,isTupIter_at hi fun o q=>k it (by simp) o q,hne⟩
 item:=by
  intro X hP hw hK hc i pins s σ H E I hf st hg
  subst hP hw hK
  obtain ⟨⟨old,he⟩,hit,hne⟩:=st
  obtain ⟨xs,x,hq,hx⟩:=hg
  obtain ⟨its,rv,p,hz⟩:=I.tuple hq
  obtain ⟨u,hu,ru⟩:=rv.get hx
  have p':s.heap.IsTuple a its.toArray:=p
  have hel:e<s.heap.objs.size:=Heap.lt_size he
  have hil:it<s.heap.objs.size:=by obtain ⟨_,q,_⟩:=hit; exact Heap.lt_size q
  have hai:a≠it:=by
   rintro rfl
   obtain ⟨o1,q1,c1,_⟩:=p'
   obtain ⟨o2,q2,c2,_⟩:=hit
   rw [q1] at q2
   cases q2
   rw [c1] at c2
   exact absurd c2 (by decide)
  have hea:e ∉ [it,a]:=by
   intro z
   rcases List.mem_cons.mp z with z | z
   ·exact hne z
   ·have z':=List.mem_singleton.mp z
    obtain ⟨o1,q1,c1,_⟩:=p'
    rw [← z',he] at q1
    cases q1
    exact absurd (show Value.type "enumerate"=Value.type "tuple" from c1) (by decide)
  have hlt:i<its.toArray.size:=by
   have:=(List.getElem?_eq_some_iff.mp hu).1
   simpa using this
  refine wpAny_pyNext_enum_itemD (drawsT (A:=X.A.in1) (I.ok.hd hc) it a hai its.toArray) he ⟨hit,p'⟩ hlt hne hea fun x' h' tk hx' ho hit' hT hsz hk=>?_
  have ex:x'=u:=by
   have:its.toArray[i]?=some u:=by simpa using hu
   rw [this] at hx'
   exact (Option.some.inj hx').symm
  subst ex
  refine ⟨_,rfl,wpAny_letOwnedTupleGo_enum (s:={ s with heap:=h',toks:=tk+1 }) ho fun h'' he' sb=>?_⟩
  have hT2:h''.get? s.heap.objs.size=some { cls:=.type "tuple",data:=.seq #[.int i tk,x'] }:=(sb.2 _ (Nat.ne_of_gt hel)).trans hT
  have new:ObjOk X.prog X.w (upd H s.heap.objs.size (.tup [.int (i:Nat),x])) h'' s.heap.objs.size (.tup [.int (i:Nat),x]) :=
   ⟨by show 2≤sizeLine; decide,[.int i tk,x'],.cons ⟨_,rfl⟩ (.cons ru .nil),⟨_,hT2,rfl,_,rfl⟩⟩
  have I1:Inv X pins σ (upd H s.heap.objs.size (.tup [.int (i:Nat),x])) { s with heap:=h'',toks:=tk+1 } :=
   I.turnedNew (ch:=[e,it]) (fun b ob hb q=>(sb.2 b (fun z=>hb (by simp [z]))).trans (hk b ob (fun z=>hb (by simp [z])) (fun z=>hb (by simp [z])) q)) hf (Nat.le_refl _) new
  refine ⟨.ref s.heap.objs.size,_,I1,rfl,⟨_,x,rfl,I.hok.fresh (Nat.le_refl _),rfl,fun ys hy=>by rw [I.tuple_inj hy hq]; exact hx⟩,⟨⟨x',?_⟩,isTupIter_at hit'.1 fun o q=>(sb.2 it (Ne.symm hne)).trans q,hne⟩,fun b hb=>?_⟩
  ·have e1:((i+1:Nat):Int)=(i:Int)+1:=by omega
   rw [e1]; exact he'
  ·have hb':b<s.heap.objs.size:=by
    have e':b=e∨b=it:=by simpa using hb
    rcases e' with z | z
    ·rw [z]; exact hel
    ·rw [z]; exact hil
   rw [upd_ne (Nat.ne_of_lt hb')]
   exact (hf b hb).1
 done:=by
  intro X hP hw hK hc i pins s σ H E I hf st hg
  subst hP hw hK
  obtain ⟨⟨old,he⟩,hit,hne⟩:=st
  obtain ⟨xs,hq,hx⟩:=hg
  obtain ⟨its,rv,p,hz⟩:=I.tuple hq
  obtain ⟨f0,f1,f2,f3,f4,f5⟩:=hf it (by simp)
  have hl:=rv.length
  have p':s.heap.IsTuple a its.toArray:=p
  have hai:a≠it:=by
   rintro rfl
   obtain ⟨o1,q1,c1,_⟩:=p'
   obtain ⟨o2,q2,c2,_⟩:=hit
   rw [q1] at q2
   cases q2
   rw [c1] at c2
   exact absurd c2 (by decide)
  have en:its.toArray.size=i:=by simp; omega
  exact wpAny_pyNext_enum_endD (drawsT (A:=X.A.in1) (I.ok.hd hc) it a hai its.toArray) he (by rw [en]; exact ⟨hit,p'⟩) fun h' eb=>⟨rfl,I.turned (t':=s.toks) (fun b o hb q=>eb b o hb q) f0 f1 f3 f4 f5⟩
 self:=fun A i s Q E st h=>let ⟨⟨_,he⟩,_⟩:=st; wpAny_pyIter_enum he h
def iEnumT (K:PySem.W.Frag) (ta:TA):TI:=fun σ H R=>ta σ H fun vs H1=>∃ a xs,vs=[.ref a]∧SqT K H1 a xs∧R (IteT K a) H1
theorem pi_enumT {X:Cx} {e:Expr} {ta:TA} {p pos tpos:Pos} {elts:List Expr} {kk:Nat} (hg:Gl X "enumerate") (hm:X.mg "enumerate"=none) (ha:PA X [e] ta) (hs:starEach [e] X.env=[(false,eval e X.env)]:=by rfl) :
  PI X (.Tuple elts kk tpos) (.Call (.Name "enumerate" p) [e] [] pos) (iEnumT X.K ta):=by
 intro pins s σ H R I h
 refine Call_ (ld_blt I hg hm boot_enumerate (PyProof.Rows.callWith_type1 (thn (ha pos pins s σ H _ I h) fun us s1 ⟨vs,H1,I1,r1,q1⟩=>?_) hs rfl))
 obtain ⟨a,xs,ex,hq,q⟩:=q1
 subst ex
 cases r1 with
 | cons r rr =>
  cases rr
  cases r
  obtain ⟨its,rv,p',hz⟩:=I1.tuple hq
  refine call_enumT (show s1.heap.IsTuple a its.toArray from p') fun h' he hit hk=>wpAny_pyIter_enum he ?_
  have I2:Inv X pins σ H1 { s1 with heap:=h' }:=I1.kept (t':=s1.toks) hk
  refine ⟨s1.heap.objs.size+1,[s1.heap.objs.size+1,s1.heap.objs.size],_,_,H1,rfl,I2,turn_enumT a (s1.heap.objs.size+1) s1.heap.objs.size,⟨⟨.none,he⟩,hit,Nat.succ_ne_self _⟩,fun b hb=>?_,q⟩
  have e':b=s1.heap.objs.size+1∨b=s1.heap.objs.size:=by simpa using hb
  have hle:s1.heap.objs.size≤b:=by
   rcases e' with z | z
   ·rw [z]; exact Nat.le_add_right _ _
   ·rw [z]; exact Nat.le_refl _
  exact I1.fpOk hle (I1.hok.fresh hle)
theorem erase_map {α β:Type} (f:α→β):∀ (l:List α) (j:Nat),(l.map f).eraseIdx j=(l.eraseIdx j).map f
 | [],j=>by simp
 | x::l,0=>rfl
 | x::l,j+1=>by
  rw [List.map_cons,List.eraseIdx_cons_succ,erase_map f l j,List.eraseIdx_cons_succ,List.map_cons]
section
variable {X:Cx}
def rCatE (K:PySem.W.Frag):R2:=fun x y H Q=>∃ a b ys,x=.ref a∧y=.ref b∧SqT K H a []∧SqT K H b ys∧Q (.ref b) H
theorem op_catE:OpR X (binaryOp .Add) (rCatE X.K):=by
 intro pins s σ H x y v u Q I rx ry h
 obtain ⟨a,b,ys,rfl,rfl,ha,hb,q⟩:=h
 cases rx
 cases ry
 obtain ⟨its,r1,p1,_⟩:=I.tuple ha
 obtain ⟨its2,r2,p2,_⟩:=I.tuple hb
 cases r1
 obtain ⟨⟨cls,dd,data,sl⟩,ho,hc,n,hd⟩:=id p1
 obtain ⟨⟨cls2,dd2,data2,sl2⟩,ho2,hc2,n2,hd2⟩:=id p2
 simp only at hc hd hc2 hd2
 subst hc hd hc2 hd2
 exact concat_meets ⟨_,ho,rfl⟩ ⟨_,ho2,rfl⟩ noFill_tuple_add seq_tuple_add PySem.F.slot_tuple_add PySem.F.entry_tuple_add (PySem.F.args_tuple_add_2 _ _)
  (tuple_addW0 a b _ _ n n2 dd dd2 sl sl2 rfl) ⟨ho,ho2,⟨.ref b,H,I,rfl,q⟩⟩
def rCatN (K:PySem.W.Frag):R2:=fun x y H Q=>∃ a b xs ys,x=.ref a∧y=.ref b∧H a=some (.tup xs)∧H b=some (.tup ys)∧xs.length+ys.length≤sizeLine ∧
 ∀ p H',H' p=some (.tup (xs++ys))→(H'=H∨(H p=none∧H'=upd H p (.tup (xs++ys))))→Q (.ref p) H'
theorem op_catN:OpR X (binaryOp .Add) (rCatN X.K):=by
 intro pins s σ H x y v u Q I rx ry h
 obtain ⟨a,b,xs,ys,rfl,rfl,ha,hb,hz,q⟩:=h
 by_cases hx:xs=[]
 ·subst hx
  exact op_catE pins s σ H _ _ v u Q I rx ry ⟨a,b,ys,rfl,rfl,SqT.of ha,SqT.of hb,q b H hb (.inl rfl)⟩
 ·refine op_catT pins s σ H _ _ v u Q I rx ry ⟨a,b,xs,ys,rfl,rfl,SqT.of ha,SqT.of hb,hx,hz,fun e=>?_,fun _ p hp=>q p _ upd_same (.inr ⟨hp,rfl⟩)⟩
  subst e
  exact q a H (by rw [List.append_nil]; exact ha) (.inl rfl)
def rRemove:V→List V→Hp→VK→Prop:=fun x vs H Q=>∃ (l:Addr) (ns:List Int) (j:Nat) (n:Int),x=.ref l∧vs=[.int n]∧H l=some (.lst (ns.map V.int))∧ns[j]?=some n∧(∀ m,m<j→ns[m]?≠some n)∧Q .non (upd H l (.lst ((ns.eraseIdx j).map V.int)))
theorem mt_remove:MtM X "list.remove" rRemove:=by
 intro pins s σ H x vs v us Q I rx rv h
 obtain ⟨l,ns,j,n,rfl,rfl,hH,hj,hno,q⟩:=h
 cases rx
 obtain ⟨u,rfl,ru⟩:=rv.one
 obtain ⟨t,rfl⟩:=ru
 obtain ⟨z,its,ep,r,hl,e⟩:=I.lstM hH
 have ri:=r.ints
 have hlen:its.length=ns.length:=ints_len ri
 have hjl:j<its.toArray.size:=by
  have:=(List.getElem?_eq_some_iff.mp hj).1
  rw [List.size_toArray]
  omega
 have key:∀ m (hm:m<its.toArray.size),∃ i t',ns[m]?=some i∧its.toArray[m]=.int i t':=fun m hm=>by
  have hm':m<its.length:=by simpa using hm
  obtain ⟨i,t',e1,e2⟩:=ints_get ri (List.getElem?_eq_getElem hm')
  exact ⟨i,t',e1,by simpa using e2⟩
 refine call_meets F.slot_list_remove ⟨_,e,rfl⟩ F.entry_list_remove (F.args_list_remove_2 _ _)
  (PySem.MeetsSeq.list_remove l its.toArray ep (.int n t) (fun y=>match y with | .int i _=>i == n | _=>false) (fun y hy=>?_) j hjl ?_ (fun m hm hmj=>?_) (by rw [List.size_toArray,hlen]; rw [List.length_map] at z; exact z)) ⟨e,?_⟩
 ·have hy':y ∈ its:=by simpa using hy
  obtain ⟨m,hm⟩:=List.getElem?_of_mem hy'
  obtain ⟨i,t',_,e2⟩:=ints_get ri hm
  subst e2
  exact PySem.MeetsSeq.EqGives.int i n t' t
 ·obtain ⟨i,t',e1,e2⟩:=key j hjl
  rw [hj] at e1
  cases e1
  rw [e2]
  exact beq_self_eq_true n
 ·obtain ⟨i,t',e1,e2⟩:=key m hm
  rw [e2]
  refine beq_eq_false_iff_ne.mpr fun z'=>hno m hmj ?_
  rw [e1,z']
 ·refine ⟨.non,_,I.lset (its':=its.eraseIdx j) hH e ?_ ?_ ?_,rfl,q⟩
  ·have hj2:j<its.length:=by simpa using hjl
   simp [Array.eraseIdxIfInBounds,hj2]
  ·have:=r.eraseIdx j
   rw [erase_map] at this
   exact this
  ·rw [List.length_map]
   rw [List.length_map] at z
   exact Nat.le_trans (len_erase _ _) z
def dedI (ns:List Int):List Int:=firstMet (fun i=>ns.getD i 0) ns.length
theorem cr_set (hc:X.calm=true):CallR X (.type "set") (fun vs H Q=>∃ (a:Addr) (ns:List Int),vs=[.ref a]∧SqL X.K H a (ns.map V.int)∧ns.length+1<scanBound∧∀ p,H p=none→Q (.ref p) (upd H p (.set (fun k=>(dedI ns).any (· == k)) (dedI ns).length))):=by
 intro pins s σ H vs us Q I r h
 obtain ⟨a,ns,rfl,hs,hb,q⟩:=h
 obtain ⟨its,rv,hl,_⟩:=I.list hs
 rw [Vals.ref1 r]
 have hi:=rv.ints
 have hlen:its.toArray.size=ns.length:=by rw [List.size_toArray]; exact ints_len hi
 refine PySem.call_set_list (I.ok.hd hc) hl.isList hi (by rw [hlen]; exact hb) fun h' tk hS hk=>?_
 rw [hlen] at hS
 exact ⟨.ref s.heap.objs.size,_,I.laid (t':=tk) (o:=.set (fun k=>(dedI ns).any (· == k)) (dedI ns).length) (fun b o e=>hk b o (Heap.lt_size e) e) (Nat.le_refl _) hS,rfl,q _ (I.hok.fresh (Nat.le_refl _))⟩
theorem call_lenS:CallR X (.builtin "len") (fun vs H Q=>∃ a S n,vs=[.ref a]∧H a=some (.set S n)∧Q (.int n) H):=by
 intro pins s σ H vs us Q I r h
 obtain ⟨a,S,n,rfl,hs,q⟩:=h
 rw [Vals.ref1 r]
 obtain ⟨o,es,ep,t,ho,hx,hd,_,_,hsc,hf,hn⟩:=I.hok a _ hs
 refine PySem.call_len_set ho hx hd hf (by unfold scanBound at hsc; omega) ?_
 rw [hn]
 exact ⟨.int n,H,I.tok _,⟨_,rfl⟩,q⟩
theorem dedI_len (ns:List Int):(dedI ns).length<ns.length↔¬ ns.Nodup:=by
 have key:∀ (l:List Int) (acc:List Int),acc.Nodup→(l.foldl step_dedup acc).length≤acc.length+l.length∧((l.foldl step_dedup acc).length=acc.length+l.length↔(acc++l).Nodup):=by
  intro l
  induction l with
  | nil=>intro acc h; simp [h]
  | cons x l ih =>
   intro acc h
   rw [List.foldl_cons]
   by_cases hx:x ∈ acc
   ·have e:step_dedup acc x=acc:=by
     unfold step_dedup
     rw [if_pos (List.any_eq_true.mpr ⟨x,hx,by simp⟩)]
    rw [e]
    have:=ih acc h
    refine ⟨by simp only [List.length_cons]; omega,⟨fun q=>?_,fun q=>?_⟩⟩
    ·simp only [List.length_cons] at q; omega
    ·exact absurd rfl ((List.nodup_append.mp q).2.2 x hx x List.mem_cons_self)
   ·have e:step_dedup acc x=acc++[x]:=by
     unfold step_dedup
     rw [if_neg]
     intro q
     obtain ⟨y,hy,e⟩:=List.any_eq_true.mp q
     have:y=x:=by simpa using e
     exact hx (this ▸ hy)
    rw [e]
    have nd:(acc++[x]).Nodup:=by
     rw [List.nodup_append]
     exact ⟨h,by simp,fun a ha b hb e=>hx (by rw [List.mem_singleton.mp hb] at e; exact e ▸ ha)⟩
    have:=ih (acc++[x]) nd
    simp only [List.length_append,List.length_cons,List.length_nil,List.append_assoc,List.cons_append,List.nil_append] at this ⊢
    refine ⟨by omega,⟨fun q=>this.2.mp (by omega),fun q=>?_⟩⟩
    have:=this.2.mpr q
    omega
 have e:(List.range ns.length).map (fun i=>ns.getD i 0)=ns:=by
  refine List.ext_getElem (by simp) fun i h1 h2=>?_
  simp [List.getElem?_eq_getElem h2]
 unfold dedI firstMet
 rw [e]
 have k:=key ns [] List.nodup_nil
 simp only [List.length_nil,Nat.zero_add,List.nil_append] at k
 constructor
 ·intro h q
  have:=k.2.mpr q
  omega
 ·intro h
  rcases Nat.lt_or_ge (ns.foldl step_dedup []).length ns.length with q | q
  ·exact q
  ·exact absurd (k.2.mp (by omega)) h
def tCallV (G:Addr→Sp→Prop) (tf:TE) (t:TA):TE:=fun σ H Q=>tf σ H fun x H1=>∃ f sp,x=.ref f∧G f sp∧t σ H1 fun vs H2=>sp vs H2 Q E0
theorem pe_callV {k:Nat} {G:Addr→Sp→Prop} {func e:Expr} {es:List Expr} {pos:Pos} {tf:TE} {t:TA} (hf:PE X func tf)
  (hG:∀ f sp,G f sp→∃ fd ps,FnOk X.prog X.w X.K X.mg X.base CX0 k f fd ps sp∧PySem.W.keepIn X.K (.ref f)=true∧Binds X.K fd ps []) (hr:Room k X.A) (ha:PA X (e::es) t)
  (he:eval (.Call func (e::es) [] pos) X.env=(do callWith pos (← eval func X.env) [] (backTo pos (starEach (e::es) X.env)) (backToKw pos (keywordEach [] X.env))):=by rfl)
  (hst:starEach (e::es) X.env=(false,eval e X.env)::starEach es X.env:=by rfl) (hpl:(backTo pos (starEach es X.env)).any (·.1)=false:=by rfl):PE X (.Call func (e::es) [] pos) (tCallV G tf t):=by
 intro pins s σ H Q I h
 refine Call_ (thn (hf pins s σ H _ I h) fun u s1 ⟨x,H1,I1,rx,f,sp,ex,g,q⟩=>?_) he
 subst ex
 obtain rfl:u=Value.ref f:=rx
 obtain ⟨fd,ps,F,hk,hb⟩:=hG f sp g
 refine PySem.W.callWith_K (h₀:=X.base) I.ok.mod.kin hk (thn (ha pos pins s1 σ H1 _ I1 q) fun us s2 ⟨vs,H2,I2,r,q2⟩=>⟨I2.kIn,?_⟩) hst hpl
 exact run_fn F hr hb .nil pass0 I2 r (by rw [List.append_nil]; exact q2)
end
end L2
namespace L2
open PySem PySem.Spec PyProof.Rows N2 Fr
theorem for_gen {J:It} {g:TG} {tb:TS} {D:Ends} {σ:St} {H:Hp} {n:Nat} (Pv:Nat→St→Hp→Prop) (h0:Pv 0 σ H) (hgo:∀ i σ H,i<n→Pv i σ H→J.go i H) (hst:∀ σ H,Pv n σ H→J.stop n H)
  (hs:∀ i x σ H H',i<n→Pv i σ H→J.yld i H x H'→g x σ H' fun σ2 H2=>tb { D with nx:=Pv (i+1),ct:=Pv (i+1),bk:=D.nx } σ2 H2) (hd:∀ σ H,Pv n σ H→D.nx σ H) :
  ∃ W:Nat→Nat→St→Hp→Prop,(∃ m,W 0 m σ H)∧∀ i m σ H,W i m σ H →
   (J.stop i H∧D.nx σ H)∨(J.go i H∧∃ N:St→Hp→Prop,(∀ σ' H',N σ' H'→∃ m',m'<m∧W (i+1) m' σ' H')∧∀ x H',J.yld i H x H'→g x σ H' fun σ2 H2=>tb { D with nx:=N,ct:=N,bk:=D.nx } σ2 H2):=by
 refine ⟨fun i m σ H=>m=n - i∧i≤n∧Pv i σ H,⟨n,by simp,Nat.zero_le _,h0⟩,?_⟩
 rintro i m σ H ⟨rfl,hi,p⟩
 by_cases hlt:i<n
 ·exact .inr ⟨hgo i σ H hlt p,Pv (i+1),fun σ' H' p'=>⟨n - (i+1),by omega,rfl,hlt,p'⟩,fun x H' y=>hs i x σ H H' hlt p y⟩
 ·have e:i=n:=by omega
  subst e
  exact .inl ⟨hst σ H p,hd σ H p⟩
theorem lc_gen {J:It} {n:Nat} {g:TG} {tt:TT} {te:TE} {vs:List Nat} {σ:St} {H1:Hp} {D:Addr} {Qd:Hp→Prop} (Pv:Nat→Hp→Prop) (h0:Pv 0 (upd H1 D (.lst []))) (hgo:∀ i H,i<n→Pv i H→J.go i H) (hst:∀ H,Pv n H→J.stop n H)
  (hs:∀ i x H H',i<n→Pv i H→J.yld i H x H'→g x (wipe σ vs) H' fun σ2 H2=>wipe σ2 vs=wipe σ vs∧tt σ2 H2 fun b H3 =>
   if b=true then te σ2 H3 fun y H4=>∃ acc,H4 D=some (.lst acc)∧acc.length<sizeLine∧Pv (i+1) (upd H4 D (.lst (acc++[y]))) else Pv (i+1) H3) (hd:∀ H,Pv n H→Qd H) :
  ∃ W:Nat→Nat→Hp→Prop,(∃ m,W 0 m (upd H1 D (.lst [])))∧∀ i m H,W i m H →
   (J.stop i H∧Qd H)∨(J.go i H∧∃ Nx:Hp→Prop,(∀ H',Nx H'→∃ m',m'<m∧W (i+1) m' H')∧∀ x H',J.yld i H x H'→g x (wipe σ vs) H' fun σ2 H2=>wipe σ2 vs=wipe σ vs∧tt σ2 H2 fun b H3 =>
    if b=true then te σ2 H3 fun y H4=>∃ acc,H4 D=some (.lst acc)∧acc.length<sizeLine∧Nx (upd H4 D (.lst (acc++[y]))) else Nx H3):=by
 refine ⟨fun i m H=>m=n - i∧i≤n∧Pv i H,⟨n,by simp,Nat.zero_le _,h0⟩,?_⟩
 rintro i m H ⟨rfl,hi,p⟩
 by_cases hlt:i<n
 ·exact .inr ⟨hgo i H hlt p,Pv (i+1),fun H' p'=>⟨n - (i+1),by omega,rfl,hlt,p'⟩,fun x H' y=>hs i x H H' hlt p y⟩
 ·have e:i=n:=by omega
  subst e
  exact .inl ⟨hst H p,hd H p⟩
theorem Same.upd_new {H H':Hp} {p:Addr} {o:HO} (s:Same H H') (hp:H' p=none):Same H (upd H' p o):=fun b u e=>by
 rw [upd_ne (ne_of_none (s b u e) hp)]
 exact s b u e
theorem WayH.mono {H H':Hp} (s:Same H H') {a:Addr} {v:Way} (h:WayH H a v):WayH H' a v:=by
 obtain ⟨o,h1,h2⟩:=h
 exact ⟨o,s _ _ h1,s _ _ h2⟩
theorem WaysH.mono {H H':Hp} (s:Same H H') {as:List Addr} {ws:List Way} (h:WaysH H as ws):WaysH H' as ws:=Paired.mapP h fun _ _ q=>WayH.mono s q
theorem WaysH.snoc {H:Hp} {as:List Addr} {ws:List Way} {a:Addr} {v:Way} (h:WaysH H as ws) (k:WayH H a v):WaysH H (as++[a]) (ws++[v]):=by
 induction h with
 | nil=>exact .cons k .nil
 | cons q _ ih=>exact .cons q ih
structure Ent where
 k:GKey
 l:Addr
 as:List Addr
 W:List Way
def Ent.g (e:Ent):GKey×List Way:=(e.k,e.W)
def Ent.kv (e:Ent):GKey×V:=(e.k,.ref e.l)
structure EntOk (N:Addr→Prop) (H:Hp) (e:Ent):Prop where
 nw:N e.l
 lst:H e.l=some (.lst (e.as.map V.ref))
 ws:WaysH H e.as e.W
structure GrE (P:Program) (w:World) (N:Addr→Prop) (H:Hp) (d:Addr) (es:List Ent):Prop where
 dict:GD P w H d (es.map Ent.kv)
 ent:∀ e ∈ es,EntOk N H e
 nd:(es.map (·.l)).Nodup
def GrAt (P:Program) (w:World) (N:Addr→Prop) (H:Hp) (d:Addr) (g:Groups):Prop:=∃ es:List Ent,g=es.map Ent.g∧GrE P w N H d es
section
variable {P:Program} {w:World} {N:Addr→Prop} {H H':Hp} {d:Addr}
theorem EntOk.mono (s:Same H H') {e:Ent} (h:EntOk N H e):EntOk N H' e:=⟨h.nw,s _ _ h.lst,h.ws.mono s⟩
theorem GD.mono (s:Same H H') {kvs:List (GKey×V)} (h:GD P w H d kvs):GD P w H' d kvs:=by
 obtain ⟨h1,xs,h2,h3⟩:=h
 exact ⟨h1,xs,s _ _ h2,GX.mono h3 fun b ys e=>s _ _ e⟩
theorem GrE.mono (s:Same H H') {es:List Ent} (h:GrE P w N H d es):GrE P w N H' d es:=⟨h.dict.mono s,fun e he=>(h.ent e he).mono s,h.nd⟩
theorem valV_ent (k:GKey):∀ {es:List Ent} {v:V},valV (es.map Ent.kv) k=some v→∃ e ∈ es,e.k=k∧v=.ref e.l
 | [],v,h=>by simp [valV] at h
 | e::es,v,h=>by
  by_cases q:e.k=k
  ·rw [List.map_cons,valV_pos (show (Ent.kv e).1=k from q)] at h
   exact ⟨e,List.mem_cons_self,q,(Option.some.inj h).symm⟩
  ·rw [List.map_cons,valV_neg (show ¬ (Ent.kv e).1=k from q)] at h
   obtain ⟨e',h1,h2,h3⟩:=valV_ent k h
   exact ⟨e',List.mem_cons_of_mem _ h1,h2,h3⟩
theorem valV_has (k:GKey) (es:List Ent):hasK (es.map Ent.g) k=(valV (es.map Ent.kv) k).isSome:=by
 rw [← valV_any]
 unfold hasK
 rw [List.any_map,List.any_map]
 rfl
theorem GrE.app {es:List Ent} (h:GrE P w N H d es) (nk:(es.map (·.k)).Nodup) {e:Ent} (he:e ∈ es) {x:Addr} {v:Way} (hx:WayH H x v) :
  ∃ es',addG (es.map Ent.g) e.k [v]=es'.map Ent.g∧GrE P w N (upd H e.l (.lst (e.as.map V.ref++[.ref x]))) d es'∧(∃ e' ∈ es',e'.k=e.k∧e'.l=e.l∧e'.as=e.as++[x])∧es'.map (·.k)=es.map (·.k):=by
 have hl:=(h.ent e he).lst
 obtain ⟨hz,xs,hd,hx'⟩:=h.dict
 have tk:∀ {b:Addr} {ys:List V},H b=some (.tup ys)→upd H e.l (.lst (e.as.map V.ref++[.ref x])) b=some (.tup ys):=fun q=>by
  rw [upd_ne (ne_of q hl (by intro z; cases z))]; exact q
 have wm:∀ {b:Addr} {u:Way},WayH H b u→WayH (upd H e.l (.lst (e.as.map V.ref++[.ref x]))) b u:=fun ⟨o,q1,q2⟩=>⟨o,tk q1,tk q2⟩
 have only:∀ e2 ∈ es,e2.l=e.l→e2=e:=by
  intro e2 h2 q
  obtain ⟨i,hi⟩:=List.getElem?_of_mem h2
  obtain ⟨j,hj⟩:=List.getElem?_of_mem he
  have a1:(es.map (·.l))[i]?=some e2.l:=by rw [List.getElem?_map,hi]; rfl
  have a2:(es.map (·.l))[j]?=some e2.l:=by rw [List.getElem?_map,hj,q]; rfl
  have:=nd_ix h.nd a1 a2
  subst this
  rw [hi] at hj
  exact Option.some.inj hj
 have onlyk:∀ e2 ∈ es,e2.k=e.k→e2=e:=by
  intro e2 h2 q
  obtain ⟨i,hi⟩:=List.getElem?_of_mem h2
  obtain ⟨j,hj⟩:=List.getElem?_of_mem he
  have a1:(es.map (·.k))[i]?=some e2.k:=by rw [List.getElem?_map,hi]; rfl
  have a2:(es.map (·.k))[j]?=some e2.k:=by rw [List.getElem?_map,hj,q]; rfl
  have:=nd_ix nk a1 a2
  subst this
  rw [hi] at hj
  exact Option.some.inj hj
 refine ⟨es.map fun e2=>if e2.k=e.k then { e2 with as:=e2.as++[x],W:=e2.W++[v] } else e2,?_,⟨?_,?_,?_⟩,?_,?_⟩
 ·have hk:hasK (es.map Ent.g) e.k=true:=hasK_iff.mpr ⟨e.W,List.mem_map.mpr ⟨e,he,rfl⟩⟩
  unfold addG
  rw [if_pos hk,List.map_map,List.map_map]
  refine List.map_congr_left fun e2 h2=>?_
  show (if (Ent.g e2).1=e.k then ((Ent.g e2).1,(Ent.g e2).2++[v]) else Ent.g e2)=Ent.g (if e2.k=e.k then _ else e2)
  by_cases q:e2.k=e.k
  ·rw [if_pos (show (Ent.g e2).1=e.k from q),if_pos q]; rfl
  ·rw [if_neg (show ¬ (Ent.g e2).1=e.k from q),if_neg q]
 ·have ek:(es.map fun e2=>if e2.k=e.k then { e2 with as:=e2.as++[x],W:=e2.W++[v] } else e2).map Ent.kv=es.map Ent.kv:=by
   rw [List.map_map]
   refine List.map_congr_left fun e2 h2=>?_
   show Ent.kv (if e2.k=e.k then _ else e2)=_
   split <;> rfl
  rw [ek]
  refine ⟨hz,xs,?_,GX.mono hx' fun b ys q=>tk q⟩
  rw [upd_ne (ne_of hd hl (by intro z; cases z))]
  exact hd
 ·intro e3 h3
  obtain ⟨e2,h2,rfl⟩:=List.mem_map.mp h3
  by_cases q:e2.k=e.k
  ·rw [if_pos q]
   have:=onlyk e2 h2 q
   subst this
   refine ⟨(h.ent e2 h2).nw,?_,WaysH.snoc (Paired.mapP (h.ent e2 h2).ws fun _ _ q=>wm q) (wm hx)⟩
   show upd H e2.l _ e2.l=_
   rw [upd_same,List.map_append]
   rfl
  ·rw [if_neg q]
   have nl:e2.l≠e.l:=fun z=>q (by rw [only e2 h2 z])
   refine ⟨(h.ent e2 h2).nw,?_,Paired.mapP (h.ent e2 h2).ws fun _ _ q=>wm q⟩
   rw [upd_ne nl]
   exact (h.ent e2 h2).lst
 ·have el:(es.map fun e2=>if e2.k=e.k then { e2 with as:=e2.as++[x],W:=e2.W++[v] } else e2).map (·.l)=es.map (·.l):=by
   rw [List.map_map]
   refine List.map_congr_left fun e2 h2=>?_
   show (if e2.k=e.k then _ else e2:Ent).l=_
   split <;> rfl
  rw [el]
  exact h.nd
 ·refine ⟨{ e with as:=e.as++[x],W:=e.W++[v] },List.mem_map.mpr ⟨e,he,if_pos rfl⟩,rfl,rfl,rfl⟩
 ·rw [List.map_map]
  refine List.map_congr_left fun e2 h2=>?_
  show (if e2.k=e.k then _ else e2:Ent).k=_
  split <;> rfl
theorem GrE.add {es:List Ent} (h:GrE P w N H d es) {k:GKey} {l:Addr} {o:HO} (hl:H l=some (.lst [])) (nl:∀ e ∈ es,e.l≠l) (hN:N l) (hd:∃ xs,H d=some (.ext (gphi P w d xs)))
  (ho:∀ H':Hp,H' d=some o→(∀ b ys,H b=some (.tup ys)→H' b=some (.tup ys))→GD P w H' d (es.map Ent.kv++[(k,.ref l)])):GrE P w N (upd H d o) d (es++[⟨k,l,[],[]⟩]):=by
 obtain ⟨xs,hd⟩:=hd
 have tk:∀ {b:Addr} {ys:List V},H b=some (.tup ys)→upd H d o b=some (.tup ys):=fun q=>by
  rw [upd_ne (ne_of q hd (by intro z; cases z))]; exact q
 have lk:∀ {b:Addr} {ys:List V},H b=some (.lst ys)→upd H d o b=some (.lst ys):=fun q=>by
  rw [upd_ne (ne_of q hd (by intro z; cases z))]; exact q
 have wm:∀ {b:Addr} {u:Way},WayH H b u→WayH (upd H d o) b u:=fun ⟨o,q1,q2⟩=>⟨o,tk q1,tk q2⟩
 refine ⟨?_,?_,?_⟩
 ·rw [List.map_append]
  exact ho _ upd_same fun b ys q=>tk q
 ·intro e he
  rcases List.mem_append.mp he with he | he
  ·exact ⟨(h.ent e he).nw,lk (h.ent e he).lst,Paired.mapP (h.ent e he).ws fun _ _ q=>wm q⟩
  ·rw [List.mem_singleton.mp he]
   exact ⟨hN,lk hl,.nil⟩
 ·rw [List.map_append,List.nodup_append]
  refine ⟨h.nd,by simp,fun a ha b hb q=>?_⟩
  obtain ⟨e,he,rfl⟩:=List.mem_map.mp ha
  have:b=l:=by simpa using hb
  exact nl e he (by rw [q,this])
end
end L2
namespace N2
open PySem PySem.W PyProof.Rows
section
variable {prog:Program} {w:World} {A:Around} {E:Value→Shared→Prop} {s:Shared}
def CollR (s:Shared) (n:Nat) (P:Nat→Value→Prop) (r:Result) (s':Shared):Prop:=∃ (h':Heap) (tk:Nat) (acc:Array Value) (c:Nat),r=.ok (.ret (.ref s.heap.objs.size))∧s'={ s with heap:=h',toks:=tk }∧(∀ b o,s.heap.get? b=some o→h'.get? b=some o)∧h'.get? s.heap.objs.size=some { cls:=.type "list",dict:=none,data:=.seq acc c,slots:=#[] }∧ItemsOf P acc n
theorem collect_src {Q:List Value→Shared→Prop} {T:String} {r d:Addr} {n:Nat} {P:Nat→Value→Prop} {OK:Heap→Prop} (K:KdlSrc prog w T r d n P OK) (hh:A.handled=none) (hok:OK s.heap) (hn:n≤sizeLine)
  (hQ:∀ (h':Heap) (tk:Nat) (acc:Array Value),s.heap.objs.size<h'.objs.size→(∀ b o,s.heap.get? b=some o→h'.get? b=some o)→ItemsOf P acc n→Q acc.toList { s with heap:=h',toks:=tk }):wpAny (model prog w) A (collect (.ref r)) Q E s:=by
 unfold collect
 refine wpAny_bind (wpAny_runValue (codeAny_builtin F.entry_proto_collect ?_))
 rw [Around.under_plainId F.plain_proto_collect _]
 show wpAny _ A.in1 (newList [] >>= fun l=>again (.builtin "list.__iadd__" ⟨[l,.ref r],[]⟩)) _ _ s
 refine wpAny_bind (wpAny_newObj_type ?_)
 refine wpAny_pure ⟨plainId_quiet F.plain_list_iadd _,codeAny_builtin F.entry_list_iadd ?_⟩
 rw [Around.under_plainId F.plain_list_iadd _]
 show wpAny _ A.in1 (Builtin.List.listExtendWith (.ref s.heap.objs.size) (.ref r) (.ref s.heap.objs.size)) _ _ _
 have hS:(s.heap.push { cls:=.type "list",data:=.seq ([]:List Value).toArray }).get? s.heap.objs.size=some { cls:=.type "list",data:=.seq #[] 0 }:=Heap.get?_push_size _ rfl
 have ht:=K.there _ hok
 refine wpAny_mono (kdl_extend (R:=CollR s n P) (s:={ s with heap:=s.heap.push { cls:=.type "list",data:=.seq ([]:List Value).toArray } }) K hh (K.keep _ _ hok fun b _ o e=>Heap.get?_push_of_some _ e) s.heap.objs.size (Nat.ne_of_gt ht.1) (Nat.ne_of_gt ht.2) _ 0 hS (fun h' tk acc' c' hk hS' hacc=>⟨h',tk,acc',c',rfl,rfl,fun b o e=>hk b o (Nat.ne_of_lt (Heap.lt_size e)) (Heap.get?_push_of_some _ e),hS',hacc⟩) hn) (fun fin s' q=>?_) fun e s' q=>?_
 ·cases fin with
  | done f =>
   obtain ⟨h',tk,acc,c,e,rfl,hk,hS',hacc⟩:=q
   cases e
   show wpAny _ A (load _ >>= _) _ _ _
   exact wpAny_bind (wpAny_load hS' (wpAny_pure (hQ h' tk acc (Heap.lt_size hS') hk hacc)))
  | again c' =>
   refine ⟨q.1,codeAny_mono q.2 fun r s' q=>?_⟩
   obtain ⟨h',tk,acc,c,rfl,rfl,hk,hS',hacc⟩:=q
   show wpAny _ A (load _ >>= _) _ _ _
   exact wpAny_bind (wpAny_load hS' (wpAny_pure (hQ h' tk acc (Heap.lt_size hS') hk hacc)))
 ·obtain ⟨h',tk,acc,c,e,_⟩:=q
  cases e
theorem collect_rng {Q:List Value→Shared→Prop} {r:Addr} {a b c:Int} {t u v:Tok} {n:Nat} (hh:A.handled=none) (hr:IsRange s.heap r a b c t u v) (hsmall:Builtin.Range.small a b c=true) (hsz:Builtin.Range.rangeSize a b c=n) (hn:n≤2 ^ 24)
  (hQ:∀ (h':Heap) (tk:Nat) (acc:Array Value),s.heap.objs.size<h'.objs.size→(∀ b o,s.heap.get? b=some o→h'.get? b=some o)→ItemsOf (fun i v=>∃ t,v=.int (a+i * c) t) acc n→Q acc.toList { s with heap:=h',toks:=tk }):wpAny (model prog w) A (collect (.ref r)) Q E s:=by
 unfold collect
 refine wpAny_bind (wpAny_runValue (codeAny_builtin F.entry_proto_collect ?_))
 rw [Around.under_plainId F.plain_proto_collect _]
 show wpAny _ A.in1 (newList [] >>= fun l=>again (.builtin "list.__iadd__" ⟨[l,.ref r],[]⟩)) _ _ s
 refine wpAny_bind (wpAny_newObj_type ?_)
 refine wpAny_pure ⟨plainId_quiet F.plain_list_iadd _,codeAny_builtin F.entry_list_iadd ?_⟩
 rw [Around.under_plainId F.plain_list_iadd _]
 show wpAny _ A.in1 (Builtin.List.listExtendWith (.ref s.heap.objs.size) (.ref r) (.ref s.heap.objs.size)) _ _ _
 have hS:(s.heap.push { cls:=.type "list",data:=.seq ([]:List Value).toArray }).get? s.heap.objs.size=some { cls:=.type "list",data:=.seq #[] 0 }:=Heap.get?_push_size _ rfl
 refine wpAny_mono (wpAny_extend_range (R:=CollR s n fun i v=>∃ t,v=.int (a+i * c) t) (s:={ s with heap:=s.heap.push { cls:=.type "list",data:=.seq ([]:List Value).toArray } }) hh (Heap.get?_push_of_some _ hr) hsmall hsz hn s.heap.objs.size _ 0 hS (fun h' tk acc' c' hk hS' hacc=>⟨h',tk,acc',c',rfl,rfl,fun b o e=>hk b o (Nat.ne_of_lt (Heap.lt_size e)) (Heap.get?_push_of_some _ e),hS',hacc⟩)) (fun fin s' q=>?_) fun e s' q=>?_
 ·cases fin with
  | done f =>
   obtain ⟨h',tk,acc,c,e,rfl,hk,hS',hacc⟩:=q
   cases e
   show wpAny _ A (load _ >>= _) _ _ _
   exact wpAny_bind (wpAny_load hS' (wpAny_pure (hQ h' tk acc (Heap.lt_size hS') hk hacc)))
  | again c' =>
   refine ⟨q.1,codeAny_mono q.2 fun r s' q=>?_⟩
   obtain ⟨h',tk,acc,c,rfl,rfl,hk,hS',hacc⟩:=q
   show wpAny _ A (load _ >>= _) _ _ _
   exact wpAny_bind (wpAny_load hS' (wpAny_pure (hQ h' tk acc (Heap.lt_size hS') hk hacc)))
 ·obtain ⟨h',tk,acc,c,e,_⟩:=q
  cases e
theorem code_tuple_dict {Q₁:Value→Shared→Prop} {r d:Addr} {n:Nat} {P:Nat→Value→Prop} {OK:Heap→Prop} (K:KdlSrc prog w "dict" r d n P OK) (hh:A.handled=none) (hok:OK s.heap) (hn:n≤sizeLine)
  (h:∀ (h':Heap) (tk:Nat) (acc:Array Value),s.heap.objs.size<h'.objs.size→(∀ b o,s.heap.get? b=some o→h'.get? b=some o)→ItemsOf P acc n→Q₁ (.ref h'.objs.size) { s with heap:=h'.push { cls:=.type "tuple",data:=.seq acc },toks:=tk }) :
  codeAny (model prog w) A (.call (.builtin "tuple.__new__") ⟨[.type "tuple",.ref r],[]⟩) (wants Q₁ E) s:=by
 refine codeAny_of_tree ?_
 show wpAny _ A.in1 (do checkBuiltinCall "tuple.__new__" ⟨[.type "tuple",.ref r],[]⟩; again (.builtin "tuple.__new__" ⟨[.type "tuple",.ref r],[]⟩)) _ _ s
 refine wpAny_bind (wpAny_of_eq (F.newCall_tuple_1 _) (wpAny_pure ⟨plainId_quiet F.plain_tuple_new _,codeAny_builtin F.entry_tuple_new ?_⟩))
 rw [Around.under_plainId F.plain_tuple_new _]
 have hsub:=sub_tuple_self
 have hinit:=init_tuple_lookup
 have hmh:=madeHere_tuple
 have hTI:=K.type s hok
 wp_walk using wpAny_typeOf hTI,collect_src (A:=A.in1) K hh hok hn
 intro h' tk acc hlt hk hacc
 show wpAny _ _ (Builtin.Tuple.tupleExact acc.toList.toArray >>= fun v=>ret v) _ _ _
 unfold Builtin.Tuple.tupleExact
 refine wpAny_bind (wpAny_newObj_type ?_ (by show acc.toList.toArray.size≤sizeLine; simp only [Array.toArray_toList]; rw [hacc.1]; exact hn))
 refine wpAny_pure ?_
 have e:acc.toList.toArray=acc:=by simp
 rw [e]
 exact h h' tk acc hlt hk hacc
theorem code_tuple_rng {Q₁:Value→Shared→Prop} {r:Addr} {a b c:Int} {t u v:Tok} {n:Nat} (hh:A.handled=none) (hr:IsRange s.heap r a b c t u v) (hsmall:Builtin.Range.small a b c=true) (hsz:Builtin.Range.rangeSize a b c=n) (hn:n≤2 ^ 24)
  (h:∀ (h':Heap) (tk:Nat) (acc:Array Value),s.heap.objs.size<h'.objs.size→(∀ b o,s.heap.get? b=some o→h'.get? b=some o)→ItemsOf (fun i v=>∃ t,v=.int (a+i * c) t) acc n→Q₁ (.ref h'.objs.size) { s with heap:=h'.push { cls:=.type "tuple",data:=.seq acc },toks:=tk }) :
  codeAny (model prog w) A (.call (.builtin "tuple.__new__") ⟨[.type "tuple",.ref r],[]⟩) (wants Q₁ E) s:=by
 refine codeAny_of_tree ?_
 show wpAny _ A.in1 (do checkBuiltinCall "tuple.__new__" ⟨[.type "tuple",.ref r],[]⟩; again (.builtin "tuple.__new__" ⟨[.type "tuple",.ref r],[]⟩)) _ _ s
 refine wpAny_bind (wpAny_of_eq (F.newCall_tuple_1 _) (wpAny_pure ⟨plainId_quiet F.plain_tuple_new _,codeAny_builtin F.entry_tuple_new ?_⟩))
 rw [Around.under_plainId F.plain_tuple_new _]
 have hsub:=sub_tuple_self
 have hinit:=init_tuple_lookup
 have hmh:=madeHere_tuple
 have hTI:s.TypeIs (.ref r) "range":=⟨_,hr,rfl⟩
 wp_walk using wpAny_typeOf hTI,collect_rng (A:=A.in1) hh hr hsmall hsz hn
 intro h' tk acc hlt hk hacc
 show wpAny _ _ (Builtin.Tuple.tupleExact acc.toList.toArray >>= fun v=>ret v) _ _ _
 unfold Builtin.Tuple.tupleExact
 refine wpAny_bind (wpAny_newObj_type ?_ (by show acc.toList.toArray.size≤sizeLine; simp only [Array.toArray_toList]; rw [hacc.1,sizeLine_eq]; omega))
 refine wpAny_pure ?_
 have e:acc.toList.toArray=acc:=by simp
 rw [e]
 exact h h' tk acc hlt hk hacc
theorem call_tuple_dict {Q:Value→Shared→Prop} {r d:Addr} {n:Nat} {P:Nat→Value→Prop} {OK:Heap→Prop} (K:KdlSrc prog w "dict" r d n P OK) (hh:A.handled=none) (hok:OK s.heap) (hn:n≤sizeLine)
  (hQ:∀ (h':Heap) (tk:Nat) (acc:Array Value),s.heap.objs.size<h'.objs.size→(∀ b o,s.heap.get? b=some o→h'.get? b=some o)→ItemsOf P acc n→Q (.ref h'.objs.size) { s with heap:=h'.push { cls:=.type "tuple",data:=.seq acc },toks:=tk }) :
  wpAny (model prog w) A (call (.type "tuple") [.ref r]) Q E s:=by
 refine callType_codes (Q₁:=fun obj s₁=>s₁.TypeIs obj "tuple"∧Q obj s₁) F.called_tuple (F.typeCall_tuple_1 _) F.entry_object_init
  (code_tuple_dict K hh hok hn fun h' tk acc hlt hk hacc=>⟨⟨_,Heap.get?_push_size _ rfl,rfl⟩,hQ h' tk acc hlt hk hacc⟩) fun obj s₁ h₁=>?_
 exact ⟨h₁.1,F.args_object_init_2 obj _,object_init_meets F.called_tuple.init.lookup F.called_tuple.made (by decide) prog w A.in1 _ s₁ ⟨h₁.1,rfl,h₁.2⟩⟩
theorem call_tuple_rng {Q:Value→Shared→Prop} {r:Addr} {a b c:Int} {t u v:Tok} {n:Nat} (hh:A.handled=none) (hr:IsRange s.heap r a b c t u v) (hsmall:Builtin.Range.small a b c=true) (hsz:Builtin.Range.rangeSize a b c=n) (hn:n≤2 ^ 24)
  (hQ:∀ (h':Heap) (tk:Nat) (acc:Array Value),s.heap.objs.size<h'.objs.size→(∀ b o,s.heap.get? b=some o→h'.get? b=some o)→ItemsOf (fun i v=>∃ t,v=.int (a+i * c) t) acc n→Q (.ref h'.objs.size) { s with heap:=h'.push { cls:=.type "tuple",data:=.seq acc },toks:=tk }) :
  wpAny (model prog w) A (call (.type "tuple") [.ref r]) Q E s:=by
 refine callType_codes (Q₁:=fun obj s₁=>s₁.TypeIs obj "tuple"∧Q obj s₁) F.called_tuple (F.typeCall_tuple_1 _) F.entry_object_init
  (code_tuple_rng hh hr hsmall hsz hn fun h' tk acc hlt hk hacc=>⟨⟨_,Heap.get?_push_size _ rfl,rfl⟩,hQ h' tk acc hlt hk hacc⟩) fun obj s₁ h₁=>?_
 exact ⟨h₁.1,F.args_object_init_2 obj _,object_init_meets F.called_tuple.init.lookup F.called_tuple.made (by decide) prog w A.in1 _ s₁ ⟨h₁.1,rfl,h₁.2⟩⟩
end
end N2
namespace L2
open PySem PySem.Spec PyProof.Rows N2 Fr
theorem vals_of:∀ {xs:List V} {us:List Value},xs.length=us.length→(∀ (i:Nat) (x:V) (u:Value),xs[i]?=some x→us[i]?=some u→RelV x u)→Vals xs us
 | [],[],_,_=>.nil
 | [],_::_,h,_=>by simp at h
 | _::_,[],h,_=>by simp at h
 | x::xs,u::us,h,k=>.cons (k 0 x u rfl rfl) (vals_of (by simpa using h) fun i x u h1 h2=>k (i+1) x u (by simpa using h1) (by simpa using h2))
section
variable {X:Cx}
theorem cr_tupleD (hc:X.calm=true):CallR X (.type "tuple") (fun vs H Q=>∃ d kvs,vs=[.ref d]∧Rd H d (.dK kvs)∧∀ p,H p=none→Q (.ref p) (upd H p (.tup (kvs.map fun kv=>kV kv.1)))):=by
 intro pins s σ H vs us Q I r h
 obtain ⟨d,kvs,rfl,hd,q⟩:=h
 rw [Vals.ref1 r]
 obtain ⟨z,hsys,ps,rel,dd⟩:=dk_rd I.hok hd
 obtain ⟨ep,hat⟩:=dd.dictAt
 have hl:kvs.length=ps.length:=Paired.length rel
 refine call_tuple_dict (PySem.W.kdl_dict (knd:=mixKind X.prog X.w) (kvs:=ps) (ep:=ep) hsys) (I.ok.hd hc) hat (by rw [← hl]; exact z) fun h' tk acc hlt hk hacc=>?_
 have hv:Vals (kvs.map fun kv=>kV kv.1) acc.toList:=vals_of (by rw [List.length_map,hl]; exact (hacc.1.symm.trans Array.length_toList.symm)) fun i x u h1 h2=>by
  rw [List.getElem?_map] at h1
  cases e:kvs[i]? with
  | none=>rw [e] at h1; cases h1
  | some kv =>
   rw [e] at h1
   have ex:kV kv.1=x:=Option.some.inj h1
   obtain ⟨pq,e2,e3,_⟩:=paired_get rel e
   obtain ⟨k,y,e4,e5⟩:=hacc.2 i u (by rw [← Array.getElem?_toList]; exact h2)
   rw [e2] at e4
   cases e4
   rw [← ex,e3]
   exact relV_key e5
 have hsz:(kvs.map fun kv=>kV kv.1).length≤sizeLine:=by rw [List.length_map]; exact z
 exact ⟨.ref h'.objs.size,_,I.laid (t':=tk) (o:=.tup (kvs.map fun kv=>kV kv.1)) (fun b o e=>Heap.get?_push_of_some _ (hk b o e)) (Nat.le_of_lt hlt) ⟨hsz,acc.toList,hv,⟨_,Heap.get?_push_size _ rfl,rfl,0,by rw [Array.toArray_toList]⟩⟩,rfl,q _ (I.hok.fresh (Nat.le_of_lt hlt))⟩
def RngAt (p:Addr) (i j:Int) (h:Heap):Prop:=∃ t u v,IsRange h p i j 1 t u v
theorem cr_range2:CallR X (.type "range") (fun vs H Q=>∃ i j,vs=[.int i,.int j]∧∀ p,H p=none→Q (.ref p) (upd H p (.ext (RngAt p i j)))):=by
 intro pins s σ H vs us Q I r h
 obtain ⟨i,j,rfl,q⟩:=h
 obtain ⟨u,w',rfl,⟨t,rfl⟩,⟨t',rfl⟩⟩:=vals2 r
 refine call_range_2 ?_
 have g:RngAt s.heap.objs.size i j (s.heap.push { cls:=.type "range",data:=.fields #[.int i t,.int j t',.int 1 s.toks] }):=⟨t,t',s.toks,IsRange.new _ _ _ _ _ _ _⟩
 refine ⟨.ref s.heap.objs.size,_,I.laid (t':=s.toks+1) (o:=.ext (RngAt s.heap.objs.size i j)) (fun _ _ e=>Heap.get?_push_of_some _ e) (Nat.le_refl _) ⟨g,?_,fun h1 h2 k e=>?_⟩,rfl,q _ (I.hok.fresh (Nat.le_refl _))⟩
 ·exact ⟨_,Heap.get?_push_size _ rfl⟩
 ·obtain ⟨a1,a2,a3,k⟩:=k
  exact ⟨a1,a2,a3,e _ k⟩
theorem cr_tupleR (hc:X.calm=true):CallR X (.type "tuple") (fun vs H Q=>∃ p i j,vs=[.ref p]∧H p=some (.ext (RngAt p i j))∧(-(2 ^ 20)≤i∧i≤j∧j<2 ^ 20)∧∀ t,H t=none→Q (.ref t) (upd H t (.tup ((List.range (j - i).toNat).map fun k:Nat=>V.int (i+k))))):=by
 intro pins s σ H vs us Q I r h
 obtain ⟨p,i,j,rfl,hp,⟨b1,b2,b3⟩,q⟩:=h
 rw [Vals.ref1 r]
 obtain ⟨t,u,v,hr⟩:=(I.hok _ _ hp).1
 have hsz:Builtin.Range.rangeSize i j 1=(((j - i).toNat:Nat):Int):=by
  rw [rangeSize_one]
  split <;> omega
 refine call_tuple_rng (I.ok.hd hc) hr (small_one (by omega) (by omega) (by omega) (by omega)) hsz (by omega) fun h' tk acc hlt hk hacc=>?_
 have hv:Vals ((List.range (j - i).toNat).map fun k:Nat=>V.int (i+k)) acc.toList:=vals_of (by rw [List.length_map,List.length_range]; exact (hacc.1.symm.trans Array.length_toList.symm)) fun n x u h1 h2=>by
  rw [List.getElem?_map] at h1
  cases e:(List.range (j - i).toNat)[n]? with
  | none=>rw [e] at h1; cases h1
  | some m =>
   rw [e] at h1
   have ex:V.int (i+m)=x:=Option.some.inj h1
   have em:n=m:=by
    obtain ⟨h3,h4⟩:=List.getElem?_eq_some_iff.mp e
    rw [List.getElem_range] at h4
    exact h4
   obtain ⟨t,e4⟩:=hacc.2 n u (by rw [← Array.getElem?_toList]; exact h2)
   rw [← ex,e4,← em]
   exact ⟨t,by rw [Int.mul_one]⟩
 have hl:((List.range (j - i).toNat).map fun k:Nat=>V.int (i+k)).length≤sizeLine:=by rw [List.length_map,List.length_range,sizeLine_eq]; omega
 exact ⟨.ref h'.objs.size,_,I.laid (t':=tk) (o:=.tup _) (fun b o e=>Heap.get?_push_of_some _ (hk b o e)) (Nat.le_of_lt hlt) ⟨hl,acc.toList,hv,⟨_,Heap.get?_push_size _ rfl,rfl,0,by rw [Array.toArray_toList]⟩⟩,rfl,q _ (I.hok.fresh (Nat.le_of_lt hlt))⟩
end
end L2
namespace N2
open PySem PyProof.Rows Fr
structure CmpG {α:Type} (lt:α→α→Prop) [DecidableRel lt] (At:Heap→Value→α→Prop):Prop where
 keep:∀ {h h':Heap} {x:Value} {v:α},Old h h'→At h x v→At h' x v
 cmp:∀ {prog:Program} {w:World} {A:Around} {E:Value→Shared→Prop} {s:Shared} {x y:Value} {v u:α} {Q:Value→Shared→Prop},A.units+1<cLine→At s.heap x v→At s.heap y u→Q (.bool (decide (lt v u))) s→wpAny (model prog w) A (richCompare .Lt x y) Q E s
 irr:∀ v,¬ lt v v
 tr:∀ {u v w:α},lt u v→lt v w→lt u w
section
variable {prog:Program} {w:World} {A:Around} {E:Value→Shared→Prop} {s:Shared} {α:Type} {lt:α→α→Prop} [DecidableRel lt] {At:Heap→Value→α→Prop}
theorem min_loopG {R:Result→Shared→Prop} {h0:Heap} {I S:Addr} {fp:List Addr} {n:Nat} {P:Nat→Value→Prop} {St:Nat→Heap→Prop} (C:CmpG lt At) (W:Walks prog w A.in1 I fp [I] n P St) (hu:A.units+2<cLine) (val:Nat→α)
  (hat:∀ i x,i<n→P i x→At h0 x (val i)) (nI:h0.get? I=none) (nS:h0.get? S=none) (nIS:S≠I) (hSf:S ∉ fp) :
  ∀ (m j:Nat) (s:Shared) (vb:Value) (b c:Nat),n - j=m→j≤n→Old h0 s.heap→St j s.heap→b<n→P b vb→(∀ i,i<j→¬ lt (val i) (val b))→s.heap.get? S=some ⟨.type "list",none,.seq #[vb,vb] c,#[]⟩ →
  (∀ x b h' tk,b<n→P b x→(∀ i,i<n→¬ lt (val i) (val b))→Old h0 h'→R (.ok (.ret x)) { s with heap:=h',toks:=tk })→codeAny (model prog w) A (.builtin "min.loop" ⟨[.ref I,.none,.ref S],[]⟩) R s:=by
 have nm:(toString "min"++toString ".loop":String)="min.loop":=by decide
 intro m
 induction m with
 | zero =>
  intro j s vb b c hm hjn ho st hb hPb hmin hS hR
  have ej:j=n:=by omega
  subst ej
  refine codeAny_builtin F.entry_min_loop ?_
  rw [Around.under_plainId F.plain_min_loop _]
  show wpAny _ A.in1 (seqItems? (.ref S) >>= _) _ _ s
  refine wpAny_bind (wpAny_seqItems hS rfl ?_)
  show wpAny _ A.in1 (tryCatch (pyNext (.ref I)) _ >>= _) _ _ s
  refine wpAny_bind (wpAny_tryCatch (W.done s _ _ st fun h' tk he'=>?_))
  have hS':=he' S _ (fun q=>nIS (List.mem_singleton.mp q)) hS
  show wpAny _ A.in1 (updateSeq S (fun _=>#[]) >>= _) _ _ _
  refine wpAny_bind (wpAny_updateSeq hS' rfl (wpAny_bind (wpAny_letGo (wpAny_pure ?_))))
  have old:Old h0 (h'.update S (Obj.mapSeq fun _=>#[])):=fun b o e=>by
   have hb1:b≠I:=fun q=>by rw [q,nI] at e; cases e
   have hb2:S≠b:=fun q=>by rw [← q,nS] at e; cases e
   exact (Heap.get?_update_other _ _ hb2).trans (he' b o (fun q=>hb1 (List.mem_singleton.mp q)) (ho b o e))
  exact hR vb b _ tk hb hPb hmin old
 | succ m ih =>
  intro j s vb b c hm hjn ho st hb hPb hmin hS hR
  have hj:j<n:=by omega
  refine codeAny_builtin F.entry_min_loop ?_
  rw [Around.under_plainId F.plain_min_loop _]
  show wpAny _ A.in1 (seqItems? (.ref S) >>= _) _ _ s
  refine wpAny_bind (wpAny_seqItems hS rfl ?_)
  show wpAny _ A.in1 (tryCatch (pyNext (.ref I)) _ >>= _) _ _ s
  refine wpAny_bind (wpAny_tryCatch (W.item j s _ _ hj st fun x h' tk hx st' kp=>?_))
  have ho':Old h0 h':=fun b o e=>kp b o (fun q=>by rw [List.mem_singleton.mp q,nI] at e; cases e) (ho b o e)
  have hS':=kp S _ (fun q=>nIS (List.mem_singleton.mp q)) hS
  show wpAny _ A.in1 (tryCatch (holding [x,x] (richCompare .Lt x vb >>= _)) _ >>= _) _ _ _
  refine wpAny_bind (wpAny_tryCatch (wpAny_holding (wpAny_bind (C.cmp (by rw [Around.in1_units]; exact hu) (C.keep ho' (hat j x hj hx)) (C.keep ho' (hat b vb hb hPb)) ?_))))
  refine wpAny_bind (wpAny_holding (wpAny_truthy_bool (wpAny_bind (wpAny_letGo (wpAny_pure ?_)))))
  by_cases hlt:lt (val j) (val b)
  ·rw [decide_eq_true hlt]
   simp only [if_true]
   refine wpAny_bind (wpAny_updateSeq hS' rfl (wpAny_bind (wpAny_letGo ?_)))
   rw [nm]
   have ho2:Old h0 (h'.update S (Obj.mapSeq fun _=>#[x,x])):=fun b o e=>(Heap.get?_update_other _ _ (fun q:S=b=>by rw [← q,nS] at e; cases e)).trans (ho' b o e)
   refine wpAny_pure ⟨plainId_quiet F.plain_min_loop _,ih (j+1) _ x j _ (by omega) hj ho2 (W.frame _ _ _ st' fun b hb o e=>(Heap.get?_update_other _ _ (fun q:S=b=>hSf (by rw [q]; exact hb))).trans e) hj hx ?_ (Heap.get?_update_self _ hS' rfl) fun x2 b2 h2 t2 a1 a2 a3 a4=>hR x2 b2 h2 t2 a1 a2 a3 a4⟩
   intro i hi q
   by_cases e:i=j
   ·rw [e] at q; exact C.irr _ q
   ·exact hmin i (by omega) (C.tr q hlt)
  ·rw [decide_eq_false hlt]
   simp only [Bool.false_eq_true,if_false]
   refine wpAny_bind (wpAny_letGo ?_)
   rw [nm]
   refine wpAny_pure ⟨plainId_quiet F.plain_min_loop _,ih (j+1) _ vb b c (by omega) hj ho' st' hb hPb ?_ hS' fun x2 b2 h2 t2 a1 a2 a3 a4=>hR x2 b2 h2 t2 a1 a2 a3 a4⟩
   intro i hi q
   by_cases e:i=j
   ·rw [e] at q; exact hlt q
   ·exact hmin i (by omega) q
theorem min_fromG {R:Result→Shared→Prop} {h0:Heap} {I S:Addr} {fp:List Addr} {n:Nat} {P:Nat→Value→Prop} {St:Nat→Heap→Prop} (C:CmpG lt At) (W:Walks prog w A.in1 I fp [I] n P St) (hu:A.units+2<cLine) (val:Nat→α)
  (hat:∀ i x,i<n→P i x→At h0 x (val i)) (nI:h0.get? I=none) (nS:h0.get? S=none) (nIS:S≠I) (hSf:S ∉ fp) (hn:0<n) (ho:Old h0 s.heap) (st:St 0 s.heap) {c:Nat} (hS:s.heap.get? S=some ⟨.type "list",none,.seq #[] c,#[]⟩)
  (hR:∀ x b h' tk,b<n→P b x→(∀ i,i<n→¬ lt (val i) (val b))→Old h0 h'→R (.ok (.ret x)) { s with heap:=h',toks:=tk }):codeAny (model prog w) A (.builtin "min.loop" ⟨[.ref I,.none,.ref S],[]⟩) R s:=by
 have nm:(toString "min"++toString ".loop":String)="min.loop":=by decide
 refine codeAny_builtin F.entry_min_loop ?_
 rw [Around.under_plainId F.plain_min_loop _]
 show wpAny _ A.in1 (seqItems? (.ref S) >>= _) _ _ s
 refine wpAny_bind (wpAny_seqItems hS rfl ?_)
 show wpAny _ A.in1 (tryCatch (pyNext (.ref I)) _ >>= _) _ _ s
 refine wpAny_bind (wpAny_tryCatch (W.item 0 s _ _ hn st fun x h' tk hx st' kp=>?_))
 have hS':=kp S _ (fun q=>nIS (List.mem_singleton.mp q)) hS
 have ho':Old h0 h':=fun b o e=>kp b o (fun q=>by rw [List.mem_singleton.mp q,nI] at e; cases e) (ho b o e)
 show wpAny _ A.in1 (updateSeq S (fun _=>#[x,x]) >>= _) _ _ _
 refine wpAny_bind (wpAny_updateSeq hS' rfl ?_)
 rw [nm]
 have ho2:Old h0 (h'.update S (Obj.mapSeq fun _=>#[x,x])):=fun b o e=>(Heap.get?_update_other _ _ (fun q:S=b=>by rw [← q,nS] at e; cases e)).trans (ho' b o e)
 refine wpAny_pure ⟨plainId_quiet F.plain_min_loop _,min_loopG C W hu val hat nI nS nIS hSf _ 1 _ x 0 _ rfl hn ho2 (W.frame _ _ _ st' fun b hb o e=>(Heap.get?_update_other _ _ (fun q:S=b=>hSf (by rw [q]; exact hb))).trans e) hn hx ?_ (Heap.get?_update_self _ hS' rfl) fun x2 b2 h2 t2 a1 a2 a3 a4=>hR x2 b2 h2 t2 a1 a2 a3 a4⟩
 intro i hi q
 have e:i=0:=by omega
 rw [e] at q
 exact C.irr _ q
theorem min_listG {Q:Value→Shared→Prop} {l:Addr} {xs:Array Value} (C:CmpG lt At) (hh:A.handled=none) (hu:A.units+4<cLine) (hl:s.heap.IsList l xs) (val:Nat→α) (hat:∀ i x,xs[i]?=some x→At s.heap x (val i)) (hne:0<xs.size)
  (h:∀ x b h' tk,xs[b]?=some x→(∀ i,i<xs.size→¬ lt (val i) (val b))→Old s.heap h'→Q x { s with heap:=h',toks:=tk }):wpAny (model prog w) A (call (.builtin "min") [.ref l]) Q E s:=by
 have nm:(toString "min"++toString ".loop":String)="min.loop":=by decide
 refine call_function_tree F.kind_min F.plain_min F.entry_min (F.args_min1 _) ?_
 show wpAny _ A.in1 (Builtin.Builtins.bindParams "min" ["key","default"] 0 ⟨[],[]⟩ >>= _) _ _ s
 refine wpAny_bind (wpAny_of_eq (show Builtin.Builtins.bindParams "min" ["key","default"] 0 ⟨[],[]⟩=pure [none,none] from rfl) (wpAny_bind (wpAny_pure (wpAny_bind (wpAny_pyIter_list hl ?_)))))
 refine wpAny_bind (wpAny_newObj_type ?_)
 rw [nm]
 have lt':l<s.heap.objs.size:=by obtain ⟨_,e,_⟩:=hl; exact Heap.lt_size e
 have sz1:(s.heap.push { cls:=.type "list_iterator",data:=.fields #[.ref l,.int 0 0] }).objs.size=s.heap.objs.size+1:=Heap.size_push ..
 have hS:((s.heap.push { cls:=.type "list_iterator",data:=.fields #[.ref l,.int 0 0] }).push { cls:=.type "list",data:=.seq #[] }).get? (s.heap.push { cls:=.type "list_iterator",data:=.fields #[.ref l,.int 0 0] }).objs.size=some { cls:=.type "list",data:=.seq #[] }:=Heap.get?_push_size _ rfl
 have hI:((s.heap.push { cls:=.type "list_iterator",data:=.fields #[.ref l,.int 0 0] }).push { cls:=.type "list",data:=.seq #[] }).IsListIter s.heap.objs.size l 0:=⟨_,Heap.get?_push_of_some _ (Heap.get?_push_size _ rfl),rfl,rfl⟩
 have hL:=(hl.push { cls:=.type "list_iterator",data:=.fields #[.ref l,.int 0 0] }).push { cls:=.type "list",data:=.seq #[] }
 have nIl:l≠s.heap.objs.size:=Nat.ne_of_lt lt'
 refine wpAny_pure ⟨plainId_quiet F.plain_min_loop _,min_fromG (h0:=s.heap) (fp:=[s.heap.objs.size,l]) C (Walks.list (A:=A.in1) hh s.heap.objs.size l nIl xs) (by omega) val (fun i x _ hx=>hat i x hx) (Heap.get?_none_of_le (Nat.le_refl _)) (Heap.get?_none_of_le (by rw [sz1]; omega)) (by rw [sz1]; exact Nat.succ_ne_self _) ?_ hne
  (fun b o e=>Heap.get?_push_of_some _ (Heap.get?_push_of_some _ e)) ⟨hI,hL⟩ hS fun x b h' tk _ hb hmin old=>h x b h' tk hb hmin old⟩
 intro q
 rw [sz1] at q
 rcases List.mem_cons.mp q with q | q
 ·exact absurd q (Nat.succ_ne_self _)
 ·have:=List.mem_singleton.mp q
  rw [← this] at lt'
  exact absurd lt' (Nat.not_lt.mpr (Nat.le_succ _))
theorem min_twoG {Q:Value→Shared→Prop} {x0 x1:Value} (C:CmpG lt At) (hh:A.handled=none) (hu:A.units+4<cLine) (val:Nat→α) (h0:At s.heap x0 (val 0)) (h1:At s.heap x1 (val 1))
  (h:∀ x b h' tk,(b=0∧x=x0∨b=1∧x=x1)→¬ lt (val 0) (val b)→¬ lt (val 1) (val b)→Old s.heap h'→Q x { s with heap:=h',toks:=tk }):wpAny (model prog w) A (call (.builtin "min") [x0,x1]) Q E s:=by
 have nm:(toString "min"++toString ".loop":String)="min.loop":=by decide
 refine call_function_tree F.kind_min F.plain_min F.entry_min (F.args_min2 _ _) ?_
 show wpAny _ A.in1 (Builtin.Builtins.bindParams "min" ["key","default"] 0 ⟨[],[]⟩ >>= _) _ _ s
 refine wpAny_bind (wpAny_of_eq (show Builtin.Builtins.bindParams "min" ["key","default"] 0 ⟨[],[]⟩=pure [none,none] from rfl) ?_)
 show wpAny _ A.in1 (newTuple [x0,x1] >>= _) _ _ s
 refine wpAny_bind (wpAny_newObj_type ?_)
 have hT:(s.heap.push { cls:=.type "tuple",data:=.seq #[x0,x1] }).IsTuple s.heap.objs.size #[x0,x1]:=⟨_,Heap.get?_push_size _ rfl,rfl,0,rfl⟩
 refine wpAny_bind (wpAny_pyIter_tuple hT ?_)
 refine wpAny_bind (wpAny_newObj_type ?_)
 rw [nm]
 have sz1:(s.heap.push { cls:=.type "tuple",data:=.seq #[x0,x1] }).objs.size=s.heap.objs.size+1:=Heap.size_push ..
 have sz2:((s.heap.push { cls:=.type "tuple",data:=.seq #[x0,x1] }).push { cls:=.type "tuple_iterator",data:=.fields #[.ref s.heap.objs.size,.int 0 0] }).objs.size=s.heap.objs.size+2:=by rw [Heap.size_push,sz1]
 have hS:(((s.heap.push { cls:=.type "tuple",data:=.seq #[x0,x1] }).push { cls:=.type "tuple_iterator",data:=.fields #[.ref s.heap.objs.size,.int 0 0] }).push { cls:=.type "list",data:=.seq #[] }).get? ((s.heap.push { cls:=.type "tuple",data:=.seq #[x0,x1] }).push { cls:=.type "tuple_iterator",data:=.fields #[.ref s.heap.objs.size,.int 0 0] }).objs.size=some { cls:=.type "list",data:=.seq #[] }:=Heap.get?_push_size _ rfl
 have hI:(((s.heap.push { cls:=.type "tuple",data:=.seq #[x0,x1] }).push { cls:=.type "tuple_iterator",data:=.fields #[.ref s.heap.objs.size,.int 0 0] }).push { cls:=.type "list",data:=.seq #[] }).IsTupleIter (s.heap.push { cls:=.type "tuple",data:=.seq #[x0,x1] }).objs.size s.heap.objs.size 0:=⟨_,Heap.get?_push_of_some _ (Heap.get?_push_size _ rfl),rfl,rfl⟩
 have hL:=(hT.push { cls:=.type "tuple_iterator",data:=.fields #[.ref s.heap.objs.size,.int 0 0] }).push { cls:=.type "list",data:=.seq #[] }
 refine wpAny_pure ⟨plainId_quiet F.plain_min_loop _,min_fromG (h0:=s.heap) (fp:=[(s.heap.push { cls:=.type "tuple",data:=.seq #[x0,x1] }).objs.size,s.heap.objs.size]) C (Walks.tuple (A:=A.in1) hh _ s.heap.objs.size (by rw [sz1]; exact (Nat.succ_ne_self _).symm) #[x0,x1]) (by omega) val ?_ (Heap.get?_none_of_le (by rw [sz1]; omega)) (Heap.get?_none_of_le (by rw [sz2]; omega)) (by rw [sz1,sz2]; exact Nat.succ_ne_self _) ?_ (by show 0<2; decide)
  (fun b o e=>Heap.get?_push_of_some _ (Heap.get?_push_of_some _ (Heap.get?_push_of_some _ e))) ⟨hI,hL⟩ hS fun x b h' tk hb hx hmin old=>?_⟩
 ·intro i x hi hx
  match i,hi,hx with
  | 0,_,hx =>
   have e:x0=x:=by simpa using hx
   rw [← e]; exact h0
  | 1,_,hx =>
   have e:x1=x:=by simpa using hx
   rw [← e]; exact h1
 ·intro q
  rw [sz1,sz2] at q
  rcases List.mem_cons.mp q with q | q
  ·exact absurd q (Nat.succ_ne_self _)
  ·exact absurd (List.mem_singleton.mp q) (Nat.ne_of_gt (Nat.lt_add_of_pos_right (by decide)))
 ·refine h x b h' tk ?_ (hmin 0 (by show 0<2; decide)) (hmin 1 (by show 1<2; decide)) old
  match b,hb,hx with
  | 0,_,hx=>exact .inl ⟨rfl,by simpa using hx.symm⟩
  | 1,_,hx=>exact .inr ⟨rfl,by simpa using hx.symm⟩
end
def RwAt (h:Heap) (x:Value) (v:RWay):Prop:=∃ a,x=.ref a∧Key2 h [.int v.1,.tup (v.2.map fun n:Nat=>(n:Int))] a
theorem RwAt.parts {h:Heap} {x:Value} {v:RWay} (hx:RwAt h x v):∃ a o t b its,x=.ref a∧h.get? a=some o∧o.cls=.type "tuple"∧(∃ n,o.data=.seq #[.int v.1 t,.ref b] n)∧IsTup h b its∧IntsAre its.toList (v.2.map fun n:Nat=>(n:Int)):=by
 obtain ⟨a,rfl,items,⟨o,ho,hc,n,hd⟩,hi⟩:=hx
 obtain ⟨l⟩:=items
 simp only at hi
 cases hi with
 | cons h1 r1 =>
  cases r1 with
  | cons h2 r2 =>
   cases r2
   obtain ⟨t,rfl⟩:=h1
   obtain ⟨b,its,rfl,ht,hi⟩:=h2
   exact ⟨a,o,t,b,its,rfl,ho,hc,⟨n,hd⟩,ht,hi⟩
theorem rlt_dec (v u:RWay):decide (rlt v u)=if v.1=u.1 then decide (ll v.2 u.2) else decide (v.1<u.1):=by
 unfold rlt
 by_cases h1:v.1=u.1
 ·rw [if_pos h1]
  simp [h1]
 ·rw [if_neg h1]
  simp [h1]
section
variable {prog:Program} {w:World} {A:Around} {E:Value→Shared→Prop} {s:Shared}
theorem lexA_rway {v u:RWay} (hu:A.units<cLine) {t t2:Tok} {b b2:Addr} {its its2:Array Value} (ht:IsTup s.heap b its) (hi:IntsAre its.toList (v.2.map fun n:Nat=>(n:Int))) (ht2:IsTup s.heap b2 its2) (hi2:IntsAre its2.toList (u.2.map fun n:Nat=>(n:Int))) :
  LexA A s [.int v.1 t,.ref b] [.int u.1 t2,.ref b2] (decide (rlt v u)):=by
 rw [rlt_dec]
 by_cases e1:v.1=u.1
 ·rw [if_pos e1]
  refine .eq (by have q:=SeqAt.EqAt.int_int (A:=A) (s:=s) (v.1:Int) t (u.1:Int) t2; rw [e1] at q ⊢; simpa using q) ?_
  have q:=eqAt_ints (A:=A) (s:=s) hu ht ht2 hi hi2
  by_cases e3:v.2=u.2
  ·have e4:decide (ll v.2 u.2)=false:=by rw [e3]; exact decide_eq_false (ll_irrefl _)
   rw [e4]
   rw [e3,decide_eq_true rfl] at q
   exact .eq q .nil
  ·rw [decide_eq_false (fun z=>e3 (map_cast_inj z))] at q
   refine .ne q (fun prog w E Q hq=>?_) rfl
   show wpAny (model prog w) A (compareOp .Lt (.ref b) (.ref b2)) Q E s
   refine HT.lt_tupInts ht ht2 hi hi2 hu ?_
   rw [lexLt_ll]
   exact hq
 ·rw [if_neg e1]
  refine .ne (by have q:=SeqAt.EqAt.int_int (A:=A) (s:=s) (v.1:Int) t (u.1:Int) t2; rwa [show ((v.1:Int) == (u.1:Int))=false from beq_eq_false_iff_ne.mpr (by omega)] at q) (fun prog w E Q hq=>?_) rfl
  refine HT.rcLt_int A s _ _ _ _ prog w E Q ?_
  have e3:decide ((v.1:Int)<(u.1:Int))=decide (v.1<u.1):=by simp
  rw [e3]
  exact hq
theorem lt_rways {x y:Value} {v u:RWay} {Q:Value→Shared→Prop} (hu:A.units+1<cLine) (hx:RwAt s.heap x v) (hy:RwAt s.heap y u) (h:Q (.bool (decide (rlt v u))) s):wpAny (model prog w) A (richCompare .Lt x y) Q E s:=by
 obtain ⟨a,o,t,b,its,rfl,ho,hc,⟨n,hd⟩,ht,hi⟩:=hx.parts
 obtain ⟨a2,o2,t2,b2,its2,rfl,ho2,hc2,⟨n2,hd2⟩,ht2,hi2⟩:=hy.parts
 obtain ⟨cls,dd,data,sl⟩:=o
 obtain ⟨cls2,dd2,data2,sl2⟩:=o2
 simp only at hc hd hc2 hd2
 subst hc hd hc2 hd2
 exact richCompare_meets_room (op:=.Lt) ⟨_,ho,rfl⟩ ⟨_,ho2,rfl⟩ PySem.F.slot_tuple_lt PySem.F.entry_tuple_lt (PySem.F.args_tuple_lt_2 _ _) (tuple_ltA a a2 _ _ n n2 dd dd2 sl sl2 (decide (rlt v u)))
  ⟨ho,ho2,lexA_rway (A:=A.in1) (by rw [Around.in1_units]; exact hu) ht hi ht2 hi2,show Value.bool (decide (rlt v u))≠Value.notImplemented∧Q (.bool (decide (rlt v u))) s from ⟨(fun x=>nomatch x),h⟩⟩ (by omega)
theorem cmpR:CmpG rlt RwAt where
 keep:=fun k ⟨a,e,q⟩=>⟨a,e,q.keep k.keepT⟩
 cmp:=fun hu hx hy h=>lt_rways hu hx hy h
 irr:=rlt_irrefl
 tr:=fun h k=>rlt_trans h k
end
end N2
namespace L2
open PySem PySem.Spec PyProof.Rows N2 Fr
def RwH (H:Hp) (a:Addr) (v:RWay):Prop:=∃ o,H a=some (.tup [.int (v.1:Int),.ref o])∧TupN H o v.2
abbrev RwsH (H:Hp):List Addr→List RWay→Prop:=Paired (RwH H)
theorem RwH.is {P:Program} {w:World} {H:Hp} {h:Heap} {a:Addr} {v:RWay} (ok:HOk P w H h) (t:RwH H a v):RwAt h (.ref a) v:=by
 obtain ⟨o,h1,h2⟩:=t
 obtain ⟨_,its,r,q⟩:=ok a _ h1
 obtain ⟨os,q2,i2⟩:=h2.is ok
 refine ⟨a,rfl,its.toArray,q,?_⟩
 simp only
 cases r with
 | cons r1 r =>
  cases r with
  | cons r2 r =>
   cases r
   cases r2
   exact .cons r1 (.cons ⟨o,os.toArray,rfl,q2,i2⟩ .nil)
theorem GX.put {H:Hp} {kvs:List (GKey×V)} {xs:GXs} (r:GX H kvs xs) {k:GKey} {a:Addr} {v:V} {u:Value} (hk:KeyH H a k) (rv:RelV v u):GX H (putK kvs k v) (storedH xs (gk k) a u):=by
 have e:(kvs.any fun kv=>decide (kv.1=k))=(atKey xs (gk k)).isSome:=by
  rw [valV_any]
  rcases r.find k with ⟨v,u,h1,h2,_⟩ | ⟨h1,h2⟩
  ·rw [h1,h2]; rfl
  ·rw [h1,h2]; rfl
 unfold putK storedH
 rw [e]
 by_cases q:(atKey xs (gk k)).isSome=true
 ·rw [if_pos q,if_pos q]
  clear e q
  induction r with
  | nil=>exact .nil
  | @cons p x ps xs' h _ ih =>
   rw [List.map_cons,List.map_cons]
   refine .cons ?_ ih
   obtain ⟨h1,h2,h3⟩:=h
   unfold putAt
   by_cases ek:p.1=k
   ·have ex:x.1=gk k:=by rw [h1,ek]
    rw [if_pos ek,if_pos ex]
    exact ⟨h1,h2,rv⟩
   ·have ex:¬ x.1=gk k:=fun z=>ek (gk_inj (h1.symm.trans z))
    rw [if_neg ek,if_neg ex]
    exact ⟨h1,h2,h3⟩
 ·rw [if_neg q,if_neg q]
  exact r.snoc hk rv
section
variable {X:Cx}
theorem cr_min2R (hc:X.calm=true) (hu:X.A.units+4<cLine):CallR X (.builtin "min") (fun vs H Q=>∃ a b v u,vs=[.ref a,.ref b]∧RwH H a v∧RwH H b u∧∀ c,RwH H c (minR v u)→Q (.ref c) H):=by
 intro pins s σ H vs us Q I r h
 obtain ⟨a,b,v,u,rfl,h1,h2,q⟩:=h
 obtain ⟨x,y,rfl,rx,ry⟩:=vals2 r
 obtain rfl:x=Value.ref a:=rx
 obtain rfl:y=Value.ref b:=ry
 refine min_twoG cmpR (I.ok.hd hc) hu (fun i=>if i=0 then v else u) (h1.is I.hok) (h2.is I.hok) fun z i h' tk hz m0 m1 old=>?_
 have m0':¬ rlt v (if i=0 then v else u):=m0
 have m1':¬ rlt u (if i=0 then v else u):=m1
 rcases hz with ⟨rfl,rfl⟩ | ⟨rfl,rfl⟩
 ·rw [if_pos rfl] at m1'
  exact ⟨.ref a,H,I.kept old,rfl,q a (by unfold minR; rw [if_neg m1']; exact h1)⟩
 ·rw [if_neg (by decide)] at m0'
  refine ⟨.ref b,H,I.kept old,rfl,q b ?_⟩
  unfold minR
  split
  ·exact h2
  ·rename_i hn
   have e:v=u:=rle_antisymm hn m0'
   rw [e]
   exact h2
def rMinR (K:PySem.W.Frag):List V→Hp→VK→Prop:=fun vs H Q=>∃ (a:Addr) (as:List Addr) (ws:List RWay),vs=[V.ref a]∧SqL K H a (as.map V.ref)∧RwsH H as ws∧as≠[] ∧
 ∀ (b:Addr) (v:RWay),RwH H b v→v ∈ ws→(∀ u ∈ ws,¬ rlt u v)→Q (.ref b) H
theorem cr_minR (hc:X.calm=true) (hu:X.A.units+4<cLine):CallR X (.builtin "min") (rMinR X.K):=by
 intro pins s σ H vs us Q I r h
 obtain ⟨a,as,ws,rfl,hs,hw,hne,q⟩:=h
 obtain ⟨its,rv,hl,hz⟩:=I.list hs
 have ei:=refs_at rv
 subst ei
 rw [Vals.ref1 r]
 have hlen:as.length=ws.length:=Paired.length hw
 have hat:∀ (i:Nat) (x:Value),((as.map Value.ref).toArray)[i]?=some x→∃ b v,as[i]?=some b∧ws[i]?=some v∧x=Value.ref b∧RwH H b v:=fun i x hx=>by
  have hx':(as.map Value.ref)[i]?=some x:=by simpa using hx
  rw [List.getElem?_map] at hx'
  cases e:as[i]? with
  | none=>rw [e] at hx'; cases hx'
  | some b =>
   rw [e] at hx'
   obtain ⟨v,hv,hb⟩:=paired_get hw e
   exact ⟨b,v,rfl,hv,(Option.some.inj hx').symm,hb⟩
 refine min_listG cmpR (I.ok.hd hc) hu hl.isList (fun i=>ws.getD i (0,[])) (fun i x hx=>?_) ?_ fun x i h' tk hx hmin old=>?_
 ·obtain ⟨b,v,_,hv,rfl,hb⟩:=hat i x hx
  have:ws.getD i (0,[])=v:=by rw [List.getD_eq_getElem?_getD,hv]; rfl
  rw [this]
  exact hb.is I.hok
 ·have:0<as.length:=List.length_pos_iff.mpr hne
  simpa using this
 ·obtain ⟨b,v,_,hv,rfl,hb⟩:=hat i x hx
  have ev:ws.getD i (0,[])=v:=by rw [List.getD_eq_getElem?_getD,hv]; rfl
  refine ⟨.ref b,H,I.kept old,rfl,q b v hb (List.mem_of_getElem? hv) fun u hu2=>?_⟩
  obtain ⟨j,hj⟩:=List.getElem?_of_mem hu2
  have hjl:=(List.getElem?_eq_some_iff.mp hj).1
  have:=hmin j (by simp; omega)
  rw [ev] at this
  have eu:ws.getD j (0,[])=u:=by rw [List.getD_eq_getElem?_getD,hj]; rfl
  rw [eu] at this
  exact this
def tGGet2 (P:Program) (w:World) (td tk tx:TE):TE:=fun σ H Q=>td σ H fun x H1=>∃ d,x=.ref d∧(∃ kvs,GD P w H1 d kvs)∧tk σ H1 fun y H2=>tx σ H2 fun z H3=>∃ a k kvs,y=.ref a∧KeyH H3 a k∧GD P w H3 d kvs∧Q ((valV kvs k).getD z) H3
theorem pe_gget2 {o e f:Expr} {apos cpos:Pos} {td tk tx:TE} (P:Program) (w:World) (hP:X.prog=P) (hw:X.w=w) (hu:X.A.units+2<cLine) (ho:PE X o td) (he:PE X e tk) (hf:PE X f tx) (m:M2 X o "get" apos e f cpos):PE X (.Call (.Attribute o "get" apos) [e,f] [] cpos) (tGGet2 P w td tk tx):=by
 subst hP hw
 intro pins s σ H Q I h
 refine wpAny_Call_method m.base m.few m.line PySem.F.plainAttrs_dict PySem.F.slot_dict_get PySem.F.type_dict_get (thn (ho pins s σ H _ I h) fun u s1 ⟨x,H1,I1,rx,d,ex,⟨kvs0,_,xs0,e0,r0⟩,q1⟩=>?_)
 subst ex
 obtain rfl:u=Value.ref d:=rx
 obtain ⟨od,_,_,hod,hoc,_⟩:=(I1.hok _ _ e0).1
 refine ⟨⟨od,hod,hoc.1⟩,fun b z=>(by cases z; exact ⟨od,hod,hoc.2.1⟩),?_⟩
 rw [m.trees]
 refine Calls.callWith_builtin rfl (Calls.evalArgs_plain (Calls.spliced_cons (thn (he pins s1 σ H1 _ I1 q1) fun iv s2 ⟨y,H2,I2,ry,q2⟩ =>
  Calls.spliced_cons (thn (hf pins s2 σ H2 _ I2 q2) fun fv s3 ⟨z,H3,I3,rz,a,k,kvs,ey,kh,⟨hl,xs,e3,r3⟩,q3⟩=>Calls.spliced_nil ?_))))
 subst ey
 obtain rfl:iv=Value.ref a:=ry
 have g:=(I3.hok _ _ e3).1
 have hsys:(d == sysModules)=false:=by obtain ⟨_,_,_,_,_,_,_,_,z⟩:=g; exact z
 have dd:=GX.dict I3.hok g r3
 refine call_meetsIn PySem.F.slot_dict_get dd.typeIs PySem.F.entry_dict_get (PySem.F.args_dict_get_3 _ _ _) (meetsH_dict_get_default (kind2 X.prog X.w) d a hsys fv) ⟨(by show X.A.in1.units+1<cLine; rw [Around.in1_units]; omega),gk k,xs,kh.is I3.hok,dd,?_⟩
 refine ⟨_,H3,I3.tok _,?_,q3⟩
 rcases r3.find k with ⟨v,p,v1,v2,v3⟩ | ⟨v1,v2⟩
 ·rw [v1,v2]; exact v3
 ·rw [v1,v2]; exact rz
def sGPut (P:Program) (w:World) (td tk tv:TE):TS:=fun D σ H=>tv σ H fun v H1=>td σ H1 fun x H2=>tk σ H2 fun y H3=>∃ d a k kvs,x=.ref d∧y=.ref a∧KeyH H3 a k∧GD P w H3 d kvs∧kvs.length<sizeLine ∧
 ∀ o,(∀ H':Hp,H' d=some o→(∀ b ys,H3 b=some (.tup ys)→H' b=some (.tup ys))→GD P w H' d (putK kvs k v))→D.nx σ (upd H3 d o)
theorem ps_gput {o i value:Expr} {pos pos':Pos} {td tk tv:TE} (P:Program) (w:World) (hP:X.prog=P) (hw:X.w=w) (hu:X.A.units+2<cLine) (ho:PE X o td) (hi:PE X i tk) (hv:PE X value tv) (hs:swapsWith value (some (.Subscript o i pos')) pos.line X.env=pure false) :
  PS X (.Assign [.Subscript o i pos'] value pos) (sGPut P w td tk tv):=by
 subst hP hw
 intro pins s σ H D I h
 refine wpAny_Assign_Subscript (thn (hv pins s σ H _ I h) fun r s1 ⟨v,H1,I1,rv,q1⟩=>thn (ho pins s1 σ H1 _ I1 q1) fun u s2 ⟨x,H2,I2,rx,q2⟩=>thn (hi pins s2 σ H2 _ I2 q2) fun iv s3 ⟨y,H3,I3,ry,d,a,k,kvs,ex,ey,kh,⟨hl,xs,e3,r3⟩,hlt,q3⟩=>?_) hs
 subst ex ey
 obtain rfl:u=Value.ref d:=rx
 obtain rfl:iv=Value.ref a:=ry
 have g:=(I3.hok _ _ e3).1
 have hsys:(d == sysModules)=false:=by obtain ⟨_,_,_,_,_,_,_,_,z⟩:=g; exact z
 have dd:=GX.dict I3.hok g r3
 have hz:xs.length≤sizeLine:=by rw [← Paired.length r3]; exact hl
 refine wpAny_setItem_heap (knd:=kind2 X.prog X.w) (hsz:=hz) (by show X.A.in1.units+1<cLine; rw [Around.in1_units]; omega) (kh.is I3.hok) dd fun h' dd' hs'=>?_
 obtain ⟨o',es,ep,ho',hc',hd',he',his,hnd⟩:=dd'
 have g1:gphi X.prog X.w d (storedH xs (gk k) a r) h':=⟨o',es,ep,ho',hc',hd',he',hnd,hsys⟩
 refine ⟨σ,_,d_write I3 (by rw [e3]; exact True.intro) hs' ⟨o',ho'⟩ (gphi_ok g1),q3 _ fun H' e t=>⟨?_,_,e,(r3.mono t).put ?_ rv⟩⟩
 ·have:=length_putK kvs k v
  omega
 ·obtain ⟨b,k1,k2⟩:=kh
  exact ⟨b,t _ _ k1,t _ _ k2⟩
end
end L2
namespace FR
open PySem PySem.Spec PyProof.Rows L2 N2 Fr Su73
structure Wf (a:Abs):Prop where
 rows:a.change.length=a.flavours
 cols:∀ (g:Nat) (row:List Nat),a.change[g]?=some row→row.length=a.flavours
 diag:∀ (g:Nat) (row:List Nat),a.change[g]?=some row→row.getD g 0=0
 fl7:a.flavours≤7
 jfl:∀ (j:Nat) (job:Su73.Job),a.jobs[j]?=some job→job.flavour<a.flavours
 rise:a.open_.Pairwise (·<·)
 opn:∀ j ∈ a.open_,j<a.jobs.length
 op7:a.open_.length≤7
 last:a.last≤a.flavours
 j40:a.jobs.length≤40
 dno:a.done.length+a.open_.length≤a.jobs.length
 dnj:∀ d ∈ a.done,d.job<a.jobs.length
 ran:(a.done.map fun d=>(a.job d.job).mins).sum=a.ran
theorem job_at {a:Abs} {j:Nat} (hj:j<a.jobs.length):a.jobs[j]?=some (a.job j):=by
 unfold Abs.job
 rw [List.getD_eq_getElem?_getD,List.getElem?_eq_getElem hj]
 rfl
theorem Wf.job_of {a:Abs} (h:Wf a) {j:Nat} (hj:j<a.jobs.length):a.jobs[j]?=some (a.job j)∧(a.job j).flavour<a.flavours:=⟨job_at hj,h.jfl j _ (job_at hj)⟩
theorem Wf.onf {a:Abs} (h:Wf a):∀ g,onOf a.last=some g→g<a.flavours:=fun g e=>by
 have:=h.last
 cases el:a.last with
 | zero=>rw [el] at e; cases e
 | succ f =>
  rw [el] at e
  cases e
  omega
def top (i:Nat):Stmt:=PySem.Challenge.pw_flavourruns_s01_answers.main.body.getD i (.Pass ⟨0,0,0,0⟩)
abbrev sJInit:Stmt:=inClass (top 9) 0
abbrev sJLate:Stmt:=inClass (top 9) 1
abbrev sRInit:Stmt:=inClass (top 10) 0
abbrev sWInit:Stmt:=inClass (top 11) 0
abbrev sWRest:Stmt:=inClass (top 11) 1
abbrev sWBegun:Stmt:=inClass (top 11) 2
abbrev sWHasF:Stmt:=inClass (top 11) 3
abbrev sWHasJ:Stmt:=inClass (top 11) 4
abbrev sWOpen:Stmt:=inClass (top 11) 5
abbrev sWJobs:Stmt:=inClass (top 11) 6
abbrev sWChg:Stmt:=inClass (top 11) 7
abbrev sWCin:Stmt:=inClass (top 11) 8
abbrev sWEin:Stmt:=inClass (top 11) 9
abbrev sWLin:Stmt:=inClass (top 11) 10
structure Cs where
 W:Addr
 J:Addr
 R:Addr
def jf (j:Su73.Job):List (Str×V):=[("flavour",.int (j.flavour:Int)),("minutes",.int (j.mins:Int)),("due",.int (j.due:Int))]
def rf (d:Done) (ch:Nat):List (Str×V):=[("number",.int (d.job:Int)),("change_took",.int (ch:Int)),("end",.int (d.ended:Int)),("late",.int (d.late:Int))]
def wf (n:Nat) (lc lj lo lr:Addr) (wt now:Nat) (on:V):List (Str×V):=[("flavours",.int (n:Int)),("changes",.ref lc),("jobs",.ref lj),("to_run",.ref lo),("runs",.ref lr),("waited",.int (wt:Int)),("minute",.int (now:Int)),("loaded",on)]
def JobAt (c:Cs) (H:Hp) (p:Addr) (j:Su73.Job):Prop:=∃ d,H p=some (.ins c.J d (jf j))
def RunAt (c:Cs) (H:Hp) (p:Addr) (d:Done×Nat):Prop:=∃ dx,H p=some (.ins c.R dx (rf d.1 d.2))
def RowAt (H:Hp) (p:Addr) (row:List Nat):Prop:=H p=some (.lst (intsV row))
structure Parts (c:Cs) (H:Hp) (p:Addr) (a:Abs) (dx lc lj lo lr:Addr) (rows js rs:List Addr) (dcs:List (Done×Nat)):Prop where
 obj:H p=some (.ins c.W dx (wf a.flavours lc lj lo lr a.waited a.now_ (onV (onOf a.last))))
 hlc:H lc=some (.lst (rows.map V.ref))
 hrw:Paired (RowAt H) rows a.change
 hlj:H lj=some (.lst (js.map V.ref))
 hjb:Paired (JobAt c H) js a.jobs
 hlo:H lo=some (.lst (intsV a.open_))
 hlr:H lr=some (.lst (rs.map V.ref))
 hrs:Paired (RunAt c H) rs dcs
 dn:dcs.map (·.1)=a.done
 chd:(dcs.map (·.2)).sum=a.changed
 nd:(lc::lj::lo::lr::rows).Nodup
def WorksR (c:Cs) (H:Hp) (p:Addr) (a:Abs):Prop:=∃ dx lc lj lo lr rows js rs dcs,Parts c H p a dx lc lj lo lr rows js rs dcs
def WorksAt (c:Cs) (Kp:Addr→Prop) (H:Hp) (p:Addr) (a:Abs):Prop:=∃ dx lc lj lo lr rows js rs dcs,Parts c H p a dx lc lj lo lr rows js rs dcs∧∀ b ∈ p::lc::lj::lo::lr::rows,¬ Kp b
theorem WorksAt.r {c:Cs} {Kp:Addr→Prop} {H:Hp} {p:Addr} {a:Abs} (h:WorksAt c Kp H p a):WorksR c H p a:=by
 obtain ⟨dx,lc,lj,lo,lr,rows,js,rs,dcs,P,_⟩:=h
 exact ⟨dx,lc,lj,lo,lr,rows,js,rs,dcs,P⟩
theorem Parts.mono {c:Cs} {H H':Hp} {p:Addr} {a:Abs} {dx lc lj lo lr:Addr} {rows js rs:List Addr} {dcs:List (Done×Nat)} (s:Same H H') (P:Parts c H p a dx lc lj lo lr rows js rs dcs):Parts c H' p a dx lc lj lo lr rows js rs dcs :=
 ⟨s _ _ P.obj,s _ _ P.hlc,Paired.mapP P.hrw fun _ _ q=>s _ _ q,s _ _ P.hlj,Paired.mapP P.hjb fun _ _ ⟨d,q⟩=>⟨d,s _ _ q⟩,s _ _ P.hlo,s _ _ P.hlr,Paired.mapP P.hrs fun _ _ ⟨d,q⟩=>⟨d,s _ _ q⟩,P.dn,P.chd,P.nd⟩
theorem WorksR.mono {c:Cs} {H H':Hp} {p:Addr} {a:Abs} (s:Same H H') (h:WorksR c H p a):WorksR c H' p a:=by
 obtain ⟨dx,lc,lj,lo,lr,rows,js,rs,dcs,P⟩:=h
 exact ⟨dx,lc,lj,lo,lr,rows,js,rs,dcs,P.mono s⟩
theorem WorksAt.mono {c:Cs} {Kp:Addr→Prop} {H H':Hp} {p:Addr} {a:Abs} (s:Same H H') (h:WorksAt c Kp H p a):WorksAt c Kp H' p a:=by
 obtain ⟨dx,lc,lj,lo,lr,rows,js,rs,dcs,P,k⟩:=h
 exact ⟨dx,lc,lj,lo,lr,rows,js,rs,dcs,P.mono s,k⟩
structure Txt (K:PySem.W.Frag) (c:Cs):Prop where
 clW:Cls K c.W
 clJ:Cls K c.J
 clR:Cls K c.R
 nW:∀ f,f ∈ (["flavours","changes","jobs","to_run","runs","waited","minute","loaded"]:List Str)→NoAttr K c.W f
 nJ:∀ f,f ∈ (["flavour","minutes","due"]:List Str)→NoAttr K c.J f
 nR:∀ f,f ∈ (["number","change_took","end","late"]:List Str)→NoAttr K c.R f
theorem intsV_get {l:List Nat} {i:Nat} (h:i<l.length):(intsV l)[i]?=some (.int ((l.getD i 0:Nat):Int)):=by
 unfold intsV
 rw [List.getElem?_map,List.getElem?_eq_getElem h,List.getD_eq_getElem?_getD,List.getElem?_eq_getElem h]
 rfl
theorem Parts.job {c:Cs} {H:Hp} {p:Addr} {a:Abs} {dx lc lj lo lr:Addr} {rows js rs:List Addr} {dcs:List (Done×Nat)} (P:Parts c H p a dx lc lj lo lr rows js rs dcs) {n:Nat} (hn:n<a.jobs.length) :
  ∃ q d,atI (js.map V.ref) (n:Int)=some (.ref q)∧H q=some (.ins c.J d (jf (a.job n)))∧js[n]?=some q:=by
 have hl:js.length=a.jobs.length:=Paired.length P.hjb
 have hj:n<js.length:=by rw [hl]; exact hn
 obtain ⟨b,hb,d,q⟩:=paired_get P.hjb (i:=n) (a:=js[n]) (List.getElem?_eq_getElem hj)
 rw [job_at hn] at hb
 cases hb
 exact ⟨js[n],d,atI_nat (by rw [List.getElem?_map,List.getElem?_eq_getElem hj]; rfl),q,List.getElem?_eq_getElem hj⟩
section
variable {P:Program} {w:World} {K:PySem.W.Frag} {mg:Str→Option Value} {base:Heap} {c:Cs}
def spChg (c:Cs):Sp:=fun vs H Q _=>∃ p a on f,vs=[.ref p,onV on,.int ((f:Nat):Int)]∧WorksR c H p a∧Wf a∧(∀ g,on=some g→g<a.flavours)∧f<a.flavours∧Q (.int ((turnO a on f:Nat):Int)) H
theorem scChg:FnScope ["self","loaded","flavour"] ["self","loaded","flavour"] (defScope sWChg):=⟨rfl,rfl,rfl,by decide +kernel,rfl,by decide +kernel,by decide +kernel⟩
theorem turn_row {a:Abs} (hw:Wf a) {g f:Nat} {row:List Nat} (h:a.change[g]?=some row):a.turn (g+1) f=row.getD f 0:=by
 have e1:a.change.getD g []=row:=by rw [List.getD_eq_getElem?_getD,h]; rfl
 unfold Abs.turn
 by_cases hgf:g=f
 ·subst hgf
  rw [if_pos (.inr rfl),hw.diag g row h]
 ·rw [if_neg (by omega),Nat.add_sub_cancel,e1]
theorem Parts.row {H:Hp} {p:Addr} {a:Abs} {dx lc lj lo lr:Addr} {rows js rs:List Addr} {dcs:List (Done×Nat)} (W:Parts c H p a dx lc lj lo lr rows js rs dcs) (hw:Wf a) {g:Nat} (hg:g<a.flavours) :
  ∃ row r,a.change[g]?=some row∧rows[g]?=some r∧row.length=a.flavours∧H r=some (.lst (intsV row)):=by
 have hrow:∃ row,a.change[g]?=some row:=⟨a.change[g]'(by rw [hw.rows]; exact hg),List.getElem?_eq_getElem _⟩
 obtain ⟨row,erow⟩:=hrow
 have hl:rows.length=a.change.length:=Paired.length W.hrw
 have hgl:g<rows.length:=by rw [hl,hw.rows]; exact hg
 obtain ⟨b,hb,q⟩:=paired_get W.hrw (i:=g) (a:=rows[g]) (List.getElem?_eq_getElem hgl)
 rw [erow] at hb
 cases hb
 exact ⟨row,rows[g],erow,List.getElem?_eq_getElem hgl,hw.cols g row erow,q⟩
theorem ok_chg {f:Addr} {fd:FuncData} (F:Fun K "change_minutes" "Works.change_minutes" sWChg f fd) (T:Txt K c):FnOk P w K mg base CX0 1 f fd ["self","loaded","flavour"] (spChg c):=by
 refine F.ok scChg (fun vs H Q E h=>?_) (fun cdv A outer s H vs Q E hr h=>?_)
 ·obtain ⟨p,a,on,f,rfl,_⟩:=h
  rfl
 ·obtain ⟨p,a,on,f,rfl,⟨dx,lc,lj,lo,lr,rows,js,rs,dcs,W⟩,hw,hon,hf,k⟩:=h
  refine ⟨_,pss_cons (ps_if (pt_cmp (pc_isN (pv 1))) (pss_one (ps_ret pe_int)) pss_nil) (pss_one (ps_ret (pe_ix ix_list (pe_ix ix_list (pe_fld (pv 0) rfl) (pv 1) (fun _ _=>rfl)) (pv 2) (fun _ _=>rfl)))),?_⟩
  cases on with
  | none=>exact ⟨_,rfl,_,rfl,iteT k⟩
  | some g =>
   have hg:=hon g rfl
   refine ⟨_,rfl,_,rfl,iteF ?_⟩
   obtain ⟨row,r,erow,er,hlen,hrow⟩:=W.row hw hg
   refine ⟨_,rfl,p,c.W,dx,_,_,rfl,W.obj,T.clW,T.nW "changes" (by decide +kernel),rfl,_,rfl,lc,_,_,_,rfl,rfl,SqL.of W.hlc,atI_nat (j:=g) (v:=.ref r) (by rw [List.getElem?_map,er]; rfl),_,rfl,r,_,_,_,rfl,rfl,SqL.of hrow,atI_nat (intsV_get (by rw [hlen]; exact hf)),?_⟩
   have e:turnO a (some g) f=row.getD f 0:=turn_row hw erow
   rw [e] at k
   exact k
def spLate (c:Cs):Sp:=fun vs H Q _=>∃ p j e,vs=[.ref p,.int ((e:Nat):Int)]∧JobAt c H p j∧Q (.int ((e - j.due:Nat):Int)) H
theorem scLate:FnScope ["self","end"] ["self","end"] (defScope sJLate):=⟨rfl,rfl,rfl,by decide +kernel,rfl,by decide +kernel,by decide +kernel⟩
theorem ok_late {f:Addr} {fd:FuncData} (F:Fun K "lateness" "Job.lateness" sJLate f fd) (T:Txt K c) (hmax:mg "max"=none):FnOk P w K mg base CX0 1 f fd ["self","end"] (spLate c):=by
 refine F.ok scLate (fun vs H Q E h=>?_) (fun cdv A outer s H vs Q E hr h=>?_)
 ·obtain ⟨p,j,e,rfl,_⟩:=h
  rfl
 ·obtain ⟨p,j,e,rfl,⟨dx,hj⟩,k⟩:=h
  refine ⟨_,pss_one (ps_ret (pe_callB (call_max2 rfl) (by rfl) hmax PyProof.Rows.boot_max (pa_cons pe_int (pa_cons (pe_op op_sub (pv 1) (pe_fld (pv 0) rfl)) pa_nil)))),?_⟩
  refine ⟨_,rfl,_,rfl,p,c.J,dx,_,_,rfl,hj,T.clJ,T.nJ "due" (by decide +kernel),rfl,_,_,rfl,rfl,_,_,rfl,?_⟩
  have e1:(if (e:Int) - (j.due:Int) > 0 then (e:Int) - (j.due:Int) else 0)=((e - j.due:Nat):Int):=by
   split <;> omega
  rw [e1]
  exact k
end
end FR
namespace FR
open PySem PySem.Spec PyProof.Rows L2 N2 Fr Su73
abbrev sWorth:Stmt:=top 2
theorem hu_n {A:Around} {k:Nat} (hr:Room k A) (n:Nat) (h:n≤64):A.units+n<cLine:=Nat.lt_of_le_of_lt (Nat.add_le_add_left h _) hr.units
theorem WaysH.last {H:Hp}:∀ {as:List Addr} {ws:List Way},WaysH H as ws→∀ {v:Way},ws.getLast?=some v→∃ a as',as=as'++[a]∧WayH H a v
 | _,_,.nil,v,e=>by simp at e
 | a::[],_,.cons (b:=w) h .nil,v,e=>by
  have:w=v:=by simpa using e
  subst this
  exact ⟨a,[],rfl,h⟩
 | a::b::as,_,.cons h (.cons h2 r),v,e=>by
  obtain ⟨c,as',e1,e2⟩:=WaysH.last (.cons h2 r) (v:=v) (by simpa using e)
  exact ⟨c,a::as',by rw [e1]; rfl,e2⟩
section
variable {P:Program} {w:World} {K:PySem.W.Frag} {mg:Str→Option Value} {base:Heap} {C CJ:Addr}
def spWorth:Sp:=fun vs H Q _=>∃ l as ws,vs=[.ref l]∧H l=some (.lst (as.map V.ref))∧WaysH H as ws∧ws.length<sizeLine ∧
 ∀ H' p bs,Same H H'→H p=none→H' p=some (.lst (bs.map V.ref))→WaysH H' bs (worth (sortW ws))→Q (.ref p) H'
theorem scWorth:FnScope ["ways","kept","way"] ["ways"] (defScope sWorth):=⟨rfl,rfl,rfl,by decide +kernel,rfl,by decide +kernel,by decide +kernel⟩
theorem worth_take {ws:List Way} {i:Nat} {v:Way} (h:ws[i]?=some v):worth (ws.take (i+1))=keepF (worth (ws.take i)) v:=by
 rw [List.take_add_one,h]
 unfold worth
 rw [List.foldl_append]
 rfl
theorem ok_worth {f:Addr} {fd:FuncData} (F:Fun K "worth_going_on" "worth_going_on" sWorth f fd) (h1:mg "sorted"=none) (h2:mg "len"=none):FnOk P w K mg base CX0 1 f fd ["ways"] (spWorth):=by
 refine F.ok scWorth (fun vs H Q E h=>?_) (fun cdv A outer s H vs Q E hr h=>?_)
 ·obtain ⟨l,as,ws,rfl,_⟩:=h
  rfl
 ·obtain ⟨l,as,ws,rfl,hl,hw,hz,k⟩:=h
  refine ⟨_,pss_cons (ps_set (i:=1) scWorth.nd rfl (Or.inl rfl) (pe_lst pa_nil))
   (pss_cons (ps_for PassesOwn.never rfl (pi_list (pe_callB (cr_sortedW (hu_n hr 3 (by decide))) (by rfl) h1 PyProof.Rows.boot_sorted (pa_cons (pv 0) pa_nil))) (pg_name (i:=2) scWorth.nd rfl (Or.inl rfl))
    (pss_one (ps_if (PW.pt (pw_or (pt_cmpR op_eq (pe_callB call_len_seq (by rfl) h2 PySem.boot_len (pa_cons (pv 1) pa_nil)) pe_int (nomark _))
      (pw_or1 (pt_cmpR op_lt (pe_ix ix_tup (pv 2) pe_int (fun _ _=>rfl)) (pe_ix ix_tup (pe_ix ix_list (pv 1) (pe_un un_neg pe_int) (fun _ _=>rfl)) pe_int (fun _ _=>rfl)) (nomark _)))))
     (pss_one (ps_expr (pe_bm PySem.F.plainAttrs_list PySem.F.slot_list_append PySem.F.type_list_append mt_append (pv 1) (pa_cons (pv 2) pa_nil)))) pss_nil)))
   (pss_one (ps_ret (pv 1)))),?_⟩
  refine ⟨Nat.zero_le _,fun p hp=>?_⟩
  have s1:Same H (upd H p (.lst [])):=Same.upd_new (Same.refl H) hp
  refine ⟨_,rfl,l,as,ws,rfl,SqL.of (s1 _ _ hl),WaysH.mono s1 hw,fun bs q hbs hwb hq=>?_⟩
  have s2:Same H (upd (upd H p (.lst [])) q (.lst (bs.map V.ref))):=Same.upd_new s1 hq
  have npq:p≠q:=ne_of_none (H:=upd H p (.lst [])) upd_same hq
  have hpq:upd (upd H p (.lst [])) q (.lst (bs.map V.ref)) p=some (.lst []):=by rw [upd_ne npq]; exact upd_same
  generalize e0:upd (upd H p (.lst [])) q (.lst (bs.map V.ref))=H0 at s2 hpq
  have hq0:H0 q=some (.lst (bs.map V.ref)):=by rw [← e0]; exact upd_same
  have hwb0:WaysH H0 bs (sortW ws):=by
   rw [← e0]
   exact WaysH.mono (Same.upd_new (Same.refl _) hq) hwb
  have hl2:bs.length=(sortW ws).length:=WaysH.length hwb
  have hl3:(sortW ws).length=ws.length:=(sortW_perm ws).length_eq
  refine ⟨q,rfl,⟨_,SqL.of hq0⟩,for_list (K:=K) (a:=q) (xs:=bs.map V.ref) (fun i σ H'=>∃ (v:Option V) (cs:List Addr),σ=[some (.ref l),some (.ref p),v]∧(∀ b o,H0 b=some o→b≠p→H' b=some o)∧H' p=some (.lst (cs.map V.ref))∧WaysH H' cs (worth ((sortW ws).take i)))
   ⟨none,[],rfl,fun b o e _=>e,hpq,.nil⟩ (fun i σ H' _ ⟨_,_,_,s5,_,_⟩=>SqL.of (s5 q _ hq0 (Ne.symm npq))) ?_ ?_⟩
  ·rintro i y σ H' hi ⟨v,cs,rfl,s5,hpc,hwc⟩
   obtain ⟨c,hc,rfl⟩:∃ c,bs[i]?=some c∧y=V.ref c:=by
    rw [List.getElem?_map] at hi
    cases e:bs[i]? with
    | none=>rw [e] at hi; cases hi
    | some c=>rw [e] at hi; exact ⟨c,rfl,(Option.some.inj hi).symm⟩
   obtain ⟨u,hu,hcu⟩:=paired_get hwb0 hc
   obtain ⟨o,ho1,ho2⟩:=hcu
   have tup_ne:∀ {b:Addr} {ys:List V},H0 b=some (.tup ys)→b≠p:=fun e=>ne_of e hpq (by intro z; cases z)
   have hc':H' c=_:=s5 _ _ ho1 (tup_ne ho1)
   have ho':TupN H' o u.2.2:=s5 _ _ ho2 (tup_ne ho2)
   have hcw:WayH H' c u:=⟨o,hc',ho'⟩
   have step:worth ((sortW ws).take (i+1))=keepF (worth ((sortW ws).take i)) u:=worth_take hu
   have hlen:cs.length=(worth ((sortW ws).take i)).length:=WaysH.length hwc
   have hsmall:cs.length<sizeLine:=by
    have h3:=worth_length ((sortW ws).take i)
    have h4:((sortW ws).take i).length≤(sortW ws).length:=by rw [List.length_take]; exact Nat.min_le_right _ _
    omega
   have put:(∃ (v:Option V) (cs':List Addr),[some (V.ref l),some (V.ref p),some (V.ref c)]=[some (V.ref l),some (V.ref p),v]∧(∀ b o,H0 b=some o→b≠p→(upd H' p (.lst ((cs.map V.ref)++[V.ref c]))) b=some o)∧(upd H' p (.lst ((cs.map V.ref)++[V.ref c]))) p=some (.lst (cs'.map V.ref)) ∧
     WaysH (upd H' p (.lst ((cs.map V.ref)++[V.ref c]))) cs' (worth ((sortW ws).take i)++[u])):=by
    have keepT:∀ {b:Addr} {ys:List V},H' b=some (.tup ys)→upd H' p (.lst ((cs.map V.ref)++[V.ref c])) b=some (.tup ys):=fun e=>by
     rw [upd_ne (ne_of e hpc (by intro z; cases z))]; exact e
    have wm:∀ {b:Addr} {v:Way},WayH H' b v→WayH (upd H' p (.lst ((cs.map V.ref)++[V.ref c]))) b v:=fun ⟨o,q1,q2⟩=>⟨o,keepT q1,keepT q2⟩
    refine ⟨_,cs++[c],rfl,fun b o e hb=>by rw [upd_ne hb]; exact s5 b o e hb,?_,WaysH.snoc (Paired.mapP hwc fun _ _ q=>wm q) (wm hcw)⟩
    rw [upd_same,List.map_append]
    rfl
   refine ⟨_,rfl,p,_,rfl,.inl (SqL.of hpc),rfl,_,rfl,?_⟩
   cases hk:(worth ((sortW ws).take i)).getLast? with
   | none =>
    have e1:worth ((sortW ws).take i)=[]:=List.getLast?_eq_none_iff.mp hk
    have e2:cs=[]:=List.length_eq_zero_iff.mp (by rw [hlen,e1]; rfl)
    have e3:decide (V.int ((cs.map V.ref).length:Int)=V.int 0)=true:=by rw [e2]; rfl
    have ek:keepF (worth ((sortW ws).take i)) u=worth ((sortW ws).take i)++[u]:=by unfold keepF; rw [hk]
    rw [if_pos e3]
    refine iteT ⟨_,rfl,.inl ⟨rfl,_,SqL.of hpc⟩,_,rfl,p,_,_,rfl,rfl,hpc,(by rw [List.length_map]; exact hsmall),?_⟩
    rw [step,ek]
    exact put
   | some v0 =>
    obtain ⟨a0,cs',ec,o0,ha0,ho0⟩:=WaysH.last hwc hk
    have e3:¬ decide (V.int ((cs.map V.ref).length:Int)=V.int 0)=true:=by
     intro z
     have z1:V.int ((cs.map V.ref).length:Int)=V.int 0:=of_decide_eq_true z
     injection z1 with z2
     rw [ec,List.length_map,List.length_append,List.length_singleton] at z2
     omega
    have el:atI (cs.map V.ref) (-1)=some (V.ref a0):=by
     rw [ec,List.map_append]
     exact atI_last _ _
    rw [if_neg e3]
    refine ⟨_,rfl,c,_,_,_,rfl,rfl,SqT.of hc',atI_nat (j:=1) rfl,_,rfl,_,rfl,p,_,_,_,rfl,rfl,SqL.of hpc,el,a0,_,_,_,rfl,rfl,SqT.of ha0,atI_nat (j:=1) rfl,_,_,rfl,rfl,_,rfl,?_⟩
    refine ite2 (fun hlt=>?_) fun hge=>?_
    ·refine ⟨_,rfl,.inl ⟨rfl,_,SqL.of hpc⟩,_,rfl,p,_,_,rfl,rfl,hpc,(by rw [List.length_map]; exact hsmall),?_⟩
     have hlt':u.2.1<v0.2.1:=by
      have:=of_decide_eq_true hlt
      omega
     have ek:keepF (worth ((sortW ws).take i)) u=worth ((sortW ws).take i)++[u]:=by unfold keepF; rw [hk]; exact if_pos hlt'
     rw [step,ek]
     exact put
    ·have hge':¬ u.2.1<v0.2.1:=fun z=>hge (decide_eq_true (by omega))
     have ek:keepF (worth ((sortW ws).take i)) u=worth ((sortW ws).take i):=by unfold keepF; rw [hk]; exact if_neg hge'
     refine ⟨_,cs,rfl,s5,hpc,?_⟩
     rw [step,ek]
     exact hwc
  ·rintro σ H' ⟨v,cs,rfl,s5,hpc,hwc⟩
   refine ⟨_,rfl,?_⟩
   rw [List.length_map,hl2,List.take_length] at hwc
   refine k H' p cs (fun b o e=>s5 b o (s2 b o e) (ne_of_none e hp)) hp hpc hwc
end
end FR
namespace FR
open PySem PySem.Spec PyProof.Rows L2 N2 Fr Su73
def MOk (P:Program) (w:World) (K:PySem.W.Frag) (mg:Str→Option Value) (base:Heap) (k:Nat) (C:Addr) (m:Str) (ps:List Str) (sp:Sp):Prop :=
 ∃ f fd,Meth K C m f∧FnOk P w K mg base CX0 k f fd ps sp∧Binds K fd ps []
def GOk (P:Program) (w:World) (K:PySem.W.Frag) (mg:Str→Option Value) (base:Heap) (k:Nat) (x:Str) (ps:List Str) (sp:Sp):Prop :=
 ∃ f fd,mg x=some (.ref f)∧PySem.W.keepIn K (.ref f)=true∧FnOk P w K mg base CX0 k f fd ps sp∧Binds K fd ps []
def KOk (P:Program) (w:World) (K:PySem.W.Frag) (mg:Str→Option Value) (base:Heap) (k:Nat) (x:Str) (C:Addr) (ps:List Str) (sp:Sp):Prop :=
 ∃ f fd,mg x=some (.ref C)∧Mk K C f∧FnOk P w K mg base CX0 k f fd ps sp∧Binds K fd ps []
theorem inV_ints (n:Nat):∀ l:List Nat,inV (.int (n:Int)) (intsV l)=l.contains n
 | []=>rfl
 | x::l=>by
  have ih:=inV_ints n l
  unfold inV intsV at ih ⊢
  rw [List.map_cons,List.any_cons,ih,List.contains_cons]
  have e:eqV (.int (x:Int)) (.int (n:Int))=(n == x):=by
   show ((x:Int) == (n:Int))=(n == x)
   by_cases h:n=x
   ·subst h; simp
   ·rw [beq_eq_false_iff_ne.mpr (by omega:(x:Int)≠(n:Int)),beq_eq_false_iff_ne.mpr h]
  rw [e]
theorem flat_ints:∀ l:List Nat,(intsV l).all flatV=true
 | []=>rfl
 | x::l=>by
  have ih:=flat_ints l
  unfold intsV at ih ⊢
  rw [List.map_cons,List.all_cons,ih]
  rfl
section
variable {P:Program} {w:World} {K:PySem.W.Frag} {mg:Str→Option Value} {base:Heap} {c:Cs}
def spBegun (c:Cs):Sp:=fun vs H Q _=>∃ p a,vs=[.ref p]∧WorksR c H p a∧Q (.bl (decide (0<a.flavours))) H
theorem scBegun:FnScope ["self"] ["self"] (defScope sWBegun):=⟨rfl,rfl,rfl,by decide +kernel,rfl,by decide +kernel,by decide +kernel⟩
theorem ok_begun {f:Addr} {fd:FuncData} (F:Fun K "has_begun" "Works.has_begun" sWBegun f fd) (T:Txt K c):FnOk P w K mg base CX0 1 f fd ["self"] (spBegun c):=by
 refine F.ok scBegun (fun vs H Q E h=>?_) (fun cdv A outer s H vs Q E hr h=>?_)
 ·obtain ⟨p,a,rfl,_⟩:=h
  rfl
 ·obtain ⟨p,a,rfl,⟨dx,lc,lj,lo,lr,rows,js,rs,dcs,W⟩,k⟩:=h
  refine ⟨_,pss_one (ps_ret (pe_cmpR op_gt (pe_fld (pv 0) rfl) pe_int (nomark _))),?_⟩
  refine ⟨_,rfl,p,c.W,dx,_,_,rfl,W.obj,T.clW,T.nW "flavours" (by decide +kernel),rfl,_,_,rfl,rfl,?_⟩
  have e:decide ((0:Int)<(a.flavours:Int))=decide (0<a.flavours):=by simp
  rw [← e] at k
  exact k
def spHasF (c:Cs):Sp:=fun vs H Q _=>∃ p a f,vs=[.ref p,.int ((f:Nat):Int)]∧WorksR c H p a∧Q (.bl (a.isF f)) H
theorem scHasF:FnScope ["self","flavour"] ["self","flavour"] (defScope sWHasF):=⟨rfl,rfl,rfl,by decide +kernel,rfl,by decide +kernel,by decide +kernel⟩
theorem ok_hasF {f:Addr} {fd:FuncData} (F:Fun K "has_flavour" "Works.has_flavour" sWHasF f fd) (T:Txt K c):FnOk P w K mg base CX0 1 f fd ["self","flavour"] (spHasF c):=by
 refine F.ok scHasF (fun vs H Q E h=>?_) (fun cdv A outer s H vs Q E hr h=>?_)
 ·obtain ⟨p,a,f,rfl,_⟩:=h
  rfl
 ·obtain ⟨p,a,f,rfl,⟨dx,lc,lj,lo,lr,rows,js,rs,dcs,W⟩,k⟩:=h
  refine ⟨_,pss_one (ps_ret (pe_cmpR op_lt (pv 1) (pe_fld (pv 0) rfl) (nomark _))),?_⟩
  refine ⟨_,rfl,_,rfl,p,c.W,dx,_,_,rfl,W.obj,T.clW,T.nW "flavours" (by decide +kernel),rfl,_,_,rfl,rfl,?_⟩
  have e:decide ((f:Int)<(a.flavours:Int))=a.isF f:=by unfold Abs.isF; simp
  rw [← e] at k
  exact k
def spHasJ (c:Cs):Sp:=fun vs H Q _=>∃ p a n,vs=[.ref p,.int ((n:Nat):Int)]∧WorksR c H p a∧Q (.bl (decide (n<a.jobs.length))) H
theorem scHasJ:FnScope ["self","number"] ["self","number"] (defScope sWHasJ):=⟨rfl,rfl,rfl,by decide +kernel,rfl,by decide +kernel,by decide +kernel⟩
theorem ok_hasJ {f:Addr} {fd:FuncData} (F:Fun K "has_job" "Works.has_job" sWHasJ f fd) (T:Txt K c) (hl:mg "len"=none):FnOk P w K mg base CX0 1 f fd ["self","number"] (spHasJ c):=by
 refine F.ok scHasJ (fun vs H Q E h=>?_) (fun cdv A outer s H vs Q E hr h=>?_)
 ·obtain ⟨p,a,n,rfl,_⟩:=h
  rfl
 ·obtain ⟨p,a,n,rfl,⟨dx,lc,lj,lo,lr,rows,js,rs,dcs,W⟩,k⟩:=h
  refine ⟨_,pss_one (ps_ret (pe_cmpR op_lt (pv 1) (pe_callB call_len_seq (by rfl) hl PySem.boot_len (pa_cons (pe_fld (pv 0) rfl) pa_nil)) (nomark _))),?_⟩
  refine ⟨_,rfl,_,rfl,p,c.W,dx,_,_,rfl,W.obj,T.clW,T.nW "jobs" (by decide +kernel),rfl,lj,_,rfl,.inl (SqL.of W.hlj),_,_,rfl,rfl,?_⟩
  have e:decide ((n:Int)<((js.map V.ref).length:Int))=decide (n<a.jobs.length):=by
   rw [List.length_map,Paired.length W.hjb]; simp
  rw [← e] at k
  exact k
def spOpen (c:Cs):Sp:=fun vs H Q _=>∃ p a n,vs=[.ref p,.int ((n:Nat):Int)]∧WorksR c H p a∧Q (.bl (a.isO n)) H
theorem scOpen:FnScope ["self","number"] ["self","number"] (defScope sWOpen):=⟨rfl,rfl,rfl,by decide +kernel,rfl,by decide +kernel,by decide +kernel⟩
theorem ok_open {f:Addr} {fd:FuncData} (F:Fun K "is_open" "Works.is_open" sWOpen f fd) (T:Txt K c):FnOk P w K mg base CX0 1 f fd ["self","number"] (spOpen c):=by
 refine F.ok scOpen (fun vs H Q E h=>?_) (fun cdv A outer s H vs Q E hr h=>?_)
 ·obtain ⟨p,a,n,rfl,_⟩:=h
  rfl
 ·obtain ⟨p,a,n,rfl,⟨dx,lc,lj,lo,lr,rows,js,rs,dcs,W⟩,k⟩:=h
  refine ⟨_,pss_one (ps_ret (pe_cmpR op_in_seq (pv 1) (pe_fld (pv 0) rfl) rfl)),?_⟩
  refine ⟨_,rfl,_,rfl,p,c.W,dx,_,_,rfl,W.obj,T.clW,T.nW "to_run" (by decide +kernel),rfl,lo,_,rfl,.inl (SqL.of W.hlo),rfl,flat_ints _,?_⟩
  have e:(if false=true then !inV (V.int (n:Int)) (intsV a.open_) else inV (V.int (n:Int)) (intsV a.open_))=a.isO n:=by
   rw [if_neg Bool.false_ne_true,inV_ints]
   rfl
  rw [← e] at k
  exact k
def kvJ (f:Nat→Addr) (ns:List Nat):List (Key×V):=ns.map fun n:Nat=>((Sum.inl (n:Int):Key),V.ref (f n))
theorem valV_kvJ (f:Nat→Addr) (n:Nat):∀ ns:List Nat,valV (kvJ f ns) (Sum.inl (n:Int))=if n ∈ ns then some (.ref (f n)) else none
 | []=>rfl
 | m::ns=>by
  have ih:=valV_kvJ f n ns
  unfold kvJ at ih ⊢
  rw [List.map_cons]
  by_cases h:m=n
  ·subst h
   rw [valV_pos rfl,if_pos List.mem_cons_self]
  ·rw [valV_neg (by intro z; injection z with z; exact h (by omega)),ih]
   by_cases h2:n ∈ ns
   ·rw [if_pos h2,if_pos (List.mem_cons_of_mem _ h2)]
   ·rw [if_neg h2,if_neg (by intro z; rcases List.mem_cons.mp z with z | z; exact h z.symm; exact h2 z)]
def JD (c:Cs) (H:Hp) (d:Addr) (f:Nat→Addr) (a:Abs):Prop:=Rd H d (.dK (kvJ f a.open_))∧∀ n ∈ a.open_,JobAt c H (f n) (a.job n)
def spJobs (c:Cs):Sp:=fun vs H Q _=>∃ p a,vs=[.ref p]∧WorksR c H p a∧Wf a ∧
 ∀ H' d f,Same H H'→H d=none→H' d=some (.dK (kvJ f a.open_))→(∀ n ∈ a.open_,JobAt c H' (f n) (a.job n))→Q (.ref d) H'
theorem scJobs:FnScope ["self","jobs","number"] ["self"] (defScope sWJobs):=⟨rfl,rfl,rfl,by decide +kernel,rfl,by decide +kernel,by decide +kernel⟩
theorem ints_at {l:List Nat} {i:Nat} {y:V} (h:(intsV l)[i]?=some y):∃ n,l[i]?=some n∧y=.int (n:Int):=by
 unfold intsV at h
 rw [List.getElem?_map] at h
 cases e:l[i]? with
 | none=>rw [e] at h; cases h
 | some n=>rw [e] at h; exact ⟨n,rfl,(Option.some.inj h).symm⟩
theorem len_ints (l:List Nat):(intsV l).length=l.length:=by unfold intsV; rw [List.length_map]
theorem ok_jobs {f:Addr} {fd:FuncData} (F:Fun K "open_jobs" "Works.open_jobs" sWJobs f fd) (T:Txt K c):FnOk P w K mg base CX0 1 f fd ["self"] (spJobs c):=by
 refine F.ok scJobs (fun vs H Q E h=>?_) (fun cdv A outer s H vs Q E hr h=>?_)
 ·obtain ⟨p,a,rfl,_⟩:=h
  rfl
 ·obtain ⟨p,a,rfl,⟨dx,lc,lj,lo,lr,rows,js,rs,dcs,W⟩,hw,k⟩:=h
  have hu:=hu_of hr
  have nd:=scJobs.nd
  refine ⟨_,pss_cons (ps_set (i:=1) nd rfl (Or.inl rfl) pe_dnewK)
   (pss_cons (ps_for PassesOwn.never rfl (pi_list (pe_fld (pv 0) rfl)) (pg_name (i:=2) nd rfl (Or.inl rfl))
    (pss_one (ps_dput hu (pv 1) (pv 2) (pe_ix ix_list (pe_fld (pv 0) rfl) (pv 2) (fun _ _=>rfl)) rfl)))
   (pss_one (ps_ret (pv 1)))),?_⟩
  intro d hd
  have s0:Same H (upd H d (.dK [])):=Same.upd_new (Same.refl H) hd
  refine ⟨_,rfl,p,c.W,dx,_,_,rfl,s0 _ _ W.obj,T.clW,T.nW "to_run" (by decide +kernel),rfl,lo,rfl,⟨_,SqL.of (s0 _ _ W.hlo)⟩,
   for_list (K:=K) (a:=lo) (xs:=intsV a.open_) (fun i σ H'=>∃ v:Option V,σ=[some (.ref p),some (.ref d),v]∧Same H H'∧H' d=some (.dK (kvJ (fun n=>js.getD n 0) (a.open_.take i))))
    ⟨none,rfl,s0,upd_same⟩ (fun i σ H' _ ⟨_,_,s5,_⟩=>SqL.of (s5 _ _ W.hlo)) ?_ ?_⟩
  ·rintro i y σ H' hi ⟨v,rfl,s5,hd5⟩
   obtain ⟨n,hn,rfl⟩:=ints_at hi
   have hm:n ∈ a.open_:=List.mem_of_getElem? hn
   obtain ⟨q,dq,e1,e2,e3⟩:=W.job (hw.opn n hm)
   have hnt:n ∉ a.open_.take i:=fun z=>by
    have ndl:=nodup_of_rising hw.rise
    obtain ⟨j,hj⟩:=List.getElem?_of_mem z
    have hji:j<i:=by
     have:=(List.getElem?_eq_some_iff.mp hj).1
     rw [List.length_take] at this
     omega
    rw [List.getElem?_take_of_lt hji] at hj
    have:=nd_ix ndl hj hn
    omega
   have hv:valV (kvJ (fun n=>js.getD n 0) (a.open_.take i)) (Sum.inl (n:Int))=none:=by rw [valV_kvJ,if_neg hnt]
   refine ⟨_,rfl,p,c.W,dx,_,_,rfl,s5 _ _ W.obj,T.clW,T.nW "jobs" (by decide +kernel),rfl,_,rfl,lj,_,_,_,rfl,rfl,SqL.of (s5 _ _ W.hlj),e1,_,rfl,_,rfl,d,_,rfl,DPut.k (k:=Sum.inl (n:Int)) hd5 ?_,?_⟩
   ·unfold kvJ
    rw [List.length_map,List.length_take]
    have:=hw.op7
    exact Nat.lt_of_le_of_lt (Nat.min_le_right _ _) (Nat.lt_of_le_of_lt this (by decide))
   ·refine ⟨_,rfl,fun b o e=>by rw [upd_ne (ne_of_none e hd)]; exact s5 b o e,?_⟩
    rw [upd_same,putK_new _ hv,List.take_add_one,hn]
    unfold kvJ
    rw [Option.toList_some,List.map_append,List.map_cons,List.map_nil]
    have e4:js.getD n 0=q:=by rw [List.getD_eq_getElem?_getD,e3]; rfl
    show some (HO.dK (_++[(Sum.inl (n:Int),V.ref q)]))=some (HO.dK (_++[(Sum.inl (n:Int),V.ref (js.getD n 0))]))
    rw [e4]
  ·rintro σ H' ⟨v,rfl,s5,hd5⟩
   refine ⟨_,rfl,?_⟩
   rw [len_ints,List.take_length] at hd5
   refine k H' d _ s5 hd hd5 fun n hm=>?_
   obtain ⟨q,dq,e1,e2,e3⟩:=W.job (hw.opn n hm)
   have e4:js.getD n 0=q:=by rw [List.getD_eq_getElem?_getD,e3]; rfl
   rw [e4]
   exact ⟨dq,s5 _ _ e2⟩
def spCin (c:Cs):Sp:=fun vs H Q _=>∃ p a n,vs=[.ref p,.int ((n:Nat):Int)]∧WorksR c H p a∧Wf a∧n<a.jobs.length∧Q (.int ((a.turn a.last (a.job n).flavour:Nat):Int)) H
theorem scCin:FnScope ["self","number"] ["self","number"] (defScope sWCin):=⟨rfl,rfl,rfl,by decide +kernel,rfl,by decide +kernel,by decide +kernel⟩
theorem ok_cin {f:Addr} {fd:FuncData} (F:Fun K "change_if_next" "Works.change_if_next" sWCin f fd) (T:Txt K c) (hC:MOk P w K mg base 1 c.W "change_minutes" ["self","loaded","flavour"] (spChg c)):FnOk P w K mg base CX0 2 f fd ["self","number"] (spCin c):=by
 obtain ⟨fC,fdC,mC,GC,bC⟩:=hC
 refine F.ok scCin (fun vs H Q E h=>?_) (fun cdv A outer s H vs Q E hr h=>?_)
 ·obtain ⟨p,a,n,rfl,_⟩:=h
  rfl
 ·obtain ⟨p,a,n,rfl,hW,hw,hn,k⟩:=h
  obtain ⟨dx,lc,lj,lo,lr,rows,js,rs,dcs,W⟩:=id hW
  obtain ⟨q,dq,e1,e2,e3⟩:=W.job hn
  refine ⟨_,pss_one (ps_ret (pe_meth (pv 0) T.clW mC GC hr bC .nil pass0 (pa_cons (pe_fld (pv 0) rfl) (pa_cons (pe_fld (pe_ix ix_list (pe_fld (pv 0) rfl) (pv 1) (fun _ _=>rfl)) rfl) pa_nil)))),?_⟩
  refine ⟨_,rfl,p,dx,_,rfl,W.obj,rfl,_,rfl,p,c.W,dx,_,_,rfl,W.obj,T.clW,T.nW "loaded" (by decide +kernel),rfl,_,rfl,p,c.W,dx,_,_,rfl,W.obj,T.clW,T.nW "jobs" (by decide +kernel),rfl,_,rfl,lj,_,_,_,rfl,rfl,SqL.of W.hlj,e1,
   q,c.J,dq,_,_,rfl,e2,T.clJ,T.nJ "flavour" (by decide +kernel),rfl,p,a,onOf a.last,_,rfl,hW,hw,hw.onf,(hw.job_of hn).2,?_⟩
  rw [turnO_onOf]
  exact k
def spEin (c:Cs):Sp:=fun vs H Q _=>∃ p a n,vs=[.ref p,.int ((n:Nat):Int)]∧WorksR c H p a∧Wf a∧n<a.jobs.length∧Q (.int ((a.now_+a.turn a.last (a.job n).flavour+(a.job n).mins:Nat):Int)) H
theorem scEin:FnScope ["self","number"] ["self","number"] (defScope sWEin):=⟨rfl,rfl,rfl,by decide +kernel,rfl,by decide +kernel,by decide +kernel⟩
theorem ok_ein {f:Addr} {fd:FuncData} (F:Fun K "end_if_next" "Works.end_if_next" sWEin f fd) (T:Txt K c) (hC:MOk P w K mg base 2 c.W "change_if_next" ["self","number"] (spCin c)):FnOk P w K mg base CX0 3 f fd ["self","number"] (spEin c):=by
 obtain ⟨fC,fdC,mC,GC,bC⟩:=hC
 refine F.ok scEin (fun vs H Q E h=>?_) (fun cdv A outer s H vs Q E hr h=>?_)
 ·obtain ⟨p,a,n,rfl,_⟩:=h
  rfl
 ·obtain ⟨p,a,n,rfl,hW,hw,hn,k⟩:=h
  obtain ⟨dx,lc,lj,lo,lr,rows,js,rs,dcs,W⟩:=id hW
  obtain ⟨q,dq,e1,e2,e3⟩:=W.job hn
  refine ⟨_,pss_one (ps_ret (pe_op op_add (pe_op op_add (pe_fld (pv 0) rfl) (pe_meth (pv 0) T.clW mC GC hr bC .nil pass0 (pa_cons (pv 1) pa_nil))) (pe_fld (pe_ix ix_list (pe_fld (pv 0) rfl) (pv 1) (fun _ _=>rfl)) rfl))),?_⟩
  refine ⟨_,rfl,p,c.W,dx,_,_,rfl,W.obj,T.clW,T.nW "minute" (by decide +kernel),rfl,_,rfl,p,dx,_,rfl,W.obj,rfl,_,rfl,p,a,n,rfl,hW,hw,hn,_,_,rfl,rfl,_,rfl,p,c.W,dx,_,_,rfl,W.obj,T.clW,T.nW "jobs" (by decide +kernel),rfl,_,rfl,lj,_,_,_,rfl,rfl,SqL.of W.hlj,e1,
   q,c.J,dq,_,_,rfl,e2,T.clJ,T.nJ "minutes" (by decide +kernel),rfl,_,_,rfl,rfl,?_⟩
  have e:(a.now_:Int)+(a.turn a.last (a.job n).flavour:Int)+((a.job n).mins:Int)=((a.now_+a.turn a.last (a.job n).flavour+(a.job n).mins:Nat):Int):=by omega
  rw [← e] at k
  exact k
def spLin (c:Cs):Sp:=fun vs H Q _=>∃ p a n,vs=[.ref p,.int ((n:Nat):Int)]∧WorksR c H p a∧Wf a∧n<a.jobs.length∧Q (.int ((a.now_+a.turn a.last (a.job n).flavour+(a.job n).mins - (a.job n).due:Nat):Int)) H
theorem scLin:FnScope ["self","number"] ["self","number"] (defScope sWLin):=⟨rfl,rfl,rfl,by decide +kernel,rfl,by decide +kernel,by decide +kernel⟩
theorem ok_lin {f:Addr} {fd:FuncData} (F:Fun K "late_if_next" "Works.late_if_next" sWLin f fd) (T:Txt K c) (hC:MOk P w K mg base 3 c.W "end_if_next" ["self","number"] (spEin c)) (hL:MOk P w K mg base 1 c.J "lateness" ["self","end"] (spLate c)) :
  FnOk P w K mg base CX0 4 f fd ["self","number"] (spLin c):=by
 obtain ⟨fC,fdC,mC,GC,bC⟩:=hC
 obtain ⟨fL,fdL,mL,GL,bL⟩:=hL
 refine F.ok scLin (fun vs H Q E h=>?_) (fun cdv A outer s H vs Q E hr h=>?_)
 ·obtain ⟨p,a,n,rfl,_⟩:=h
  rfl
 ·obtain ⟨p,a,n,rfl,hW,hw,hn,k⟩:=h
  obtain ⟨dx,lc,lj,lo,lr,rows,js,rs,dcs,W⟩:=id hW
  obtain ⟨q,dq,e1,e2,e3⟩:=W.job hn
  refine ⟨_,pss_one (ps_ret (pe_meth (pe_ix ix_list (pe_fld (pv 0) rfl) (pv 1) (fun _ _=>rfl)) T.clJ mL GL (hr.mono (by decide)) bL .nil pass0 (pa_cons (pe_meth (pv 0) T.clW mC GC hr bC .nil pass0 (pa_cons (pv 1) pa_nil)) pa_nil))),?_⟩
  exact ⟨_,rfl,p,c.W,dx,_,_,rfl,W.obj,T.clW,T.nW "jobs" (by decide +kernel),rfl,_,rfl,lj,_,_,_,rfl,rfl,SqL.of W.hlj,e1,q,dq,_,rfl,e2,rfl,_,rfl,p,dx,_,rfl,W.obj,rfl,_,rfl,p,a,n,rfl,hW,hw,hn,q,_,_,rfl,⟨dq,e2⟩,k⟩
end
end FR
namespace FR
open PySem PySem.Spec PyProof.Rows L2 N2 Fr Su73
def asgVal (s:Stmt):Expr:=match s with
 | .Assign _ v _=>v
 | .Return (some v) _=>v
 | _=>.Constant .none 0 ⟨0,0,0,0⟩
def lcScope (e:Expr):Scope:=match e with
 | .ListComp _ _ sc _=>sc
 | _=>{ kind:=.function,names:=[],isGenerator:=false,isCoroutine:=false }
def callArg (e:Expr):Expr:=match e with
 | .Call _ (a::_) _ _=>a
 | _=>.Constant .none 0 ⟨0,0,0,0⟩
def stAt (s:Stmt) (i:Nat):Stmt:=(defBody s).getD i (.Pass ⟨0,0,0,0⟩)
def Keeps (Kp:Addr→Prop) (H H':Hp):Prop:=∀ b o,Kp b→H b=some o→H' b=some o
theorem Keeps.refl (Kp:Addr→Prop) (H:Hp):Keeps Kp H H:=fun _ _ _ e=>e
theorem Keeps.trans {Kp:Addr→Prop} {H H1 H2:Hp} (a:Keeps Kp H H1) (b:Keeps Kp H1 H2):Keeps Kp H H2:=fun x o k e=>b x o k (a x o k e)
theorem same_keeps {Kp:Addr→Prop} {H H':Hp} (s:Same H H'):Keeps Kp H H':=fun b o _ e=>s b o e
theorem Keeps.upd {Kp:Addr→Prop} {H H':Hp} {p:Addr} {o:HO} (s:Keeps Kp H H') (hp:¬ Kp p):Keeps Kp H (upd H' p o):=fun b u k e=>by
 rw [upd_ne (show b≠p from fun z=>hp (by rw [← z]; exact k))]
 exact s b u k e
section
variable {P:Program} {w:World} {K:PySem.W.Frag} {mg:Str→Option Value} {base:Heap} {c:Cs}
def spJInit (c:Cs):Sp:=fun vs H Q _=>∃ x dx f m d,vs=[.ref x,.int ((f:Nat):Int),.int ((m:Nat):Int),.int ((d:Nat):Int)]∧H x=some (.ins c.J dx []) ∧
 ∀ H',H' x=some (.ins c.J dx (jf ⟨f,m,d⟩))→(∀ b o,H b=some o→b≠x→H' b=some o)→Q .non H'
theorem scJInit:FnScope ["self","flavour","minutes","due"] ["self","flavour","minutes","due"] (defScope sJInit):=⟨rfl,rfl,rfl,by decide +kernel,rfl,by decide +kernel,by decide +kernel⟩
theorem ok_jinit {f:Addr} {fd:FuncData} (F:Fun K "__init__" "Job.__init__" sJInit f fd) (T:Txt K c):FnOk P w K mg base CX0 1 f fd ["self","flavour","minutes","due"] (spJInit c):=by
 refine F.ok scJInit (fun vs H Q E h=>?_) (fun cdv A outer s H vs Q E hr h=>?_)
 ·obtain ⟨x,dx,f,m,d,rfl,_⟩:=h
  rfl
 ·obtain ⟨x,dx,f,m,d,rfl,hx,k⟩:=h
  refine ⟨_,pss_cons (ps_fld (pv 0) (pv 1) rfl) (pss_cons (ps_fld (pv 0) (pv 2) rfl) (pss_one (ps_fld (pv 0) (pv 3) rfl))),?_⟩
  refine ⟨_,rfl,_,rfl,x,c.J,dx,_,rfl,hx,T.clJ,T.nJ "flavour" (by decide +kernel),(by show 0<1000; decide),_,rfl,_,rfl,x,c.J,dx,_,rfl,upd_same,T.clJ,T.nJ "minutes" (by decide +kernel),(by show 1<1000; decide),
   _,rfl,_,rfl,x,c.J,dx,_,rfl,upd_same,T.clJ,T.nJ "due" (by decide +kernel),(by show 2<1000; decide),?_⟩
  exact k _ upd_same fun b o e hb=>by rw [upd_ne hb,upd_ne hb,upd_ne hb]; exact e
def spRInit (c:Cs):Sp:=fun vs H Q _=>∃ x dx n ch e l,vs=[.ref x,.int ((n:Nat):Int),.int ((ch:Nat):Int),.int ((e:Nat):Int),.int ((l:Nat):Int)]∧H x=some (.ins c.R dx []) ∧
 ∀ H',H' x=some (.ins c.R dx (rf ⟨n,e,l⟩ ch))→(∀ b o,H b=some o→b≠x→H' b=some o)→Q .non H'
theorem scRInit:FnScope ["self","number","change_took","end","late"] ["self","number","change_took","end","late"] (defScope sRInit):=⟨rfl,rfl,rfl,by decide +kernel,rfl,by decide +kernel,by decide +kernel⟩
theorem ok_rinit {f:Addr} {fd:FuncData} (F:Fun K "__init__" "Run.__init__" sRInit f fd) (T:Txt K c):FnOk P w K mg base CX0 1 f fd ["self","number","change_took","end","late"] (spRInit c):=by
 refine F.ok scRInit (fun vs H Q E h=>?_) (fun cdv A outer s H vs Q E hr h=>?_)
 ·obtain ⟨x,dx,n,ch,e,l,rfl,_⟩:=h
  rfl
 ·obtain ⟨x,dx,n,ch,e,l,rfl,hx,k⟩:=h
  refine ⟨_,pss_cons (ps_fld (pv 0) (pv 1) rfl) (pss_cons (ps_fld (pv 0) (pv 2) rfl) (pss_cons (ps_fld (pv 0) (pv 3) rfl) (pss_one (ps_fld (pv 0) (pv 4) rfl)))),?_⟩
  refine ⟨_,rfl,_,rfl,x,c.R,dx,_,rfl,hx,T.clR,T.nR "number" (by decide +kernel),(by show 0<1000; decide),_,rfl,_,rfl,x,c.R,dx,_,rfl,upd_same,T.clR,T.nR "change_took" (by decide +kernel),(by show 1<1000; decide),
   _,rfl,_,rfl,x,c.R,dx,_,rfl,upd_same,T.clR,T.nR "end" (by decide +kernel),(by show 2<1000; decide),_,rfl,_,rfl,x,c.R,dx,_,rfl,upd_same,T.clR,T.nR "late" (by decide +kernel),(by show 3<1000; decide),?_⟩
  exact k _ upd_same fun b o e hb=>by rw [upd_ne hb,upd_ne hb,upd_ne hb,upd_ne hb]; exact e
def spRest (c:Cs):Sp:=fun vs H Q _=>∃ Kp p n dx fs,vs=[.ref p,.int ((n:Nat):Int)]∧H p=some (.ins c.W dx fs)∧(fs=[]∨∃ m lc lj lo lr wt now on,fs=wf m lc lj lo lr wt now on)∧n≤7∧¬ Kp p∧(∀ b,Kp b→H b≠none) ∧
 ∀ H',WorksAt c Kp H' p (new n)→Keeps Kp H H'→(∀ b o,H b=some o→b≠p→H' b=some o)→Q .non H'
theorem scRest:FnScope ["self","flavours","flavour"] ["self","flavours"] (defScope sWRest):=⟨rfl,rfl,rfl,by decide +kernel,rfl,by decide +kernel,by decide +kernel⟩
theorem bkRest:BlkOk ["self","flavours","flavour"] (defScope sWRest) (lcScope (asgVal (stAt sWRest 1))) [("flavour",2)]:=⟨rfl,by decide +kernel,by decide +kernel,by decide +kernel,by decide +kernel⟩
theorem zeros (n:Nat):(List.replicate n [V.int 0]).flatten=intsV (List.replicate n 0):=by
 unfold intsV
 induction n with
 | zero=>rfl
 | succ n ih=>rw [List.replicate_succ,List.flatten_cons,ih,List.replicate_succ,List.map_cons]; rfl
theorem fs_init {fs:List (Str×V)} (h:fs=[]∨∃ m lc lj lo lr wt now on,fs=wf m lc lj lo lr wt now on) (n:Nat) (lc lj lo lr:Addr) :
  putF "loaded" .non (putF "minute" (.int 0) (putF "waited" (.int 0) (putF "runs" (.ref lr) (putF "to_run" (.ref lo) (putF "jobs" (.ref lj) (putF "changes" (.ref lc) (putF "flavours" (.int (n:Int)) fs)))))))=wf n lc lj lo lr 0 0 .non:=by
 rcases h with rfl | ⟨m,lc,lj,lo,lr,wt,now,on,rfl⟩
 ·rfl
 ·rfl
theorem fs_len {fs:List (Str×V)} (h:fs=[]∨∃ m lc lj lo lr wt now on,fs=wf m lc lj lo lr wt now on):fs.length≤8:=by
 rcases h with rfl | ⟨m,lc,lj,lo,lr,wt,now,on,rfl⟩
 ·decide
 ·exact Nat.le_refl 8
theorem putF_len (f:Str) (v:V):∀ fs:List (Str×V),(putF f v fs).length≤fs.length+1
 | []=>Nat.le_refl _
 | (g,x)::r=>by
  show (if g=f then (g,v)::r else (g,x)::putF f v r).length≤_
  split
  ·simp
  ·have:=putF_len f v r
   simp only [List.length_cons]
   omega
theorem paired_snoc {α β:Type} {R:α→β→Prop} {as:List α} {bs:List β} {a:α} {b:β} (h:Paired R as bs) (k:R a b):Paired R (as++[a]) (bs++[b]):=by
 induction h with
 | nil=>exact .cons k .nil
 | cons q _ ih=>exact .cons q ih
theorem paired_mem {α β:Type} {R S:α→β→Prop} {as:List α} {bs:List β} (h:Paired R as bs) (f:∀ a ∈ as,∀ b,R a b→S a b):Paired S as bs:=by
 induction h with
 | nil=>exact .nil
 | cons q _ ih=>exact .cons (f _ List.mem_cons_self _ q) (ih fun a ha=>f a (List.mem_cons_of_mem _ ha))
theorem insKeep {H:Hp} {p l dx:Addr} {fs:List (Str×V)} (h:H p=some (.ins c.W dx fs)) (hl:H l=none):upd H l (.lst []) p=some (.ins c.W dx fs):=by
 rw [upd_ne (ne_of_none h hl)]
 exact h
theorem rest_fin {H' A2 A3 A4 HF:Hp} {p lj lo lr:Addr} (k2:∀ b,b≠p→A2 b=H' b) (p2:A2 p≠none) (hj:A2 lj=none) (k3:∀ b,b≠p→A3 b=upd A2 lj (.lst []) b) (p3:A3 p≠none) (ho:A3 lo=none)
  (k4:∀ b,b≠p→A4 b=upd A3 lo (.lst []) b) (p4:A4 p≠none) (hr:A4 lr=none) (k5:∀ b,b≠p→HF b=upd A4 lr (.lst []) b) :
  (∀ b o,b≠p→H' b=some o→HF b=some o)∧HF lj=some (.lst [])∧HF lo=some (.lst [])∧HF lr=some (.lst [])∧lj≠p∧lo≠p∧lr≠p∧lj≠lo∧lj≠lr∧lo≠lr∧H' lj=none∧H' lo=none∧H' lr=none:=by
 have nj:lj≠p:=fun z=>p2 (by rw [← z]; exact hj)
 have no:lo≠p:=fun z=>p3 (by rw [← z]; exact ho)
 have nr:lr≠p:=fun z=>p4 (by rw [← z]; exact hr)
 have a3:∀ b o,b≠p→A2 b=some o→A3 b=some o:=fun b o hb e=>by rw [k3 b hb,upd_ne (ne_of_none e hj)]; exact e
 have a4:∀ b o,b≠p→A3 b=some o→A4 b=some o:=fun b o hb e=>by rw [k4 b hb,upd_ne (ne_of_none e ho)]; exact e
 have a5:∀ b o,b≠p→A4 b=some o→HF b=some o:=fun b o hb e=>by rw [k5 b hb,upd_ne (ne_of_none e hr)]; exact e
 have j3:A3 lj=some (.lst []):=by rw [k3 lj nj,upd_same]
 have o4:A4 lo=some (.lst []):=by rw [k4 lo no,upd_same]
 have r5:HF lr=some (.lst []):=by rw [k5 lr nr,upd_same]
 have j4:=a4 _ _ nj j3
 have a2:∀ b o,b≠p→H' b=some o→A2 b=some o:=fun b o hb e=>by rw [k2 b hb]; exact e
 have f2:∀ b,b≠p→A2 b=none→H' b=none:=fun b hb e=>by rw [← k2 b hb]; exact e
 have f3:∀ b,b≠p→A3 b=none→A2 b=none:=fun b hb e=>by
  cases q:A2 b with
  | none=>rfl
  | some o=>rw [a3 b o hb q] at e; cases e
 have f4:∀ b,b≠p→A4 b=none→A3 b=none:=fun b hb e=>by
  cases q:A3 b with
  | none=>rfl
  | some o=>rw [a4 b o hb q] at e; cases e
 exact ⟨fun b o hb e=>a5 b o hb (a4 b o hb (a3 b o hb (a2 b o hb e))),a5 _ _ nj j4,a5 _ _ no o4,r5,nj,no,nr,ne_of_none j3 ho,ne_of_none j4 hr,ne_of_none o4 hr,f2 _ nj hj,f2 _ no (f3 _ no ho),f2 _ nr (f3 _ nr (f4 _ nr hr))⟩
theorem rest_end {Kp:Addr→Prop} {H H1 H' A2 A3 A4 HF:Hp} {p dx D lj lo lr:Addr} {n:Nat} {rows:List Addr} {fs1:List (Str×V)} {Q:VK} (k2:∀ b,b≠p→A2 b=H' b) (p2:A2 p≠none) (hj:A2 lj=none) (k3:∀ b,b≠p→A3 b=upd A2 lj (.lst []) b) (p3:A3 p≠none) (ho:A3 lo=none)
  (k4:∀ b,b≠p→A4 b=upd A3 lo (.lst []) b) (p4:A4 p≠none) (hr2:A4 lr=none) (k5:∀ b,b≠p→HF b=upd A4 lr (.lst []) b) (hpF:HF p=some (.ins c.W dx (wf n D lj lo lr 0 0 .non)))
  (s1:Same H1 H') (hD1:H' D=some (.lst (rows.map V.ref))) (hrw:Paired (RowAt H') rows (List.replicate n (List.replicate n 0))) (hnd:(D::rows).Nodup) (hfr:∀ r ∈ rows,H1 r=none) (hp1:H1 p=some (.ins c.W dx fs1)) (hD:H1 D=none)
  (f1:∀ b,H1 b=none→H b=none) (k1:∀ b o,H b=some o→b≠p→H1 b=some o) (nKp:¬ Kp p) (hKp:∀ b,Kp b→H b≠none)
  (k:∀ H',WorksAt c Kp H' p (new n)→Keeps Kp H H'→(∀ b o,H b=some o→b≠p→H' b=some o)→Q .non H'):Q .non HF:=by
 obtain ⟨fr,q1,q2,q3,n1,n2,n3,n4,n5,n6,z1,z2,z3⟩:=rest_fin k2 p2 hj k3 p3 ho k4 p4 hr2 k5
 have hlD:lj≠D:=fun z=>by rw [z,hD1] at z1; cases z1
 have hoD:lo≠D:=fun z=>by rw [z,hD1] at z2; cases z2
 have hrD:lr≠D:=fun z=>by rw [z,hD1] at z3; cases z3
 have nDp:D≠p:=fun z=>by rw [z] at hD; rw [hp1] at hD; cases hD
 have rws:∀ r ∈ rows,∃ x,H' r=some (.lst x):=fun r hr=>by
  obtain ⟨j,hj⟩:=List.getElem?_of_mem hr
  obtain ⟨x2,_,q2⟩:=paired_get hrw hj
  exact ⟨_,q2⟩
 have rp:∀ r ∈ rows,r≠p:=fun r hr z=>by rw [z] at hr; have:=hfr p hr; rw [hp1] at this; cases this
 have rx:∀ {l:Addr},H' l=none→l ∉ rows:=fun {l} e hl=>by
  obtain ⟨x,q⟩:=rws l hl
  rw [e] at q
  cases q
 have nK:∀ b,H1 b=none→¬ Kp b:=fun b e kb=>hKp b kb (f1 b e)
 refine k _ ⟨dx,D,lj,lo,lr,rows,[],[],[],⟨?_,?_,?_,?_,.nil,?_,?_,.nil,rfl,rfl,?_⟩,?_⟩ ?_ ?_
 ·exact hpF
 ·exact fr _ _ nDp hD1
 ·exact paired_mem hrw fun r hr x q=>fr _ _ (rp r hr) q
 ·exact q1
 ·exact q2
 ·exact q3
 ·have h1:=List.nodup_cons.mp hnd
  refine List.nodup_cons.mpr ⟨?_,List.nodup_cons.mpr ⟨?_,List.nodup_cons.mpr ⟨?_,List.nodup_cons.mpr ⟨rx z3,h1.2⟩⟩⟩⟩
  ·intro z
   rcases List.mem_cons.mp z with z | z
   ·exact hlD z.symm
   ·rcases List.mem_cons.mp z with z | z
    ·exact hoD z.symm
    ·rcases List.mem_cons.mp z with z | z
     ·exact hrD z.symm
     ·exact h1.1 z
  ·intro z
   rcases List.mem_cons.mp z with z | z
   ·exact n4 z
   ·rcases List.mem_cons.mp z with z | z
    ·exact n5 z
    ·exact rx z1 z
  ·intro z
   rcases List.mem_cons.mp z with z | z
   ·exact n6 z
   ·exact rx z2 z
 ·intro b hb
  rcases List.mem_cons.mp hb with rfl | hb
  ·exact nKp
  ·rcases List.mem_cons.mp hb with rfl | hb
   ·exact nK _ hD
   ·rcases List.mem_cons.mp hb with rfl | hb
    ·exact nK _ (s1.free z1)
    ·rcases List.mem_cons.mp hb with rfl | hb
     ·exact nK _ (s1.free z2)
     ·rcases List.mem_cons.mp hb with rfl | hb
      ·exact nK _ (s1.free z3)
      ·exact nK _ (hfr b hb)
 ·intro b o kb e
  have hb:b≠p:=fun z=>nKp (by rw [← z]; exact kb)
  exact fr b o hb (s1 b o (k1 b o e hb))
 ·exact fun b o e hb=>fr b o hb (s1 b o (k1 b o e hb))
theorem ok_rest {f:Addr} {fd:FuncData} (F:Fun K "restart" "Works.restart" sWRest f fd) (T:Txt K c) (hm:mg "range"=none):FnOk P w K mg base CX0 1 f fd ["self","flavours"] (spRest c):=by
 refine F.ok scRest (fun vs H Q E h=>?_) (fun cdv A outer s H vs Q E hr h=>?_)
 ·obtain ⟨Kp,p,n,dx,fs,rfl,_⟩:=h
  rfl
 ·obtain ⟨Kp,p,n,dx,fs,rfl,hp,hfs,hn,nKp,hKp,k⟩:=h
  have nd:=scRest.nd
  refine ⟨_,pss_cons (ps_fld (pv 0) (pv 1) rfl)
   (pss_cons (ps_fld (pv 0) (pe_lc rfl nd (pi_range1 (by rfl) hm (pa_cons (pv 1) pa_nil)) bkRest (fun _ _ _ _ _=>pg_name (i:=2) nd rfl (Or.inl rfl)) (fun _ _ _ _ _=>pts_nil)
     (fun _ _ _ _ _=>pe_op op_rep (pe_lst (pa_cons pe_int pa_nil)) (pv 1))) rfl)
   (pss_cons (ps_fld (pv 0) (pe_lst pa_nil) rfl)
   (pss_cons (ps_fld (pv 0) (pe_lst pa_nil) rfl)
   (pss_cons (ps_fld (pv 0) (pe_lst pa_nil) rfl)
   (pss_cons (ps_fld (pv 0) pe_int rfl)
   (pss_cons (ps_fld (pv 0) pe_int rfl)
   (pss_one (ps_fld (pv 0) pe_non rfl)))))))),?_⟩
  have l0:=fs_len hfs
  refine ⟨_,rfl,_,rfl,p,c.W,dx,_,rfl,hp,T.clW,T.nW "flavours" (by decide +kernel),(by omega),?_⟩
  generalize hF1:putF "flavours" (V.int (n:Int)) fs=fs1
  have l1:fs1.length≤9:=by have:=putF_len "flavours" (V.int (n:Int)) fs; rw [hF1] at this; omega
  have hp1:(upd H p (.ins c.W dx fs1)) p=some (.ins c.W dx fs1):=upd_same
  have k1:∀ b o,H b=some o→b≠p→upd H p (.ins c.W dx fs1) b=some o:=fun b o e hb=>by rw [upd_ne hb]; exact e
  have f1:∀ b,upd H p (.ins c.W dx fs1) b=none→H b=none:=fun b e=>by
   by_cases hb:b=p
   ·subst hb; rw [upd_same] at e; cases e
   ·rw [upd_ne hb] at e; exact e
  generalize upd H p (.ins c.W dx fs1)=H1 at hp1 k1 f1
  refine ⟨_,rfl,_,rfl,(by omega),(by omega),fun D hD=>?_⟩
  refine lc_range (lo:=0) (fun i H'=>Same H1 H'∧∃ rows:List Addr,H' D=some (.lst (rows.map V.ref))∧Paired (RowAt H') rows (List.replicate i (List.replicate n 0))∧(D::rows).Nodup∧∀ r ∈ rows,H1 r=none) ?_ ?_ ?_
  ·exact ⟨Same.upd_new (Same.refl H1) hD,[],upd_same,.nil,by simp,fun r hr=>by cases hr⟩
  ·rintro i H' hi ⟨s1,rows,hD1,hrw,hnd,hfr⟩
   have hi':i<n:=by simpa using hi
   refine ⟨rfl,(by decide),fun q hq=>⟨_,rfl,q,_,_,rfl,rfl,upd_same,(by omega),(by omega),?_,fun r hr=>?_⟩⟩
   ·rw [List.length_singleton,Nat.one_mul]
    exact Nat.le_trans (show ((n:Int)).toNat≤7 by omega) (by decide)
   ·have s2:Same H' (upd (upd H' q (.lst [V.int 0])) r (.lst (List.replicate ((n:Int)).toNat [V.int 0]).flatten)):=Same.upd_new (Same.upd_new (Same.refl H') hq) hr
    have hl:rows.length=i:=by rw [Paired.length hrw,List.length_replicate]
    refine ⟨rows.map V.ref,s2 _ _ hD1,?_,?_⟩
    ·rw [List.length_map,hl]
     exact Nat.lt_of_lt_of_le hi' (Nat.le_trans hn (by decide))
    ·have e0:(List.replicate ((n:Int)).toNat [V.int 0]).flatten=intsV (List.replicate n 0):=by rw [Int.toNat_natCast]; exact zeros n
     rw [e0] at s2 ⊢
     have hr0:H' r=none:=by
      by_cases h:r=q
      ·subst h; rw [upd_same] at hr; cases hr
      ·rw [upd_ne h] at hr; exact hr
     have nrD:r≠D:=fun z=>by rw [z,hD1] at hr0; cases hr0
     have rk:∀ b o,b≠D→H' b=some o→upd (upd (upd H' q (.lst [V.int 0])) r (.lst (intsV (List.replicate n 0)))) D (.lst (rows.map V.ref++[V.ref r])) b=some o:=fun b o hb e=>by
      rw [upd_ne hb]; exact s2 b o e
     refine ⟨fun b o e=>rk b o (ne_of_none e hD) (s1 b o e),rows++[r],by rw [upd_same,List.map_append]; rfl,?_,?_,?_⟩
     ·rw [List.replicate_succ']
      refine paired_snoc (paired_mem hrw fun b hb x q=>rk b _ (fun z=>?_) q) ?_
      ·rw [z] at hb
       exact (List.nodup_cons.mp hnd).1 hb
      ·show upd _ D _ r=_
       rw [upd_ne nrD]
       exact upd_same
     ·rw [← List.cons_append,List.nodup_append]
      refine ⟨hnd,by simp,fun x hx y hy z=>?_⟩
      rw [List.mem_singleton.mp hy] at z
      rw [z] at hx
      rcases List.mem_cons.mp hx with hx | hx
      ·exact nrD hx
      ·obtain ⟨j,hj⟩:=List.getElem?_of_mem hx
       obtain ⟨x2,_,q2⟩:=paired_get hrw hj
       have q3:H' r=some (.lst (intsV x2)):=q2
       rw [hr0] at q3
       cases q3
     ·intro x hx
      rcases List.mem_append.mp hx with hx | hx
      ·exact hfr x hx
      ·rw [List.mem_singleton.mp hx]
       exact s1.free hr0
  ·rintro H' ⟨s1,rows,hD1,hrw,hnd,hfr⟩
   have hl0:∀ f v (fs:List (Str×V)) m,fs.length≤m→(putF f v fs).length≤m+1:=fun f v fs m h=>Nat.le_trans (putF_len f v fs) (by omega)
   have l2:=hl0 "changes" (V.ref D) fs1 9 l1
   refine ⟨_,rfl,p,c.W,dx,_,rfl,s1 _ _ hp1,T.clW,T.nW "changes" (by decide +kernel),(by omega),Nat.zero_le _,fun lj hj=>?_⟩
   have p2:=insKeep (c:=c) (fs:=putF "changes" (V.ref D) fs1) (dx:=dx) upd_same hj
   have l3:=hl0 "jobs" (V.ref lj) _ 10 l2
   refine ⟨_,rfl,p,c.W,dx,_,rfl,p2,T.clW,T.nW "jobs" (by decide +kernel),(by omega),Nat.zero_le _,fun lo ho=>?_⟩
   have p3:=insKeep (c:=c) (fs:=putF "jobs" (V.ref lj) (putF "changes" (V.ref D) fs1)) (dx:=dx) upd_same ho
   have l4:=hl0 "to_run" (V.ref lo) _ 11 l3
   refine ⟨_,rfl,p,c.W,dx,_,rfl,p3,T.clW,T.nW "to_run" (by decide +kernel),(by omega),Nat.zero_le _,fun lr hr2=>?_⟩
   have p4:=insKeep (c:=c) (fs:=putF "to_run" (V.ref lo) (putF "jobs" (V.ref lj) (putF "changes" (V.ref D) fs1))) (dx:=dx) upd_same hr2
   have l5:=hl0 "runs" (V.ref lr) _ 12 l4
   have l6:=hl0 "waited" (V.int 0) _ 13 l5
   have l7:=hl0 "minute" (V.int 0) _ 14 l6
   refine ⟨_,rfl,p,c.W,dx,_,rfl,p4,T.clW,T.nW "runs" (by decide +kernel),(by omega),_,rfl,p,c.W,dx,_,rfl,upd_same,T.clW,T.nW "waited" (by decide +kernel),(by omega),_,rfl,p,c.W,dx,_,rfl,upd_same,T.clW,T.nW "minute" (by decide +kernel),(by omega),
    _,rfl,p,c.W,dx,_,rfl,upd_same,T.clW,T.nW "loaded" (by decide +kernel),(by omega),?_⟩
   have hfin:=fs_init hfs n D lj lo lr
   rw [hF1] at hfin
   have e1:((n:Int)).toNat=n:=Int.toNat_natCast n
   rw [e1] at hrw
   exact rest_end (fun b hb=>upd_ne hb) (by rw [upd_same]; exact fun z=>nomatch z) hj (fun b hb=>upd_ne hb) (by rw [upd_same]; exact fun z=>nomatch z) ho (fun b hb=>upd_ne hb) (by rw [upd_same]; exact fun z=>nomatch z) hr2
    (fun b hb=>by rw [upd_ne hb,upd_ne hb,upd_ne hb,upd_ne hb]) (by rw [upd_same]; exact congrArg (fun z=>some (HO.ins c.W dx z)) hfin) s1 hD1 hrw hnd hfr hp1 hD f1 k1 nKp hKp k
end
end FR
namespace FR
open PySem PySem.Spec PyProof.Rows L2 N2 Fr Su73
def GInt (mg:Str→Option Value) (x:Str) (i:Int):Prop:=∃ u,mg x=some u∧RelV (.int i) u
theorem pe_gi {X:Cx} {x:Str} {i:Int} {pos:Pos} (hg:Gl X x) (h:GInt X.mg x i) (hd:(x == ("__debug__":Str))=false:=by decide):PE X (.Name x pos) (tC (.int i)):=by
 obtain ⟨u,e,r⟩:=h
 exact pe_glob hg e r hd
structure Gc (mg:Str→Option Value):Prop where
 nsuch:GInt mg "NONE_SUCH" (-2)
 nbeg:GInt mg "NOT_BEGUN" (-11)
 oor:GInt mg "OUT_OF_RANGE" (-22)
 many:GInt mg "TOO_MANY" (-28)
 mfl:GInt mg "MOST_FLAVOURS" 7
 mch:GInt mg "MOST_CHANGE_MINUTES" 500
 mjm:GInt mg "MOST_JOB_MINUTES" 1000
 mdue:GInt mg "MOST_DUE" 1000000
 mop:GInt mg "MOST_OPEN" 7
 mjobs:GInt mg "MOST_JOBS" 40
 mwait:GInt mg "MOST_WAIT" 1000
 beg:GInt mg "BEGIN" 0
 len:mg "len"=none
 max:mg "max"=none
 min:mg "min"=none
 range:mg "range"=none
 enum:mg "enumerate"=none
 tuple:mg "tuple"=none
 list:mg "list"=none
 set:mg "set"=none
 all:mg "all"=none
 zip:mg "zip"=none
 sum:mg "sum"=none
 sorted:mg "sorted"=none
def ansI (r:Ans):List Int:=r.value::Su73Neutral.outs r.out
def Post (c:Cs) (Kp:Addr→Prop) (H:Hp) (p:Addr) (Q:VK) (r:Abs×Ans):Prop :=
 ∀ H' q,Keeps Kp H H'→WorksAt c Kp H' p r.1→H' q=some (.lst ((ansI r.2).map V.int))→¬ Kp q→Q (.ref q) H'
def spRe (c:Cs) (ok:List Nat→Prop) (cl:List Nat→Su73.Call):Sp:=fun vs H Q _=>∃ Kp p g a ns,vs=[.ref p,.ref g]∧WorksAt c Kp H p a∧Wf a∧(∀ b,Kp b→H b≠none)∧H g=some (.lst (intsV ns))∧ok ns∧Post c Kp H p Q (does a (cl ns))
theorem nk {Kp:Addr→Prop} {H H':Hp} {l:Addr} (hKp:∀ b,Kp b→H b≠none) (kp:Keeps Kp H H') (hl:H' l=none):¬ Kp l:=fun z=>by
 cases q:H l with
 | none=>exact hKp l z q
 | some o=>rw [kp l o z q] at hl; cases hl
theorem Post.same {c:Cs} {Kp:Addr→Prop} {H H1:Hp} {p l:Addr} {Q:VK} {a:Abs} {r:Ans} {ys:List V} (k:Post c Kp H p Q (a,r)) (hKp:∀ b,Kp b→H b≠none) (hW:WorksAt c Kp H p a) (s:Same H H1) (hl:H1 l=none) (ey:ys=(ansI r).map V.int):Q (.ref l) (upd H1 l (.lst ys)) :=
 k _ l (same_keeps (Same.upd_new s hl)) (hW.mono (Same.upd_new s hl)) (by rw [upd_same,ey]) (nk hKp (same_keeps s) hl)
def len1 (ns:List Nat):Prop:=ns.length=1
def len2 (ns:List Nat):Prop:=ns.length=2
def len3 (ns:List Nat):Prop:=ns.length=3
def len0 (ns:List Nat):Prop:=ns.length=0
theorem of1 {ns:List Nat} (h:len1 ns):∃ n,ns=[n]:=by
 match ns,h with
 | [n],_=>exact ⟨n,rfl⟩
theorem of2 {ns:List Nat} (h:len2 ns):∃ n m,ns=[n,m]:=by
 match ns,h with
 | [n,m],_=>exact ⟨n,m,rfl⟩
theorem of3 {ns:List Nat} (h:len3 ns):∃ n m k,ns=[n,m,k]:=by
 match ns,h with
 | [n,m,k],_=>exact ⟨n,m,k,rfl⟩
theorem outs_map (l:List Nat):(Su73Neutral.outs l).map V.int=intsV l:=by
 unfold Su73Neutral.outs intsV
 rw [List.map_map]
 rfl
theorem ints_set (row:List Nat) (g m:Nat):(intsV row).set g (.int (m:Int))=intsV (row.set g m):=by
 unfold intsV
 rw [List.map_set]
theorem rows_set {H:Hp} {r:Addr} {fn:List Nat→List Nat} {row:List Nat}:∀ {rows:List Addr} {ch:List (List Nat)} {f:Nat},Paired (RowAt H) rows ch→rows.Nodup→rows[f]?=some r→ch[f]?=some row→Paired (RowAt (upd H r (.lst (intsV (fn row))))) rows (ch.modify f fn)
 | _,_,_,.nil,_,h,_=>by simp at h
 | x::rows,y::ch,0,.cons q t,nd,h,h2=>by
  have e:x=r:=by simpa using h
  have e2:y=row:=by simpa using h2
  subst e e2
  show Paired _ (x::rows) (fn y::ch)
  exact .cons upd_same (paired_mem t fun b hb z q=>by
   show upd H x _ b=_
   rw [upd_ne (fun z=>(List.nodup_cons.mp nd).1 (by rw [← z]; exact hb))]
   exact q)
 | x::rows,y::ch,f+1,.cons q t,nd,h,h2=>by
  have h':rows[f]?=some r:=by simpa using h
  have h2':ch[f]?=some row:=by simpa using h2
  show Paired _ (x::rows) (y::ch.modify f fn)
  refine .cons ?_ (rows_set t (List.nodup_cons.mp nd).2 h' h2')
  show upd H r _ x=_
  rw [upd_ne (fun z=>(List.nodup_cons.mp nd).1 (by rw [z]; exact List.mem_of_getElem? h'))]
  exact q
theorem ixN_nat {n j:Nat} (h:j<n):ixN n (j:Int)=some j:=by
 unfold ixN
 rw [if_pos (by omega),if_pos (by omega)]
 simp
section
variable {P:Program} {w:World} {K:PySem.W.Frag} {mg:Str→Option Value} {base:Heap} {c:Cs}
def spWInit (c:Cs):Sp:=fun vs H Q _=>∃ Kp p dx,vs=[.ref p]∧H p=some (.ins c.W dx [])∧¬ Kp p∧(∀ b,Kp b→H b≠none) ∧
 ∀ H',WorksAt c Kp H' p (new 0)→Keeps Kp H H'→(∀ b o,H b=some o→b≠p→H' b=some o)→Q .non H'
theorem scWInit:FnScope ["self"] ["self"] (defScope sWInit):=⟨rfl,rfl,rfl,by decide +kernel,rfl,by decide +kernel,by decide +kernel⟩
theorem ok_winit {f:Addr} {fd:FuncData} (F:Fun K "__init__" "Works.__init__" sWInit f fd) (T:Txt K c) (hR:MOk P w K mg base 1 c.W "restart" ["self","flavours"] (spRest c)):FnOk P w K mg base CX0 2 f fd ["self"] (spWInit c):=by
 obtain ⟨fR,fdR,mR,GR,bR⟩:=hR
 refine F.ok scWInit (fun vs H Q E h=>?_) (fun cdv A outer s H vs Q E hr h=>?_)
 ·obtain ⟨Kp,p,dx,rfl,_⟩:=h
  rfl
 ·obtain ⟨Kp,p,dx,rfl,hp,nKp,hKp,k⟩:=h
  refine ⟨_,pss_one (ps_expr (pe_meth (pv 0) T.clW mR GR hr bR .nil pass0 (pa_cons pe_int pa_nil))),?_⟩
  exact ⟨_,rfl,p,dx,_,rfl,hp,rfl,Kp,p,0,dx,[],rfl,hp,.inl rfl,by decide,nKp,hKp,k⟩
theorem scBegin:FnScope ["works","given","flavours"] ["works","given"] (defScope (top 25)):=⟨rfl,rfl,rfl,by decide +kernel,rfl,by decide +kernel,by decide +kernel⟩
theorem ok_begin {f:Addr} {fd:FuncData} (F:Fun K "begin" "begin" (top 25) f fd) (T:Txt K c) (G:Gc mg) (hR:MOk P w K mg base 1 c.W "restart" ["self","flavours"] (spRest c)):FnOk P w K mg base CX0 2 f fd ["works","given"] (spRe c len1 fun ns=>.begin_ (ns.getD 0 0)):=by
 obtain ⟨fR,fdR,mR,GR,bR⟩:=hR
 refine F.ok scBegin (fun vs H Q E h=>?_) (fun cdv A outer s H vs Q E hr h=>?_)
 ·obtain ⟨Kp,p,g,a,ns,rfl,_⟩:=h
  rfl
 ·obtain ⟨Kp,p,g,a,ns,rfl,hW,hw,hKp,hg,hl,k⟩:=h
  obtain ⟨n,rfl⟩:=of1 hl
  obtain ⟨dx,lc,lj,lo,lr,rows,js,rs,dcs,W,nK⟩:=id hW
  have nd:=scBegin.nd
  refine ⟨_,pss_cons (ps_set (i:=2) nd rfl (Or.inl rfl) (pe_ix ix_list (pv 1) pe_int (fun _ _=>rfl)))
   (pss_cons (ps_if (PW.pt (pw_or (pt_cmpR op_lt (pv 2) pe_int (nomark _)) (pw_or1 (pt_cmpR op_gt (pv 2) (pe_gi (by rfl) G.mfl) (nomark _))))) (pss_one (ps_ret (pe_lst (pa_cons (pe_gi (by rfl) G.oor) pa_nil)))) pss_nil)
   (pss_cons (ps_expr (pe_meth (pv 0) T.clW mR GR hr bR .nil pass0 (pa_cons (pv 2) pa_nil)))
   (pss_one (ps_ret (pe_lst (pa_cons pe_int pa_nil)))))),?_⟩
  have bad:(n=0∨7<n)→∀ l,H l=none→Q (.ref l) (upd H l (.lst [V.int (-22)])):=fun h l hl=>by
   have e:does a (.begin_ n)=(a,no (-22)):=if_pos h
   rw [show does a (.begin_ (([n]:List Nat).getD 0 0))=(a,no (-22)) from e] at k
   exact k.same hKp hW (Same.refl H) hl rfl
  refine ⟨_,rfl,g,_,_,_,rfl,rfl,SqL.of hg,atI_nat (j:=0) rfl,_,rfl,_,_,rfl,rfl,_,rfl,ite2 (fun h=>iteT ⟨by show 1≤sizeLine; decide,bad (by have:=of_decide_eq_true h; omega)⟩) fun h1=>⟨_,rfl,_,_,rfl,rfl,_,rfl,ite2 (fun h=>⟨by show 1≤sizeLine; decide,bad (by have:=of_decide_eq_true h; omega)⟩) fun h2=>?_⟩⟩
  have n1:¬ (n=0∨7<n):=fun z=>by
   rcases z with z | z
   ·exact h1 (decide_eq_true (by omega))
   ·exact h2 (decide_eq_true (by omega))
  rw [show does a (.begin_ (([n]:List Nat).getD 0 0))=(new n,no 0) from if_neg n1] at k
  refine ⟨_,rfl,p,dx,_,rfl,W.obj,rfl,_,rfl,Kp,p,n,dx,_,rfl,W.obj,.inr ⟨_,_,_,_,_,_,_,_,rfl⟩,(by omega),nK p List.mem_cons_self,hKp,fun H' hW' kp _=>⟨by show 1≤sizeLine; decide,fun l hl=>?_⟩⟩
  exact k _ l (kp.trans (same_keeps (Same.upd_new (Same.refl H') hl))) (hW'.mono (Same.upd_new (Same.refl H') hl)) (by rw [upd_same]; rfl) (nk hKp kp hl)
theorem scChange:FnScope ["works","given","before","after","minutes","were"] ["works","given"] (defScope (top 26)):=⟨rfl,rfl,rfl,by decide +kernel,rfl,by decide +kernel,by decide +kernel⟩
theorem ok_change {f:Addr} {fd:FuncData} (F:Fun K "change" "change" (top 26) f fd) (T:Txt K c) (G:Gc mg) (hF:MOk P w K mg base 1 c.W "has_flavour" ["self","flavour"] (spHasF c)):FnOk P w K mg base CX0 2 f fd ["works","given"] (spRe c len3 fun ns=>.change (ns.getD 0 0) (ns.getD 1 0) (ns.getD 2 0)):=by
 obtain ⟨fF,fdF,mF,GF,bF⟩:=hF
 refine F.ok scChange (fun vs H Q E h=>?_) (fun cdv A outer s H vs Q E hr h=>?_)
 ·obtain ⟨Kp,p,g,a,ns,rfl,_⟩:=h
  rfl
 ·obtain ⟨Kp,p,g,a,ns,rfl,hW,hw,hKp,hg,hl,k⟩:=h
  obtain ⟨u,v,m,rfl⟩:=of3 hl
  replace k:Post c Kp H p Q (does a (.change u v m)):=k
  obtain ⟨dx,lc,lj,lo,lr,rows,js,rs,dcs,W,nK⟩:=id hW
  have nd:=scChange.nd
  have hR:WorksR c H p a:=hW.r
  refine ⟨_,pss_cons (ps_set (i:=2) nd rfl (Or.inl rfl) (pe_ix ix_list (pv 1) pe_int (fun _ _=>rfl)))
   (pss_cons (ps_set (i:=3) nd rfl (Or.inl rfl) (pe_ix ix_list (pv 1) pe_int (fun _ _=>rfl)))
   (pss_cons (ps_set (i:=4) nd rfl (Or.inl rfl) (pe_ix ix_list (pv 1) pe_int (fun _ _=>rfl)))
   (pss_cons (ps_if (pt_not (PW.pt (pw_and (pt_val (pe_meth (pv 0) T.clW mF GF hr bF .nil pass0 (pa_cons (pv 2) pa_nil))) (pw_and1 (pt_val (pe_meth (pv 0) T.clW mF GF hr bF .nil pass0 (pa_cons (pv 3) pa_nil))))))) (pss_one (ps_ret (pe_lst (pa_cons (pe_gi (by rfl) G.nsuch) pa_nil)))) pss_nil)
   (pss_cons (ps_if (PW.pt (pw_or (pt_cmpR op_eq (pv 2) (pv 3) (nomark _)) (pw_or1 (pt_cmpR op_gt (pv 4) (pe_gi (by rfl) G.mch) (nomark _))))) (pss_one (ps_ret (pe_lst (pa_cons (pe_gi (by rfl) G.oor) pa_nil)))) pss_nil)
   (pss_cons (ps_set (i:=5) nd rfl (Or.inl rfl) (pe_ix ix_list (pe_ix ix_list (pe_fld (pv 0) rfl) (pv 2) (fun _ _=>rfl)) (pv 3) (fun _ _=>rfl)))
   (pss_cons (ps_asg (pv 4) (pg_sub (pe_ix ix_list (pe_fld (pv 0) rfl) (pv 2) (fun _ _=>rfl)) (pv 3) set_list))
   (pss_one (ps_ret (pe_lst (pa_cons (pv 5) pa_nil)))))))))),?_⟩
  refine ⟨_,rfl,g,_,_,_,rfl,rfl,SqL.of hg,atI_nat (j:=0) rfl,_,rfl,g,_,_,_,rfl,rfl,SqL.of hg,atI_nat (j:=1) rfl,_,rfl,g,_,_,_,rfl,rfl,SqL.of hg,atI_nat (j:=2) rfl,?_⟩
  have bad2:(a.isF u=false∨a.isF v=false)→∀ l,H l=none→Q (.ref l) (upd H l (.lst [V.int (-2)])):=fun h l hl=>by
   rw [show does a (.change u v m)=(a,no (-2)) from if_pos h] at k
   exact k.same hKp hW (Same.refl H) hl rfl
  refine ⟨_,rfl,p,dx,_,rfl,W.obj,rfl,_,rfl,p,a,u,rfl,hR,_,rfl,ite2 (fun h1=>⟨_,rfl,p,dx,_,rfl,W.obj,rfl,_,rfl,p,a,v,rfl,hR,_,rfl,?_⟩) fun h1=>?_⟩
  rotate_left
  ·refine iteT ⟨by show 1≤sizeLine; decide,bad2 (.inl (Bool.eq_false_iff.mpr h1))⟩
  refine ite2 (fun h2=>⟨by show 1≤sizeLine; decide,bad2 (.inr (by simpa using h2))⟩) fun h2=>?_
  have hv:a.isF v=true:=by simpa using h2
  have nb:¬ (a.isF u=false∨a.isF v=false):=fun z=>by
   rcases z with z | z
   ·rw [z] at h1; cases h1
   ·rw [z] at hv; cases hv
  have bad22:(u=v∨500<m)→∀ l,H l=none→Q (.ref l) (upd H l (.lst [V.int (-22)])):=fun h l hl=>by
   rw [show does a (.change u v m)=(a,no (-22)) from (if_neg nb).trans (if_pos h)] at k
   exact k.same hKp hW (Same.refl H) hl rfl
  refine ⟨_,rfl,_,rfl,rfl,_,rfl,ite2 (fun h3=>iteT ⟨by show 1≤sizeLine; decide,bad22 (.inl (by have:=of_decide_eq_true h3; injection this with this; omega))⟩) fun h3=>⟨_,rfl,_,_,rfl,rfl,_,rfl,ite2 (fun h4=>⟨by show 1≤sizeLine; decide,bad22 (.inr (by have:=of_decide_eq_true h4; omega))⟩) fun h4=>?_⟩⟩
  have n2:¬ (u=v∨500<m):=fun z=>by
   rcases z with z | z
   ·exact h3 (decide_eq_true (by rw [z]))
   ·exact h4 (decide_eq_true (by omega))
  have hu:u<a.flavours:=of_decide_eq_true h1
  have hv':v<a.flavours:=of_decide_eq_true hv
  obtain ⟨row,r,erow,er,hlen,hrow⟩:=W.row hw hu
  have eat:atI (rows.map V.ref) ((u:Nat):Int)=some (V.ref r):=atI_nat (j:=u) (v:=V.ref r) (by rw [List.getElem?_map,er]; rfl)
  refine ⟨_,rfl,p,c.W,dx,_,_,rfl,W.obj,T.clW,T.nW "changes" (by decide +kernel),rfl,_,rfl,lc,_,_,_,rfl,rfl,SqL.of W.hlc,eat,_,rfl,r,_,_,_,rfl,rfl,SqL.of hrow,atI_nat (intsV_get (by rw [hlen]; exact hv')),_,rfl,_,rfl,p,c.W,dx,_,_,rfl,W.obj,T.clW,T.nW "changes" (by decide +kernel),rfl,_,rfl,lc,_,_,_,rfl,rfl,SqL.of W.hlc,eat,_,rfl,r,_,_,v,rfl,rfl,hrow,?_,_,rfl,by show 1≤sizeLine; decide,fun l hl=>?_⟩
  ·rw [len_ints,hlen]
   exact ixN_nat hv'
  ·rw [show does a (.change u v m)=({ a with change:=a.change.modify u fun r=>r.set v m },num (a.turn (u+1) v) []) from (if_neg nb).trans (if_neg n2)] at k
   rw [ints_set] at hl ⊢
   have hmr:r ∈ rows:=List.mem_of_getElem? er
   have nKr:¬ Kp r:=nK r (by simp [hmr])
   have ndr:rows.Nodup:=(List.nodup_cons.mp (List.nodup_cons.mp (List.nodup_cons.mp (List.nodup_cons.mp W.nd).2).2).2).2
   have np:p≠r:=ne_of W.obj hrow (by intro z; cases z)
   have nx:∀ {b:Addr} {o:HO},H b=some o→b≠r→upd H r (.lst (intsV (row.set v m))) b=some o:=fun e hb=>by rw [upd_ne hb]; exact e
   have ndm:∀ b ∈ lc::lj::lo::[lr],b≠r:=fun b hb z=>by
    have h1:=List.nodup_cons.mp W.nd
    have h2:=List.nodup_cons.mp h1.2
    have h3:=List.nodup_cons.mp h2.2
    have h4:=List.nodup_cons.mp h3.2
    rw [z] at hb
    rcases List.mem_cons.mp hb with hb | hb
    ·exact h1.1 (by rw [← hb]; simp [hmr])
    ·rcases List.mem_cons.mp hb with hb | hb
     ·exact h2.1 (by rw [← hb]; simp [hmr])
     ·rcases List.mem_cons.mp hb with hb | hb
      ·exact h3.1 (by rw [← hb]; simp [hmr])
      ·rw [List.mem_singleton] at hb
       exact h4.1 (by rw [← hb]; exact hmr)
   have s3:Same (upd H r (.lst (intsV (row.set v m)))) (upd (upd H r (.lst (intsV (row.set v m)))) l (.lst [V.int ((row.getD v 0:Nat):Int)])):=Same.upd_new (Same.refl _) hl
   refine k _ l (Keeps.trans (Keeps.upd (Keeps.refl Kp H) nKr) (same_keeps s3)) (WorksAt.mono s3 ⟨dx,lc,lj,lo,lr,rows,js,rs,dcs,⟨nx W.obj np,nx W.hlc (ndm _ (by simp)),rows_set (fn:=fun r=>r.set v m) W.hrw ndr er erow,nx W.hlj (ndm _ (by simp)),?_,nx W.hlo (ndm _ (by simp)),nx W.hlr (ndm _ (by simp)),?_,W.dn,W.chd,W.nd⟩,nK⟩) ?_ (nk hKp (Keeps.upd (Keeps.refl Kp H) nKr) hl)
   ·exact Paired.mapP W.hjb fun b x ⟨d,q⟩=>⟨d,nx q (ne_of q hrow (by intro z; cases z))⟩
   ·exact Paired.mapP W.hrs fun b x ⟨d,q⟩=>⟨d,nx q (ne_of q hrow (by intro z; cases z))⟩
   ·rw [upd_same,turn_row hw erow]
    rfl
end
end FR
namespace FR
open PySem PySem.Spec PyProof.Rows L2 N2 Fr Su73
theorem ins_ne {H:Hp} {p q C C2 d d2:Addr} {fs fs2:List (Str×V)} (h:H q=some (.ins C d fs)) (h2:H p=some (.ins C2 d2 fs2)) (hl:fs.length≠fs2.length):q≠p :=
 ne_of h h2 (fun z=>hl (by injection z with _ _ z; rw [z]))
theorem Parts.fields {c:Cs} {H H':Hp} {p:Addr} {a a':Abs} {dx lc lj lo lr:Addr} {rows js rs:List Addr} {dcs:List (Done×Nat)} (W:Parts c H p a dx lc lj lo lr rows js rs dcs)
  (hp:H' p=some (.ins c.W dx (wf a'.flavours lc lj lo lr a'.waited a'.now_ (onV (onOf a'.last))))) (s:∀ b o,b≠p→H b=some o→H' b=some o)
  (e1:a'.change=a.change) (e2:a'.jobs=a.jobs) (e3:a'.open_=a.open_) (e4:a'.done=a.done) (e5:a'.changed=a.changed):Parts c H' p a' dx lc lj lo lr rows js rs dcs:=by
 have nl:∀ {b:Addr} {xs:List V},H b=some (.lst xs)→H' b=some (.lst xs):=fun e=>s _ _ (ne_of e W.obj (by intro z; cases z)) e
 refine ⟨hp,nl W.hlc,?_,nl W.hlj,?_,?_,nl W.hlr,?_,?_,?_,W.nd⟩
 ·rw [e1]; exact Paired.mapP W.hrw fun b x q=>nl q
 ·rw [e2]; exact Paired.mapP W.hjb fun b x ⟨d,q⟩=>⟨d,s _ _ (ins_ne q W.obj (by show 3≠8; decide)) q⟩
 ·rw [e3]; exact nl W.hlo
 ·exact Paired.mapP W.hrs fun b x ⟨d,q⟩=>⟨d,s _ _ (ins_ne q W.obj (by show 4≠8; decide)) q⟩
 ·rw [e4]; exact W.dn
 ·rw [e5]; exact W.chd
section
variable {P:Program} {w:World} {K:PySem.W.Frag} {mg:Str→Option Value} {base:Heap} {c:Cs}
def refV (a:Abs) (f m d:Nat):V:=if a.isF f=false then .int (-2) else if m=0∨1000<m∨1000000<d then .int (-22) else if OPEN≤a.open_.length then .int (-28) else .non
def spJR (c:Cs):Sp:=fun vs H Q _=>∃ p g a f m d,vs=[.ref p,.ref g]∧WorksR c H p a∧Wf a∧H g=some (.lst (intsV [f,m,d]))∧Q (refV a f m d) H
theorem scJR:FnScope ["works","given","minutes","due"] ["works","given"] (defScope (top 27)):=⟨rfl,rfl,rfl,by decide +kernel,rfl,by decide +kernel,by decide +kernel⟩
theorem ok_jr {f:Addr} {fd:FuncData} (F:Fun K "job_refusal" "job_refusal" (top 27) f fd) (T:Txt K c) (G:Gc mg) (hF:MOk P w K mg base 1 c.W "has_flavour" ["self","flavour"] (spHasF c)):FnOk P w K mg base CX0 2 f fd ["works","given"] (spJR c):=by
 obtain ⟨fF,fdF,mF,GF,bF⟩:=hF
 refine F.ok scJR (fun vs H Q E h=>?_) (fun cdv A outer s H vs Q E hr h=>?_)
 ·obtain ⟨p,g,a,f,m,d,rfl,_⟩:=h
  rfl
 ·obtain ⟨p,g,a,f,m,d,rfl,hW,hw,hg,k⟩:=h
  obtain ⟨dx,lc,lj,lo,lr,rows,js,rs,dcs,W⟩:=id hW
  have nd:=scJR.nd
  refine ⟨_,pss_cons (ps_set (i:=2) nd rfl (Or.inl rfl) (pe_ix ix_list (pv 1) pe_int (fun _ _=>rfl)))
   (pss_cons (ps_set (i:=3) nd rfl (Or.inl rfl) (pe_ix ix_list (pv 1) pe_int (fun _ _=>rfl)))
   (pss_cons (ps_if (pt_not (pt_val (pe_meth (pv 0) T.clW mF GF hr bF .nil pass0 (pa_cons (pe_ix ix_list (pv 1) pe_int (fun _ _=>rfl)) pa_nil)))) (pss_one (ps_ret (pe_gi (by rfl) G.nsuch))) pss_nil)
   (pss_cons (ps_if (PW.pt (pw_or (pt_cmpR op_lt (pv 2) pe_int (nomark _)) (pw_or (pt_cmpR op_gt (pv 2) (pe_gi (by rfl) G.mjm) (nomark _)) (pw_or1 (pt_cmpR op_gt (pv 3) (pe_gi (by rfl) G.mdue) (nomark _)))))) (pss_one (ps_ret (pe_gi (by rfl) G.oor))) pss_nil)
   (pss_cons (ps_if (pt_cmpR op_eq (pe_callB call_len_seq (by rfl) G.len PySem.boot_len (pa_cons (pe_fld (pv 0) rfl) pa_nil)) (pe_gi (by rfl) G.mop) (nomark _)) (pss_one (ps_ret (pe_gi (by rfl) G.many))) pss_nil)
   (pss_one (ps_ret pe_non)))))),?_⟩
  refine ⟨_,rfl,g,_,_,_,rfl,rfl,SqL.of hg,atI_nat (j:=1) rfl,_,rfl,g,_,_,_,rfl,rfl,SqL.of hg,atI_nat (j:=2) rfl,_,rfl,p,dx,_,rfl,W.obj,rfl,_,rfl,g,_,_,_,rfl,rfl,SqL.of hg,atI_nat (j:=0) rfl,p,a,f,rfl,hW,_,rfl,ite2 (fun h1=>?_) fun h1=>?_⟩
  ·have e:a.isF f=false:=by simpa using h1
   rw [show refV a f m d=.int (-2) from if_pos e] at k
   exact k
  have e1:¬ a.isF f=false:=by simpa using h1
  have bad:(m=0∨1000<m∨1000000<d)→Q (V.int (-22)) H:=fun h=>by
   rw [show refV a f m d=.int (-22) from (if_neg e1).trans (if_pos h)] at k
   exact k
  refine ⟨_,rfl,_,_,rfl,rfl,_,rfl,ite2 (fun h=>iteT (bad (by have:=of_decide_eq_true h; omega))) fun h2=>⟨_,rfl,_,_,rfl,rfl,_,rfl,ite2 (fun h=>iteT (bad (by have:=of_decide_eq_true h; omega))) fun h3=>⟨_,rfl,_,_,rfl,rfl,_,rfl,ite2 (fun h=>bad (by have:=of_decide_eq_true h; omega)) fun h4=>?_⟩⟩⟩
  have e2:¬ (m=0∨1000<m∨1000000<d):=fun z=>by
   rcases z with z | z | z
   ·exact h2 (decide_eq_true (by omega))
   ·exact h3 (decide_eq_true (by omega))
   ·exact h4 (decide_eq_true (by omega))
  have l7:=hw.op7
  refine ⟨_,rfl,p,c.W,dx,_,_,rfl,W.obj,T.clW,T.nW "to_run" (by decide +kernel),rfl,lo,_,rfl,.inl (SqL.of W.hlo),rfl,_,rfl,ite2 (fun h=>?_) fun h=>?_⟩
  ·have:=of_decide_eq_true h
   injection this with this
   rw [len_ints] at this
   rw [show refV a f m d=.int (-28) from (if_neg e1).trans ((if_neg e2).trans (if_pos (show 7≤a.open_.length by omega)))] at k
   exact k
  ·have h5:¬ 7≤a.open_.length:=fun z=>h (decide_eq_true (by rw [len_ints,show a.open_.length=7 by omega]; rfl))
   rw [show refV a f m d=.non from (if_neg e1).trans ((if_neg e2).trans (if_neg h5))] at k
   exact k
theorem scWait:FnScope ["works","given","minutes"] ["works","given"] (defScope (top 31)):=⟨rfl,rfl,rfl,by decide +kernel,rfl,by decide +kernel,by decide +kernel⟩
theorem ok_wait {f:Addr} {fd:FuncData} (F:Fun K "wait" "wait" (top 31) f fd) (T:Txt K c) (G:Gc mg):FnOk P w K mg base CX0 1 f fd ["works","given"] (spRe c len1 fun ns=>.wait (ns.getD 0 0)):=by
 refine F.ok scWait (fun vs H Q E h=>?_) (fun cdv A outer s H vs Q E hr h=>?_)
 ·obtain ⟨Kp,p,g,a,ns,rfl,_⟩:=h
  rfl
 ·obtain ⟨Kp,p,g,a,ns,rfl,hW,hw,hKp,hg,hl,k⟩:=h
  obtain ⟨n,rfl⟩:=of1 hl
  replace k:Post c Kp H p Q (does a (.wait n)):=k
  obtain ⟨dx,lc,lj,lo,lr,rows,js,rs,dcs,W,nK⟩:=id hW
  have nd:=scWait.nd
  refine ⟨_,pss_cons (ps_set (i:=2) nd rfl (Or.inl rfl) (pe_ix ix_list (pv 1) pe_int (fun _ _=>rfl)))
   (pss_cons (ps_if (PW.pt (pw_or (pt_cmpR op_lt (pv 2) pe_int (nomark _)) (pw_or1 (pt_cmpR op_gt (pv 2) (pe_gi (by rfl) G.mwait) (nomark _))))) (pss_one (ps_ret (pe_lst (pa_cons (pe_gi (by rfl) G.oor) pa_nil)))) pss_nil)
   (pss_cons (ps_fldaug (pv 0) (pv 2) in_add)
   (pss_cons (ps_fldaug (pv 0) (pv 2) in_add)
   (pss_one (ps_ret (pe_lst (pa_cons (pe_fld (pv 0) rfl) pa_nil))))))),?_⟩
  have bad:(n=0∨1000<n)→∀ l,H l=none→Q (.ref l) (upd H l (.lst [V.int (-22)])):=fun h l hl=>by
   rw [show does a (.wait n)=(a,no (-22)) from if_pos h] at k
   exact k.same hKp hW (Same.refl H) hl rfl
  refine ⟨_,rfl,g,_,_,_,rfl,rfl,SqL.of hg,atI_nat (j:=0) rfl,_,rfl,_,_,rfl,rfl,_,rfl,ite2 (fun h=>iteT ⟨by show 1≤sizeLine; decide,bad (by have:=of_decide_eq_true h; omega)⟩) fun h1=>⟨_,rfl,_,_,rfl,rfl,_,rfl,ite2 (fun h=>⟨by show 1≤sizeLine; decide,bad (by have:=of_decide_eq_true h; omega)⟩) fun h2=>?_⟩⟩
  have n1:¬ (n=0∨1000<n):=fun z=>by
   rcases z with z | z
   ·exact h1 (decide_eq_true (by omega))
   ·exact h2 (decide_eq_true (by omega))
  rw [show does a (.wait n)=({ a with now_:=a.now_+n,waited:=a.waited+n },num (a.now_+n) []) from if_neg n1] at k
  refine ⟨_,rfl,p,c.W,dx,_,_,rfl,W.obj,T.clW,T.nW "minute" (by decide +kernel),rfl,_,rfl,_,_,rfl,rfl,dx,_,W.obj,(by show 8<1000; decide),_,rfl,p,c.W,dx,_,_,rfl,upd_same,T.clW,T.nW "waited" (by decide +kernel),rfl,_,rfl,_,_,rfl,rfl,dx,_,upd_same,(by show 8<1000; decide),
   _,rfl,p,c.W,dx,_,_,rfl,upd_same,T.clW,T.nW "minute" (by decide +kernel),rfl,by show 1≤sizeLine; decide,fun l hl=>?_⟩
  have ef:putF "waited" (V.int ((a.waited:Int)+(n:Int))) (putF "minute" (V.int ((a.now_:Int)+(n:Int))) (wf a.flavours lc lj lo lr a.waited a.now_ (onV (onOf a.last))))=wf a.flavours lc lj lo lr (a.waited+n) (a.now_+n) (onV (onOf a.last)):=by
   unfold wf
   rw [Int.natCast_add,Int.natCast_add]
   rfl
  have nKp:¬ Kp p:=nK p List.mem_cons_self
  refine k _ l ((Keeps.upd (Keeps.upd (Keeps.refl Kp H) nKp) nKp).trans (same_keeps (Same.upd_new (Same.refl _) hl))) (WorksAt.mono (Same.upd_new (Same.refl _) hl) ⟨dx,lc,lj,lo,lr,rows,js,rs,dcs,W.fields (upd_same.trans (congrArg (fun z=>some (HO.ins c.W dx z)) ef)) (fun b o hb e=>by rw [upd_ne hb,upd_ne hb]; exact e) rfl rfl rfl rfl rfl,nK⟩) ?_ (nk hKp (Keeps.upd (Keeps.upd (Keeps.refl Kp H) nKp) nKp) hl)
  rw [upd_same]
  show some (HO.lst [V.int ((a.now_:Int)+(n:Int))])=some (HO.lst [V.int ((a.now_+n:Nat):Int)])
  rw [Int.natCast_add]
end
end FR
namespace FR
open PySem PySem.Spec PyProof.Rows L2 N2 Fr Su73
theorem isO_mem {a:Abs} {n:Nat} (h:a.isO n=true):n ∈ a.open_:=by
 unfold Abs.isO at h
 simpa using h
section
variable {P:Program} {w:World} {K:PySem.W.Frag} {mg:Str→Option Value} {base:Heap} {c:Cs}
theorem scSoon:FnScope ["works","given","number"] ["works","given"] (defScope (top 42)):=⟨rfl,rfl,rfl,by decide +kernel,rfl,by decide +kernel,by decide +kernel⟩
theorem ok_soon {f:Addr} {fd:FuncData} (F:Fun K "soon" "soon" (top 42) f fd) (T:Txt K c) (G:Gc mg) (hO:MOk P w K mg base 1 c.W "is_open" ["self","number"] (spOpen c)) (hE:MOk P w K mg base 3 c.W "end_if_next" ["self","number"] (spEin c)) (hC:MOk P w K mg base 2 c.W "change_if_next" ["self","number"] (spCin c)) :
  FnOk P w K mg base CX0 4 f fd ["works","given"] (spRe c len1 fun ns=>.soon (ns.getD 0 0)):=by
 obtain ⟨fO,fdO,mO,GO,bO⟩:=hO
 obtain ⟨fE,fdE,mE,GE,bE⟩:=hE
 obtain ⟨fC,fdC,mC,GC,bC⟩:=hC
 refine F.ok scSoon (fun vs H Q E h=>?_) (fun cdv A outer s H vs Q E hr h=>?_)
 ·obtain ⟨Kp,p,g,a,ns,rfl,_⟩:=h
  rfl
 ·obtain ⟨Kp,p,g,a,ns,rfl,hW,hw,hKp,hg,hl,k⟩:=h
  obtain ⟨n,rfl⟩:=of1 hl
  replace k:Post c Kp H p Q (does a (.soon n)):=k
  obtain ⟨dx,lc,lj,lo,lr,rows,js,rs,dcs,W,nK⟩:=id hW
  have nd:=scSoon.nd
  refine ⟨_,pss_cons (ps_set (i:=2) nd rfl (Or.inl rfl) (pe_ix ix_list (pv 1) pe_int (fun _ _=>rfl)))
   (pss_cons (ps_if (pt_not (pt_val (pe_meth (pv 0) T.clW mO GO (hr.mono (by decide)) bO .nil pass0 (pa_cons (pv 2) pa_nil)))) (pss_one (ps_ret (pe_lst (pa_cons (pe_gi (by rfl) G.nsuch) pa_nil)))) pss_nil)
   (pss_one (ps_ret (pe_lst (pa_cons (pe_meth (pv 0) T.clW mE GE hr bE .nil pass0 (pa_cons (pv 2) pa_nil)) (pa_cons (pe_meth (pv 0) T.clW mC GC (hr.mono (by decide)) bC .nil pass0 (pa_cons (pv 2) pa_nil)) pa_nil)))))),?_⟩
  refine ⟨_,rfl,g,_,_,_,rfl,rfl,SqL.of hg,atI_nat (j:=0) rfl,_,rfl,p,dx,_,rfl,W.obj,rfl,_,rfl,p,a,n,rfl,hW.r,_,rfl,ite2 (fun h1=>⟨by show 1≤sizeLine; decide,fun l hl=>?_⟩) fun h1=>?_⟩
  ·rw [show does a (.soon n)=(a,no (-2)) from if_pos (by simpa using h1)] at k
   exact k.same hKp hW (Same.refl H) hl rfl
  ·have ho:a.isO n=true:=by simpa using h1
   have hn:=hw.opn n (isO_mem ho)
   rw [show does a (.soon n)=(a,num (a.now_+a.turn a.last (a.job n).flavour+(a.job n).mins) [a.turn a.last (a.job n).flavour]) from if_neg (by rw [ho]; decide)] at k
   refine ⟨_,rfl,p,dx,_,rfl,W.obj,rfl,_,rfl,p,a,n,rfl,hW.r,hw,hn,_,rfl,p,dx,_,rfl,W.obj,rfl,_,rfl,p,a,n,rfl,hW.r,hw,hn,by show 2≤sizeLine; decide,fun l hl=>?_⟩
   exact k.same hKp hW (Same.refl H) hl rfl
theorem scTurn:FnScope ["works","given","before","after"] ["works","given"] (defScope (top 43)):=⟨rfl,rfl,rfl,by decide +kernel,rfl,by decide +kernel,by decide +kernel⟩
theorem ok_turn {f:Addr} {fd:FuncData} (F:Fun K "turn" "turn" (top 43) f fd) (T:Txt K c) (G:Gc mg) (hF:MOk P w K mg base 1 c.W "has_flavour" ["self","flavour"] (spHasF c)) (hC:MOk P w K mg base 1 c.W "change_minutes" ["self","loaded","flavour"] (spChg c)) :
  FnOk P w K mg base CX0 2 f fd ["works","given"] (spRe c len2 fun ns=>.turn (ns.getD 0 0) (ns.getD 1 0)):=by
 obtain ⟨fF,fdF,mF,GF,bF⟩:=hF
 obtain ⟨fC,fdC,mC,GC,bC⟩:=hC
 refine F.ok scTurn (fun vs H Q E h=>?_) (fun cdv A outer s H vs Q E hr h=>?_)
 ·obtain ⟨Kp,p,g,a,ns,rfl,_⟩:=h
  rfl
 ·obtain ⟨Kp,p,g,a,ns,rfl,hW,hw,hKp,hg,hl,k⟩:=h
  obtain ⟨u,v,rfl⟩:=of2 hl
  replace k:Post c Kp H p Q (does a (.turn u v)):=k
  obtain ⟨dx,lc,lj,lo,lr,rows,js,rs,dcs,W,nK⟩:=id hW
  have nd:=scTurn.nd
  refine ⟨_,pss_cons (ps_set (i:=2) nd rfl (Or.inl rfl) (pe_ix ix_list (pv 1) pe_int (fun _ _=>rfl)))
   (pss_cons (ps_set (i:=3) nd rfl (Or.inl rfl) (pe_ix ix_list (pv 1) pe_int (fun _ _=>rfl)))
   (pss_cons (ps_if (pt_not (PW.pt (pw_and (pt_val (pe_meth (pv 0) T.clW mF GF hr bF .nil pass0 (pa_cons (pv 2) pa_nil))) (pw_and1 (pt_val (pe_meth (pv 0) T.clW mF GF hr bF .nil pass0 (pa_cons (pv 3) pa_nil))))))) (pss_one (ps_ret (pe_lst (pa_cons (pe_gi (by rfl) G.nsuch) pa_nil)))) pss_nil)
   (pss_one (ps_ret (pe_lst (pa_cons (pe_meth (pv 0) T.clW mC GC hr bC .nil pass0 (pa_cons (pv 2) (pa_cons (pv 3) pa_nil))) pa_nil)))))),?_⟩
  have bad:(a.isF u=false∨a.isF v=false)→∀ l,H l=none→Q (.ref l) (upd H l (.lst [V.int (-2)])):=fun h l hl=>by
   rw [show does a (.turn u v)=(a,no (-2)) from if_pos h] at k
   exact k.same hKp hW (Same.refl H) hl rfl
  refine ⟨_,rfl,g,_,_,_,rfl,rfl,SqL.of hg,atI_nat (j:=0) rfl,_,rfl,g,_,_,_,rfl,rfl,SqL.of hg,atI_nat (j:=1) rfl,_,rfl,p,dx,_,rfl,W.obj,rfl,_,rfl,p,a,u,rfl,hW.r,_,rfl,ite2 (fun h1=>⟨_,rfl,p,dx,_,rfl,W.obj,rfl,_,rfl,p,a,v,rfl,hW.r,_,rfl,?_⟩) fun h1=>?_⟩
  rotate_left
  ·exact iteT ⟨by show 1≤sizeLine; decide,bad (.inl (Bool.eq_false_iff.mpr h1))⟩
  refine ite2 (fun h2=>⟨by show 1≤sizeLine; decide,bad (.inr (by simpa using h2))⟩) fun h2=>?_
  have hv:a.isF v=true:=by simpa using h2
  have nb:¬ (a.isF u=false∨a.isF v=false):=fun z=>by
   rcases z with z | z
   ·rw [z] at h1; cases h1
   ·rw [z] at hv; cases hv
  rw [show does a (.turn u v)=(a,num (a.turn (u+1) v) []) from if_neg nb] at k
  refine ⟨_,rfl,p,dx,_,rfl,W.obj,rfl,_,rfl,_,rfl,p,a,some u,v,rfl,hW.r,hw,fun g e=>by cases e; exact of_decide_eq_true h1,of_decide_eq_true hv,by show 1≤sizeLine; decide,fun l hl=>?_⟩
  exact k.same hKp hW (Same.refl H) hl rfl
theorem scLOpen:FnScope ["works","given"] ["works","given"] (defScope (top 44)):=⟨rfl,rfl,rfl,by decide +kernel,rfl,by decide +kernel,by decide +kernel⟩
theorem ok_lopen {f:Addr} {fd:FuncData} (F:Fun K "list_open" "list_open" (top 44) f fd) (T:Txt K c) (G:Gc mg):FnOk P w K mg base CX0 1 f fd ["works","given"] (spRe c len0 fun _=>.open_):=by
 refine F.ok scLOpen (fun vs H Q E h=>?_) (fun cdv A outer s H vs Q E hr h=>?_)
 ·obtain ⟨Kp,p,g,a,ns,rfl,_⟩:=h
  rfl
 ·obtain ⟨Kp,p,g,a,ns,rfl,hW,hw,hKp,hg,hl,k⟩:=h
  replace k:Post c Kp H p Q (a,Su73.list a.open_):=k
  obtain ⟨dx,lc,lj,lo,lr,rows,js,rs,dcs,W,nK⟩:=id hW
  refine ⟨_,pss_one (ps_ret (pe_op op_cat (pe_lst (pa_cons (pe_callB call_len_seq (by rfl) G.len PySem.boot_len (pa_cons (pe_fld (pv 0) rfl) pa_nil)) pa_nil)) (pe_fld (pv 0) rfl))),?_⟩
  refine ⟨_,rfl,p,c.W,dx,_,_,rfl,W.obj,T.clW,T.nW "to_run" (by decide +kernel),rfl,lo,_,rfl,.inl (SqL.of W.hlo),by show 1≤sizeLine; decide,fun q hq=>?_⟩
  have s1:Same H (upd H q (.lst [V.int ((intsV a.open_).length:Int)])):=Same.upd_new (Same.refl H) hq
  refine ⟨_,rfl,p,c.W,dx,_,_,rfl,(s1 _ _ W.obj),T.clW,T.nW "to_run" (by decide +kernel),rfl,q,lo,_,_,rfl,rfl,upd_same,s1 _ _ W.hlo,?_,fun l hl=>k.same hKp hW s1 hl ?_⟩
  ·have:=hw.op7
   rw [List.length_singleton,len_ints]
   exact Nat.le_trans (show 1+a.open_.length≤8 by omega) (by decide)
  ·rw [len_ints]
   show _=V.int ((a.open_.length:Nat):Int)::(Su73Neutral.outs a.open_).map V.int
   rw [outs_map]
   rfl
theorem scLook:FnScope ["works","given","number","job"] ["works","given"] (defScope (top 45)):=⟨rfl,rfl,rfl,by decide +kernel,rfl,by decide +kernel,by decide +kernel⟩
theorem ok_look {f:Addr} {fd:FuncData} (F:Fun K "look" "look" (top 45) f fd) (T:Txt K c) (G:Gc mg) (hJ:MOk P w K mg base 1 c.W "has_job" ["self","number"] (spHasJ c)):FnOk P w K mg base CX0 2 f fd ["works","given"] (spRe c len1 fun ns=>.look (ns.getD 0 0)):=by
 obtain ⟨fJ,fdJ,mJ,GJ,bJ⟩:=hJ
 refine F.ok scLook (fun vs H Q E h=>?_) (fun cdv A outer s H vs Q E hr h=>?_)
 ·obtain ⟨Kp,p,g,a,ns,rfl,_⟩:=h
  rfl
 ·obtain ⟨Kp,p,g,a,ns,rfl,hW,hw,hKp,hg,hl,k⟩:=h
  obtain ⟨n,rfl⟩:=of1 hl
  replace k:Post c Kp H p Q (does a (.look n)):=k
  obtain ⟨dx,lc,lj,lo,lr,rows,js,rs,dcs,W,nK⟩:=id hW
  have nd:=scLook.nd
  refine ⟨_,pss_cons (ps_set (i:=2) nd rfl (Or.inl rfl) (pe_ix ix_list (pv 1) pe_int (fun _ _=>rfl)))
   (pss_cons (ps_if (pt_not (pt_val (pe_meth (pv 0) T.clW mJ GJ hr bJ .nil pass0 (pa_cons (pv 2) pa_nil)))) (pss_one (ps_ret (pe_lst (pa_cons (pe_gi (by rfl) G.nsuch) pa_nil)))) pss_nil)
   (pss_cons (ps_set (i:=3) nd rfl (Or.inl rfl) (pe_ix ix_list (pe_fld (pv 0) rfl) (pv 2) (fun _ _=>rfl)))
   (pss_one (ps_ret (pe_lst (pa_cons (pe_fld (pv 3) rfl) (pa_cons (pe_fld (pv 3) rfl) (pa_cons (pe_fld (pv 3) rfl) pa_nil)))))))),?_⟩
  refine ⟨_,rfl,g,_,_,_,rfl,rfl,SqL.of hg,atI_nat (j:=0) rfl,_,rfl,p,dx,_,rfl,W.obj,rfl,_,rfl,p,a,n,rfl,hW.r,_,rfl,ite2 (fun h1=>⟨by show 1≤sizeLine; decide,fun l hl=>?_⟩) fun h1=>?_⟩
  ·have e:a.jobs.length≤n:=by simpa using h1
   rw [show does a (.look n)=(a,no (-2)) from if_pos e] at k
   exact k.same hKp hW (Same.refl H) hl rfl
  ·have hn:n<a.jobs.length:=by simpa using h1
   rw [show does a (.look n)=(a,num (a.job n).flavour [(a.job n).mins,(a.job n).due]) from if_neg (by omega)] at k
   obtain ⟨q,dq,e1,e2,e3⟩:=W.job hn
   refine ⟨_,rfl,p,c.W,dx,_,_,rfl,W.obj,T.clW,T.nW "jobs" (by decide +kernel),rfl,_,rfl,lj,_,_,_,rfl,rfl,SqL.of W.hlj,e1,_,rfl,q,c.J,dq,_,_,rfl,e2,T.clJ,T.nJ "flavour" (by decide +kernel),rfl,_,rfl,q,c.J,dq,_,_,rfl,e2,T.clJ,T.nJ "minutes" (by decide +kernel),rfl,_,rfl,q,c.J,dq,_,_,rfl,e2,T.clJ,T.nJ "due" (by decide +kernel),rfl,by show 3≤sizeLine; decide,fun l hl=>?_⟩
   exact k.same hKp hW (Same.refl H) hl rfl
theorem scState:FnScope ["works","given","on_line"] ["works","given"] (defScope (top 48)):=⟨rfl,rfl,rfl,by decide +kernel,rfl,by decide +kernel,by decide +kernel⟩
theorem ok_state {f:Addr} {fd:FuncData} (F:Fun K "state" "state" (top 48) f fd) (T:Txt K c) (G:Gc mg):FnOk P w K mg base CX0 1 f fd ["works","given"] (spRe c len0 fun _=>.state):=by
 refine F.ok scState (fun vs H Q E h=>?_) (fun cdv A outer s H vs Q E hr h=>?_)
 ·obtain ⟨Kp,p,g,a,ns,rfl,_⟩:=h
  rfl
 ·obtain ⟨Kp,p,g,a,ns,rfl,hW,hw,hKp,hg,hl,k⟩:=h
  replace k:Post c Kp H p Q (a,num a.now_ [a.flavours,a.jobs.length,a.open_.length,a.last]):=k
  obtain ⟨dx,lc,lj,lo,lr,rows,js,rs,dcs,W,nK⟩:=id hW
  have nd:=scState.nd
  refine ⟨_,pss_cons (ps_set (i:=2) nd rfl (Or.inl rfl) (pe_ifExp (pt_cmp (pc_isN (pe_fld (pv 0) rfl))) pe_int (pe_op op_add (pe_fld (pv 0) rfl) pe_int)))
   (pss_one (ps_ret (pe_lst (pa_cons (pe_fld (pv 0) rfl) (pa_cons (pe_fld (pv 0) rfl) (pa_cons (pe_callB call_len_seq (by rfl) G.len PySem.boot_len (pa_cons (pe_fld (pv 0) rfl) pa_nil)) (pa_cons (pe_callB call_len_seq (by rfl) G.len PySem.boot_len (pa_cons (pe_fld (pv 0) rfl) pa_nil)) (pa_cons (pv 2) pa_nil)))))))),?_⟩
  have fin:∀ l,H l=none→Q (.ref l) (upd H l (.lst [V.int (a.now_:Int),V.int (a.flavours:Int),V.int ((js.map V.ref).length:Int),V.int ((intsV a.open_).length:Int),V.int (a.last:Int)])):=fun l hl=>by
   refine k.same hKp hW (Same.refl H) hl ?_
   rw [len_ints,List.length_map,Paired.length W.hjb]
   rfl
  refine ⟨_,rfl,p,c.W,dx,_,_,rfl,W.obj,T.clW,T.nW "loaded" (by decide +kernel),rfl,?_⟩
  cases el:a.last with
  | zero =>
   rw [el] at fin
   exact ⟨_,rfl,iteT ⟨_,rfl,p,c.W,dx,_,_,rfl,W.obj,T.clW,T.nW "minute" (by decide +kernel),rfl,_,rfl,p,c.W,dx,_,_,rfl,W.obj,T.clW,T.nW "flavours" (by decide +kernel),rfl,_,rfl,p,c.W,dx,_,_,rfl,W.obj,T.clW,T.nW "jobs" (by decide +kernel),rfl,lj,_,rfl,.inl (SqL.of W.hlj),_,rfl,p,c.W,dx,_,_,rfl,W.obj,T.clW,T.nW "to_run" (by decide +kernel),rfl,lo,_,rfl,.inl (SqL.of W.hlo),_,rfl,by show 5≤sizeLine; decide,fin⟩⟩
  | succ n =>
   rw [el] at fin
   have eo:onV (onOf a.last)=.int (n:Int):=by rw [el]; rfl
   exact ⟨_,rfl,iteF ⟨_,rfl,p,c.W,dx,_,_,rfl,W.obj,T.clW,T.nW "loaded" (by decide +kernel),rfl,_,_,eo,rfl,_,rfl,p,c.W,dx,_,_,rfl,W.obj,T.clW,T.nW "minute" (by decide +kernel),rfl,_,rfl,p,c.W,dx,_,_,rfl,W.obj,T.clW,T.nW "flavours" (by decide +kernel),rfl,_,rfl,p,c.W,dx,_,_,rfl,W.obj,T.clW,T.nW "jobs" (by decide +kernel),rfl,lj,_,rfl,.inl (SqL.of W.hlj),_,rfl,p,c.W,dx,_,_,rfl,W.obj,T.clW,T.nW "to_run" (by decide +kernel),rfl,lo,_,rfl,.inl (SqL.of W.hlo),_,rfl,by show 5≤sizeLine; decide,fin⟩⟩
end
end FR
namespace FR
open PySem PySem.Spec PyProof.Rows L2 N2 Fr Su73
theorem refV_cases (a:Abs) (f m d:Nat):(∃ z,refV a f m d=.int z∧does a (.job f m d)=(a,no z)∧does a (.would f m d)=(a,no z)) ∨
  (refV a f m d=.non∧a.isF f=true∧¬ (m=0∨1000<m∨1000000<d)∧¬ OPEN≤a.open_.length):=by
 by_cases h1:a.isF f=false
 ·exact .inl ⟨-2,if_pos h1,if_pos h1,if_pos h1⟩
 ·by_cases h2:m=0∨1000<m∨1000000<d
  ·exact .inl ⟨-22,(if_neg h1).trans (if_pos h2),(if_neg h1).trans (if_pos h2),(if_neg h1).trans (if_pos h2)⟩
  ·by_cases h3:OPEN≤a.open_.length
   ·exact .inl ⟨-28,(if_neg h1).trans ((if_neg h2).trans (if_pos h3)),(if_neg h1).trans ((if_neg h2).trans (if_pos (.inl h3))),(if_neg h1).trans ((if_neg h2).trans (if_pos h3))⟩
   ·exact .inr ⟨(if_neg h1).trans ((if_neg h2).trans (if_neg h3)),by simpa using h1,h2,h3⟩
theorem ints_snoc (l:List Nat) (n:Nat):intsV l++[V.int (n:Int)]=intsV (l++[n]):=by
 unfold intsV
 rw [List.map_append]
 rfl
theorem filter_len {l:List Nat} {n:Nat} (hn:l.Nodup) (h:n ∈ l):(l.filter fun x=>x != n).length=l.length - 1:=by
 obtain ⟨j,hj⟩:=List.getElem?_of_mem h
 rw [← eraseIdx_filter hn hj,List.length_eraseIdx,if_pos (List.getElem?_eq_some_iff.mp hj).1]
theorem rem_ints {l:List Nat} {n:Nat} (hn:l.Nodup) (h:n ∈ l):∃ j,(l.map fun n:Nat=>(n:Int))[j]?=some (n:Int)∧(∀ m,m<j→(l.map fun n:Nat=>(n:Int))[m]?≠some (n:Int))∧((l.map fun n:Nat=>(n:Int)).eraseIdx j).map V.int=intsV (l.filter fun x=>x != n):=by
 obtain ⟨j,hj⟩:=List.getElem?_of_mem h
 refine ⟨j,by rw [List.getElem?_map,hj]; rfl,fun m hm e=>?_,?_⟩
 ·rw [List.getElem?_map] at e
  cases q:l[m]? with
  | none=>rw [q] at e; cases e
  | some x =>
   rw [q] at e
   have e':x=n:=by
    have e2:((x:Nat):Int)=((n:Nat):Int):=Option.some.inj e
    omega
   rw [e'] at q
   have:=nd_ix hn q hj
   omega
 ·rw [erase_map,← intsV_eq,eraseIdx_filter hn hj]
section
variable {P:Program} {w:World} {K:PySem.W.Frag} {mg:Str→Option Value} {base:Heap} {c:Cs}
theorem scJob:FnScope ["works","given","refusal","number"] ["works","given"] (defScope (top 28)):=⟨rfl,rfl,rfl,by decide +kernel,rfl,by decide +kernel,by decide +kernel⟩
theorem ok_job {f:Addr} {fd:FuncData} (F:Fun K "add_job" "add_job" (top 28) f fd) (T:Txt K c) (G:Gc mg) (hJ:GOk P w K mg base 2 "job_refusal" ["works","given"] (spJR c)) (hM:KOk P w K mg base 1 "Job" c.J ["self","flavour","minutes","due"] (spJInit c)) :
  FnOk P w K mg base CX0 3 f fd ["works","given"] (spRe c len3 fun ns=>.job (ns.getD 0 0) (ns.getD 1 0) (ns.getD 2 0)):=by
 obtain ⟨fJ,fdJ,mJ,kJ,GJ,bJ⟩:=hJ
 obtain ⟨fM,fdM,mM,MM,GM,bM⟩:=hM
 refine F.ok scJob (fun vs H Q E h=>?_) (fun cdv A outer s H vs Q E hr h=>?_)
 ·obtain ⟨Kp,p,g,a,ns,rfl,_⟩:=h
  rfl
 ·obtain ⟨Kp,p,g,a,ns,rfl,hW,hw,hKp,hg,hl,k⟩:=h
  obtain ⟨u,m,d,rfl⟩:=of3 hl
  replace k:Post c Kp H p Q (does a (.job u m d)):=k
  obtain ⟨dx,lc,lj,lo,lr,rows,js,rs,dcs,W,nK⟩:=id hW
  have nd:=scJob.nd
  refine ⟨_,pss_cons (ps_set (i:=2) nd rfl (Or.inl rfl) (pe_call GJ hr (by rfl) mJ kJ bJ .nil pass0 (pa_cons (pv 0) (pa_cons (pv 1) pa_nil))))
   (pss_cons (ps_if (pt_cmp (pc_notN (pv 2))) (pss_one (ps_ret (pe_lst (pa_cons (pv 2) pa_nil)))) pss_nil)
   (pss_cons (ps_set (i:=3) nd rfl (Or.inl rfl) (pe_callB call_len_seq (by rfl) G.len PySem.boot_len (pa_cons (pe_fld (pv 0) rfl) pa_nil)))
   (pss_cons (ps_if (pt_cmpR op_eq (pv 3) (pe_gi (by rfl) G.mjobs) (nomark _)) (pss_one (ps_ret (pe_lst (pa_cons (pe_gi (by rfl) G.many) pa_nil)))) pss_nil)
   (pss_cons (ps_expr (pe_bm PySem.F.plainAttrs_list PySem.F.slot_list_append PySem.F.type_list_append mt_append (pe_fld (pv 0) rfl) (pa_cons (pe_make MM GM hr (by rfl) mM bM .nil pass0 (pa_cons (pe_ix ix_list (pv 1) pe_int (fun _ _=>rfl)) (pa_cons (pe_ix ix_list (pv 1) pe_int (fun _ _=>rfl)) (pa_cons (pe_ix ix_list (pv 1) pe_int (fun _ _=>rfl)) pa_nil)))) pa_nil)))
   (pss_cons (ps_expr (pe_bm PySem.F.plainAttrs_list PySem.F.slot_list_append PySem.F.type_list_append mt_append (pe_fld (pv 0) rfl) (pa_cons (pv 3) pa_nil)))
   (pss_one (ps_ret (pe_lst (pa_cons (pv 3) pa_nil))))))))),?_⟩
  refine ⟨_,rfl,_,rfl,p,g,a,u,m,d,rfl,hW.r,hw,hg,?_⟩
  rcases refV_cases a u m d with ⟨z,e1,e2,_⟩ | ⟨e1,h1,h2,h3⟩
  ·rw [e1]
   rw [e2] at k
   exact ⟨_,rfl,_,rfl,iteT ⟨_,rfl,by show 1≤sizeLine; decide,fun l hl=>k.same hKp hW (Same.refl H) hl rfl⟩⟩
  rw [e1]
  refine ⟨_,rfl,_,rfl,iteF ?_⟩
  have hjl:(js.map V.ref).length=a.jobs.length:=by rw [List.length_map,Paired.length W.hjb]
  have h1':¬ a.isF u=false:=by rw [h1]; decide
  refine ⟨_,rfl,p,c.W,dx,_,_,rfl,W.obj,T.clW,T.nW "jobs" (by decide +kernel),rfl,lj,_,rfl,.inl (SqL.of W.hlj),_,rfl,rfl,_,rfl,ite2 (fun h4=>⟨by show 1≤sizeLine; decide,fun l hl=>?_⟩) fun h4=>?_⟩
  ·have h5:=of_decide_eq_true h4
   injection h5 with h5
   rw [hjl] at h5
   rw [show does a (.job u m d)=(a,no (-28)) from (if_neg h1').trans ((if_neg h2).trans (if_pos (.inr (show 40≤a.jobs.length by omega))))] at k
   exact k.same hKp hW (Same.refl H) hl rfl
  have j40:=hw.j40
  have o7:=hw.op7
  have hlt:a.jobs.length<40:=by
   rcases Nat.lt_or_ge a.jobs.length 40 with z | z
   ·exact z
   ·exact absurd (decide_eq_true (by rw [hjl,show a.jobs.length=40 by omega]; rfl)) h4
  rw [show does a (.job u m d)=(a.with_ u m d,num a.jobs.length []) from (if_neg h1').trans ((if_neg h2).trans (if_neg (fun z=>by rcases z with z | z; exact h3 z; exact absurd z (by show ¬ 40≤_; omega))))] at k
  refine ⟨_,rfl,p,c.W,dx,_,_,rfl,W.obj,T.clW,T.nW "jobs" (by decide +kernel),rfl,.inl ⟨rfl,_,SqL.of W.hlj⟩,_,rfl,g,_,_,_,rfl,rfl,SqL.of hg,atI_nat (j:=0) rfl,_,rfl,g,_,_,_,rfl,rfl,SqL.of hg,atI_nat (j:=1) rfl,_,rfl,g,_,_,_,rfl,rfl,SqL.of hg,atI_nat (j:=2) rfl,fun x dq nx ndq nxd=>⟨x,dq,u,m,d,rfl,upd_same,fun H1 hx k1=>⟨rfl,?_⟩⟩⟩
  have s1:Same H H1:=Same.made nx ndq k1
  refine ⟨lj,_,_,rfl,rfl,s1 _ _ W.hlj,by rw [hjl]; exact Nat.lt_trans hlt (by decide),?_⟩
  have ndl:=W.nd
  have n1:lo≠lj:=fun z=>(List.nodup_cons.mp (List.nodup_cons.mp ndl).2).1 (by rw [z]; simp)
  have kl:∀ {b:Addr} {o:HO},H1 b=some o→b≠lj→upd H1 lj (.lst (js.map V.ref++[V.ref x])) b=some o:=fun e hb=>by rw [upd_ne hb]; exact e
  have po:upd H1 lj (.lst (js.map V.ref++[V.ref x])) p=_:=kl (s1 _ _ W.obj) (ne_of W.obj W.hlj (by intro z; cases z))
  have hlo:=kl (s1 _ _ W.hlo) n1
  refine ⟨_,rfl,p,c.W,dx,_,_,rfl,po,T.clW,T.nW "to_run" (by decide +kernel),rfl,.inl ⟨rfl,_,SqL.of hlo⟩,_,rfl,lo,_,_,rfl,rfl,hlo,?_,_,rfl,by show 1≤sizeLine; decide,fun l hl=>?_⟩
  ·rw [len_ints]
   exact Nat.lt_of_le_of_lt o7 (by decide)
  ·rw [hjl] at hl ⊢
   rw [ints_snoc] at hl ⊢
   have kb:∀ {b:Addr} {o:HO},H b=some o→b≠lj→b≠lo→upd (upd H1 lj (.lst (js.map V.ref++[V.ref x]))) lo (.lst (intsV (a.open_++[a.jobs.length]))) b=some o:=fun e h1 h2=>by rw [upd_ne h2]; exact kl (s1 _ _ e) h1
   have xl:∀ {y:Addr} {ys:List V},H1 y=some (.lst ys)→x≠y:=fun e=>ne_of hx e (by intro z; cases z)
   have kins:∀ {b C2 d2:Addr} {fs:List (Str×V)},H b=some (.ins C2 d2 fs)→upd (upd H1 lj (.lst (js.map V.ref++[V.ref x]))) lo (.lst (intsV (a.open_++[a.jobs.length]))) b=some (.ins C2 d2 fs):=fun e=>kb e (ne_of e W.hlj (by intro z; cases z)) (ne_of e W.hlo (by intro z; cases z))
   have nKj:¬ Kp lj:=nK lj (by simp)
   have nKo:¬ Kp lo:=nK lo (by simp)
   have h1:=List.nodup_cons.mp ndl
   have h2:=List.nodup_cons.mp h1.2
   have h3:=List.nodup_cons.mp h2.2
   refine k _ l ((Keeps.upd (Keeps.upd (same_keeps s1) nKj) nKo).trans (same_keeps (Same.upd_new (Same.refl _) hl))) (WorksAt.mono (Same.upd_new (Same.refl _) hl) ⟨dx,lc,lj,lo,lr,rows,js++[x],rs,dcs,⟨kins W.obj,kb W.hlc (fun z=>h1.1 (by rw [z]; simp)) (fun z=>h1.1 (by rw [z]; simp)),?_,?_,?_,upd_same,kb W.hlr (fun z=>h2.1 (by rw [← z]; simp)) (fun z=>h3.1 (by rw [← z]; simp)),?_,W.dn,W.chd,W.nd⟩,nK⟩) ?_ (nk hKp (Keeps.upd (Keeps.upd (same_keeps s1) nKj) nKo) hl)
   ·exact paired_mem W.hrw fun b hb y q=>kb q (fun z=>h2.1 (by rw [← z]; simp [hb])) (fun z=>h3.1 (by rw [← z]; simp [hb]))
   ·rw [upd_ne n1.symm,upd_same,List.map_append]
    rfl
   ·show Paired _ (js++[x]) (a.jobs++[⟨u,m,d⟩])
    exact paired_snoc (Paired.mapP W.hjb fun b y ⟨d,q⟩=>⟨d,kins q⟩) ⟨dq,by rw [upd_ne (xl (s1 _ _ W.hlo)),upd_ne (xl (s1 _ _ W.hlj))]; exact hx⟩
   ·exact Paired.mapP W.hrs fun b y ⟨d,q⟩=>⟨d,kins q⟩
   ·rw [upd_same]
    rfl
theorem scDrop:FnScope ["works","given","number"] ["works","given"] (defScope (top 29)):=⟨rfl,rfl,rfl,by decide +kernel,rfl,by decide +kernel,by decide +kernel⟩
theorem ok_drop {f:Addr} {fd:FuncData} (F:Fun K "drop" "drop" (top 29) f fd) (T:Txt K c) (G:Gc mg) (hO:MOk P w K mg base 1 c.W "is_open" ["self","number"] (spOpen c)):FnOk P w K mg base CX0 2 f fd ["works","given"] (spRe c len1 fun ns=>.drop (ns.getD 0 0)):=by
 obtain ⟨fO,fdO,mO,GO,bO⟩:=hO
 refine F.ok scDrop (fun vs H Q E h=>?_) (fun cdv A outer s H vs Q E hr h=>?_)
 ·obtain ⟨Kp,p,g,a,ns,rfl,_⟩:=h
  rfl
 ·obtain ⟨Kp,p,g,a,ns,rfl,hW,hw,hKp,hg,hl,k⟩:=h
  obtain ⟨n,rfl⟩:=of1 hl
  replace k:Post c Kp H p Q (does a (.drop n)):=k
  obtain ⟨dx,lc,lj,lo,lr,rows,js,rs,dcs,W,nK⟩:=id hW
  have nd:=scDrop.nd
  refine ⟨_,pss_cons (ps_set (i:=2) nd rfl (Or.inl rfl) (pe_ix ix_list (pv 1) pe_int (fun _ _=>rfl)))
   (pss_cons (ps_if (pt_not (pt_val (pe_meth (pv 0) T.clW mO GO hr bO .nil pass0 (pa_cons (pv 2) pa_nil)))) (pss_one (ps_ret (pe_lst (pa_cons (pe_gi (by rfl) G.nsuch) pa_nil)))) pss_nil)
   (pss_cons (ps_expr (pe_bm PySem.F.plainAttrs_list PySem.F.slot_list_remove PySem.F.type_list_remove mt_remove (pe_fld (pv 0) rfl) (pa_cons (pv 2) pa_nil)))
   (pss_one (ps_ret (pe_lst (pa_cons (pe_callB call_len_seq (by rfl) G.len PySem.boot_len (pa_cons (pe_fld (pv 0) rfl) pa_nil)) pa_nil)))))),?_⟩
  refine ⟨_,rfl,g,_,_,_,rfl,rfl,SqL.of hg,atI_nat (j:=0) rfl,_,rfl,p,dx,_,rfl,W.obj,rfl,_,rfl,p,a,n,rfl,hW.r,_,rfl,ite2 (fun h1=>⟨by show 1≤sizeLine; decide,fun l hl=>?_⟩) fun h1=>?_⟩
  ·rw [show does a (.drop n)=(a,no (-2)) from if_pos (by simpa using h1)] at k
   exact k.same hKp hW (Same.refl H) hl rfl
  ·have ho:a.isO n=true:=by simpa using h1
   have hn:=isO_mem ho
   have ndo:=nodup_of_rising hw.rise
   rw [show does a (.drop n)=({ a with open_:=a.open_.filter fun x=>x != n },num (a.open_.length - 1) []) from if_neg (by rw [ho]; decide)] at k
   obtain ⟨j,r1,r2,r3⟩:=rem_ints ndo hn
   have hlo':=W.hlo
   rw [intsV_eq] at hlo'
   refine ⟨_,rfl,p,c.W,dx,_,_,rfl,W.obj,T.clW,T.nW "to_run" (by decide +kernel),rfl,.inl ⟨rfl,_,SqL.of W.hlo⟩,_,rfl,lo,_,j,_,rfl,rfl,hlo',r1,r2,?_⟩
   rw [r3]
   have np:p≠lo:=ne_of W.obj W.hlo (by intro z; cases z)
   have kb:∀ {b:Addr} {o:HO},H b=some o→b≠lo→upd H lo (.lst (intsV (a.open_.filter fun x=>x != n))) b=some o:=fun e hb=>by rw [upd_ne hb]; exact e
   refine ⟨_,rfl,p,c.W,dx,_,_,rfl,kb W.obj np,T.clW,T.nW "to_run" (by decide +kernel),rfl,lo,_,rfl,.inl (SqL.of upd_same),by show 1≤sizeLine; decide,fun l hl=>?_⟩
   rw [len_ints]
   have h1:=List.nodup_cons.mp W.nd
   have h2:=List.nodup_cons.mp h1.2
   have h3:=List.nodup_cons.mp h2.2
   have kins:∀ {b C2 d2:Addr} {fs:List (Str×V)},H b=some (.ins C2 d2 fs)→upd H lo (.lst (intsV (a.open_.filter fun x=>x != n))) b=some (.ins C2 d2 fs):=fun e=>kb e (ne_of e W.hlo (by intro z; cases z))
   refine k _ l ((Keeps.upd (Keeps.refl Kp H) (nK lo (by simp))).trans (same_keeps (Same.upd_new (Same.refl _) hl))) (WorksAt.mono (Same.upd_new (Same.refl _) hl) ⟨dx,lc,lj,lo,lr,rows,js,rs,dcs,⟨kins W.obj,kb W.hlc (fun z=>h1.1 (by rw [z]; simp)),?_,kb W.hlj (fun z=>h2.1 (by rw [z]; simp)),?_,upd_same,kb W.hlr (fun z=>h3.1 (by rw [← z]; simp)),?_,W.dn,W.chd,W.nd⟩,nK⟩) ?_ (nk hKp (Keeps.upd (Keeps.refl Kp H) (nK lo (by simp))) hl)
   ·exact paired_mem W.hrw fun b hb y q=>kb q (fun z=>h3.1 (by rw [← z]; simp [hb]))
   ·exact Paired.mapP W.hjb fun b y ⟨d,q⟩=>⟨d,kins q⟩
   ·exact Paired.mapP W.hrs fun b y ⟨d,q⟩=>⟨d,kins q⟩
   ·rw [upd_same,filter_len ndo hn]
    rfl
end
end FR
namespace FR
open PySem PySem.Spec PyProof.Rows L2 N2 Fr Su73
section
variable {P:Program} {w:World} {K:PySem.W.Frag} {mg:Str→Option Value} {base:Heap} {c:Cs}
theorem scRun:FnScope ["works","given","number","change_took","end","late"] ["works","given"] (defScope (top 30)):=⟨rfl,rfl,rfl,by decide +kernel,rfl,by decide +kernel,by decide +kernel⟩
theorem ok_run {f:Addr} {fd:FuncData} (F:Fun K "run" "run" (top 30) f fd) (T:Txt K c) (G:Gc mg) (hO:MOk P w K mg base 1 c.W "is_open" ["self","number"] (spOpen c)) (hC:MOk P w K mg base 2 c.W "change_if_next" ["self","number"] (spCin c)) (hE:MOk P w K mg base 3 c.W "end_if_next" ["self","number"] (spEin c))
  (hL:MOk P w K mg base 4 c.W "late_if_next" ["self","number"] (spLin c)) (hM:KOk P w K mg base 1 "Run" c.R ["self","number","change_took","end","late"] (spRInit c)):FnOk P w K mg base CX0 5 f fd ["works","given"] (spRe c len1 fun ns=>.run (ns.getD 0 0)):=by
 obtain ⟨fO,fdO,mO,GO,bO⟩:=hO
 obtain ⟨fC,fdC,mC,GC,bC⟩:=hC
 obtain ⟨fE,fdE,mE,GE,bE⟩:=hE
 obtain ⟨fL,fdL,mL,GL,bL⟩:=hL
 obtain ⟨fM,fdM,mM,MM,GM,bM⟩:=hM
 refine F.ok scRun (fun vs H Q E h=>?_) (fun cdv A outer s H vs Q E hr h=>?_)
 ·obtain ⟨Kp,p,g,a,ns,rfl,_⟩:=h
  rfl
 ·obtain ⟨Kp,p,g,a,ns,rfl,hW,hw,hKp,hg,hl,k⟩:=h
  obtain ⟨n,rfl⟩:=of1 hl
  replace k:Post c Kp H p Q (does a (.run n)):=k
  obtain ⟨dx,lc,lj,lo,lr,rows,js,rs,dcs,W,nK⟩:=id hW
  have nd:=scRun.nd
  refine ⟨_,pss_cons (ps_set (i:=2) nd rfl (Or.inl rfl) (pe_ix ix_list (pv 1) pe_int (fun _ _=>rfl)))
   (pss_cons (ps_if (pt_not (pt_val (pe_meth (pv 0) T.clW mO GO (hr.mono (by decide)) bO .nil pass0 (pa_cons (pv 2) pa_nil)))) (pss_one (ps_ret (pe_lst (pa_cons (pe_gi (by rfl) G.nsuch) pa_nil)))) pss_nil)
   (pss_cons (ps_set (i:=3) nd rfl (Or.inl rfl) (pe_meth (pv 0) T.clW mC GC (hr.mono (by decide)) bC .nil pass0 (pa_cons (pv 2) pa_nil)))
   (pss_cons (ps_set (i:=4) nd rfl (Or.inl rfl) (pe_meth (pv 0) T.clW mE GE (hr.mono (by decide)) bE .nil pass0 (pa_cons (pv 2) pa_nil)))
   (pss_cons (ps_set (i:=5) nd rfl (Or.inl rfl) (pe_meth (pv 0) T.clW mL GL hr bL .nil pass0 (pa_cons (pv 2) pa_nil)))
   (pss_cons (ps_expr (pe_bm PySem.F.plainAttrs_list PySem.F.slot_list_remove PySem.F.type_list_remove mt_remove (pe_fld (pv 0) rfl) (pa_cons (pv 2) pa_nil)))
   (pss_cons (ps_expr (pe_bm PySem.F.plainAttrs_list PySem.F.slot_list_append PySem.F.type_list_append mt_append (pe_fld (pv 0) rfl) (pa_cons (pe_make MM GM (hr.mono (by decide)) (by rfl) mM bM .nil pass0 (pa_cons (pv 2) (pa_cons (pv 3) (pa_cons (pv 4) (pa_cons (pv 5) pa_nil))))) pa_nil)))
   (pss_cons (ps_fld (pv 0) (pv 4) rfl)
   (pss_cons (ps_fld (pv 0) (pe_fld (pe_ix ix_list (pe_fld (pv 0) rfl) (pv 2) (fun _ _=>rfl)) rfl) rfl)
   (pss_one (ps_ret (pe_lst (pa_cons (pv 4) (pa_cons (pv 3) (pa_cons (pv 5) pa_nil)))))))))))))),?_⟩
  refine ⟨_,rfl,g,_,_,_,rfl,rfl,SqL.of hg,atI_nat (j:=0) rfl,_,rfl,p,dx,_,rfl,W.obj,rfl,_,rfl,p,a,n,rfl,hW.r,_,rfl,ite2 (fun h1=>⟨by show 1≤sizeLine; decide,fun l hl=>?_⟩) fun h1=>?_⟩
  ·rw [show does a (.run n)=(a,no (-2)) from if_pos (by simpa using h1)] at k
   exact k.same hKp hW (Same.refl H) hl rfl
  have ho:a.isO n=true:=by simpa using h1
  have hm:=isO_mem ho
  have hn:=hw.opn n hm
  have ndo:=nodup_of_rising hw.rise
  generalize et:a.turn a.last (a.job n).flavour=t
  have k':Post c Kp H p Q ({ a with open_:=a.open_.filter (fun x=>x != n),done:=a.done++[⟨n,a.now_+t+(a.job n).mins,a.now_+t+(a.job n).mins - (a.job n).due⟩],last:=(a.job n).flavour+1,now_:=a.now_+t+(a.job n).mins,changed:=a.changed+t,ran:=a.ran+(a.job n).mins },num (a.now_+t+(a.job n).mins) [t,a.now_+t+(a.job n).mins - (a.job n).due]):=by
   rw [show does a (.run n)=_ from if_neg (by rw [ho]; decide)] at k
   rw [← et]
   exact k
  clear k
  generalize ee:a.now_+t+(a.job n).mins=e at k'
  generalize el:e - (a.job n).due=ll at k'
  obtain ⟨j,r1,r2,r3⟩:=rem_ints ndo hm
  have hlo':=W.hlo
  rw [intsV_eq] at hlo'
  refine ⟨_,rfl,p,dx,_,rfl,W.obj,rfl,_,rfl,p,a,n,rfl,hW.r,hw,hn,_,rfl,p,dx,_,rfl,W.obj,rfl,_,rfl,p,a,n,rfl,hW.r,hw,hn,_,rfl,p,dx,_,rfl,W.obj,rfl,_,rfl,p,a,n,rfl,hW.r,hw,hn,_,rfl,p,c.W,dx,_,_,rfl,W.obj,T.clW,T.nW "to_run" (by decide +kernel),rfl,.inl ⟨rfl,_,SqL.of W.hlo⟩,_,rfl,lo,_,j,_,rfl,rfl,hlo',r1,r2,?_⟩
  rw [r3,et,ee,el]
  have kb:∀ {b:Addr} {o:HO},H b=some o→b≠lo→upd H lo (.lst (intsV (a.open_.filter fun x=>x != n))) b=some o:=fun e hb=>by rw [upd_ne hb]; exact e
  have h1:=List.nodup_cons.mp W.nd
  have h2:=List.nodup_cons.mp h1.2
  have h3:=List.nodup_cons.mp h2.2
  have h4:=List.nodup_cons.mp h3.2
  have kins:∀ {b C2 d2:Addr} {fs:List (Str×V)},H b=some (.ins C2 d2 fs)→upd H lo (.lst (intsV (a.open_.filter fun x=>x != n))) b=some (.ins C2 d2 fs):=fun e=>kb e (ne_of e W.hlo (by intro z; cases z))
  have hlr1:=kb W.hlr (fun z=>h3.1 (by rw [← z]; simp))
  have hl1:upd H lo (.lst (intsV (a.open_.filter fun x=>x != n))) lo=some (.lst (intsV (a.open_.filter fun x=>x != n))):=upd_same
  have hlj1:=kb W.hlj (fun z=>h2.1 (by rw [z]; simp))
  have hlc1:=kb W.hlc (fun z=>h1.1 (by rw [z]; simp))
  have hrw1:Paired (RowAt (upd H lo (.lst (intsV (a.open_.filter fun x=>x != n))))) rows a.change:=paired_mem W.hrw fun b hb y q=>kb q (fun z=>h3.1 (by rw [← z]; simp [hb]))
  have kp1:Keeps Kp H (upd H lo (.lst (intsV (a.open_.filter fun x=>x != n)))):=Keeps.upd (Keeps.refl Kp H) (nK lo (by simp))
  generalize upd H lo (.lst (intsV (a.open_.filter fun x=>x != n)))=H1 at *
  have hlen:(rs.map V.ref).length<sizeLine:=by
   rw [List.length_map,Paired.length W.hrs]
   have e1:dcs.length=a.done.length:=by rw [← W.dn,List.length_map]
   have e2:=hw.dno
   have e3:=hw.j40
   exact Nat.lt_of_le_of_lt (show dcs.length≤40 by omega) (by decide)
  refine ⟨_,rfl,p,c.W,dx,_,_,rfl,kins W.obj,T.clW,T.nW "runs" (by decide +kernel),rfl,.inl ⟨rfl,_,SqL.of hlr1⟩,_,rfl,_,rfl,_,rfl,_,rfl,fun x dq nx ndq nxd=>⟨x,dq,n,t,e,ll,rfl,upd_same,fun H2 hx k2=>⟨rfl,?_⟩⟩⟩
  have s2:Same H1 H2:=Same.made nx ndq k2
  refine ⟨lr,_,_,rfl,rfl,s2 _ _ hlr1,hlen,?_⟩
  have kc:∀ {b:Addr} {o:HO},H1 b=some o→b≠lr→upd H2 lr (.lst (rs.map V.ref++[V.ref x])) b=some o:=fun e hb=>by rw [upd_ne hb]; exact s2 _ _ e
  have kins3:∀ {b C2 d2:Addr} {fs:List (Str×V)},H b=some (.ins C2 d2 fs)→upd H2 lr (.lst (rs.map V.ref++[V.ref x])) b=some (.ins C2 d2 fs):=fun e=>kc (kins e) (ne_of (kins e) hlr1 (by intro z; cases z))
  have hx3:upd H2 lr (.lst (rs.map V.ref++[V.ref x])) x=some (.ins c.R dq (rf ⟨n,e,ll⟩ t)):=by rw [upd_ne (ne_of hx (s2 _ _ hlr1) (by intro z; cases z))]; exact hx
  have hlr3:upd H2 lr (.lst (rs.map V.ref++[V.ref x])) lr=some (.lst (rs.map V.ref++[V.ref x])):=upd_same
  have hlo3:=kc hl1 (fun z=>h3.1 (by rw [z]; simp))
  have hlj3:=kc hlj1 (fun z=>h2.1 (by rw [z]; simp))
  have hlc3:=kc hlc1 (fun z=>h1.1 (by rw [z]; simp))
  have hrw3:Paired (RowAt (upd H2 lr (.lst (rs.map V.ref++[V.ref x])))) rows a.change:=paired_mem hrw1 fun b hb y q=>kc q (fun z=>h4.1 (by rw [← z]; exact hb))
  have kp3:Keeps Kp H (upd H2 lr (.lst (rs.map V.ref++[V.ref x]))):=(kp1.trans (same_keeps s2)).trans (Keeps.upd (Keeps.refl Kp H2) (nK lr (by simp)))
  generalize upd H2 lr (.lst (rs.map V.ref++[V.ref x]))=H3 at *
  obtain ⟨q,dq2,e1,e2,e3⟩:=W.job hn
  have P3:Parts c H3 p { a with open_:=a.open_.filter (fun x=>x != n),done:=a.done++[⟨n,e,ll⟩],changed:=a.changed+t } dx lc lj lo lr rows js (rs++[x]) (dcs++[(⟨n,e,ll⟩,t)]):=by
   refine ⟨kins3 W.obj,hlc3,hrw3,hlj3,Paired.mapP W.hjb fun b y ⟨d,q⟩=>⟨d,kins3 q⟩,hlo3,?_,paired_snoc (Paired.mapP W.hrs fun b y ⟨d,q⟩=>⟨d,kins3 q⟩) ⟨dq,hx3⟩,?_,?_,W.nd⟩
   ·rw [hlr3,List.map_append]
    rfl
   ·rw [List.map_append,W.dn]
    rfl
   ·rw [List.map_append,List.sum_append,W.chd]
    simp
  have npq:q≠p:=ins_ne e2 W.obj (by show 3≠8; decide)
  have nKp:¬ Kp p:=nK p List.mem_cons_self
  refine ⟨_,rfl,_,rfl,p,c.W,dx,_,rfl,kins3 W.obj,T.clW,T.nW "minute" (by decide +kernel),(by show 8<1000; decide),_,rfl,p,c.W,dx,_,_,rfl,upd_same,T.clW,T.nW "jobs" (by decide +kernel),rfl,_,rfl,lj,_,_,_,rfl,rfl,SqL.of (by rw [upd_ne (ne_of hlj3 P3.obj (by intro z; cases z))]; exact hlj3),e1,
   q,c.J,dq2,_,_,rfl,(by rw [upd_ne npq]; exact kins3 e2),T.clJ,T.nJ "flavour" (by decide +kernel),rfl,_,rfl,p,c.W,dx,_,rfl,upd_same,T.clW,T.nW "loaded" (by decide +kernel),(by show 8<1000; decide),_,rfl,_,rfl,_,rfl,by show 3≤sizeLine; decide,fun l hl=>?_⟩
  refine k' _ l ((Keeps.upd (Keeps.upd kp3 nKp) nKp).trans (same_keeps (Same.upd_new (Same.refl _) hl))) (WorksAt.mono (Same.upd_new (Same.refl _) hl) ⟨dx,lc,lj,lo,lr,rows,js,rs++[x],dcs++[(⟨n,e,ll⟩,t)],?_,nK⟩) ?_ (nk hKp (Keeps.upd (Keeps.upd kp3 nKp) nKp) hl)
  ·exact P3.fields upd_same (fun b o hb e=>(upd_ne hb).trans ((upd_ne hb).trans e)) rfl rfl rfl rfl rfl
  ·rw [upd_same]
   rfl
theorem scHope:FnScope ["works","given","late","number"] ["works","given"] (defScope (top 41)):=⟨rfl,rfl,rfl,by decide +kernel,rfl,by decide +kernel,by decide +kernel⟩
theorem bkHope:BlkOk ["works","given","late","number"] (defScope (top 41)) (lcScope (asgVal (stAt (top 41) 0))) [("number",3)]:=⟨rfl,by decide +kernel,by decide +kernel,by decide +kernel,by decide +kernel⟩
theorem ok_hope {f:Addr} {fd:FuncData} (F:Fun K "hopeless" "hopeless" (top 41) f fd) (T:Txt K c) (G:Gc mg) (hL:MOk P w K mg base 4 c.W "late_if_next" ["self","number"] (spLin c)):FnOk P w K mg base CX0 5 f fd ["works","given"] (spRe c len0 fun _=>.hopeless):=by
 obtain ⟨fL,fdL,mL,GL,bL⟩:=hL
 refine F.ok scHope (fun vs H Q E h=>?_) (fun cdv A outer s H vs Q E hr h=>?_)
 ·obtain ⟨Kp,p,g,a,ns,rfl,_⟩:=h
  rfl
 ·obtain ⟨Kp,p,g,a,ns,rfl,hW,hw,hKp,hg,hl,k⟩:=h
  replace k:Post c Kp H p Q (a,Su73.list a.hopeless):=k
  obtain ⟨dx,lc,lj,lo,lr,rows,js,rs,dcs,W,nK⟩:=id hW
  have nd:=scHope.nd
  refine ⟨_,pss_cons (ps_setLc (i:=2) rfl nd rfl rfl rfl (pi_list (pe_fld (pv 0) rfl)) bkHope (fun _ _ _ _ _=>pg_name (i:=3) nd rfl (Or.inl rfl)) (fun _ _ _ _ _=>pts_one (pt_cmpR op_gt (pe_meth (pv 0) T.clW mL GL hr bL .nil pass0 (pa_cons (pv 3) pa_nil)) pe_int (nomark _))) (fun _ _ _ _ _=>pv 3))
   (pss_one (ps_ret (pe_op op_cat (pe_lst (pa_cons (pe_callB call_len_seq (by rfl) G.len PySem.boot_len (pa_cons (pv 2) pa_nil)) pa_nil)) (pv 2)))),?_⟩
  refine ⟨_,rfl,p,c.W,dx,_,_,rfl,W.obj,T.clW,T.nW "to_run" (by decide +kernel),rfl,lo,rfl,⟨_,SqL.of W.hlo⟩,fun D hD=>?_⟩
  refine lc_list (K:=K) (a:=lo) (xs:=intsV a.open_) (fun i H'=>Same H H'∧H' D=some (.lst (intsV ((a.open_.take i).filter fun j=>decide ((a.job j).due<a.now_+a.turn a.last (a.job j).flavour+(a.job j).mins))))) ⟨Same.upd_new (Same.refl H) hD,upd_same⟩ (fun i H' _ ⟨s5,_⟩=>SqL.of (s5 _ _ W.hlo)) ?_ ?_
  ·rintro i y H' hi ⟨s5,hd5⟩
   obtain ⟨n,hn,rfl⟩:=ints_at hi
   have hm:n ∈ a.open_:=List.mem_of_getElem? hn
   have hj:=hw.opn n hm
   have tk:a.open_.take (i+1)=a.open_.take i++[n]:=by rw [List.take_add_one,hn]; rfl
   refine ⟨rfl,_,rfl,p,dx,_,rfl,s5 _ _ W.obj,rfl,_,rfl,p,a,n,rfl,hW.r.mono s5,hw,hj,_,_,rfl,rfl,_,rfl,ite2 (fun h=>⟨_,rfl,_,hd5,?_,?_⟩) fun h=>?_⟩
   ·rw [len_ints]
    refine Nat.lt_of_le_of_lt (List.length_filter_le _ _) ?_
    rw [List.length_take]
    exact Nat.lt_of_le_of_lt (Nat.min_le_right _ _) (Nat.lt_of_le_of_lt hw.op7 (by decide))
   ·have h':=of_decide_eq_true h
    refine ⟨fun b o e=>by rw [upd_ne (ne_of_none e hD)]; exact s5 b o e,?_⟩
    rw [upd_same,ints_snoc,tk,List.filter_append,List.filter_cons_of_pos (by rw [decide_eq_true_eq]; omega)]
    rfl
   ·have h':¬ ((0:Int)<_):=fun z=>h (decide_eq_true z)
    refine ⟨s5,?_⟩
    rw [hd5,tk,List.filter_append,List.filter_cons_of_neg (by rw [decide_eq_true_eq]; omega),List.filter_nil,List.append_nil]
  ·rintro H' ⟨s5,hd5⟩
   rw [len_ints,List.take_length] at hd5
   replace hd5:H' D=some (.lst (intsV a.hopeless)):=hd5
   refine ⟨_,rfl,D,_,rfl,.inl (SqL.of hd5),by show 1≤sizeLine; decide,fun q hq=>?_⟩
   have s6:Same H' (upd H' q (.lst [V.int ((intsV a.hopeless).length:Int)])):=Same.upd_new (Same.refl H') hq
   refine ⟨_,rfl,q,D,_,_,rfl,rfl,upd_same,s6 _ _ hd5,?_,fun l hl=>k.same hKp hW (s5.trans s6) hl ?_⟩
   ·have:=hw.op7
    have h2:a.hopeless.length≤a.open_.length:=List.length_filter_le _ _
    rw [List.length_singleton,len_ints]
    exact Nat.le_trans (show 1+a.hopeless.length≤8 by omega) (by decide)
   ·rw [len_ints]
    show _=V.int ((a.hopeless.length:Nat):Int)::(Su73Neutral.outs a.hopeless).map V.int
    rw [outs_map]
    rfl
end
end FR
namespace FR
open PySem PySem.Spec PyProof.Rows L2 N2 Fr Su73
theorem refs_get {bs:List Addr} {i:Nat} {y:V} (h:(bs.map V.ref)[i]?=some y):∃ b,bs[i]?=some b∧y=.ref b:=by
 rw [List.getElem?_map] at h
 cases e:bs[i]? with
 | none=>rw [e] at h; cases h
 | some b=>rw [e] at h; exact ⟨b,rfl,(Option.some.inj h).symm⟩
theorem ints_app (l m:List Nat):intsV l++intsV m=intsV (l++m):=by
 unfold intsV
 rw [List.map_append]
theorem sum_cast:∀ l:List Nat,(l.map fun n:Nat=>(n:Int)).sum=((l.sum:Nat):Int)
 | []=>rfl
 | x::l=>by rw [List.map_cons,List.sum_cons,List.sum_cons,sum_cast l]; omega
theorem take_map_snoc {α β:Type} (f:α→β) {l:List α} {i:Nat} {x:α} (h:l[i]?=some x):(l.take (i+1)).map f=(l.take i).map f++[f x]:=by
 rw [List.take_add_one,h,List.map_append]
 rfl
section
variable {P:Program} {w:World} {K:PySem.W.Frag} {mg:Str→Option Value} {base:Heap} {c:Cs}
theorem Parts.dlen {H:Hp} {p:Addr} {a:Abs} {dx lc lj lo lr:Addr} {rows js rs:List Addr} {dcs:List (Done×Nat)} (W:Parts c H p a dx lc lj lo lr rows js rs dcs) (hw:Wf a):rs.length=dcs.length∧dcs.length=a.done.length∧dcs.length≤40:=by
 have e1:dcs.length=a.done.length:=by rw [← W.dn,List.length_map]
 have e2:=hw.dno
 have e3:=hw.j40
 exact ⟨Paired.length W.hrs,e1,by omega⟩
def three (d:Done):List Nat:=[d.job,d.ended,d.late]
theorem three_len:∀ l:List Done,(l.flatMap three).length=3 * l.length
 | []=>rfl
 | x::l=>by
  rw [List.flatMap_cons,List.length_append,three_len l,List.length_cons]
  show 3+_=_
  omega
theorem scDone:FnScope ["works","given","told","each"] ["works","given"] (defScope (top 46)):=⟨rfl,rfl,rfl,by decide +kernel,rfl,by decide +kernel,by decide +kernel⟩
theorem ok_done {f:Addr} {fd:FuncData} (F:Fun K "done" "done" (top 46) f fd) (T:Txt K c) (G:Gc mg):FnOk P w K mg base CX0 1 f fd ["works","given"] (spRe c len0 fun _=>.done):=by
 refine F.ok scDone (fun vs H Q E h=>?_) (fun cdv A outer s H vs Q E hr h=>?_)
 ·obtain ⟨Kp,p,g,a,ns,rfl,_⟩:=h
  rfl
 ·obtain ⟨Kp,p,g,a,ns,rfl,hW,hw,hKp,hg,hl,k⟩:=h
  replace k:Post c Kp H p Q (a,num a.done.length (a.done.flatMap three)):=k
  obtain ⟨dx,lc,lj,lo,lr,rows,js,rs,dcs,W,nK⟩:=id hW
  have nd:=scDone.nd
  obtain ⟨z1,z2,z3⟩:=W.dlen hw
  refine ⟨_,pss_cons (ps_set (i:=2) nd rfl (Or.inl rfl) (pe_lst (pa_cons (pe_callB call_len_seq (by rfl) G.len PySem.boot_len (pa_cons (pe_fld (pv 0) rfl) pa_nil)) pa_nil)))
   (pss_cons (ps_for PassesOwn.never rfl (pi_list (pe_fld (pv 0) rfl)) (pg_name (i:=3) nd rfl (Or.inl rfl))
    (pss_one (ps_expr (pe_bm PySem.F.plainAttrs_list PySem.F.slot_list_extend PySem.F.type_list_extend mt_extend (pv 2) (pa_cons (pe_lst (pa_cons (pe_fld (pv 3) rfl) (pa_cons (pe_fld (pv 3) rfl) (pa_cons (pe_fld (pv 3) rfl) pa_nil)))) pa_nil)))))
   (pss_one (ps_ret (pv 2)))),?_⟩
  refine ⟨_,rfl,p,c.W,dx,_,_,rfl,W.obj,T.clW,T.nW "runs" (by decide +kernel),rfl,lr,_,rfl,.inl (SqL.of W.hlr),by show 1≤sizeLine; decide,fun t ht=>?_⟩
  have s0:Same H (upd H t (.lst [V.int ((rs.map V.ref).length:Int)])):=Same.upd_new (Same.refl H) ht
  refine ⟨_,rfl,p,c.W,dx,_,_,rfl,(s0 _ _ W.obj),T.clW,T.nW "runs" (by decide +kernel),rfl,lr,rfl,⟨_,SqL.of (s0 _ _ W.hlr)⟩,for_list (K:=K) (a:=lr) (xs:=rs.map V.ref) (fun i σ H'=>∃ v:Option V,σ=[some (.ref p),some (.ref g),some (.ref t),v]∧Same H H'∧H' t=some (.lst (intsV (dcs.length::((dcs.take i).map (·.1)).flatMap three))))
   ⟨none,rfl,s0,?_⟩ (fun i σ H' _ ⟨_,_,s5,_⟩=>SqL.of (s5 _ _ W.hlr)) ?_ ?_⟩
  ·rw [upd_same,List.length_map,z1]
   rfl
  ·rintro i y σ H' hi ⟨v,rfl,s5,ht5⟩
   obtain ⟨b,hb,rfl⟩:=refs_get hi
   obtain ⟨d,hd,db,hbd⟩:=paired_get W.hrs hb
   have hb5:=s5 _ _ hbd
   refine ⟨_,rfl,.inl ⟨rfl,_,SqL.of ht5⟩,_,rfl,b,c.R,db,_,_,rfl,hb5,T.clR,T.nR "number" (by decide +kernel),rfl,_,rfl,b,c.R,db,_,_,rfl,hb5,T.clR,T.nR "end" (by decide +kernel),rfl,_,rfl,b,c.R,db,_,_,rfl,hb5,T.clR,T.nR "late" (by decide +kernel),rfl,by show 3≤sizeLine; decide,fun q hq=>⟨t,q,_,_,rfl,rfl,Same.upd_new (Same.refl H') hq _ _ ht5,upd_same,?_,?_⟩⟩
   ·rw [len_ints,List.length_cons,three_len,List.length_map,List.length_take]
    have:min i dcs.length≤dcs.length:=Nat.min_le_right _ _
    exact Nat.le_trans (show 3 * min i dcs.length+1+3≤200 by omega) (by decide)
   ·refine ⟨_,rfl,fun b o e=>by rw [upd_ne (ne_of_none e ht),upd_ne (ne_of_none (s5 b o e) hq)]; exact s5 b o e,?_⟩
    rw [upd_same,take_map_snoc (·.1) hd,List.flatMap_append]
    show some (HO.lst (intsV _++intsV (three d.1)))=_
    rw [ints_app]
    simp
  ·rintro σ H' ⟨v,rfl,s5,ht5⟩
   refine ⟨_,rfl,?_⟩
   rw [List.length_map,z1,List.take_length,W.dn,z2] at ht5
   refine k H' t (same_keeps s5) (hW.mono s5) ?_ (fun z=>hKp t z ht)
   rw [ht5]
   show _=some (HO.lst (V.int ((a.done.length:Nat):Int)::(Su73Neutral.outs (a.done.flatMap three)).map V.int))
   rw [outs_map]
   rfl
theorem scSums:FnScope ["works","given","changed","worked","late","each"] ["works","given"] (defScope (top 47)):=⟨rfl,rfl,rfl,by decide +kernel,rfl,by decide +kernel,by decide +kernel⟩
theorem bkSums0:BlkOk ["works","given","changed","worked","late","each"] (defScope (top 47)) (lcScope (callArg (asgVal (stAt (top 47) 0)))) [("each",5)]:=⟨rfl,by decide +kernel,by decide +kernel,by decide +kernel,by decide +kernel⟩
theorem bkSums1:BlkOk ["works","given","changed","worked","late","each"] (defScope (top 47)) (lcScope (callArg (asgVal (stAt (top 47) 1)))) [("each",5)]:=⟨rfl,by decide +kernel,by decide +kernel,by decide +kernel,by decide +kernel⟩
theorem bkSums2:BlkOk ["works","given","changed","worked","late","each"] (defScope (top 47)) (lcScope (asgVal (stAt (top 47) 2))) [("each",5)]:=⟨rfl,by decide +kernel,by decide +kernel,by decide +kernel,by decide +kernel⟩
theorem late_sums:∀ l:List Done,(((l.map Done.late).filter fun x=>decide (0<x)).length=(l.filter fun x=>x.late != 0).length)∧((l.map Done.late).filter fun x=>decide (0<x)).sum=(l.map Done.late).sum
 | []=>⟨rfl,rfl⟩
 | x::l=>by
  obtain ⟨h1,h2⟩:=late_sums l
  rw [List.map_cons,List.filter_cons,List.filter_cons]
  by_cases h:x.late=0
  ·rw [if_neg (by simp [h]),if_neg (by simp [h])]
   exact ⟨h1,by rw [h2,List.sum_cons,h]; omega⟩
  ·rw [if_pos (by simp; omega),if_pos (by simpa using h)]
   exact ⟨by rw [List.length_cons,List.length_cons,h1],by rw [List.sum_cons,List.sum_cons,h2]⟩
theorem ok_sums {f:Addr} {fd:FuncData} (F:Fun K "sums" "sums" (top 47) f fd) (T:Txt K c) (G:Gc mg):FnOk P w K mg base CX0 1 f fd ["works","given"] (spRe c len0 fun _=>.sums):=by
 refine F.ok scSums (fun vs H Q E h=>?_) (fun cdv A outer s H vs Q E hr h=>?_)
 ·obtain ⟨Kp,p,g,a,ns,rfl,_⟩:=h
  rfl
 ·obtain ⟨Kp,p,g,a,ns,rfl,hW,hw,hKp,hg,hl,k⟩:=h
  replace k:Post c Kp H p Q (a,num 0 [a.changed,a.ran,a.waited,(a.done.filter fun x=>x.late != 0).length,(a.done.map Done.late).sum]):=k
  obtain ⟨dx,lc,lj,lo,lr,rows,js,rs,dcs,W,nK⟩:=id hW
  have nd:=scSums.nd
  obtain ⟨z1,z2,z3⟩:=W.dlen hw
  have tl:∀ i,(dcs.take i).length<sizeLine:=fun i=>by
   rw [List.length_take]
   exact Nat.lt_of_le_of_lt (Nat.le_trans (Nat.min_le_right _ _) z3) (by decide)
  refine ⟨_,pss_cons (ps_set (i:=2) nd rfl (Or.inl rfl) (pe_callB (cr_sum rfl) (by rfl) G.sum PyProof.Rows.boot_sum (pa_cons (pe_lc (te:=tFld K (tVar 5) "change_took") rfl nd (pi_list (pe_fld (pv 0) rfl)) bkSums0 (fun _ _ _ _ _=>pg_name (i:=5) nd rfl (Or.inl rfl)) (fun _ _ _ _ _=>pts_nil) (fun _ _ _ _ _=>pe_fld (pv 5) (by rfl))) pa_nil)))
   (pss_cons (ps_set (i:=3) nd rfl (Or.inl rfl) (pe_callB (cr_sum rfl) (by rfl) G.sum PyProof.Rows.boot_sum (pa_cons (pe_lc (te:=tFld K (tOp (rIxL K) (tFld K (tVar 0) "jobs") (tFld K (tVar 5) "number")) "minutes") rfl nd (pi_list (pe_fld (pv 0) rfl)) bkSums1 (fun _ _ _ _ _=>pg_name (i:=5) nd rfl (Or.inl rfl)) (fun _ _ _ _ _=>pts_nil) (fun _ _ _ _ _=>pe_fld (pe_ix ix_list (pe_fld (pv 0) (by rfl)) (pe_fld (pv 5) (by rfl)) (by intro _ _; rfl)) (by rfl))) pa_nil)))
   (pss_cons (ps_setLc (i:=4) (tt:=tTest (tOp (rI0 fun i j=>.bl (decide (j<i))) (tFld K (tVar 5) "late") (tC (.int 0)))) (te:=tFld K (tVar 5) "late") rfl nd rfl rfl rfl (pi_list (pe_fld (pv 0) rfl)) bkSums2 (fun _ _ _ _ _=>pg_name (i:=5) nd rfl (Or.inl rfl)) (fun _ _ _ _ _=>pts_one (pt_cmpR op_gt (pe_fld (pv 5) rfl) pe_int (nomark _))) (fun _ _ _ _ _=>pe_fld (pv 5) rfl))
   (pss_one (ps_ret (pe_lst (pa_cons pe_int (pa_cons (pv 2) (pa_cons (pv 3) (pa_cons (pe_fld (pv 0) rfl) (pa_cons (pe_callB call_len_seq (by rfl) G.len PySem.boot_len (pa_cons (pv 4) pa_nil)) (pa_cons (pe_callB (cr_sum rfl) (by rfl) G.sum PyProof.Rows.boot_sum (pa_cons (pv 4) pa_nil)) pa_nil))))))))))),?_⟩
  refine ⟨_,rfl,p,c.W,dx,_,_,rfl,W.obj,T.clW,T.nW "runs" (by decide +kernel),rfl,lr,rfl,⟨_,SqL.of W.hlr⟩,fun D hD=>?_⟩
  refine lc_list (K:=K) (a:=lr) (xs:=rs.map V.ref) (fun i H'=>Same H H'∧H' D=some (.lst (intsV ((dcs.take i).map (·.2))))) ⟨Same.upd_new (Same.refl H) hD,upd_same⟩ (fun i H' _ ⟨s5,_⟩=>SqL.of (s5 _ _ W.hlr)) ?_ ?_
  ·rintro i y H' hi ⟨s5,hd5⟩
   obtain ⟨b,hb,rfl⟩:=refs_get hi
   obtain ⟨d,hd,db,hbd⟩:=paired_get W.hrs hb
   have hb5:=s5 _ _ hbd
   refine ⟨rfl,_,rfl,b,c.R,db,_,_,rfl,hb5,T.clR,T.nR "change_took" (by decide +kernel),rfl,_,hd5,by rw [len_ints,List.length_map]; exact tl i,fun b o e=>by rw [upd_ne (ne_of_none e hD)]; exact s5 b o e,?_⟩
   rw [upd_same,take_map_snoc (·.2) hd,ints_snoc]
  rintro H1 ⟨s1,hd1⟩
  rw [List.length_map,z1,List.take_length,intsV_eq] at hd1
  refine ⟨D,_,rfl,SqL.of hd1,?_⟩
  rw [sum_cast,W.chd]
  refine ⟨_,rfl,p,c.W,dx,_,_,rfl,(s1 _ _ W.obj),T.clW,T.nW "runs" (by decide +kernel),rfl,lr,rfl,⟨_,SqL.of (s1 _ _ W.hlr)⟩,fun D2 hD2=>?_⟩
  refine lc_list (K:=K) (a:=lr) (xs:=rs.map V.ref) (fun i H'=>Same H1 H'∧H' D2=some (.lst (intsV ((dcs.take i).map fun d=>(a.job d.1.job).mins)))) ⟨Same.upd_new (Same.refl H1) hD2,upd_same⟩ (fun i H' _ ⟨s5,_⟩=>SqL.of (s5 _ _ (s1 _ _ W.hlr))) ?_ ?_
  ·rintro i y H' hi ⟨s5,hd5⟩
   obtain ⟨b,hb,rfl⟩:=refs_get hi
   obtain ⟨d,hd,db,hbd⟩:=paired_get W.hrs hb
   have s6:=s1.trans s5
   have hb5:=s6 _ _ hbd
   have hdm:d.1 ∈ a.done:=by rw [← W.dn]; exact List.mem_map.mpr ⟨d,List.mem_of_getElem? hd,rfl⟩
   obtain ⟨q,dq,e1,e2,e3⟩:=W.job (hw.dnj d.1 hdm)
   have e2':=s6 _ _ e2
   refine ⟨rfl,_,rfl,p,c.W,dx,_,_,rfl,(s6 _ _ W.obj),T.clW,T.nW "jobs" (by decide +kernel),rfl,_,rfl,b,c.R,db,_,_,rfl,hb5,T.clR,T.nR "number" (by decide +kernel),rfl,lj,_,_,_,rfl,rfl,SqL.of (s6 _ _ W.hlj),e1,q,c.J,dq,_,_,rfl,e2',T.clJ,T.nJ "minutes" (by decide +kernel),rfl,_,hd5,by rw [len_ints,List.length_map]; exact tl i,fun b o e=>by rw [upd_ne (ne_of_none e hD2)]; exact s5 b o e,?_⟩
   rw [upd_same,take_map_snoc (fun d:Done×Nat=>(a.job d.1.job).mins) hd,ints_snoc]
  rintro H2 ⟨s2,hd2⟩
  rw [List.length_map,z1,List.take_length,intsV_eq] at hd2
  have er:(dcs.map fun d=>(a.job d.1.job).mins).sum=a.ran:=by
   rw [← hw.ran,← W.dn,List.map_map]
   rfl
  refine ⟨D2,_,rfl,SqL.of hd2,?_⟩
  rw [sum_cast,er]
  have s12:=s1.trans s2
  refine ⟨_,rfl,p,c.W,dx,_,_,rfl,(s12 _ _ W.obj),T.clW,T.nW "runs" (by decide +kernel),rfl,lr,rfl,⟨_,SqL.of (s12 _ _ W.hlr)⟩,fun D3 hD3=>?_⟩
  refine lc_list (K:=K) (a:=lr) (xs:=rs.map V.ref) (fun i H'=>Same H2 H'∧H' D3=some (.lst (intsV (((dcs.take i).map fun d=>d.1.late).filter fun x=>decide (0<x))))) ⟨Same.upd_new (Same.refl H2) hD3,upd_same⟩ (fun i H' _ ⟨s5,_⟩=>SqL.of (s5 _ _ (s12 _ _ W.hlr))) ?_ ?_
  ·rintro i y H' hi ⟨s5,hd5⟩
   obtain ⟨b,hb,rfl⟩:=refs_get hi
   obtain ⟨d,hd,db,hbd⟩:=paired_get W.hrs hb
   have s6:=s12.trans s5
   have hb5:=s6 _ _ hbd
   have tk:=take_map_snoc (fun d:Done×Nat=>d.1.late) hd
   refine ⟨rfl,_,rfl,b,c.R,db,_,_,rfl,hb5,T.clR,T.nR "late" (by decide +kernel),rfl,_,_,rfl,rfl,_,rfl,ite2 (fun h=>⟨_,rfl,b,c.R,db,_,_,rfl,hb5,T.clR,T.nR "late" (by decide +kernel),rfl,_,hd5,?_,fun b o e=>by rw [upd_ne (ne_of_none e hD3)]; exact s5 b o e,?_⟩) fun h=>⟨s5,?_⟩⟩
   ·rw [len_ints]
    refine Nat.lt_of_le_of_lt (List.length_filter_le _ _) ?_
    rw [List.length_map]
    exact tl i
   ·have h':=of_decide_eq_true h
    rw [upd_same,tk,List.filter_append,List.filter_cons_of_pos (by rw [decide_eq_true_eq]; omega),List.filter_nil,ints_snoc]
   ·have h':¬ ((0:Int)<_):=fun z=>h (decide_eq_true z)
    rw [hd5,tk,List.filter_append,List.filter_cons_of_neg (by rw [decide_eq_true_eq]; omega),List.filter_nil,List.append_nil]
  rintro H3 ⟨s3,hd3⟩
  have el:(dcs.map fun d=>d.1.late)=a.done.map Done.late:=by
   rw [← W.dn,List.map_map]
   rfl
  obtain ⟨q1,q2⟩:=late_sums a.done
  rw [List.length_map,z1,List.take_length,el] at hd3
  have hd3':=hd3
  rw [intsV_eq] at hd3'
  have s13:=s12.trans s3
  refine ⟨_,rfl,_,rfl,_,rfl,p,c.W,dx,_,_,rfl,(s13 _ _ W.obj),T.clW,T.nW "waited" (by decide +kernel),rfl,_,rfl,D3,_,rfl,.inl (SqL.of hd3),_,rfl,D3,_,rfl,SqL.of hd3',by show 6≤sizeLine; decide,fun l hl=>k.same hKp hW s13 hl ?_⟩
  rw [len_ints,sum_cast,q1,q2]
  rfl
def spEnds (c:Cs):Sp:=fun vs H Q _=>∃ p g a ns,vs=[.ref p,.ref g]∧WorksR c H p a∧Wf a∧H g=some (.lst (intsV ns))∧(∀ n ∈ ns,n<a.jobs.length)∧ns.length≤10∧∀ H' q,Same H H'→H' q=some (.lst (intsV (a.times ns)))→Q (.ref q) H'
theorem scEnds:FnScope ["works","order","ends","minute","loaded","number","job"] ["works","order"] (defScope (top 1)):=⟨rfl,rfl,rfl,by decide +kernel,rfl,by decide +kernel,by decide +kernel⟩
theorem ends_len (a:Abs):∀ (ns:List Nat) (l t:Nat),(a.ends l t ns).length=ns.length
 | [],_,_=>rfl
 | n::ns,l,t=>by
  show (_::a.ends _ _ ns).length=_
  rw [List.length_cons,ends_len a ns,List.length_cons]
theorem ok_ends {f:Addr} {fd:FuncData} (F:Fun K "ends_in_order" "ends_in_order" (top 1) f fd) (T:Txt K c) (hC:MOk P w K mg base 1 c.W "change_minutes" ["self","loaded","flavour"] (spChg c)):FnOk P w K mg base CX0 2 f fd ["works","order"] (spEnds c):=by
 obtain ⟨fC,fdC,mC,GC,bC⟩:=hC
 refine F.ok scEnds (fun vs H Q E h=>?_) (fun cdv A outer s H vs Q E hr h=>?_)
 ·obtain ⟨p,g,a,ns,rfl,_⟩:=h
  rfl
 ·obtain ⟨p,g,a,ns,rfl,hW,hw,hg,hns,h10,k⟩:=h
  obtain ⟨dx,lc,lj,lo,lr,rows,js,rs,dcs,W⟩:=id hW
  have nd:=scEnds.nd
  refine ⟨_,pss_cons (ps_set (i:=2) nd rfl (Or.inl rfl) (pe_lst pa_nil))
   (pss_cons (ps_set (i:=3) nd rfl (Or.inl rfl) (pe_fld (pv 0) rfl))
   (pss_cons (ps_set (i:=4) nd rfl (Or.inl rfl) (pe_fld (pv 0) rfl))
   (pss_cons (ps_for PassesOwn.never rfl (pi_list (pv 1)) (pg_name (i:=5) nd rfl (Or.inl rfl))
    (pss_cons (ps_set (i:=6) nd rfl (Or.inl rfl) (pe_ix ix_list (pe_fld (pv 0) rfl) (pv 5) (fun _ _=>rfl)))
    (pss_cons (ps_aug (i:=3) nd rfl (Or.inl rfl) (pe_op op_add (pe_meth (pv 0) T.clW mC GC hr bC .nil pass0 (pa_cons (pv 4) (pa_cons (pe_fld (pv 6) rfl) pa_nil))) (pe_fld (pv 6) rfl)) ip_add)
    (pss_cons (ps_set (i:=4) nd rfl (Or.inl rfl) (pe_fld (pv 6) rfl))
    (pss_one (ps_expr (pe_bm PySem.F.plainAttrs_list PySem.F.slot_list_append PySem.F.type_list_append mt_append (pv 2) (pa_cons (pv 3) pa_nil))))))))
   (pss_one (ps_ret (pv 2)))))),?_⟩
  refine ⟨Nat.zero_le _,fun t ht=>?_⟩
  have s0:Same H (upd H t (.lst [])):=Same.upd_new (Same.refl H) ht
  refine ⟨_,rfl,p,c.W,dx,_,_,rfl,(s0 _ _ W.obj),T.clW,T.nW "minute" (by decide +kernel),rfl,_,rfl,p,c.W,dx,_,_,rfl,(s0 _ _ W.obj),T.clW,T.nW "loaded" (by decide +kernel),rfl,_,rfl,g,rfl,⟨_,SqL.of (s0 _ _ hg)⟩,for_list (K:=K) (a:=g) (xs:=intsV ns) (fun i σ H'=>∃ (v5 v6:Option V) (l tt:Nat) (es:List Nat),σ=[some (.ref p),some (.ref g),some (.ref t),some (.int (tt:Int)),some (onV (onOf l)),v5,v6]∧Same H H'∧H' t=some (.lst (intsV es))∧l≤a.flavours∧es.length=i∧a.times ns=es++a.ends l tt (ns.drop i))
   ⟨none,none,a.last,a.now_,[],rfl,s0,upd_same,hw.last,rfl,rfl⟩ (fun i σ H' _ ⟨_,_,_,_,_,_,s5,_⟩=>SqL.of (s5 _ _ hg)) ?_ ?_⟩
  ·rintro i y σ H' hi ⟨v5,v6,l,tt,es,rfl,s5,ht5,hl,hel,het⟩
   obtain ⟨n,hn,rfl⟩:=ints_at hi
   have hm:=hns n (List.mem_of_getElem? hn)
   obtain ⟨q,dq,e1,e2,e3⟩:=W.job hm
   have e2':=s5 _ _ e2
   have hon:∀ g,onOf l=some g→g<a.flavours:=fun g e=>by
    cases l with
    | zero=>cases e
    | succ f=>cases e; omega
   have hdr:ns.drop i=n::ns.drop (i+1):=by
    obtain ⟨h1,h2⟩:=List.getElem?_eq_some_iff.mp hn
    rw [List.drop_eq_getElem_cons h1,h2]
   refine ⟨_,rfl,p,c.W,dx,_,_,rfl,(s5 _ _ W.obj),T.clW,T.nW "jobs" (by decide +kernel),rfl,_,rfl,lj,_,_,_,rfl,rfl,SqL.of (s5 _ _ W.hlj),e1,_,rfl,_,rfl,p,dx,_,rfl,s5 _ _ W.obj,rfl,_,rfl,_,rfl,q,c.J,dq,_,_,rfl,e2',T.clJ,T.nJ "flavour" (by decide +kernel),rfl,p,a,onOf l,_,rfl,hW.mono s5,hw,hon,(hw.job_of hm).2,_,rfl,q,c.J,dq,_,_,rfl,e2',T.clJ,T.nJ "minutes" (by decide +kernel),rfl,_,_,rfl,rfl,_,_,rfl,rfl,_,rfl,q,c.J,dq,_,_,rfl,e2',T.clJ,T.nJ "flavour" (by decide +kernel),rfl,_,rfl,.inl ⟨rfl,_,SqL.of ht5⟩,_,rfl,t,_,_,rfl,rfl,ht5,?_,?_⟩
   ·rw [len_ints,hel]
    have:=(List.getElem?_eq_some_iff.mp hn).1
    exact Nat.lt_of_lt_of_le (show i<10 by omega) (by decide)
   ·have et:(tt:Int)+((turnO a (onOf l) (a.job n).flavour:Nat)+((a.job n).mins:Int))=((tt+a.turn l (a.job n).flavour+(a.job n).mins:Nat):Int):=by
     rw [turnO_onOf]; omega
    refine ⟨some (V.int (n:Int)),some (V.ref q),(a.job n).flavour+1,tt+a.turn l (a.job n).flavour+(a.job n).mins,es++[tt+a.turn l (a.job n).flavour+(a.job n).mins],?_,fun b o e=>by rw [upd_ne (ne_of_none e ht)]; exact s5 b o e,?_,(hw.job_of hm).2,by rw [List.length_append,hel]; rfl,?_⟩
    ·show [some (V.ref p),some (V.ref g),some (V.ref t),some (V.int ((tt:Int)+((turnO a (onOf l) (a.job n).flavour:Nat)+((a.job n).mins:Int)))),some (V.int ((a.job n).flavour:Int)),_,_]=_
     rw [et]
     rfl
    ·rw [upd_same,← ints_snoc,← et]
    ·rw [het,hdr,List.append_assoc]
     rfl
  ·rintro σ H' ⟨v5,v6,l,tt,es,rfl,s5,ht5,hl,hel,het⟩
   refine ⟨_,rfl,?_⟩
   rw [len_ints,List.drop_length] at het
   have:a.times ns=es:=by rw [het]; exact List.append_nil es
   rw [← this] at ht5
   exact k H' t s5 ht5
end
end FR
namespace FR
open PySem PySem.Spec PyProof.Rows L2 N2 Fr Su73
def ifTest (s:Stmt):Expr:=match s with
 | .If t _ _ _=>t
 | _=>.Constant .none 0 ⟨0,0,0,0⟩
def unArg (e:Expr):Expr:=match e with
 | .UnaryOp _ a _=>a
 | _=>.Constant .none 0 ⟨0,0,0,0⟩
def le10 (ns:List Nat):Prop:=ns.length≤10
theorem nodup_cast (l:List Nat):(l.map fun n:Nat=>(n:Int)).Nodup↔l.Nodup:=by
 constructor
 ·intro h
  have h':l.Pairwise fun a b:Nat=>(a:Int)≠(b:Int):=List.pairwise_map.mp h
  exact h'.imp fun {a b} q e=>q (congrArg (fun n:Nat=>(n:Int)) e)
 ·intro h
  exact List.pairwise_map.mpr (h.imp fun h e=>h (by omega))
section
variable {P:Program} {w:World} {K:PySem.W.Frag} {mg:Str→Option Value} {base:Heap} {c:Cs}
theorem scTimes:FnScope ["works","given","ends","late","number","end"] ["works","given"] (defScope (top 38)):=⟨rfl,rfl,rfl,by decide +kernel,rfl,by decide +kernel,by decide +kernel⟩
theorem bkTimes1:BlkOk ["works","given","ends","late","number","end"] (defScope (top 38)) (lcScope (callArg (unArg (ifTest (stAt (top 38) 1))))) [("number",4)]:=⟨rfl,by decide +kernel,by decide +kernel,by decide +kernel,by decide +kernel⟩
theorem bkTimes2:BlkOk ["works","given","ends","late","number","end"] (defScope (top 38)) (lcScope (asgVal (stAt (top 38) 3))) [("number",4),("end",5)]:=⟨rfl,by decide +kernel,by decide +kernel,by decide +kernel,by decide +kernel⟩
theorem ok_times {f:Addr} {fd:FuncData} (F:Fun K "times" "times" (top 38) f fd) (T:Txt K c) (G:Gc mg) (hO:MOk P w K mg base 1 c.W "is_open" ["self","number"] (spOpen c)) (hL:MOk P w K mg base 1 c.J "lateness" ["self","end"] (spLate c)) (hE:GOk P w K mg base 2 "ends_in_order" ["works","order"] (spEnds c)) :
  FnOk P w K mg base CX0 3 f fd ["works","given"] (spRe c le10 fun ns=>.times ns):=by
 obtain ⟨fO,fdO,mO,GO,bO⟩:=hO
 obtain ⟨fL,fdL,mL,GL,bL⟩:=hL
 obtain ⟨fE,fdE,mE,kE,GE,bE⟩:=hE
 refine F.ok scTimes (fun vs H Q E h=>?_) (fun cdv A outer s H vs Q E hr h=>?_)
 ·obtain ⟨Kp,p,g,a,ns,rfl,_⟩:=h
  rfl
 ·obtain ⟨Kp,p,g,a,ns,rfl,hW,hw,hKp,hg,hl,k⟩:=h
  have hl:ns.length≤10:=hl
  replace k:Post c Kp H p Q (does a (.times ns)):=k
  obtain ⟨dx,lc,lj,lo,lr,rows,js,rs,dcs,W,nK⟩:=id hW
  have nd:=scTimes.nd
  have hr1:Room 1 (A.deeper (envOfC "times" (defScope (top 38)) s.heap.objs.size f cdv)):=hr.mono (by decide)
  refine ⟨_,pss_cons (ps_if (pt_cmpR op_lt (pe_callB call_lenS (by rfl) G.len PySem.boot_len (pa_cons (pe_callTy (cr_set rfl) (by rfl) G.set PyProof.Rows.boot_set (pa_cons (pv 1) pa_nil)) pa_nil)) (pe_callB call_len_seq (by rfl) G.len PySem.boot_len (pa_cons (pv 1) pa_nil)) (nomark _)) (pss_one (ps_ret (pe_lst (pa_cons (pe_gi (by rfl) G.oor) pa_nil)))) pss_nil)
   (pss_cons (ps_if (pt_not (pt_val (pe_callB (cr_all rfl) (by rfl) G.all PyProof.Rows.boot_all (pa_cons (pe_lc rfl nd (pi_list (pv 1)) bkTimes1 (fun _ _ _ _ _=>pg_name (i:=4) nd rfl (Or.inl rfl)) (fun _ _ _ _ _=>pts_nil) (fun _ _ _ _ _=>pe_meth (pv 0) T.clW mO GO hr1 bO .nil pass0 (pa_cons (pv 4) pa_nil))) pa_nil)))) (pss_one (ps_ret (pe_lst (pa_cons (pe_gi (by rfl) G.nsuch) pa_nil)))) pss_nil)
   (pss_cons (ps_set (i:=2) nd rfl (Or.inl rfl) (pe_call GE hr (by rfl) mE kE bE .nil pass0 (pa_cons (pv 0) (pa_cons (pv 1) pa_nil))))
   (pss_cons (ps_setLc (i:=3) (g:=gTup K 2 (gCons (gName 4) (gCons (gName 5) gNil))) (tt:=tTest (tOp (rI0 fun i j=>.bl (decide (j<i))) (tMeth c.J "lateness" (spLate c) [] E0 (tOp (rIxL K) (tFld K (tVar 0) "jobs") (tVar 4)) (tCons (tVar 5) tNil)) (tC (.int 0)))) (te:=tVar 4) rfl nd rfl rfl rfl (pi_zip (by rfl) G.zip (pa_cons (pv 1) (pa_cons (pv 2) pa_nil))) bkTimes2
     (fun _ _ _ _ _=>pg_tup rfl (pgs_cons (pg_name (i:=4) nd rfl (Or.inl rfl)) (pgs_cons (pg_name (i:=5) nd rfl (Or.inl rfl)) pgs_nil)))
     (fun _ _ _ _ _=>pts_one (pt_cmpR op_gt (pe_meth (pe_ix ix_list (pe_fld (pv 0) rfl) (pv 4) (fun _ _=>rfl)) T.clJ mL GL hr1 bL .nil pass0 (pa_cons (pv 5) pa_nil)) pe_int (nomark _))) (fun _ _ _ _ _=>pv 4))
   (pss_one (ps_ret (pe_op op_cat (pe_lst (pa_cons (pe_callB call_len_seq (by rfl) G.len PySem.boot_len (pa_cons (pv 3) pa_nil)) pa_nil)) (pv 2))))))),?_⟩
  have hg':=hg
  rw [intsV_eq] at hg'
  refine ⟨_,rfl,g,_,rfl,SqL.of hg',?_,fun t ht=>?_⟩
  ·rw [List.length_map]
   exact Nat.lt_of_le_of_lt (show ns.length+1≤11 by omega) (by decide)
  have s0:Same H (upd H t (.set (fun k=>(dedI (ns.map fun n:Nat=>(n:Int))).any (· == k)) (dedI (ns.map fun n:Nat=>(n:Int))).length)):=Same.upd_new (Same.refl H) ht
  have dl:=dedI_len (ns.map fun n:Nat=>(n:Int))
  rw [List.length_map,nodup_cast] at dl
  refine ⟨t,_,_,rfl,upd_same,_,rfl,g,_,rfl,.inl (SqL.of (s0 _ _ hg)),_,_,rfl,rfl,_,rfl,ite2 (fun h=>⟨by show 1≤sizeLine; decide,fun l hl=>?_⟩) fun h=>?_⟩
  ·have h':=of_decide_eq_true h
   rw [len_ints] at h'
   rw [show does a (.times ns)=(a,no (-22)) from if_pos (dl.mp (by omega))] at k
   exact k.same hKp hW s0 hl rfl
  have hnd:ns.Nodup:=Classical.byContradiction fun z=>h (decide_eq_true (by have:=dl.mpr z; rw [len_ints]; omega))
  generalize upd H t (.set (fun k=>(dedI (ns.map fun n:Nat=>(n:Int))).any (· == k)) (dedI (ns.map fun n:Nat=>(n:Int))).length)=H1 at s0 ⊢
  refine ⟨_,rfl,g,rfl,⟨_,SqL.of (s0 _ _ hg)⟩,fun D hD=>?_⟩
  refine lc_list (K:=K) (a:=g) (xs:=intsV ns) (fun i H'=>Same H1 H'∧H' D=some (.lst (((ns.take i).map a.isO).map V.bl))) ⟨Same.upd_new (Same.refl H1) hD,upd_same⟩ (fun i H' _ ⟨s5,_⟩=>SqL.of (s5 _ _ (s0 _ _ hg))) ?_ ?_
  ·rintro i y H' hi ⟨s5,hd5⟩
   obtain ⟨n,hn,rfl⟩:=ints_at hi
   have s6:=s0.trans s5
   refine ⟨rfl,_,rfl,p,dx,_,rfl,s6 _ _ W.obj,rfl,_,rfl,p,a,n,rfl,hW.r.mono s6,_,hd5,?_,fun b o e=>by rw [upd_ne (ne_of_none e hD)]; exact s5 b o e,?_⟩
   ·rw [List.length_map,List.length_map,List.length_take]
    exact Nat.lt_of_le_of_lt (Nat.le_trans (Nat.min_le_right _ _) hl) (by decide)
   ·rw [upd_same,take_map_snoc a.isO hn,List.map_append]
    rfl
  rintro H2 ⟨s1,hd1⟩
  rw [len_ints,List.take_length] at hd1
  have s02:=s0.trans s1
  refine ⟨D,_,rfl,SqL.of hd1,_,rfl,ite2 (fun h=>⟨by show 1≤sizeLine; decide,fun l hl=>?_⟩) fun h=>?_⟩
  ·have e:(ns.any fun j=>!(a.isO j))=true:=by
    simp only [Bool.not_eq_true',List.all_map,Function.comp_id] at h
    rw [List.all_eq_false] at h
    obtain ⟨x,hx,hx2⟩:=h
    exact List.any_eq_true.mpr ⟨x,hx,by simpa using hx2⟩
   rw [show does a (.times ns)=(a,no (-2)) from (if_neg (by simpa using hnd)).trans (if_pos e)] at k
   exact k.same hKp hW s02 hl rfl
  have hall:∀ n ∈ ns,a.isO n=true:=by
   have:((ns.map a.isO).all id)=true:=by simpa using h
   rw [List.all_map,List.all_eq_true] at this
   exact this
  have e:¬ (ns.any fun j=>!(a.isO j))=true:=fun z=>by
   obtain ⟨x,hx,hx2⟩:=List.any_eq_true.mp z
   rw [hall x hx] at hx2
   cases hx2
  rw [show does a (.times ns)=(a,num (a.late ns) (a.times ns)) from (if_neg (by simpa using hnd)).trans (if_neg e)] at k
  have hjb:∀ n ∈ ns,n<a.jobs.length:=fun n hn=>hw.opn n (isO_mem (hall n hn))
  refine ⟨_,rfl,_,rfl,p,g,a,ns,rfl,hW.r.mono s02,hw,s02 _ _ hg,hjb,hl,fun H3 q s3 hq=>?_⟩
  have s03:=s02.trans s3
  have tlen:(a.times ns).length=ns.length:=ends_len a ns _ _
  refine ⟨_,rfl,_,rfl,g,q,_,_,rfl,SqL.of (s03 _ _ hg),SqL.of hq,fun D2 hD2=>?_⟩
  refine lc_gen (J:=Itz K g q) (n:=ns.length) (fun i H'=>Same H3 H'∧H' D2=some (.lst (intsV ((((ns.zip (a.times ns)).take i).filter fun x=>decide ((a.job x.1).due<x.2)).map (·.1))))) ⟨Same.upd_new (Same.refl H3) hD2,upd_same⟩ ?_ ?_ ?_ ?_
  ·rintro i H' hi ⟨s5,_⟩
   exact ⟨_,_,_,_,SqL.of (s5 _ _ (s03 _ _ hg)),SqL.of (s5 _ _ hq),intsV_get hi,intsV_get (by rw [tlen]; exact hi)⟩
  ·rintro H' ⟨s5,_⟩
   exact ⟨_,_,SqL.of (s5 _ _ (s03 _ _ hg)),SqL.of (s5 _ _ hq),.inl (by rw [len_ints]; exact Nat.le_refl _)⟩
  ·rintro i x H' H'' hi ⟨s5,hd5⟩ ⟨t2,x1,y1,rfl,ht2,rfl,hx1,hy1⟩
   have e1:=hx1 _ (SqL.of (s5 _ _ (s03 _ _ hg)))
   have e2:=hy1 _ (SqL.of (s5 _ _ hq))
   obtain ⟨n,hn,rfl⟩:=ints_at e1
   obtain ⟨en,hen,rfl⟩:=ints_at e2
   have hz:(ns.zip (a.times ns))[i]?=some (n,en):=by rw [List.getElem?_zip_eq_some]; exact ⟨hn,hen⟩
   have tk:(ns.zip (a.times ns)).take (i+1)=(ns.zip (a.times ns)).take i++[(n,en)]:=by rw [List.take_add_one,hz]; rfl
   have s6:Same H3 (upd H' t2 (.tup [V.int (n:Int),V.int (en:Int)])):=Same.upd_new s5 ht2
   have s7:=s03.trans s6
   obtain ⟨qj,dq,j1,j2,j3⟩:=W.job (hjb n (List.mem_of_getElem? hn))
   have nDt:D2≠t2:=ne_of_none hd5 ht2
   have hd6:upd H' t2 (.tup [V.int (n:Int),V.int (en:Int)]) D2=_:=(upd_ne nDt).trans hd5
   refine ⟨t2,_,rfl,SqT.of upd_same,rfl,_,_,rfl,_,_,rfl,rfl,rfl,_,rfl,p,c.W,dx,_,_,rfl,(s7 _ _ W.obj),T.clW,T.nW "jobs" (by decide +kernel),rfl,_,rfl,lj,_,_,_,rfl,rfl,SqL.of (s7 _ _ W.hlj),j1,qj,dq,_,rfl,s7 _ _ j2,rfl,_,rfl,qj,_,en,rfl,⟨dq,s7 _ _ j2⟩,_,_,rfl,rfl,_,rfl,ite2 (fun h=>⟨_,rfl,_,hd6,?_,?_,?_⟩) fun h=>⟨s6,?_⟩⟩
   ·rw [len_ints,List.length_map]
    refine Nat.lt_of_le_of_lt (List.length_filter_le _ _) ?_
    rw [List.length_take,List.length_zip,tlen]
    exact Nat.lt_of_le_of_lt (show min i (min ns.length ns.length)≤10 by omega) (by decide)
   ·exact fun b o e=>by rw [upd_ne (ne_of_none e hD2)]; exact s6 b o e
   ·have h':=of_decide_eq_true h
    rw [upd_same,tk,List.filter_append,List.filter_cons_of_pos (by rw [decide_eq_true_eq]; show (a.job n).due<en; omega),List.filter_nil,List.map_append,← ints_app]
    rfl
   ·have h':¬ ((0:Int)<_):=fun z=>h (decide_eq_true z)
    rw [hd6,tk,List.filter_append,List.filter_cons_of_neg (by rw [decide_eq_true_eq]; show ¬ (a.job n).due<en; omega),List.filter_nil,List.append_nil]
  ·rintro H4 ⟨s4,hd4⟩
   have ez:(ns.zip (a.times ns)).take ns.length=ns.zip (a.times ns):=List.take_of_length_le (by rw [List.length_zip]; exact Nat.min_le_left _ _)
   rw [ez] at hd4
   have hl3:(intsV (((ns.zip (a.times ns)).filter fun x=>decide ((a.job x.1).due<x.2)).map (·.1))).length=a.late ns:=by
    rw [len_ints,List.length_map]
    rfl
   refine ⟨_,rfl,D2,_,rfl,.inl (SqL.of hd4),by show 1≤sizeLine; decide,fun r hr2=>?_⟩
   have s8:Same H4 (upd H4 r (.lst [V.int ((intsV (((ns.zip (a.times ns)).filter fun x=>decide ((a.job x.1).due<x.2)).map (·.1))).length:Int)])):=Same.upd_new (Same.refl H4) hr2
   refine ⟨_,rfl,r,q,_,_,rfl,rfl,upd_same,s8 _ _ (s4 _ _ hq),?_,fun l hl=>k.same hKp hW (s03.trans (s4.trans s8)) hl ?_⟩
   ·rw [List.length_singleton,len_ints,tlen]
    exact Nat.le_trans (show 1+ns.length≤11 by omega) (by decide)
   ·rw [hl3]
    show _=V.int ((a.late ns:Nat):Int)::(Su73Neutral.outs (a.times ns)).map V.int
    rw [outs_map]
    rfl
end
end FR
namespace FR
open PySem PySem.Spec PyProof.Rows L2 N2 Fr Su73
theorem cut_to (l:List Nat) {j:Nat} (h:j<l.length):cutV (intsV l) none (some (j:Int))=intsV (l.take j):=by
 unfold cutV
 rw [HT.sIx_none,HT.sIx_nat,len_ints,Nat.min_eq_left (Nat.le_of_lt h)]
 unfold intsV
 rw [List.drop_zero,Nat.sub_zero,List.map_take]
theorem cut_from (l:List Nat) {j:Nat} (h:j<l.length):cutV (intsV l) (some ((j:Int)+1)) none=intsV (l.drop (j+1)):=by
 unfold cutV
 have e:((j:Int)+1)=((j+1:Nat):Int):=by omega
 rw [e,HT.sIx_none,HT.sIx_nat,len_ints,Nat.min_eq_left h]
 unfold intsV
 rw [← List.map_drop,List.take_of_length_le (by rw [List.length_map,List.length_drop]; omega)]
theorem cut_both (l:List Nat) (j:Nat):intsV (l.take j)++intsV (l.drop (j+1))=intsV (l.eraseIdx j):=by
 unfold intsV
 rw [← List.map_append,List.eraseIdx_eq_take_drop_succ]
theorem cut_ne1 (l:List Nat) {j:Nat} (h:j<l.length):¬ (HT.sIx (intsV l).length 0 none=0∧HT.sIx (intsV l).length (intsV l).length (some (j:Int))=(intsV l).length):=by
 rintro ⟨_,h2⟩
 rw [HT.sIx_nat,len_ints] at h2
 omega
theorem cut_ne2 (l:List Nat) {j:Nat} (h:j<l.length):¬ (HT.sIx (intsV l).length 0 (some ((j:Int)+1))=0∧HT.sIx (intsV l).length (intsV l).length none=(intsV l).length):=by
 rintro ⟨h1,_⟩
 have e:((j:Int)+1)=((j+1:Nat):Int):=by omega
 rw [e,HT.sIx_nat,len_ints] at h1
 omega
theorem addG_snoc (g:Groups) (k:GKey) (xs:List Way) (x:Way):addG (addG g k xs) k [x]=addG g k (xs++[x]):=by
 by_cases h:hasK g k=true
 ·have e1:addG g k xs=g.map (fun p=>if p.1=k then (p.1,p.2++xs) else p):=if_pos h
  have e2:addG g k (xs++[x])=g.map (fun p=>if p.1=k then (p.1,p.2++(xs++[x])) else p):=if_pos h
  have h2:hasK (addG g k xs) k=true:=by
   rw [e1]
   obtain ⟨W,hW⟩:=hasK_iff.mp h
   exact hasK_iff.mpr ⟨W++xs,List.mem_map.mpr ⟨(k,W),hW,if_pos rfl⟩⟩
  rw [e2]
  show (if hasK (addG g k xs) k then (addG g k xs).map (fun p=>if p.1=k then (p.1,p.2++[x]) else p) else _)=_
  rw [if_pos h2,e1,List.map_map]
  refine List.map_congr_left fun p _=>?_
  by_cases q:p.1=k
  ·simp [q]
  ·simp [q]
 ·have e1:addG g k xs=g++[(k,xs)]:=if_neg h
  have e2:addG g k (xs++[x])=g++[(k,xs++[x])]:=if_neg h
  have h2:hasK (addG g k xs) k=true:=by
   rw [e1]
   exact hasK_iff.mpr ⟨xs,by simp⟩
  rw [e2]
  show (if hasK (addG g k xs) k then (addG g k xs).map (fun p=>if p.1=k then (p.1,p.2++[x]) else p) else _)=_
  rw [if_pos h2,e1,List.map_append,cnt_map_out k [x] g fun p hp q=>h (hasK_iff.mpr ⟨p.2,by rw [← q]; exact hp⟩)]
  simp
theorem addG_none {g:Groups} {k:GKey} (h:hasK g k=false):addG g k []=g++[(k,[])]:=if_neg (by rw [h]; decide)
theorem addG_some {g:Groups} {k:GKey} (h:hasK g k=true):addG g k []=g:=by
 have e:addG g k []=g.map (fun p=>if p.1=k then (p.1,p.2++[]) else p):=if_pos h
 rw [e]
 conv=>rhs; rw [← List.map_id g]
 refine List.map_congr_left fun p _=>?_
 show (if p.1=k then (p.1,p.2++[]) else p)=p
 split
 ·rw [List.append_nil]
 ·rfl
theorem grE_move {P:Program} {w:World} {N N':Addr→Prop} {H H':Hp} {d:Addr} {es:List Ent} (h:GrE P w N H d es) (hd:∀ o,H d=some o→H' d=some o) (tk:∀ b ys,H b=some (.tup ys)→H' b=some (.tup ys)) (lk:∀ e ∈ es,N e.l→∀ ys,H e.l=some (.lst ys)→N' e.l∧H' e.l=some (.lst ys)):GrE P w N' H' d es:=by
 refine ⟨?_,fun e he=>?_,h.nd⟩
 ·obtain ⟨hz,xs,h1,h2⟩:=h.dict
  exact ⟨hz,xs,hd _ h1,GX.mono h2 tk⟩
 ·have q:=h.ent e he
  obtain ⟨n1,n2⟩:=lk e he q.nw _ q.lst
  exact ⟨n1,n2,Paired.mapP q.ws fun _ _ ⟨o,h1,h2⟩=>⟨o,tk _ _ h1,tk _ _ h2⟩⟩
def tGNewE (P:Program) (w:World):TE:=fun _ H Q=>∀ p,H p=none→(∀ H':Hp,H' p=some (.ext (gphi P w p []))→GD P w H' p [])→Q (.ref p) (upd H p (.ext (gphi P w p [])))
theorem pe_gnewE {X:Cx} {pos:Pos} (P:Program) (w:World) (h1:X.prog=P) (h2:X.w=w):PE X (.Dict [] [] pos) (tGNewE P w):=by
 subst h1 h2
 exact pe_gnew
def spCost (cf:Nat→Nat):Sp:=fun vs H Q _=>∃ l,vs=[.int ((l:Nat):Int)]∧Q (.int ((cf l:Nat):Int)) H
def CO (P:Program) (w:World) (K:PySem.W.Frag) (mg:Str→Option Value) (base:Heap) (fc:Addr) (cf:Nat→Nat):Prop:=∃ fd,FnOk P w K mg base CX0 1 fc fd ["late"] (spCost cf)∧PySem.W.keepIn K (.ref fc)=true∧Binds K fd ["late"] []
structure Sim (a0 a:Abs):Prop where
 chg:a.change=a0.change
 fl:a.flavours=a0.flavours
 la:a.last=a0.last
 nw:a.now_=a0.now_
theorem Sim.turn {a0 a:Abs} (s:Sim a0 a) (on:Option Nat) (f:Nat):turnO a0 on f=turnO a on f:=by
 cases on with
 | none=>rfl
 | some g =>
  show a0.turn (g+1) f=a.turn (g+1) f
  unfold Abs.turn
  rw [s.chg]
section
variable {P:Program} {w:World} {K:PySem.W.Frag} {mg:Str→Option Value} {base:Heap} {c:Cs}
theorem scC0:FnScope ["late"] ["late"] (defScope (top 32)):=⟨rfl,rfl,rfl,by decide +kernel,rfl,by decide +kernel,by decide +kernel⟩
theorem ok_c0 {f:Addr} {fd:FuncData} (F:Fun K "nothing" "nothing" (top 32) f fd):FnOk P w K mg base CX0 1 f fd ["late"] (spCost c0):=by
 refine F.ok scC0 (fun vs H Q E h=>?_) (fun cdv A outer s H vs Q E hr h=>?_)
 ·obtain ⟨l,rfl,_⟩:=h
  rfl
 ·obtain ⟨l,rfl,k⟩:=h
  exact ⟨_,pss_one (ps_ret pe_int),k⟩
theorem scC1:FnScope ["late"] ["late"] (defScope (top 33)):=⟨rfl,rfl,rfl,by decide +kernel,rfl,by decide +kernel,by decide +kernel⟩
theorem ok_c1 {f:Addr} {fd:FuncData} (F:Fun K "one_if_late" "one_if_late" (top 33) f fd):FnOk P w K mg base CX0 1 f fd ["late"] (spCost c1):=by
 refine F.ok scC1 (fun vs H Q E h=>?_) (fun cdv A outer s H vs Q E hr h=>?_)
 ·obtain ⟨l,rfl,_⟩:=h
  rfl
 ·obtain ⟨l,rfl,k⟩:=h
  refine ⟨_,pss_one (ps_ret (pe_ifExp (pt_cmpR op_gt (pv 0) pe_int (nomark _)) pe_int pe_int)),?_⟩
  refine ⟨_,rfl,_,_,rfl,rfl,_,rfl,ite2 (fun h=>?_) fun h=>?_⟩
  ·have h':=of_decide_eq_true h
   rw [show c1 l=1 from if_pos (by omega)] at k
   exact k
  ·rw [show c1 l=0 from if_neg (fun z=>h (decide_eq_true (by omega)))] at k
   exact k
theorem scC2:FnScope ["late"] ["late"] (defScope (top 34)):=⟨rfl,rfl,rfl,by decide +kernel,rfl,by decide +kernel,by decide +kernel⟩
theorem ok_c2 {f:Addr} {fd:FuncData} (F:Fun K "minutes_late" "minutes_late" (top 34) f fd):FnOk P w K mg base CX0 1 f fd ["late"] (spCost c2):=by
 refine F.ok scC2 (fun vs H Q E h=>?_) (fun cdv A outer s H vs Q E hr h=>?_)
 ·obtain ⟨l,rfl,_⟩:=h
  rfl
 ·obtain ⟨l,rfl,k⟩:=h
  exact ⟨_,pss_one (ps_ret (pv 0)),_,rfl,k⟩
structure FurPre (P:Program) (w:World) (K:PySem.W.Frag) (mg:Str→Option Value) (base:Heap) (c:Cs) (H:Hp) (p d gd fc:Addr) (cf:Nat→Nat) (a0 a:Abs) (f:Nat→Addr) (gs:Groups) (N:Addr→Prop):Prop where
 W:WorksR c H p a0
 hw:Wf a0
 sim:Sim a0 a
 jd:JD c H d f a
 jfl:∀ n ∈ a.open_,(a.job n).flavour<a.flavours
 co:CO P w K mg base fc cf
 gr:GrAt P w N H gd gs
 ok:Okg gs
 key:∀ q ∈ gs,(∀ n ∈ q.1.1,n ∈ a.open_)∧(∀ g,q.1.2=some g→g<a.flavours)∧q.1.1.length≤7
 c7:7 * Fr.cnt gs<sizeLine
 l7:7 * gs.length<sizeLine
 ol:∀ q ∈ gs,∀ v ∈ q.2,v.2.2.length≤7
def spFur (P:Program) (w:World) (K:PySem.W.Frag) (mg:Str→Option Value) (base:Heap) (c:Cs):Sp:=fun vs H Q _=>∃ p d gd fc cf a0 a f gs N,vs=[.ref p,.ref d,.ref gd,.ref fc]∧FurPre P w K mg base c H p d gd fc cf a0 a f gs N ∧
 ∀ H' F,Same H H'→H F=none→GrAt P w (fun l=>H l=none) H' F (further a cf gs)→Q (.ref F) H'
theorem scFur:FnScope ["works","jobs","groups","cost_of","further","key","ways","left","kept","place","number","job","takes","group","cost","start","order","end"] ["works","jobs","groups","cost_of"] (defScope (top 3)):=⟨rfl,rfl,rfl,by decide +kernel,rfl,by decide +kernel,by decide +kernel⟩
theorem cnt_take (gs:Groups) {i:Nat} {e:GKey×List Way} (h:gs[i]?=some e):Fr.cnt (gs.take (i+1))=Fr.cnt (gs.take i)+e.2.length:=by
 unfold Fr.cnt
 rw [List.take_add_one,h,List.map_append,List.sum_append]
 simp
theorem cnt_take_le (gs:Groups) (i:Nat):Fr.cnt (gs.take i)≤Fr.cnt gs:=by
 conv=>rhs; rw [← List.take_append_drop i gs]
 unfold Fr.cnt
 rw [List.map_append,List.sum_append]
 omega
theorem ok_fur {f:Addr} {fd:FuncData} (F:Fun K "one_job_further" "one_job_further" (top 3) f fd) (T:Txt K c) (G:Gc mg) (hC:MOk P w K mg base 1 c.W "change_minutes" ["self","loaded","flavour"] (spChg c)) (hL:MOk P w K mg base 1 c.J "lateness" ["self","end"] (spLate c)) (hW:GOk P w K mg base 1 "worth_going_on" ["ways"] spWorth) :
  FnOk P w K mg base CX0 2 f fd ["works","jobs","groups","cost_of"] (spFur P w K mg base c):=by
 obtain ⟨fC,fdC,mC,GC,bC⟩:=hC
 obtain ⟨fL,fdL,mL,GL,bL⟩:=hL
 obtain ⟨fW,fdW,mW,kW,GW,bW⟩:=hW
 refine F.ok scFur (fun vs H Q E h=>?_) (fun cdv A outer s H vs Q E hr h=>?_)
 ·obtain ⟨p,d,gd,fc,cf,a0,a,fj,gs,N,rfl,_⟩:=h
  rfl
 ·obtain ⟨p,d,gd,fc,cf,a0,a,fj,gs,N,rfl,pre,k⟩:=h
  have nd:=scFur.nd
  have hu:=hu_of hr
  have hGc:∀ f sp,(f=fc∧sp=spCost cf)→∃ fd ps,FnOk P w K mg base CX0 1 f fd ps sp∧PySem.W.keepIn K (.ref f)=true∧Binds K fd ps []:=fun f sp ⟨h1,h2⟩=>by
   obtain ⟨fd,q1,q2,q3⟩:=pre.co
   subst h1 h2
   exact ⟨fd,_,q1,q2,q3⟩
  refine ⟨_,pss_cons (ps_set (i:=4) nd rfl (Or.inl rfl) (pe_gnewE P w rfl rfl))
   (pss_cons (ps_lock (ps_for PassesOwn.never rfl (pi_gitems (pv 2)) (pg_tup rfl (pgs_cons (pg_name (i:=5) nd rfl (Or.inl rfl)) (pgs_cons (pg_name (i:=6) nd rfl (Or.inl rfl)) pgs_nil)))
    (pss_cons (ps_set (i:=7) nd rfl (Or.inl rfl) (pe_ix ix_tup (pv 5) pe_int (fun _ _=>rfl)))
    (pss_cons (ps_set (i:=8) nd rfl (Or.inl rfl) (pe_call GW hr (by rfl) mW kW bW .nil pass0 (pa_cons (pv 6) pa_nil)))
    (pss_one (ps_for PassesOwn.never rfl (pi_enumT (by rfl) G.enum (pa_cons (pv 7) pa_nil)) (pg_tup rfl (pgs_cons (pg_name (i:=9) nd rfl (Or.inl rfl)) (pgs_cons (pg_name (i:=10) nd rfl (Or.inl rfl)) pgs_nil)))
     (pss_cons (ps_set (i:=11) nd rfl (Or.inl rfl) (pe_dget hu (pv 1) (pv 10) (fun _ _=>rfl)))
     (pss_cons (ps_set (i:=12) nd rfl (Or.inl rfl) (pe_op op_add (pe_meth (pv 0) T.clW mC GC hr bC .nil pass0 (pa_cons (pe_ix ix_tup (pv 5) pe_int (fun _ _=>rfl)) (pa_cons (pe_fld (pv 11) rfl) pa_nil))) (pe_fld (pv 11) rfl)))
     (pss_cons (ps_set (i:=13) nd rfl (Or.inl rfl) (pe_gset (hu_n hr 2 (by decide)) (pv 4) (pe_tup (pa_cons (pe_op op_catN (pe_slice sl_tup (pv 7) po_none (po_some (pv 9))) (pe_slice sl_tup (pv 7) (po_some (pe_op op_add (pv 9) pe_int)) po_none)) (pa_cons (pe_fld (pv 11) rfl) pa_nil))) (pe_lst pa_nil) ⟨rfl,rfl,rfl,rfl⟩))
     (pss_one (ps_for PassesOwn.never rfl (pi_list (pv 8)) (pg_tup rfl (pgs_cons (pg_name (i:=14) nd rfl (Or.inl rfl)) (pgs_cons (pg_name (i:=15) nd rfl (Or.inl rfl)) (pgs_cons (pg_name (i:=16) nd rfl (Or.inl rfl)) pgs_nil))))
      (pss_cons (ps_set (i:=17) nd rfl (Or.inl rfl) (pe_op op_add (pv 15) (pv 12)))
      (pss_one (ps_expr (pe_bm PySem.F.plainAttrs_list PySem.F.slot_list_append PySem.F.type_list_append mt_append (pv 13) (pa_cons (pe_tup (pa_cons (pe_op op_add (pv 14) (pe_callV (k:=1) (G:=fun f sp=>f=fc∧sp=spCost cf) (pv 3) hGc hr (pa_cons (pe_meth (pv 11) T.clJ mL GL hr bL .nil pass0 (pa_cons (pv 17) pa_nil)) pa_nil))) (pa_cons (pv 17) (pa_cons (pe_op op_catN (pv 16) (pe_tup (pa_cons (pv 10) pa_nil))) pa_nil)))) pa_nil))))))))))))))))
   (pss_one (ps_ret (pv 4)))),?_⟩
  obtain ⟨es,egs,GE⟩:=pre.gr
  obtain ⟨hz,xs,hgd,hgx⟩:=GE.dict
  obtain ⟨dx,lc,lj,lo,lr,rows,js,rs,dcs,W⟩:=id pre.W
  intro Fa hF gdF
  have nF:gd≠Fa:=ne_of_none hgd hF
  have e0:upd H Fa (.ext (gphi P w Fa [])) gd=some (.ext (gphi P w gd xs)):=(upd_ne nF).trans hgd
  refine ⟨gd,_,e0,trivial,fun od=>?_⟩
  have h1g:upd (upd H Fa (.ext (gphi P w Fa []))) gd (.frz od (.ext (gphi P w gd xs))) gd=some (.frz od (.ext (gphi P w gd xs))):=upd_same
  have h1F:upd (upd H Fa (.ext (gphi P w Fa []))) gd (.frz od (.ext (gphi P w gd xs))) Fa=some (.ext (gphi P w Fa [])):=(upd_ne nF.symm).trans upd_same
  have s1:∀ b o,H b=some o→b≠gd→upd (upd H Fa (.ext (gphi P w Fa []))) gd (.frz od (.ext (gphi P w gd xs))) b=some o:=fun b o e hb=>by rw [upd_ne hb,upd_ne (ne_of_none e hF)]; exact e
  generalize upd (upd H Fa (.ext (gphi P w Fa []))) gd (.frz od (.ext (gphi P w gd xs)))=H1 at h1g h1F s1 ⊢
  have f1:∀ b,H1 b=none→H b=none:=fun b e=>by
   cases q:H b with
   | none=>rfl
   | some o =>
    by_cases hb:b=gd
    ·rw [hb,h1g] at e; cases e
    ·rw [s1 b o q hb] at e; cases e
  have t1:∀ b ys,H b=some (.tup ys)→H1 b=some (.tup ys):=fun b ys e=>s1 _ _ e (ne_of e hgd (by intro z; cases z))
  have tF:∀ {b:Addr} {ys:List V},H1 b=some (.tup ys)→b≠Fa:=fun e=>ne_of e h1F (by intro z; cases z)
  have lF:∀ {b:Addr} {ys:List V},H1 b=some (.lst ys)→b≠Fa:=fun e=>ne_of e h1F (by intro z; cases z)
  have iF:∀ {b C d:Addr} {fs:List (Str×V)},H1 b=some (.ins C d fs)→b≠Fa:=fun e=>ne_of e h1F (by intro z; cases z)
  have li:∀ {b:Addr} {ys:List V},H b=some (.lst ys)→H1 b=some (.lst ys):=fun e=>s1 _ _ e (ne_of e hgd (by intro z; cases z))
  have ii:∀ {b C d:Addr} {fs:List (Str×V)},H b=some (.ins C d fs)→H1 b=some (.ins C d fs):=fun e=>s1 _ _ e (ne_of e hgd (by intro z; cases z))
  have Wk:∀ {H':Hp},(∀ b o,H1 b=some o→b≠Fa→H' b=some o)→Parts c H' p a0 dx lc lj lo lr rows js rs dcs:=fun {H'} kp =>
   have q1:∀ {b:Addr} {ys:List V},H b=some (.lst ys)→H' b=some (.lst ys):=fun e=>kp _ _ (li e) (lF (li e))
   have q2:∀ {b C d:Addr} {fs:List (Str×V)},H b=some (.ins C d fs)→H' b=some (.ins C d fs):=fun e=>kp _ _ (ii e) (iF (ii e))
   ⟨q2 W.obj,q1 W.hlc,Paired.mapP W.hrw fun _ _ q=>q1 q,q1 W.hlj,Paired.mapP W.hjb fun _ _ ⟨d,q⟩=>⟨d,q2 q⟩,q1 W.hlo,q1 W.hlr,Paired.mapP W.hrs fun _ _ ⟨d,q⟩=>⟨d,q2 q⟩,W.dn,W.chd,W.nd⟩
  have Dk:∀ {H':Hp},(∀ b o,H1 b=some o→b≠Fa→H' b=some o)→Rd H' d (.dK (kvJ fj a.open_)):=fun {H'} kp=>by
   rcases pre.jd.1 with e | ⟨o,e⟩
   ·have e1:=s1 _ _ e (ne_of e hgd (by intro z; cases z))
    exact .inl (kp _ _ e1 (ne_of e1 h1F (by intro z; cases z)))
   ·have e1:=s1 _ _ e (ne_of e hgd (by intro z; cases z))
    exact .inr ⟨o,kp _ _ e1 (ne_of e1 h1F (by intro z; cases z))⟩
  have glen:gs.length=es.length:=by rw [egs,List.length_map]
  have sz:=okg_fold a cf 7
  refine ⟨_,rfl,gd,od,es.map Ent.kv,xs,rfl,⟨h1g,GX.mono hgx t1⟩,for_gen (n:=es.length) (fun i σ H'=>∃ v5 v6 v7 v8 v9 v10 v11 v12 v13 v14 v15 v16 v17:Option V,σ=[some (.ref p),some (.ref d),some (.ref gd),some (.ref fc),some (.ref Fa),v5,v6,v7,v8,v9,v10,v11,v12,v13,v14,v15,v16,v17] ∧
   (∀ b o,H1 b=some o→b≠Fa→H' b=some o)∧GrAt P w (fun l=>H1 l=none) H' Fa ((gs.take i).foldl (turnG a cf) [])) ?_ ?_ ?_ ?_ ?_⟩
  ·exact ⟨none,none,none,none,none,none,none,none,none,none,none,none,none,rfl,fun b o e _=>e,[],rfl,⟨gdF _ h1F,(by intro e he; cases he),List.nodup_nil⟩⟩
  ·rintro i σ H' hi ⟨v5,v6,v7,v8,v9,v10,v11,v12,v13,v14,v15,v16,v17,rfl,kp,_⟩
   exact ⟨⟨kp _ _ h1g nF,GX.mono hgx fun b ys e=>kp _ _ (t1 _ _ e) (tF (t1 _ _ e))⟩,by rw [List.length_map]; exact hi⟩
  ·rintro σ H' ⟨v5,v6,v7,v8,v9,v10,v11,v12,v13,v14,v15,v16,v17,rfl,kp,_⟩
   exact ⟨⟨kp _ _ h1g nF,GX.mono hgx fun b ys e=>kp _ _ (t1 _ _ e) (tF (t1 _ _ e))⟩,by rw [List.length_map]; exact Nat.le_refl _⟩
  ·rintro i x σ H' H'' hi ⟨v5,v6,v7,v8,v9,v10,v11,v12,v13,v14,v15,v16,v17,rfl,kp,gr⟩ ⟨Tt,ka,kk,vv,hkv,rfl,hTt,hkh,rfl⟩
   obtain ⟨e,he⟩:∃ e,es[i]?=some e:=⟨es[i],List.getElem?_eq_getElem hi⟩
   have hkv2:(e.k,V.ref e.l)=(kk,vv):=by
    rw [List.getElem?_map,he] at hkv
    exact Option.some.inj hkv
   injection hkv2 with hk1 hk2
   subst hk1 hk2
   obtain ⟨kb,hka,hkb⟩:=hkh
   have hem:e ∈ es:=List.mem_of_getElem? he
   have hgi:gs[i]?=some e.g:=by rw [egs,List.getElem?_map,he]; rfl
   have hgm:e.g ∈ gs:=List.mem_of_getElem? hgi
   obtain ⟨hk3,hk4,hk5⟩:=pre.key _ hgm
   have eok:=GE.ent e hem
   have sS:Same H' (upd H' Tt (.tup [V.ref ka,V.ref e.l])):=Same.upd_new (Same.refl H') hTt
   have tH:∀ b ys,H b=some (.tup ys)→H' b=some (.tup ys):=fun b ys q=>kp _ _ (t1 _ _ q) (tF (t1 _ _ q))
   have ok0:Okg ([]:Groups):=⟨List.nodup_nil,fun p hp=>by cases hp⟩
   obtain ⟨okA,cA,lA⟩:=sz (gs.take i) [] ok0 (fun q hq=>pre.ok.full q (List.mem_of_mem_take hq)) (fun q hq=>(pre.key q (List.mem_of_mem_take hq)).2.2)
   have hc1:=cnt_take gs hgi
   have hc2:=cnt_take_le gs (i+1)
   have hc3:=pre.c7
   have hc4:=pre.l7
   have hWl:e.W.length≤Fr.cnt gs:=by
    have q:e.g.2.length=e.W.length:=rfl
    omega
   refine ⟨Tt,_,rfl,SqT.of upd_same,rfl,_,_,rfl,_,_,rfl,rfl,_,rfl,ka,_,_,_,rfl,rfl,SqT.of (sS _ _ hka),atI_nat (j:=0) rfl,_,rfl,e.l,e.as,e.W,rfl,sS _ _ (kp _ _ (li eok.lst) (lF (li eok.lst))),WaysH.mono sS (Paired.mapP eok.ws fun _ _ ⟨o,q1,q2⟩=>⟨o,tH _ _ q1,tH _ _ q2⟩),by omega,fun H2 kp2 bs s2 nkp hkp hkw=>?_⟩
   have sS2:=sS.trans s2
   have hka2:=sS2 _ _ hka
   have hkb2:TupN H2 kb e.k.1:=sS2 _ _ hkb
   have kpt:worth (sortW e.W)≠[]:=worth_ne (pre.ok.full _ hgm)
   have kl1:(worth (sortW e.W)).length≤e.W.length:=by
    have:=worth_length (sortW e.W)
    rw [(sortW_perm e.W).length_eq] at this
    exact this
   generalize hacc:(gs.take i).foldl (turnG a cf) []=acc at gr okA cA lA
   have hnext:(gs.take (i+1)).foldl (turnG a cf) []=(List.range e.k.1.length).foldl (turnJ a cf e.k (worth (sortW e.W))) acc:=by
    rw [List.take_add_one,hgi,List.foldl_append,hacc]
    rfl
   refine ⟨_,rfl,kb,_,rfl,SqT.of hkb2,for_gen (n:=e.k.1.length) (fun j σ H3=>∃ v9 v10 v11 v12 v13 v14 v15 v16 v17:Option V,σ=[some (.ref p),some (.ref d),some (.ref gd),some (.ref fc),some (.ref Fa),some (.ref ka),some (.ref e.l),some (.ref kb),some (.ref kp2),v9,v10,v11,v12,v13,v14,v15,v16,v17] ∧
    (∀ b o,H1 b=some o→b≠Fa→H3 b=some o)∧(∀ b ys,H2 b=some (.tup ys)→H3 b=some (.tup ys))∧H3 kp2=some (.lst (bs.map V.ref))∧GrAt P w (fun l=>H1 l=none∧l≠kp2) H3 Fa ((List.range j).foldl (turnJ a cf e.k (worth (sortW e.W))) acc)) ?_ ?_ ?_ ?_ ?_⟩
   ·refine ⟨v9,v10,v11,v12,v13,v14,v15,v16,v17,rfl,fun b o q hb=>sS2 _ _ (kp b o q hb),fun b ys q=>q,hkp,?_⟩
    obtain ⟨es2,ea2,GE2⟩:=gr
    exact ⟨es2,ea2,grE_move GE2 (fun o q=>sS2 _ _ q) (fun b ys q=>sS2 _ _ q) fun e2 _ n2 ys q=>⟨⟨n2,ne_of_none (sS _ _ q) nkp⟩,sS2 _ _ q⟩⟩
   ·rintro j σ H3 hj ⟨v9,v10,v11,v12,v13,v14,v15,v16,v17,rfl,kp3,tk3,_,_⟩
    exact ⟨_,_,SqT.of (tk3 _ _ hkb2),intsV_get hj⟩
   ·rintro σ H3 ⟨v9,v10,v11,v12,v13,v14,v15,v16,v17,rfl,kp3,tk3,_,_⟩
    exact ⟨_,SqT.of (tk3 _ _ hkb2),len_ints _⟩
   ·rintro j x σ H3 H4 hj ⟨v9,v10,v11,v12,v13,v14,v15,v16,v17,rfl,kp3,tk3,hkp3,gr3⟩ ⟨T2,x2,rfl,hT2,rfl,hx2⟩
    obtain ⟨n,hn,rfl⟩:=ints_at (hx2 _ (SqT.of (tk3 _ _ hkb2)))
    have hno:n ∈ a.open_:=hk3 n (List.mem_of_getElem? hn)
    obtain ⟨dj,hj0⟩:=pre.jd.2 n hno
    have sA:Same H3 (upd H3 T2 (.tup [V.int (j:Int),V.int (n:Int)])):=Same.upd_new (Same.refl H3) hT2
    have hT2':upd H3 T2 (.tup [V.int (j:Int),V.int (n:Int)]) T2=some (.tup [V.int (j:Int),V.int (n:Int)]):=upd_same
    generalize upd H3 T2 (.tup [V.int (j:Int),V.int (n:Int)])=Ha at sA hT2' ⊢
    have kpA:∀ b o,H1 b=some o→b≠Fa→Ha b=some o:=fun b o q hb=>sA _ _ (kp3 b o q hb)
    have hjX:∀ {H':Hp},(∀ b o,H1 b=some o→b≠Fa→H' b=some o)→H' (fj n)=some (.ins c.J dj (jf (a.job n))):=fun kq=>kq _ _ (ii hj0) (iF (ii hj0))
    have hjA:=hjX kpA
    have WA:=Wk kpA
    have hkaA:=sA _ _ (tk3 _ _ hka2)
    have hkbA:TupN Ha kb e.k.1:=sA _ _ (tk3 _ _ hkb2)
    have hfl:(a.job n).flavour<a0.flavours:=by rw [← pre.sim.fl]; exact pre.jfl n hno
    have hon:∀ g,e.k.2=some g→g<a0.flavours:=fun g q=>by rw [← pre.sim.fl]; exact hk4 g q
    have hval:some (V.ref (fj n))=valV (kvJ fj a.open_) (Sum.inl (n:Int)):=by rw [valV_kvJ,if_pos hno]
    obtain ⟨es3,ea3,GE3⟩:=gr3
    obtain ⟨okJ,cJ,lJ⟩:=okg_turnJs a cf e.k kpt okA j
    generalize hacc3:(List.range j).foldl (turnJ a cf e.k (worth (sortW e.W))) acc=acc3 at ea3 okJ cJ lJ
    have hfold:(List.range (j+1)).foldl (turnJ a cf e.k (worth (sortW e.W))) acc=turnJ a cf e.k (worth (sortW e.W)) acc3 j:=by
     rw [List.range_succ,List.foldl_append,hacc3]
     rfl
    have hl3:es3.length=acc3.length:=by rw [ea3,List.length_map]
    have hi7:(gs.take i).length+1≤gs.length:=by
     rw [List.length_take]
     have:=(List.getElem?_eq_some_iff.mp hgi).1
     omega
    refine ⟨T2,_,rfl,SqT.of hT2',rfl,_,_,rfl,_,_,rfl,rfl,_,rfl,_,rfl,d,.ref (fj n),rfl,.inl ⟨_,Sum.inl (n:Int),Dk kpA,rfl,hval⟩,_,rfl,p,dx,_,rfl,WA.obj,rfl,_,rfl,ka,_,_,_,rfl,rfl,SqT.of hkaA,atI_nat (j:=1) rfl,_,rfl,fj n,c.J,dj,_,_,rfl,hjA,T.clJ,T.nJ "flavour" (by decide +kernel),rfl,p,a0,e.k.2,_,rfl,⟨dx,lc,lj,lo,lr,rows,js,rs,dcs,WA⟩,pre.hw,hon,hfl,_,rfl,fj n,c.J,dj,_,_,rfl,hjA,T.clJ,T.nJ "minutes" (by decide +kernel),rfl,_,_,rfl,rfl,
     _,rfl,Fa,rfl,⟨_,GD.mono sA GE3.dict⟩,_,rfl,_,rfl,_,rfl,kb,_,rfl,SqT.of hkbA,cut_ne1 _ hj,fun q1 hq1=>⟨_,rfl,_,rfl,_,_,rfl,rfl,_,rfl,kb,_,rfl,SqT.of (Same.upd_new (Same.refl Ha) hq1 _ _ hkbA),cut_ne2 _ hj,fun q2 hq2=>?_⟩⟩
    have sB:Same Ha (upd (upd Ha q1 (.tup (cutV (intsV e.k.1) none (some (j:Int))))) q2 (.tup (cutV (intsV e.k.1) (some ((j:Int)+1)) none))):=Same.upd_new (Same.upd_new (Same.refl Ha) hq1) hq2
    have hB1:upd (upd Ha q1 (.tup (cutV (intsV e.k.1) none (some (j:Int))))) q2 (.tup (cutV (intsV e.k.1) (some ((j:Int)+1)) none)) q1=some (.tup (cutV (intsV e.k.1) none (some (j:Int)))):=(upd_ne (ne_of_none upd_same hq2)).trans upd_same
    have hB2:upd (upd Ha q1 (.tup (cutV (intsV e.k.1) none (some (j:Int))))) q2 (.tup (cutV (intsV e.k.1) (some ((j:Int)+1)) none)) q2=some (.tup (cutV (intsV e.k.1) (some ((j:Int)+1)) none)):=upd_same
    refine ⟨q1,q2,_,_,rfl,rfl,hB1,hB2,?_,fun q3 H5 hq3 alt=>?_⟩
    ·rw [cut_to _ hj,cut_from _ hj,len_ints,len_ints,List.length_take,List.length_drop]
     have hk5':e.k.1.length≤7:=hk5
     exact Nat.le_trans (show min j e.k.1.length+(e.k.1.length - (j+1))≤7 by omega) (by decide)
    rw [cut_to _ hj,cut_from _ hj,cut_both] at hq3
    have s5:Same Ha H5:=by
     rcases alt with q | ⟨q,q'⟩
     ·rw [q]; exact sB
     ·rw [q']; exact Same.upd_new sB q
    have kp5:∀ b o,H1 b=some o→b≠Fa→H5 b=some o:=fun b o q hb=>s5 _ _ (kpA b o q hb)
    have hj5:=hjX kp5
    refine ⟨_,rfl,fj n,c.J,dj,_,_,rfl,hj5,T.clJ,T.nJ "flavour" (by decide +kernel),rfl,by show 2≤sizeLine; decide,fun q4 hq4=>⟨Nat.zero_le _,fun nl hnl=>?_⟩⟩
    have s6:Same H5 (upd (upd H5 q4 (.tup [V.ref q3,V.int ((a.job n).flavour:Int)])) nl (.lst [])):=Same.upd_new (Same.upd_new (Same.refl H5) hq4) hnl
    have h64:upd (upd H5 q4 (.tup [V.ref q3,V.int ((a.job n).flavour:Int)])) nl (.lst []) q4=some (.tup [V.ref q3,V.int ((a.job n).flavour:Int)]):=(upd_ne (ne_of_none upd_same hnl)).trans upd_same
    have h6n:upd (upd H5 q4 (.tup [V.ref q3,V.int ((a.job n).flavour:Int)])) nl (.lst []) nl=some (.lst []):=upd_same
    have nl5:H5 nl=none:=(Same.upd_new (Same.refl H5) hq4).free hnl
    generalize upd (upd H5 q4 (.tup [V.ref q3,V.int ((a.job n).flavour:Int)])) nl (.lst [])=H7 at s6 h64 h6n ⊢
    have s37:Same H3 H7:=(sA.trans s5).trans s6
    have h63:TupN H7 q3 (e.k.1.eraseIdx j):=s6 _ _ hq3
    have GE7:=GrE.mono s37 GE3
    refine ⟨q4,(e.k.1.eraseIdx j,some (a.job n).flavour),es3.map Ent.kv,rfl,⟨q3,h64,h63⟩,GE7.dict,?_,fun v H8 gsp=>?_⟩
    ·rw [List.length_map,hl3]
     have q0:(gs.take i).length * 7+7≤7 * gs.length:=by omega
     have q1:j<7:=Nat.lt_of_lt_of_le hj hk5
     have lA':acc.length≤0+7 * (gs.take i).length:=lA
     omega
    have nl3:H3 nl=none:=(sA.trans s5).free nl5
    have nl1:H1 nl=none:=by
     cases q:H1 nl with
     | none=>rfl
     | some o =>
      by_cases hb:nl=Fa
      ·obtain ⟨_,xs3,hf3,_⟩:=GE3.dict
       rw [hb,hf3] at nl3
       cases nl3
      ·rw [kp3 _ _ q hb] at nl3
       cases nl3
    have nlk:nl≠kp2:=fun z=>by rw [z,hkp3] at nl3; cases nl3
    obtain ⟨es4,e4,GE4,eg4,he4,ek4,ev4,kp8,tk8,hkp8⟩:∃ es4 e4,GrE P w (fun l=>H1 l=none∧l≠kp2) H8 Fa es4∧es4.map Ent.g=addG acc3 (e.k.1.eraseIdx j,some (a.job n).flavour) []∧e4 ∈ es4∧e4.k=(e.k.1.eraseIdx j,some (a.job n).flavour)∧v=.ref e4.l ∧
      (∀ b o,H1 b=some o→b≠Fa→H8 b=some o)∧(∀ b ys,H7 b=some (.tup ys)→H8 b=some (.tup ys))∧H8 kp2=some (.lst (bs.map V.ref)):=by
     rcases gsp with ⟨hv,rfl⟩ | ⟨hv,rfl,o,rfl,hgo⟩
     ·obtain ⟨e4,he4,ek4,ev4⟩:=valV_ent _ hv
      refine ⟨es3,e4,GE7,?_,he4,ek4,ev4,fun b o q hb=>s37 _ _ (kp3 b o q hb),fun b ys q=>q,s37 _ _ hkp3⟩
      rw [ea3]
      exact (addG_some (by rw [valV_has,hv]; rfl)).symm
     ·obtain ⟨_,xs7,hf7,_⟩:=GE7.dict
      have hnk:hasK acc3 (e.k.1.eraseIdx j,some (a.job n).flavour)=false:=by rw [ea3,valV_has,hv]; rfl
      refine ⟨es3++[⟨(e.k.1.eraseIdx j,some (a.job n).flavour),nl,[],[]⟩],⟨(e.k.1.eraseIdx j,some (a.job n).flavour),nl,[],[]⟩,GE7.add h6n (fun e2 he2 z=>?_) ⟨nl1,nlk⟩ ⟨xs7,hf7⟩ hgo,?_,by simp,rfl,rfl,fun b o q hb=>by rw [upd_ne hb]; exact s37 _ _ (kp3 b o q hb),fun b ys q=>by rw [upd_ne (ne_of q hf7 (by intro z; cases z))]; exact q,?_⟩
      ·have:=(GE3.ent e2 he2).lst
       rw [z,nl3] at this
       cases this
      ·rw [addG_none hnk,List.map_append,ea3]
       rfl
      ·have q:=s37 _ _ hkp3
       rw [upd_ne (ne_of q hf7 (by intro z; cases z))]
       exact q
    subst ev4
    have tk28:∀ b ys,H2 b=some (.tup ys)→H8 b=some (.tup ys):=fun b ys q=>tk8 _ _ (s37 _ _ (tk3 _ _ q))
    have blen:bs.length=(worth (sortW e.W)).length:=WaysH.length hkw
    refine ⟨_,rfl,kp2,rfl,⟨_,SqL.of hkp8⟩,for_list (K:=K) (a:=kp2) (xs:=bs.map V.ref) (fun m σ H9=>∃ v14 v15 v16 v17:Option V,σ=[some (.ref p),some (.ref d),some (.ref gd),some (.ref fc),some (.ref Fa),some (.ref ka),some (.ref e.l),some (.ref kb),some (.ref kp2),some (.int (j:Int)),some (.int (n:Int)),some (.ref (fj n)),some (.int (((turnO a0 e.k.2 (a.job n).flavour:Nat):Int)+((a.job n).mins:Int))),some (.ref e4.l),v14,v15,v16,v17] ∧
     (∀ b o,H1 b=some o→b≠Fa→H9 b=some o)∧(∀ b ys,H2 b=some (.tup ys)→H9 b=some (.tup ys))∧H9 kp2=some (.lst (bs.map V.ref))∧∃ es5 e5,GrE P w (fun l=>H1 l=none∧l≠kp2) H9 Fa es5∧es5.map Ent.g=addG acc3 (e.k.1.eraseIdx j,some (a.job n).flavour) (((worth (sortW e.W)).take m).map (extW a cf e.k.2 n))∧e5 ∈ es5∧e5.k=(e.k.1.eraseIdx j,some (a.job n).flavour)∧e5.l=e4.l)
     ⟨v14,v15,v16,v17,rfl,kp8,tk28,hkp8,es4,e4,GE4,eg4,he4,ek4,rfl⟩ (fun m σ H9 _ ⟨_,_,_,_,_,_,_,q,_⟩=>SqL.of q) ?_ ?_⟩
    ·rintro m y σ H9 hm ⟨v14,v15,v16,v17,rfl,kp9,tk9,hkp9,es5,e5,GE5,eg5,he5,ek5,el5⟩
     obtain ⟨b,hb,rfl⟩:=refs_get hm
     obtain ⟨u,hu',ob,hob1,hob2⟩:=paired_get hkw hb
     have hob1':=tk9 _ _ hob1
     have hob2':TupN H9 ob u.2.2:=tk9 _ _ hob2
     have hj9:=hjX kp9
     have hel:=(GE5.ent e5 he5).lst
     have hN5:=(GE5.ent e5 he5).nw
     rw [el5] at hel hN5
     have een:(u.2.1:Int)+(((turnO a0 e.k.2 (a.job n).flavour:Nat):Int)+((a.job n).mins:Int))=((u.2.1+takes a e.k.2 n:Nat):Int):=by
      rw [pre.sim.turn]
      unfold takes
      omega
     have hWl5:e5.as.length<sizeLine:=by
      have q1:e5.as.length=e5.W.length:=WaysH.length (GE5.ent e5 he5).ws
      have q2:e5.W.length≤Fr.cnt (es5.map Ent.g):=le_sum_mem (List.mem_map.mpr ⟨e5.g,List.mem_map.mpr ⟨e5,he5,rfl⟩,rfl⟩)
      have q3:=cnt_addG (k:=(e.k.1.eraseIdx j,some (a.job n).flavour)) (ws:=((worth (sortW e.W)).take m).map (extW a cf e.k.2 n)) okJ.nd
      rw [← eg5,List.length_map,List.length_take] at q3
      have q4:min m (worth (sortW e.W)).length≤(worth (sortW e.W)).length:=Nat.min_le_right _ _
      have q5:(j+1) * (worth (sortW e.W)).length≤7 * e.W.length:=Nat.mul_le_mul (Nat.lt_of_lt_of_le hj hk5) kl1
      rw [Nat.add_mul,Nat.one_mul] at q5
      have q6:Fr.cnt acc≤0+7 * Fr.cnt (gs.take i):=cA
      have q7:e.g.2.length=e.W.length:=rfl
      omega
     refine ⟨b,_,rfl,SqT.of hob1',rfl,_,_,rfl,_,_,rfl,_,_,rfl,rfl,_,rfl,_,rfl,_,_,rfl,rfl,_,rfl,.inl ⟨rfl,_,SqL.of hel⟩,_,rfl,_,rfl,fc,spCost cf,rfl,⟨rfl,rfl⟩,_,rfl,fj n,dj,_,rfl,hj9,rfl,_,rfl,fj n,a.job n,u.2.1+takes a e.k.2 n,congrArg (fun z=>[V.ref (fj n),V.int z]) een,⟨dj,hj9⟩,_,rfl,_,_,rfl,rfl,_,rfl,_,rfl,_,rfl,by show 1≤sizeLine; decide,fun q5 hq5=>?_⟩
     have s95:Same H9 (upd H9 q5 (.tup [V.int (n:Int)])):=Same.upd_new (Same.refl H9) hq5
     refine ⟨ob,q5,_,_,rfl,rfl,s95 _ _ hob2',upd_same,?_,fun q6 H10 hq6 alt2=>⟨by show 3≤sizeLine; decide,fun q7 hq7=>?_⟩⟩
     ·have q1:u ∈ e.W:=(sortW_perm e.W).subset ((worth_ok (sortW_sorted e.W)).1 u (List.mem_of_getElem? hu'))
      have q2:=pre.ol _ hgm u q1
      rw [len_ints]
      exact Nat.le_trans (show u.2.2.length+1≤8 by omega) (by decide)
     have s10:Same H9 H10:=by
      rcases alt2 with q | ⟨q,q'⟩
      ·rw [q]; exact s95
      ·rw [q']; exact Same.upd_new s95 q
     have s11:=Same.upd_new (o:=.tup [V.int ((u.1:Int)+((cf (u.2.1+takes a e.k.2 n - (a.job n).due):Nat):Int)),V.int ((u.2.1:Int)+(((turnO a0 e.k.2 (a.job n).flavour:Nat):Int)+((a.job n).mins:Int))),V.ref q6]) s10 hq7
     refine ⟨e4.l,_,_,rfl,rfl,s11 _ _ hel,by rw [List.length_map]; exact hWl5,?_⟩
     have hq7':upd H10 q7 (.tup [V.int ((u.1:Int)+((cf (u.2.1+takes a e.k.2 n - (a.job n).due):Nat):Int)),V.int ((u.2.1:Int)+(((turnO a0 e.k.2 (a.job n).flavour:Nat):Int)+((a.job n).mins:Int))),V.ref q6]) q7=some (.tup [V.int ((u.1:Int)+((cf (u.2.1+takes a e.k.2 n - (a.job n).due):Nat):Int)),V.int ((u.2.1:Int)+(((turnO a0 e.k.2 (a.job n).flavour:Nat):Int)+((a.job n).mins:Int))),V.ref q6]):=upd_same
     have hq6':upd H10 q7 (.tup [V.int ((u.1:Int)+((cf (u.2.1+takes a e.k.2 n - (a.job n).due):Nat):Int)),V.int ((u.2.1:Int)+(((turnO a0 e.k.2 (a.job n).flavour:Nat):Int)+((a.job n).mins:Int))),V.ref q6]) q6=some (.tup (intsV u.2.2++[V.int (n:Int)])):=(upd_ne (ne_of_none hq6 hq7)).trans hq6
     generalize upd H10 q7 (.tup [V.int ((u.1:Int)+((cf (u.2.1+takes a e.k.2 n - (a.job n).due):Nat):Int)),V.int ((u.2.1:Int)+(((turnO a0 e.k.2 (a.job n).flavour:Nat):Int)+((a.job n).mins:Int))),V.ref q6])=H11 at s11 hq7' hq6' ⊢
     rw [een,← Int.natCast_add] at hq7'
     rw [ints_snoc] at hq6'
     have hway:WayH H11 q7 (extW a cf e.k.2 n u):=⟨q6,hq7',hq6'⟩
     have nk:(es5.map (·.k)).Nodup:=by
      have q:=addG_keys (k:=(e.k.1.eraseIdx j,some (a.job n).flavour)) (ws:=((worth (sortW e.W)).take m).map (extW a cf e.k.2 n)) okJ.nd
      rw [← eg5,List.map_map] at q
      exact q
     obtain ⟨es6,g1,g2,⟨e6,he6,k6,l6,_⟩,_⟩:=GrE.app (GrE.mono s11 GE5) nk he5 hway
     rw [el5] at g2
     have hel11:=s11 _ _ hel
     refine ⟨_,_,_,_,rfl,fun b o q hb=>?_,fun b ys q=>?_,?_,es6,e6,g2,?_,he6,k6.trans ek5,l6.trans el5⟩
     ·rw [upd_ne (fun z=>by rw [z,hN5.1] at q; cases q)]
      exact s11 _ _ (kp9 b o q hb)
     ·have q':=s11 _ _ (tk9 _ _ q)
      rw [upd_ne (ne_of q' hel11 (by intro z; cases z))]
      exact q'
     ·rw [upd_ne (Ne.symm hN5.2)]
      exact s11 _ _ hkp9
     ·rw [← g1,ek5,eg5,addG_snoc,take_map_snoc _ hu']
    ·rintro σ H9 ⟨v14,v15,v16,v17,rfl,kp9,tk9,hkp9,es5,e5,GE5,eg5,he5,ek5,el5⟩
     refine ⟨_,_,_,_,_,v14,v15,v16,v17,rfl,kp9,tk9,hkp9,es5,?_,GE5⟩
     rw [eg5,hfold,List.length_map,blen,List.take_length]
     have en:e.k.1.getD j 0=n:=by rw [List.getD_eq_getElem?_getD,hn]; rfl
     unfold turnJ
     rw [en]
   ·rintro σ H3 ⟨v9,v10,v11,v12,v13,v14,v15,v16,v17,rfl,kp3,tk3,_,es2,ea2,GE2⟩
    refine ⟨_,_,_,_,_,_,_,_,_,_,_,_,_,rfl,kp3,es2,by rw [hnext]; exact ea2,grE_move GE2 (fun o q=>q) (fun b ys q=>q) fun e2 _ n2 ys q=>⟨n2.1,q⟩⟩
  ·rintro σ H' ⟨v5,v6,v7,v8,v9,v10,v11,v12,v13,v14,v15,v16,v17,rfl,kp,es2,ea2,GE2⟩
   have hg1:=kp _ _ h1g nF
   refine ⟨hg1,_,rfl,k _ Fa (fun b o q=>?_) hF ⟨es2,?_,grE_move GE2 (fun o q=>?_) (fun b ys q=>?_) fun e2 _ n2 ys q=>⟨f1 _ n2,?_⟩⟩⟩
   ·by_cases hb:b=gd
    ·rw [hb] at q ⊢
     rw [hgd] at q
     cases q
     exact upd_same
    ·rw [upd_ne hb]
     exact kp _ _ (s1 b o q hb) (ne_of_none q hF)
   ·rw [← ea2]
    show gs.foldl (turnG a cf) []=_
    rw [← glen,List.take_length]
   ·rw [upd_ne nF.symm]; exact q
   ·rw [upd_ne (ne_of q hg1 (by intro z; cases z))]; exact q
   ·rw [upd_ne (ne_of q hg1 (by intro z; cases z))]; exact q
end
end FR
namespace FR
open PySem PySem.Spec PyProof.Rows L2 N2 Fr Su73
def tGDispE (P:Program) (w:World) (tk tv:TE):TE:=fun σ H Q=>∀ p,H p=none→tk σ (upd H p (.ext (gphi P w p []))) fun x H1=>tv σ H1 fun y H2=>H2 p=some (.ext (gphi P w p []))∧∃ a k,x=.ref a∧KeyH H2 a k ∧
 ∀ xs,(∀ H':Hp,H' p=some (.ext (gphi P w p xs))→(∀ b ys,H2 b=some (.tup ys)→H' b=some (.tup ys))→GD P w H' p [(k,y)])→Q (.ref p) (upd H2 p (.ext (gphi P w p xs)))
theorem pe_gdispE {X:Cx} {k v:Expr} {pos:Pos} {tk tv:TE} (P:Program) (w:World) (h1:X.prog=P) (h2:X.w=w) (hu:X.A.units+1<cLine) (hk:PE X k tk) (hv:PE X v tv):PE X (.Dict [some k] [v] pos) (tGDispE P w tk tv):=by
 subst h1 h2
 exact pe_gdisp hu hk hv
theorem keys_kvJ (f:Nat→Addr) (ns:List Nat):((kvJ f ns).map fun kv=>kV kv.1)=intsV ns:=by
 unfold kvJ intsV
 rw [List.map_map]
 rfl
theorem len_kvJ (f:Nat→Addr) (ns:List Nat):(kvJ f ns).length=ns.length:=by
 unfold kvJ
 rw [List.length_map]
theorem paired_right {α β:Type} {R:α→β→Prop} {as:List α} {bs:List β} (h:Paired R as bs) {b:β} (hb:b ∈ bs):∃ a ∈ as,R a b:=by
 induction h with
 | nil=>cases hb
 | cons q _ ih =>
  rcases List.mem_cons.mp hb with rfl | hb
  ·exact ⟨_,List.mem_cons_self,q⟩
  ·obtain ⟨a,ha,r⟩:=ih hb
   exact ⟨a,List.mem_cons_of_mem _ ha,r⟩
theorem paired_left {α β:Type} {R:α→β→Prop} {as:List α} {bs:List β} (h:Paired R as bs) {a:α} (ha:a ∈ as):∃ b ∈ bs,R a b:=by
 induction h with
 | nil=>cases ha
 | cons q _ ih =>
  rcases List.mem_cons.mp ha with rfl | ha
  ·exact ⟨_,List.mem_cons_self,q⟩
  ·obtain ⟨b,hb,r⟩:=ih ha
   exact ⟨b,List.mem_cons_of_mem _ hb,r⟩
theorem run_on {a:Abs} {cf:Nat→Nat} (hl:∀ g,onOf a.last=some g→g<a.flavours) (hj:∀ n ∈ a.open_,(a.job n).flavour<a.flavours) (o:List Nat) (ho:∀ x ∈ o,x ∈ a.open_):∀ g,(runO a cf o).1=some g→g<a.flavours:=by
 rcases List.eq_nil_or_concat o with rfl | ⟨o',j,rfl⟩
 ·exact hl
 ·intro g e
  rw [List.concat_eq_append] at e ho
  rw [runO_snoc] at e
  have e':some (a.job j).flavour=some g:=e
  cases e'
  exact hj j (ho j (by simp))
structure LvKey (a:Abs) (n:Nat) (gs:Groups):Prop where
 key:∀ q ∈ gs,(∀ n ∈ q.1.1,n ∈ a.open_)∧(∀ g,q.1.2=some g→g<a.flavours)∧q.1.1.length≤7
 ol:∀ q ∈ gs,∀ v ∈ q.2,v.2.2.length=n
theorem lv_key {a:Abs} {cf:Nat→Nat} {n:Nat} {gs:Groups} (L:Lv a cf n gs) (h7:a.open_.length≤7) (hl:∀ g,onOf a.last=some g→g<a.flavours) (hj:∀ n ∈ a.open_,(a.job n).flavour<a.flavours):LvKey a n gs:=by
 refine ⟨fun q hq=>?_,fun q hq v hv=>?_⟩
 ·obtain ⟨v,hv⟩:=List.exists_mem_of_ne_nil _ (L.ok.full q hq)
  obtain ⟨o,so⟩:=L.sound q.1 v ⟨q.2,hq,hv⟩
  have ho:∀ x ∈ o,x ∈ a.open_:=fun x hx=>so.perm.subset (List.mem_append_left _ hx)
  rw [so.key]
  refine ⟨fun n hn=>(List.mem_filter.mp hn).1,run_on hl hj o ho,?_⟩
  exact Nat.le_trans (List.length_filter_le _ _) h7
 ·obtain ⟨o,so⟩:=L.sound q.1 v ⟨q.2,hq,hv⟩
  rw [so.eq]
  exact so.len
theorem pow7 {i:Nat} (h:i<7):7 * 7 ^ i<sizeLine:=by
 have:7 ^ i≤7 ^ 6:=Nat.pow_le_pow_right (by decide) (by omega)
 exact Nat.lt_of_le_of_lt (Nat.mul_le_mul_left 7 this) (by decide)
section
variable {P:Program} {w:World} {K:PySem.W.Frag} {mg:Str→Option Value} {base:Heap} {c:Cs}
structure BestPre (P:Program) (w:World) (K:PySem.W.Frag) (mg:Str→Option Value) (base:Heap) (c:Cs) (H:Hp) (p d fc:Addr) (cf:Nat→Nat) (a0 a:Abs) (f:Nat→Addr):Prop where
 W:WorksR c H p a0
 hw:Wf a0
 sim:Sim a0 a
 hd:H d=some (.dK (kvJ f a.open_))
 jb:∀ n ∈ a.open_,JobAt c H (f n) (a.job n)
 jfl:∀ n ∈ a.open_,(a.job n).flavour<a.flavours
 co:CO P w K mg base fc cf
 mono:∀ x y,x≤y→cf x≤cf y
 rise:a.open_.Pairwise (·<·)
 op7:a.open_.length≤7
def spBest (P:Program) (w:World) (K:PySem.W.Frag) (mg:Str→Option Value) (base:Heap) (c:Cs):Sp:=fun vs H Q _=>∃ p d fc cf a0 a f,vs=[.ref p,.ref d,.ref fc]∧BestPre P w K mg base c H p d fc cf a0 a f ∧
 ∀ H' q k v,Same H H'→WayH H' q v→In (level a cf a.open_.length) k v→(∀ k u,In (level a cf a.open_.length) k u→¬ wlt u v)→Q (.ref q) H'
theorem scBest:FnScope ["works","jobs","cost_of","groups","number","ways"] ["works","jobs","cost_of"] (defScope (top 4)):=⟨rfl,rfl,rfl,by decide +kernel,rfl,by decide +kernel,by decide +kernel⟩
theorem bkBest:BlkOk ["works","jobs","cost_of","groups","number","ways"] (defScope (top 4)) (lcScope (callArg (asgVal (stAt (top 4) 2)))) [("ways",5)]:=⟨rfl,by decide +kernel,by decide +kernel,by decide +kernel,by decide +kernel⟩
theorem ok_best {f:Addr} {fd:FuncData} (F:Fun K "best_way" "best_way" (top 4) f fd) (T:Txt K c) (G:Gc mg) (hF:GOk P w K mg base 2 "one_job_further" ["works","jobs","groups","cost_of"] (spFur P w K mg base c)):FnOk P w K mg base CX0 3 f fd ["works","jobs","cost_of"] (spBest P w K mg base c):=by
 obtain ⟨fF,fdF,mF,kF,GF,bF⟩:=hF
 refine F.ok scBest (fun vs H Q E h=>?_) (fun cdv A outer s H vs Q E hr h=>?_)
 ·obtain ⟨p,d,fc,cf,a0,a,fj,rfl,_⟩:=h
  rfl
 ·obtain ⟨p,d,fc,cf,a0,a,fj,rfl,pre,k⟩:=h
  have nd:=scBest.nd
  have hu:=hu_of hr
  have hu4:=hu_n hr 4 (by decide)
  refine ⟨_,pss_cons (ps_set (i:=3) nd rfl (Or.inl rfl) (pe_gdispE P w rfl rfl hu (pe_tup (pa_cons (pe_callTy (cr_tupleD rfl) (by rfl) G.tuple PyProof.Rows.boot_tuple (pa_cons (pv 1) pa_nil)) (pa_cons (pe_fld (pv 0) rfl) pa_nil))) (pe_lst (pa_cons (pe_tup (pa_cons pe_int (pa_cons (pe_fld (pv 0) rfl) (pa_cons (pe_tup pa_nil) pa_nil)))) pa_nil))))
   (pss_cons (ps_lock (ps_for PassesOwn.never rfl (pi_keys (pv 1)) (pg_name (i:=4) nd rfl (Or.inl rfl))
    (pss_one (ps_set (i:=3) nd rfl (Or.inl rfl) (pe_call GF hr (by rfl) mF kF bF .nil pass0 (pa_cons (pv 0) (pa_cons (pv 1) (pa_cons (pv 3) (pa_cons (pv 2) pa_nil)))))))))
   (pss_one (ps_ret (pe_callB (cr_minW rfl hu4) (by rfl) G.min PyProof.Rows.boot_min (pa_cons (pe_lock (pe_lc (te:=tCB (rMinW K) (tCons (tVar 5) tNil)) rfl nd (pi_gvals (pv 3)) bkBest (fun _ _ _ _ _=>pg_name (i:=5) nd rfl (Or.inl rfl)) (fun _ _ _ _ _=>pts_nil)
    (fun _ _ _ _ _=>pe_callB (cr_minW rfl hu4) (by rfl) G.min PyProof.Rows.boot_min (pa_cons (pv 5) pa_nil)))) pa_nil))))),?_⟩
  obtain ⟨dx,lc,lj,lo,lr,rows,js,rs,dcs,W⟩:=id pre.W
  have ndo:=nodup_of_rising pre.rise
  have hl0:∀ g,onOf a.last=some g→g<a.flavours:=fun g e=>by
   rw [pre.sim.fl]
   exact pre.hw.onf g (by rw [← pre.sim.la]; exact e)
  intro gd hgd0
  have s0:Same H (upd H gd (.ext (gphi P w gd []))):=Same.upd_new (Same.refl H) hgd0
  refine ⟨_,rfl,d,_,rfl,.inl (s0 _ _ pre.hd),fun tk htk=>?_⟩
  have s1:=Same.upd_new (o:=.tup ((kvJ fj a.open_).map fun kv=>kV kv.1)) s0 htk
  refine ⟨_,rfl,p,c.W,dx,_,_,rfl,(s1 _ _ W.obj),T.clW,T.nW "loaded" (by decide +kernel),rfl,by show 2≤sizeLine; decide,fun kt hkt=>?_⟩
  have s2:=Same.upd_new (o:=.tup [V.ref tk,onV (onOf a0.last)]) s1 hkt
  refine ⟨_,rfl,p,c.W,dx,_,_,rfl,(s2 _ _ W.obj),T.clW,T.nW "minute" (by decide +kernel),rfl,Nat.zero_le _,fun et het=>⟨by show 3≤sizeLine; decide,fun wt hwt=>⟨by show 1≤sizeLine; decide,fun wl hwl=>?_⟩⟩⟩
  have e1:upd (upd (upd (upd (upd (upd H gd (.ext (gphi P w gd []))) tk (.tup ((kvJ fj a.open_).map fun kv=>kV kv.1))) kt (.tup [V.ref tk,onV (onOf a0.last)])) et (.tup [])) wt (.tup [V.int 0,V.int (a0.now_:Int),V.ref et])) wl (.lst [V.ref wt]) gd=some (.ext (gphi P w gd [])):=by
   have q1:upd H gd (.ext (gphi P w gd [])) gd=some (.ext (gphi P w gd [])):=upd_same
   have t1:=Same.upd_new (o:=.tup ((kvJ fj a.open_).map fun kv=>kV kv.1)) (Same.refl _) htk
   have t2:=Same.upd_new (o:=.tup [V.ref tk,onV (onOf a0.last)]) t1 hkt
   have t3:=Same.upd_new (o:=.tup []) t2 het
   have t4:=Same.upd_new (o:=.tup [V.int 0,V.int (a0.now_:Int),V.ref et]) t3 hwt
   exact Same.upd_new (o:=.lst [V.ref wt]) t4 hwl _ _ q1
  have s3:=Same.upd_new (o:=.tup []) s2 het
  have s4:=Same.upd_new (o:=.tup [V.int 0,V.int (a0.now_:Int),V.ref et]) s3 hwt
  have s5:=Same.upd_new (o:=.lst [V.ref wt]) s4 hwl
  have n1:=Same.upd_new (o:=.tup [V.ref tk,onV (onOf a0.last)]) (Same.refl _) hkt
  have n2:=Same.upd_new (o:=.tup []) (Same.refl _) het
  have n3:=Same.upd_new (o:=.tup [V.int 0,V.int (a0.now_:Int),V.ref et]) (Same.refl _) hwt
  have n4:=Same.upd_new (o:=.lst [V.ref wt]) (Same.refl _) hwl
  have e2:=n4 _ _ (n3 _ _ (n2 _ _ (n1 tk _ upd_same)))
  have e3:=n4 _ _ (n3 _ _ (n2 kt _ upd_same))
  have e4:=n4 _ _ (n3 et _ upd_same)
  have e5:=n4 wt _ upd_same
  have e6:upd (upd (upd (upd (upd (upd H gd (.ext (gphi P w gd []))) tk (.tup ((kvJ fj a.open_).map fun kv=>kV kv.1))) kt (.tup [V.ref tk,onV (onOf a0.last)])) et (.tup [])) wt (.tup [V.int 0,V.int (a0.now_:Int),V.ref et])) wl (.lst [V.ref wt]) wl=some (.lst [V.ref wt]):=upd_same
  clear n1 n2 n3 n4 s1 s2 s3 s4 s0
  generalize upd (upd (upd (upd (upd (upd H gd (.ext (gphi P w gd []))) tk (.tup ((kvJ fj a.open_).map fun kv=>kV kv.1))) kt (.tup [V.ref tk,onV (onOf a0.last)])) et (.tup [])) wt (.tup [V.int 0,V.int (a0.now_:Int),V.ref et])) wl (.lst [V.ref wt])=H5 at *
  rw [keys_kvJ] at e2
  refine ⟨e1,kt,(a.open_,onOf a.last),rfl,⟨tk,by rw [pre.sim.la]; exact e3,e2⟩,fun xs hGD=>?_⟩
  have tk6:∀ b ys,H5 b=some (.tup ys)→upd H5 gd (.ext (gphi P w gd xs)) b=some (.tup ys):=fun b ys e=>by rw [upd_ne (ne_of e e1 (by intro z; cases z))]; exact e
  have g6:GrAt P w (fun _=>True) (upd H5 gd (.ext (gphi P w gd xs))) gd (level a cf 0):=by
   refine ⟨[⟨(a.open_,onOf a.last),wl,[wt],[(0,a.now_,[])]⟩],rfl,⟨hGD _ upd_same tk6,fun e he=>?_,by simp⟩⟩
   rw [List.mem_singleton.mp he]
   refine ⟨trivial,by rw [upd_ne (ne_of e6 e1 (by intro z; cases z))]; exact e6,.cons ⟨et,?_,tk6 _ _ e4⟩ .nil⟩
   have:=tk6 _ _ e5
   rw [← pre.sim.nw] at this
   exact this
  have s6:Same H (upd H5 gd (.ext (gphi P w gd xs))):=fun b o e=>by rw [upd_ne (ne_of_none e hgd0)]; exact s5 b o e
  generalize upd H5 gd (.ext (gphi P w gd xs))=H6 at s6 g6 ⊢
  clear hGD tk6 e1 e2 e3 e4 e5 e6 s5 hwl hwt het hkt htk
  refine ⟨d,_,s6 _ _ pre.hd,trivial,fun od=>⟨_,rfl,d,od,rfl,.inl ⟨_,upd_same,?_⟩⟩⟩
  have kd:∀ {b:Addr} {o:HO},H b=some o→b≠d→upd H6 d (.frz od (.dK (kvJ fj a.open_))) b=some o:=fun e hb=>by rw [upd_ne hb]; exact s6 _ _ e
  refine for_gen (n:=a.open_.length) (fun i σ H'=>∃ (gi:Addr) (v4 v5:Option V),σ=[some (.ref p),some (.ref d),some (.ref fc),some (.ref gi),v4,v5]∧(∀ b o,H b=some o→b≠d→H' b=some o)∧H' d=some (.frz od (.dK (kvJ fj a.open_)))∧∃ N,GrAt P w N H' gi (level a cf i)) ?_ ?_ ?_ ?_ ?_
  ·refine ⟨gd,none,none,rfl,fun b o e hb=>kd e hb,upd_same,fun _=>True,?_⟩
   obtain ⟨es,ea,GE⟩:=g6
   have hd6:=s6 _ _ pre.hd
   obtain ⟨_,xs0,hg0,_⟩:=GE.dict
   exact ⟨es,ea,grE_move GE (fun o e=>by rw [upd_ne (ne_of hg0 hd6 (by intro z; cases z))]; exact e) (fun b ys e=>by rw [upd_ne (ne_of e hd6 (by intro z; cases z))]; exact e) fun e2 _ _ ys e=>⟨trivial,by rw [upd_ne (ne_of e hd6 (by intro z; cases z))]; exact e⟩⟩
  ·rintro i σ H' hi ⟨gi,v4,v5,rfl,kp,hdd,_⟩
   exact ⟨hdd,by rw [len_kvJ]; exact hi⟩
  ·rintro σ H' ⟨gi,v4,v5,rfl,kp,hdd,_⟩
   exact ⟨hdd,by rw [len_kvJ]; exact Nat.le_refl _⟩
  ·rintro i x σ H' H'' hi ⟨gi,v4,v5,rfl,kp,hdd,N,gr⟩ ⟨rfl,kk,vv,hkv,rfl⟩
   have L:=lv_all a cf pre.mono ndo i
   have LK:=lv_key L pre.op7 hl0 pre.jfl
   obtain ⟨c1,c2⟩:=level_small a cf pre.mono ndo pre.op7 i
   have h7:=pre.op7
   have hp7:=pow7 (show i<7 by omega)
   have kl:∀ {b:Addr} {ys:List V},H b=some (.lst ys)→H'' b=some (.lst ys):=fun e=>kp _ _ e (ne_of e pre.hd (by intro z; cases z))
   have ki:∀ {b C d2:Addr} {fs:List (Str×V)},H b=some (.ins C d2 fs)→H'' b=some (.ins C d2 fs):=fun e=>kp _ _ e (ne_of e pre.hd (by intro z; cases z))
   refine ⟨_,rfl,_,rfl,_,rfl,_,rfl,p,d,gi,fc,cf,a0,a,fj,level a cf i,N,rfl,⟨⟨dx,lc,lj,lo,lr,rows,js,rs,dcs,ki W.obj,kl W.hlc,Paired.mapP W.hrw fun _ _ q=>kl q,kl W.hlj,Paired.mapP W.hjb fun _ _ ⟨d,q⟩=>⟨d,ki q⟩,kl W.hlo,kl W.hlr,Paired.mapP W.hrs fun _ _ ⟨d,q⟩=>⟨d,ki q⟩,W.dn,W.chd,W.nd⟩,
    pre.hw,pre.sim,⟨.inr ⟨od,hdd⟩,fun n hn=>(pre.jb n hn).elim fun dj q=>⟨dj,ki q⟩⟩,pre.jfl,pre.co,gr,L.ok,LK.key,?_,?_,fun q hq v hv=>by rw [LK.ol q hq v hv]; omega⟩,fun H3 F3 s3 _ g3=>?_⟩
   ·exact Nat.lt_of_le_of_lt (Nat.mul_le_mul_left 7 c1) hp7
   ·exact Nat.lt_of_le_of_lt (Nat.mul_le_mul_left 7 c2) hp7
   ·exact ⟨F3,_,_,rfl,fun b o e hb=>s3 _ _ (kp b o e hb),s3 _ _ hdd,_,g3⟩
  ·rintro σ H' ⟨gi,v4,v5,rfl,kp,hdd,N,es,ea,GE⟩
   refine ⟨hdd,?_⟩
   obtain ⟨_,_,hg0,_⟩:=GE.dict
   have s8:Same H (upd H' d (.dK (kvJ fj a.open_))):=fun b o e=>by
    by_cases hb:b=d
    ·rw [hb] at e ⊢
     rw [pre.hd] at e
     cases e
     exact upd_same
    ·rw [upd_ne hb]; exact kp b o e hb
   have GE8:GrE P w N (upd H' d (.dK (kvJ fj a.open_))) gi es:=grE_move GE (fun o e=>by rw [upd_ne (ne_of hg0 hdd (by intro z; cases z))]; exact e) (fun b ys e=>by rw [upd_ne (ne_of e hdd (by intro z; cases z))]; exact e) fun e2 _ n2 ys e=>⟨n2,by rw [upd_ne (ne_of e hdd (by intro z; cases z))]; exact e⟩
   generalize upd H' d (.dK (kvJ fj a.open_))=H8 at s8 GE8 ⊢
   clear hg0 hdd kp GE
   obtain ⟨hz,xs8,hg8,hx8⟩:=GE8.dict
   refine ⟨gi,_,hg8,trivial,fun od2=>⟨_,rfl,gi,od2,es.map Ent.kv,xs8,rfl,⟨upd_same,GX.mono hx8 fun b ys e=>by rw [upd_ne (ne_of e hg8 (by intro z; cases z))]; exact e⟩,fun D hD=>?_⟩⟩
   have h9g:upd H8 gi (.frz od2 (.ext (gphi P w gi xs8))) gi=some (.frz od2 (.ext (gphi P w gi xs8))):=upd_same
   have k9:∀ b o,H8 b=some o→b≠gi→upd H8 gi (.frz od2 (.ext (gphi P w gi xs8))) b=some o:=fun b o e hb=>by rw [upd_ne hb]; exact e
   generalize upd H8 gi (.frz od2 (.ext (gphi P w gi xs8)))=H9 at h9g k9 hD ⊢
   have t9:∀ b ys,H8 b=some (.tup ys)→H9 b=some (.tup ys):=fun b ys e=>k9 _ _ e (ne_of e hg8 (by intro z; cases z))
   have L:=lv_all a cf pre.mono ndo a.open_.length
   have elen:es.length=(level a cf a.open_.length).length:=by rw [ea,List.length_map]
   have hsm:es.length<sizeLine:=by
    rw [elen]
    have h7:=pre.op7
    exact Nat.lt_of_le_of_lt (level_small a cf pre.mono ndo pre.op7 _).2 (Nat.lt_of_le_of_lt (Nat.pow_le_pow_right (by decide) h7) (by decide))
   refine lc_gen (n:=es.length) (fun i H'=>Same H9 H'∧∃ as ws,H' D=some (.lst (as.map V.ref))∧WaysH H' as ws∧Paired (fun (e:Ent) (v:Way)=>v ∈ e.W∧∀ u ∈ e.W,¬ wlt u v) (es.take i) ws) ?_ ?_ ?_ ?_ ?_
   ·exact ⟨Same.upd_new (Same.refl H9) hD,[],[],upd_same,.nil,.nil⟩
   ·rintro i H' hi ⟨s,_⟩
    exact ⟨⟨s _ _ h9g,GX.mono hx8 fun b ys e=>s _ _ (t9 _ _ e)⟩,by rw [List.length_map]; exact hi⟩
   ·rintro H' ⟨s,_⟩
    exact ⟨⟨s _ _ h9g,GX.mono hx8 fun b ys e=>s _ _ (t9 _ _ e)⟩,by rw [List.length_map]; exact Nat.le_refl _⟩
   ·rintro i x H' H'' hi ⟨s,as,ws,hDl,hws,hpr⟩ ⟨rfl,kk,hkv⟩
    obtain ⟨e,he⟩:∃ e,es[i]?=some e:=⟨es[i],List.getElem?_eq_getElem hi⟩
    have hkv2:(e.k,V.ref e.l)=(kk,x):=by
     rw [List.getElem?_map,he] at hkv
     exact Option.some.inj hkv
    injection hkv2 with hk1 hk2
    subst hk1 hk2
    have hem:e ∈ es:=List.mem_of_getElem? he
    have eok:=GE8.ent e hem
    have h1:H'' e.l=some (.lst (e.as.map V.ref)):=s _ _ (k9 _ _ eok.lst (ne_of eok.lst hg8 (by intro z; cases z)))
    have h2:WaysH H'' e.as e.W:=Paired.mapP eok.ws fun _ _ ⟨o,q1,q2⟩=>⟨o,s _ _ (t9 _ _ q1),s _ _ (t9 _ _ q2)⟩
    have hWne:e.W≠[]:=L.ok.full e.g (by rw [ea]; exact List.mem_map.mpr ⟨e,hem,rfl⟩)
    have hane:e.as≠[]:=fun z=>hWne (List.length_eq_zero_iff.mp (by rw [← WaysH.length h2,z]; rfl))
    have hal:as.length=i:=by
     rw [WaysH.length hws,← Paired.length hpr,List.length_take]
     omega
    refine ⟨rfl,_,rfl,e.l,e.as,e.W,rfl,SqL.of h1,h2,hane,fun b v hb hbv hv hmin=>⟨_,hDl,by rw [List.length_map,hal]; omega,?_⟩⟩
    have kt:∀ {x:Addr} {ys:List V},H'' x=some (.tup ys)→upd H'' D (.lst (as.map V.ref++[V.ref b])) x=some (.tup ys):=fun e=>by rw [upd_ne (ne_of e hDl (by intro z; cases z))]; exact e
    have wm:∀ {x:Addr} {u:Way},WayH H'' x u→WayH (upd H'' D (.lst (as.map V.ref++[V.ref b]))) x u:=fun ⟨o,q1,q2⟩=>⟨o,kt q1,kt q2⟩
    refine ⟨fun x o q=>by rw [upd_ne (ne_of_none q hD)]; exact s x o q,as++[b],ws++[v],by rw [upd_same,List.map_append]; rfl,WaysH.snoc (Paired.mapP hws fun _ _ q=>wm q) (wm hbv),?_⟩
    rw [List.take_add_one,he]
    exact paired_snoc hpr ⟨hv,hmin⟩
   ·rintro H' ⟨s,as,ws,hDl,hws,hpr⟩
    rw [List.take_length] at hpr
    have hg':=s _ _ h9g
    have tu:∀ {x:Addr} {ys:List V},H' x=some (.tup ys)→upd H' gi (.ext (gphi P w gi xs8)) x=some (.tup ys):=fun e=>by rw [upd_ne (ne_of e hg' (by intro z; cases z))]; exact e
    have hws':WaysH (upd H' gi (.ext (gphi P w gi xs8))) as ws:=Paired.mapP hws fun _ _ ⟨o,q1,q2⟩=>⟨o,tu q1,tu q2⟩
    have hne:as≠[]:=fun z=>level_ne a cf pre.mono ndo (by
     have q1:=WaysH.length hws
     have q2:=Paired.length hpr
     rw [z] at q1
     exact List.length_eq_zero_iff.mp (by rw [← elen,q2,← q1]; rfl))
    refine ⟨hg',D,as,ws,rfl,SqL.of (by rw [upd_ne (ne_of hDl hg' (by intro z; cases z))]; exact hDl),hws',hne,fun b v hb hbv hv hmin=>?_⟩
    obtain ⟨e0,he0,hv0,_⟩:=paired_right hpr hv
    refine k _ b e0.k v (fun x o q=>?_) hbv ⟨e0.W,by rw [ea]; exact List.mem_map.mpr ⟨e0,he0,rfl⟩,hv0⟩ fun kk u hin hlt=>?_
    ·have q8:=s8 x o q
     by_cases hx:x=gi
     ·rw [hx] at q8 ⊢
      rw [hg8] at q8
      cases q8
      exact upd_same
     ·rw [upd_ne hx]
      exact s _ _ (k9 _ _ q8 hx)
    ·obtain ⟨W1,hW1,hu1⟩:=hin
     rw [ea] at hW1
     obtain ⟨e1,he1,q1⟩:=List.mem_map.mp hW1
     cases q1
     obtain ⟨v1,hv1,q2,q3⟩:=paired_left hpr he1
     have q4:=q3 u hu1
     have q5:=hmin v1 hv1
     rcases wlt_total u v1 with r | r | r
     ·exact q4 r
     ·rw [r] at hlt; exact q5 hlt
     ·exact q5 (wlt_trans r hlt)
end
end FR
namespace FR
open PySem PySem.Spec PyProof.Rows L2 N2 Fr Su73
def GCo (P:Program) (w:World) (K:PySem.W.Frag) (mg:Str→Option Value) (base:Heap) (x:Str) (cf:Nat→Nat):Prop:=∃ fc,mg x=some (.ref fc)∧CO P w K mg base fc cf
section
variable {P:Program} {w:World} {K:PySem.W.Frag} {mg:Str→Option Value} {base:Heap} {c:Cs}
theorem best_pre {H H1:Hp} {p d fc:Addr} {cf:Nat→Nat} {a:Abs} {f:Nat→Addr} (hW:WorksR c H p a) (hw:Wf a) (s:Same H H1) (hd:H1 d=some (.dK (kvJ f a.open_))) (hj:∀ n ∈ a.open_,JobAt c H1 (f n) (a.job n)) (co:CO P w K mg base fc cf) (mono:∀ x y,x≤y→cf x≤cf y) :
  BestPre P w K mg base c H1 p d fc cf a a f :=
 ⟨hW.mono s,hw,⟨rfl,rfl,rfl,rfl⟩,hd,hj,fun n hn=>(hw.job_of (hw.opn n hn)).2,co,mono,hw.rise,hw.op7⟩
theorem ord_len {a:Abs} {cf:Nat→Nat} (mono:∀ x y,x≤y→cf x≤cf y) (rise:a.open_.Pairwise (·<·)) {k:GKey} {v:Way} (h:In (level a cf a.open_.length) k v):v.2.2.length=a.open_.length:=by
 obtain ⟨o,so⟩:=(lv_all a cf mono (nodup_of_rising rise) a.open_.length).sound k v h
 rw [so.eq]
 exact so.len
theorem scBestR:FnScope ["works","given","way"] ["works","given"] (defScope (top 35)):=⟨rfl,rfl,rfl,by decide +kernel,rfl,by decide +kernel,by decide +kernel⟩
theorem ok_bestR {f:Addr} {fd:FuncData} (F:Fun K "best" "best" (top 35) f fd) (T:Txt K c) (G:Gc mg) (hB:GOk P w K mg base 3 "best_way" ["works","jobs","cost_of"] (spBest P w K mg base c)) (hJ:MOk P w K mg base 1 c.W "open_jobs" ["self"] (spJobs c)) (h0:GCo P w K mg base "nothing" c0) :
  FnOk P w K mg base CX0 4 f fd ["works","given"] (spRe c len0 fun _=>.best):=by
 obtain ⟨fB,fdB,mB,kB,GB,bB⟩:=hB
 obtain ⟨fJ,fdJ,mJ,GJ,bJ⟩:=hJ
 obtain ⟨fc,mc,co⟩:=h0
 refine F.ok scBestR (fun vs H Q E h=>?_) (fun cdv A outer s H vs Q E hr h=>?_)
 ·obtain ⟨Kp,p,g,a,ns,rfl,_⟩:=h
  rfl
 ·obtain ⟨Kp,p,g,a,ns,rfl,hW,hw,hKp,hg,hl,k⟩:=h
  replace k:Post c Kp H p Q (a,num (a.end_ a.best) a.best):=k
  obtain ⟨dx,lc,lj,lo,lr,rows,js,rs,dcs,W,nK⟩:=id hW
  have nd:=scBestR.nd
  refine ⟨_,pss_cons (ps_set (i:=2) nd rfl (Or.inl rfl) (pe_call GB hr (by rfl) mB kB bB .nil pass0 (pa_cons (pv 0) (pa_cons (pe_meth0 (pv 0) T.clW mJ GJ (hr.mono (by decide)) bJ .nil pass0) (pa_cons (pe_glob (v:=.ref fc) (by rfl) mc rfl) pa_nil)))))
   (pss_one (ps_ret (pe_op op_cat (pe_lst (pa_cons (pe_ix ix_tup (pv 2) pe_int (fun _ _=>rfl)) pa_nil)) (pe_callTy call_list_of (by rfl) G.list PyProof.Rows.boot_list (pa_cons (pe_ix ix_tup (pv 2) pe_int (fun _ _=>rfl)) pa_nil))))),?_⟩
  refine ⟨_,rfl,_,rfl,p,dx,_,rfl,W.obj,rfl,p,a,rfl,hW.r,hw,fun H1 d fj s1 _ hd hj=>⟨p,d,fc,c0,a,a,fj,rfl,best_pre hW.r hw s1 hd hj co c0_mono,fun H2 q kk v s2 hq hin hmin=>?_⟩⟩
  have ev:=best_level a hw.rise hin hmin
  have ln:=ord_len c0_mono hw.rise hin
  subst ev
  obtain ⟨ob,h1,h2⟩:=hq
  have o7:=hw.op7
  have ln':a.best.length=a.open_.length:=ln
  refine ⟨_,rfl,q,_,_,_,rfl,rfl,SqT.of h1,atI_nat (j:=1) rfl,by show 1≤sizeLine; decide,fun l1 hl1=>?_⟩
  have s3:Same H2 (upd H2 l1 (.lst [V.int ((a.end_ a.best:Nat):Int)])):=Same.upd_new (Same.refl H2) hl1
  refine ⟨_,rfl,q,_,_,_,rfl,rfl,SqT.of (s3 _ _ h1),atI_nat (j:=2) rfl,ob,_,rfl,.inr (SqT.of (s3 _ _ h2)),fun l2 hl2=>?_⟩
  have s4:Same (upd H2 l1 (.lst [V.int ((a.end_ a.best:Nat):Int)])) (upd (upd H2 l1 (.lst [V.int ((a.end_ a.best:Nat):Int)])) l2 (.lst (intsV a.best))):=Same.upd_new (Same.refl _) hl2
  refine ⟨l1,l2,_,_,rfl,rfl,s4 _ _ upd_same,upd_same,?_,fun l hl=>k.same hKp hW (s1.trans (s2.trans (s3.trans s4))) hl ?_⟩
  ·rw [len_ints,List.length_singleton]
   exact Nat.le_trans (show 1+a.best.length≤8 by omega) (by decide)
  ·show _=V.int ((a.end_ a.best:Nat):Int)::(Su73Neutral.outs a.best).map V.int
   rw [outs_map]
   rfl
theorem scFewR:FnScope ["works","given","way"] ["works","given"] (defScope (top 36)):=⟨rfl,rfl,rfl,by decide +kernel,rfl,by decide +kernel,by decide +kernel⟩
theorem scLeastR:FnScope ["works","given","way"] ["works","given"] (defScope (top 37)):=⟨rfl,rfl,rfl,by decide +kernel,rfl,by decide +kernel,by decide +kernel⟩
theorem ok_fewR {f:Addr} {fd:FuncData} (F:Fun K "fewest" "fewest" (top 36) f fd) (T:Txt K c) (G:Gc mg) (hB:GOk P w K mg base 3 "best_way" ["works","jobs","cost_of"] (spBest P w K mg base c)) (hJ:MOk P w K mg base 1 c.W "open_jobs" ["self"] (spJobs c)) (h0:GCo P w K mg base "one_if_late" c1) :
  FnOk P w K mg base CX0 4 f fd ["works","given"] (spRe c len0 fun _=>.fewest):=by
 obtain ⟨fB,fdB,mB,kB,GB,bB⟩:=hB
 obtain ⟨fJ,fdJ,mJ,GJ,bJ⟩:=hJ
 obtain ⟨fc,mc,co⟩:=h0
 refine F.ok scFewR (fun vs H Q E h=>?_) (fun cdv A outer s H vs Q E hr h=>?_)
 ·obtain ⟨Kp,p,g,a,ns,rfl,_⟩:=h
  rfl
 ·obtain ⟨Kp,p,g,a,ns,rfl,hW,hw,hKp,hg,hl,k⟩:=h
  replace k:Post c Kp H p Q (a,num (a.late a.fewest) (a.end_ a.fewest::a.fewest)):=k
  obtain ⟨dx,lc,lj,lo,lr,rows,js,rs,dcs,W,nK⟩:=id hW
  have nd:=scFewR.nd
  refine ⟨_,pss_cons (ps_set (i:=2) nd rfl (Or.inl rfl) (pe_call GB hr (by rfl) mB kB bB .nil pass0 (pa_cons (pv 0) (pa_cons (pe_meth0 (pv 0) T.clW mJ GJ (hr.mono (by decide)) bJ .nil pass0) (pa_cons (pe_glob (v:=.ref fc) (by rfl) mc rfl) pa_nil)))))
   (pss_one (ps_ret (pe_op op_cat (pe_lst (pa_cons (pe_ix ix_tup (pv 2) pe_int (fun _ _=>rfl)) (pa_cons (pe_ix ix_tup (pv 2) pe_int (fun _ _=>rfl)) pa_nil))) (pe_callTy call_list_of (by rfl) G.list PyProof.Rows.boot_list (pa_cons (pe_ix ix_tup (pv 2) pe_int (fun _ _=>rfl)) pa_nil))))),?_⟩
  refine ⟨_,rfl,_,rfl,p,dx,_,rfl,W.obj,rfl,p,a,rfl,hW.r,hw,fun H1 d fj s1 _ hd hj=>⟨p,d,fc,c1,a,a,fj,rfl,best_pre hW.r hw s1 hd hj co c1_mono,fun H2 q kk v s2 hq hin hmin=>?_⟩⟩
  have ev:=fewest_level a hw.rise hin hmin
  have ln:=ord_len c1_mono hw.rise hin
  subst ev
  obtain ⟨ob,h1,h2⟩:=hq
  have o7:=hw.op7
  have ln':a.fewest.length=a.open_.length:=ln
  refine ⟨_,rfl,q,_,_,_,rfl,rfl,SqT.of h1,atI_nat (j:=0) rfl,_,rfl,q,_,_,_,rfl,rfl,SqT.of h1,atI_nat (j:=1) rfl,by show 2≤sizeLine; decide,fun l1 hl1=>?_⟩
  have s3:Same H2 (upd H2 l1 (.lst [V.int ((a.late a.fewest:Nat):Int),V.int ((a.end_ a.fewest:Nat):Int)])):=Same.upd_new (Same.refl H2) hl1
  refine ⟨_,rfl,q,_,_,_,rfl,rfl,SqT.of (s3 _ _ h1),atI_nat (j:=2) rfl,ob,_,rfl,.inr (SqT.of (s3 _ _ h2)),fun l2 hl2=>?_⟩
  have s4:Same (upd H2 l1 (.lst [V.int ((a.late a.fewest:Nat):Int),V.int ((a.end_ a.fewest:Nat):Int)])) (upd (upd H2 l1 (.lst [V.int ((a.late a.fewest:Nat):Int),V.int ((a.end_ a.fewest:Nat):Int)])) l2 (.lst (intsV a.fewest))):=Same.upd_new (Same.refl _) hl2
  refine ⟨l1,l2,_,_,rfl,rfl,s4 _ _ upd_same,upd_same,?_,fun l hl=>k.same hKp hW (s1.trans (s2.trans (s3.trans s4))) hl ?_⟩
  ·rw [len_ints]
   exact Nat.le_trans (show 2+a.fewest.length≤9 by omega) (by decide)
  ·show _=V.int ((a.late a.fewest:Nat):Int)::(Su73Neutral.outs (a.end_ a.fewest::a.fewest)).map V.int
   rw [outs_map]
   rfl
theorem ok_leastR {f:Addr} {fd:FuncData} (F:Fun K "least" "least" (top 37) f fd) (T:Txt K c) (G:Gc mg) (hB:GOk P w K mg base 3 "best_way" ["works","jobs","cost_of"] (spBest P w K mg base c)) (hJ:MOk P w K mg base 1 c.W "open_jobs" ["self"] (spJobs c)) (h0:GCo P w K mg base "minutes_late" c2) :
  FnOk P w K mg base CX0 4 f fd ["works","given"] (spRe c len0 fun _=>.least):=by
 obtain ⟨fB,fdB,mB,kB,GB,bB⟩:=hB
 obtain ⟨fJ,fdJ,mJ,GJ,bJ⟩:=hJ
 obtain ⟨fc,mc,co⟩:=h0
 refine F.ok scLeastR (fun vs H Q E h=>?_) (fun cdv A outer s H vs Q E hr h=>?_)
 ·obtain ⟨Kp,p,g,a,ns,rfl,_⟩:=h
  rfl
 ·obtain ⟨Kp,p,g,a,ns,rfl,hW,hw,hKp,hg,hl,k⟩:=h
  replace k:Post c Kp H p Q (a,num (a.behind a.least) (a.end_ a.least::a.least)):=k
  obtain ⟨dx,lc,lj,lo,lr,rows,js,rs,dcs,W,nK⟩:=id hW
  have nd:=scLeastR.nd
  refine ⟨_,pss_cons (ps_set (i:=2) nd rfl (Or.inl rfl) (pe_call GB hr (by rfl) mB kB bB .nil pass0 (pa_cons (pv 0) (pa_cons (pe_meth0 (pv 0) T.clW mJ GJ (hr.mono (by decide)) bJ .nil pass0) (pa_cons (pe_glob (v:=.ref fc) (by rfl) mc rfl) pa_nil)))))
   (pss_one (ps_ret (pe_op op_cat (pe_lst (pa_cons (pe_ix ix_tup (pv 2) pe_int (fun _ _=>rfl)) (pa_cons (pe_ix ix_tup (pv 2) pe_int (fun _ _=>rfl)) pa_nil))) (pe_callTy call_list_of (by rfl) G.list PyProof.Rows.boot_list (pa_cons (pe_ix ix_tup (pv 2) pe_int (fun _ _=>rfl)) pa_nil))))),?_⟩
  refine ⟨_,rfl,_,rfl,p,dx,_,rfl,W.obj,rfl,p,a,rfl,hW.r,hw,fun H1 d fj s1 _ hd hj=>⟨p,d,fc,c2,a,a,fj,rfl,best_pre hW.r hw s1 hd hj co c2_mono,fun H2 q kk v s2 hq hin hmin=>?_⟩⟩
  have ev:=least_level a hw.rise hin hmin
  have ln:=ord_len c2_mono hw.rise hin
  subst ev
  obtain ⟨ob,h1,h2⟩:=hq
  have o7:=hw.op7
  have ln':a.least.length=a.open_.length:=ln
  refine ⟨_,rfl,q,_,_,_,rfl,rfl,SqT.of h1,atI_nat (j:=0) rfl,_,rfl,q,_,_,_,rfl,rfl,SqT.of h1,atI_nat (j:=1) rfl,by show 2≤sizeLine; decide,fun l1 hl1=>?_⟩
  have s3:Same H2 (upd H2 l1 (.lst [V.int ((a.behind a.least:Nat):Int),V.int ((a.end_ a.least:Nat):Int)])):=Same.upd_new (Same.refl H2) hl1
  refine ⟨_,rfl,q,_,_,_,rfl,rfl,SqT.of (s3 _ _ h1),atI_nat (j:=2) rfl,ob,_,rfl,.inr (SqT.of (s3 _ _ h2)),fun l2 hl2=>?_⟩
  have s4:Same (upd H2 l1 (.lst [V.int ((a.behind a.least:Nat):Int),V.int ((a.end_ a.least:Nat):Int)])) (upd (upd H2 l1 (.lst [V.int ((a.behind a.least:Nat):Int),V.int ((a.end_ a.least:Nat):Int)])) l2 (.lst (intsV a.least))):=Same.upd_new (Same.refl _) hl2
  refine ⟨l1,l2,_,_,rfl,rfl,s4 _ _ upd_same,upd_same,?_,fun l hl=>k.same hKp hW (s1.trans (s2.trans (s3.trans s4))) hl ?_⟩
  ·rw [len_ints]
   exact Nat.le_trans (show 2+a.least.length≤9 by omega) (by decide)
  ·show _=V.int ((a.behind a.least:Nat):Int)::(Su73Neutral.outs (a.end_ a.least::a.least)).map V.int
   rw [outs_map]
   rfl
theorem with_job {a:Abs} {u m d n:Nat} (h:n<a.jobs.length):(a.with_ u m d).job n=a.job n:=by
 unfold Abs.job Abs.with_
 rw [List.getD_eq_getElem?_getD,List.getD_eq_getElem?_getD,List.getElem?_append_left h]
theorem with_new (a:Abs) (u m d:Nat):(a.with_ u m d).job a.jobs.length=⟨u,m,d⟩:=by
 unfold Abs.job Abs.with_
 rw [List.getD_eq_getElem?_getD,List.getElem?_append_right (Nat.le_refl _),Nat.sub_self]
 rfl
theorem kvJ_ext {f g:Nat→Addr} {ns:List Nat} (h:∀ n ∈ ns,f n=g n):kvJ f ns=kvJ g ns:=by
 unfold kvJ
 exact List.map_congr_left fun n hn=>by rw [h n hn]
theorem scWould:FnScope ["works","given","refusal","jobs","end_without","end_with","late"] ["works","given"] (defScope (top 39)):=⟨rfl,rfl,rfl,by decide +kernel,rfl,by decide +kernel,by decide +kernel⟩
theorem ok_would {f:Addr} {fd:FuncData} (F:Fun K "would" "would" (top 39) f fd) (T:Txt K c) (G:Gc mg) (hB:GOk P w K mg base 3 "best_way" ["works","jobs","cost_of"] (spBest P w K mg base c)) (hJ:MOk P w K mg base 1 c.W "open_jobs" ["self"] (spJobs c)) (h0:GCo P w K mg base "nothing" c0) (h1:GCo P w K mg base "one_if_late" c1)
  (hR:GOk P w K mg base 2 "job_refusal" ["works","given"] (spJR c)) (hM:KOk P w K mg base 1 "Job" c.J ["self","flavour","minutes","due"] (spJInit c)) :
  FnOk P w K mg base CX0 4 f fd ["works","given"] (spRe c len3 fun ns=>.would (ns.getD 0 0) (ns.getD 1 0) (ns.getD 2 0)):=by
 obtain ⟨fB,fdB,mB,kB,GB,bB⟩:=hB
 obtain ⟨fJ,fdJ,mJ,GJ,bJ⟩:=hJ
 obtain ⟨fc0,mc0,co0⟩:=h0
 obtain ⟨fc1,mc1,co1⟩:=h1
 obtain ⟨fR,fdR,mR,kR,GR,bR⟩:=hR
 obtain ⟨fM,fdM,mM,MM,GM,bM⟩:=hM
 refine F.ok scWould (fun vs H Q E h=>?_) (fun cdv A outer s H vs Q E hr h=>?_)
 ·obtain ⟨Kp,p,g,a,ns,rfl,_⟩:=h
  rfl
 ·obtain ⟨Kp,p,g,a,ns,rfl,hW,hw,hKp,hg,hl,k⟩:=h
  obtain ⟨u,m,du,rfl⟩:=of3 hl
  replace k:Post c Kp H p Q (does a (.would u m du)):=k
  obtain ⟨dx,lc,lj,lo,lr,rows,js,rs,dcs,W,nK⟩:=id hW
  have nd:=scWould.nd
  have hu:=hu_of hr
  refine ⟨_,pss_cons (ps_set (i:=2) nd rfl (Or.inl rfl) (pe_call GR (hr.mono (by decide)) (by rfl) mR kR bR .nil pass0 (pa_cons (pv 0) (pa_cons (pv 1) pa_nil))))
   (pss_cons (ps_if (pt_cmp (pc_notN (pv 2))) (pss_one (ps_ret (pe_lst (pa_cons (pv 2) pa_nil)))) pss_nil)
   (pss_cons (ps_set (i:=3) nd rfl (Or.inl rfl) (pe_meth0 (pv 0) T.clW mJ GJ (hr.mono (by decide)) bJ .nil pass0))
   (pss_cons (ps_set (i:=4) nd rfl (Or.inl rfl) (pe_ix ix_tup (pe_call GB hr (by rfl) mB kB bB .nil pass0 (pa_cons (pv 0) (pa_cons (pv 3) (pa_cons (pe_glob (v:=.ref fc0) (by rfl) mc0 rfl) pa_nil)))) pe_int (fun _ _=>rfl)))
   (pss_cons (ps_dput hu (pv 3) (pe_callB call_len_seq (by rfl) G.len PySem.boot_len (pa_cons (pe_fld (pv 0) rfl) pa_nil)) (pe_make MM GM (hr.mono (by decide)) (by rfl) mM bM .nil pass0 (pa_cons (pe_ix ix_list (pv 1) pe_int (fun _ _=>rfl)) (pa_cons (pe_ix ix_list (pv 1) pe_int (fun _ _=>rfl)) (pa_cons (pe_ix ix_list (pv 1) pe_int (fun _ _=>rfl)) pa_nil)))) rfl)
   (pss_cons (ps_set (i:=5) nd rfl (Or.inl rfl) (pe_ix ix_tup (pe_call GB hr (by rfl) mB kB bB .nil pass0 (pa_cons (pv 0) (pa_cons (pv 3) (pa_cons (pe_glob (v:=.ref fc0) (by rfl) mc0 rfl) pa_nil)))) pe_int (fun _ _=>rfl)))
   (pss_cons (ps_set (i:=6) nd rfl (Or.inl rfl) (pe_ix ix_tup (pe_call GB hr (by rfl) mB kB bB .nil pass0 (pa_cons (pv 0) (pa_cons (pv 3) (pa_cons (pe_glob (v:=.ref fc1) (by rfl) mc1 rfl) pa_nil)))) pe_int (fun _ _=>rfl)))
   (pss_one (ps_ret (pe_lst (pa_cons (pe_callB (call_max2 rfl) (by rfl) G.max PyProof.Rows.boot_max (pa_cons pe_int (pa_cons (pe_op op_sub (pv 5) (pv 4)) pa_nil))) (pa_cons (pv 6) pa_nil))))))))))),?_⟩
  refine ⟨_,rfl,_,rfl,p,g,a,u,m,du,rfl,hW.r,hw,hg,?_⟩
  rcases refV_cases a u m du with ⟨z,e1,_,e2⟩ | ⟨e1,q1,q2,q3⟩
  ·rw [e1]
   rw [e2] at k
   exact ⟨_,rfl,_,rfl,iteT ⟨_,rfl,by show 1≤sizeLine; decide,fun l hl=>k.same hKp hW (Same.refl H) hl rfl⟩⟩
  rw [e1]
  refine ⟨_,rfl,_,rfl,iteF ?_⟩
  have q1':¬ a.isF u=false:=by rw [q1]; decide
  rw [show does a (.would u m du)=(a,num ((a.with_ u m du).end_ (a.with_ u m du).best - a.end_ a.best) [(a.with_ u m du).late (a.with_ u m du).fewest]) from (if_neg q1').trans ((if_neg q2).trans (if_neg q3))] at k
  refine ⟨_,rfl,p,dx,_,rfl,W.obj,rfl,p,a,rfl,hW.r,hw,fun H1 d fj s1 hdn hd hj=>?_⟩
  refine ⟨_,rfl,_,rfl,p,d,fc0,c0,a,a,fj,rfl,best_pre hW.r hw s1 hd hj co0 c0_mono,fun H2 w1 kk v s2 hq hin hmin=>?_⟩
  have ev:=best_level a hw.rise hin hmin
  subst ev
  obtain ⟨ob,hb1,_⟩:=hq
  have s12:=s1.trans s2
  refine ⟨w1,_,_,_,rfl,rfl,SqT.of hb1,atI_nat (j:=1) rfl,_,rfl,g,_,_,_,rfl,rfl,SqL.of (s12 _ _ hg),atI_nat (j:=0) rfl,_,rfl,g,_,_,_,rfl,rfl,SqL.of (s12 _ _ hg),atI_nat (j:=1) rfl,_,rfl,g,_,_,_,rfl,rfl,SqL.of (s12 _ _ hg),atI_nat (j:=2) rfl,fun x dq nx ndq nxd=>⟨x,dq,u,m,du,rfl,upd_same,fun H3 hx k3=>⟨rfl,?_⟩⟩⟩
  have s3:Same H2 H3:=Same.made nx ndq k3
  have s13:=s12.trans s3
  have hjl:(js.map V.ref).length=a.jobs.length:=by rw [List.length_map,Paired.length W.hjb]
  have hd3:=s3 _ _ (s2 _ _ hd)
  have hno:a.jobs.length ∉ a.open_:=fun z=>Nat.lt_irrefl _ (hw.opn _ z)
  have o7:a.open_.length<7:=Nat.lt_of_not_le q3
  refine ⟨_,rfl,_,rfl,p,c.W,dx,_,_,rfl,(s13 _ _ W.obj),T.clW,T.nW "jobs" (by decide +kernel),rfl,lj,_,rfl,.inl (SqL.of (s13 _ _ W.hlj)),d,_,rfl,DPut.k (k:=Sum.inl ((js.map V.ref).length:Int)) hd3 (by rw [len_kvJ]; exact Nat.lt_trans o7 (by decide)),?_⟩
  rw [hjl,putK_new _ (by rw [valV_kvJ,if_neg hno])]
  have hkv:kvJ fj a.open_++[((Sum.inl (a.jobs.length:Int):Key),V.ref x)]=kvJ (fun n=>if n=a.jobs.length then x else fj n) (a.with_ u m du).open_:=by
   show _=kvJ _ (a.open_++[a.jobs.length])
   have q:=kvJ_ext (f:=fj) (g:=fun n=>if n=a.jobs.length then x else fj n) (ns:=a.open_) fun n hn=>(if_neg (fun z=>hno (by rw [← z]; exact hn))).symm
   rw [q]
   unfold kvJ
   rw [List.map_append,List.map_cons,List.map_nil]
   show _++[(_,V.ref x)]=_++[(_,V.ref (if a.jobs.length=a.jobs.length then x else fj a.jobs.length))]
   rw [if_pos rfl]
  rw [hkv]
  have s4:Same H (upd H3 d (.dK (kvJ (fun n=>if n=a.jobs.length then x else fj n) (a.with_ u m du).open_))):=fun b o e=>by rw [upd_ne (ne_of_none e hdn)]; exact s13 b o e
  have hd4:upd H3 d (.dK (kvJ (fun n=>if n=a.jobs.length then x else fj n) (a.with_ u m du).open_)) d=some (.dK (kvJ (fun n=>if n=a.jobs.length then x else fj n) (a.with_ u m du).open_)):=upd_same
  have i4:∀ {b C d2:Addr} {fs:List (Str×V)},H3 b=some (.ins C d2 fs)→upd H3 d (.dK (kvJ (fun n=>if n=a.jobs.length then x else fj n) (a.with_ u m du).open_)) b=some (.ins C d2 fs):=fun e=>by rw [upd_ne (ne_of e hd3 (by intro z; cases z))]; exact e
  have hj4:∀ n ∈ (a.with_ u m du).open_,JobAt c (upd H3 d (.dK (kvJ (fun n=>if n=a.jobs.length then x else fj n) (a.with_ u m du).open_))) (if n=a.jobs.length then x else fj n) ((a.with_ u m du).job n):=fun n hn=>by
   rcases List.mem_append.mp (show n ∈ a.open_++[a.jobs.length] from hn) with hn | hn
   ·have hlt:=hw.opn n hn
    rw [if_neg (by omega),with_job hlt]
    obtain ⟨dj,q⟩:=hj n hn
    exact ⟨dj,i4 (s3 _ _ (s2 _ _ q))⟩
   ·rw [List.mem_singleton.mp hn,if_pos rfl,with_new]
    exact ⟨dq,i4 hx⟩
  generalize upd H3 d (.dK (kvJ (fun n=>if n=a.jobs.length then x else fj n) (a.with_ u m du).open_))=H4 at s4 hd4 hj4 ⊢
  have rise:(a.with_ u m du).open_.Pairwise (·<·):=by
   show (a.open_++[a.jobs.length]).Pairwise (·<·)
   rw [List.pairwise_append]
   exact ⟨hw.rise,by simp,fun y hy z hz=>by rw [List.mem_singleton.mp hz]; exact hw.opn y hy⟩
  have jfl:∀ n ∈ (a.with_ u m du).open_,((a.with_ u m du).job n).flavour<(a.with_ u m du).flavours:=fun n hn=>by
   rcases List.mem_append.mp (show n ∈ a.open_++[a.jobs.length] from hn) with hn | hn
   ·have hlt:=hw.opn n hn
    rw [with_job hlt]
    exact (hw.job_of hlt).2
   ·rw [List.mem_singleton.mp hn,with_new]
    exact of_decide_eq_true q1
  have l7:(a.with_ u m du).open_.length≤7:=by
   show (a.open_++[a.jobs.length]).length≤7
   rw [List.length_append,List.length_singleton]
   omega
  have pre:∀ {H':Hp} {fc:Addr} {cf:Nat→Nat},Same H4 H'→CO P w K mg base fc cf→(∀ x y,x≤y→cf x≤cf y)→BestPre P w K mg base c H' p d fc cf a (a.with_ u m du) (fun n=>if n=a.jobs.length then x else fj n):=fun s co mono =>
   ⟨hW.r.mono (s4.trans s),hw,⟨rfl,rfl,rfl,rfl⟩,s _ _ hd4,fun n hn=>(hj4 n hn).elim fun dj q=>⟨dj,s _ _ q⟩,jfl,co,mono,rise,l7⟩
  refine ⟨_,rfl,_,rfl,p,d,fc0,c0,a,a.with_ u m du,_,rfl,pre (Same.refl H4) co0 c0_mono,fun H5 w2 kk2 v2 s5 hq2 hin2 hmin2=>?_⟩
  have ev2:=best_level _ rise hin2 hmin2
  subst ev2
  obtain ⟨ob2,hb2,_⟩:=hq2
  refine ⟨w2,_,_,_,rfl,rfl,SqT.of hb2,atI_nat (j:=1) rfl,_,rfl,_,rfl,p,d,fc1,c1,a,a.with_ u m du,_,rfl,pre s5 co1 c1_mono,fun H6 w3 kk3 v3 s6 hq3 hin3 hmin3=>?_⟩
  have ev3:=fewest_level _ rise hin3 hmin3
  subst ev3
  obtain ⟨ob3,hb3,_⟩:=hq3
  refine ⟨w3,_,_,_,rfl,rfl,SqT.of hb3,atI_nat (j:=0) rfl,_,rfl,_,rfl,_,_,rfl,rfl,_,_,rfl,_,rfl,by show 2≤sizeLine; decide,fun l hl=>k.same hKp hW (s4.trans (s5.trans s6)) hl ?_⟩
  have em:(if (((a.with_ u m du).end_ (a.with_ u m du).best:Nat):Int) - ((a.end_ a.best:Nat):Int) > 0 then (((a.with_ u m du).end_ (a.with_ u m du).best:Nat):Int) - ((a.end_ a.best:Nat):Int) else 0)=(((a.with_ u m du).end_ (a.with_ u m du).best - a.end_ a.best:Nat):Int):=by
   split <;> omega
  show [V.int (if (((a.with_ u m du).end_ (a.with_ u m du).best:Nat):Int) - ((a.end_ a.best:Nat):Int) > 0 then (((a.with_ u m du).end_ (a.with_ u m du).best:Nat):Int) - ((a.end_ a.best:Nat):Int) else 0),V.int (((a.with_ u m du).late (a.with_ u m du).fewest:Nat):Int)]=_
  rw [em]
  rfl
end
end FR
namespace FR
open PySem PySem.Spec PyProof.Rows L2 N2 Fr Su73
abbrev REnt:=GKey×Addr×RWay
def kvR (es:List REnt):List (GKey×V):=es.map fun e=>(e.1,V.ref e.2.1)
def gR (es:List REnt):RGrp:=es.map fun e=>(e.1,e.2.2)
structure RGrE (P:Program) (w:World) (H:Hp) (d:Addr) (es:List REnt):Prop where
 dict:GD P w H d (kvR es)
 ent:∀ e ∈ es,RwH H e.2.1 e.2.2
theorem rwH_mono2 {H H':Hp} (tk:∀ b ys,H b=some (.tup ys)→H' b=some (.tup ys)) {a:Addr} {v:RWay} (h:RwH H a v):RwH H' a v:=by
 obtain ⟨o,h1,h2⟩:=h
 exact ⟨o,tk _ _ h1,tk _ _ h2⟩
theorem RGrE.move {P:Program} {w:World} {H H':Hp} {d:Addr} {es:List REnt} (h:RGrE P w H d es) (hd:∀ o,H d=some o→H' d=some o) (tk:∀ b ys,H b=some (.tup ys)→H' b=some (.tup ys)):RGrE P w H' d es:=by
 obtain ⟨hz,xs,h1,h2⟩:=h.dict
 exact ⟨⟨hz,xs,hd _ h1,GX.mono h2 tk⟩,fun e he=>rwH_mono2 tk (h.ent e he)⟩
theorem valV_kvR {es:List REnt} {k:GKey} {x:V} (h:valV (kvR es) k=some x):∃ e ∈ es,e.1=k∧x=.ref e.2.1:=by
 induction es with
 | nil=>simp [kvR,valV] at h
 | cons e es ih =>
  have ih':=fun h=>ih h
  unfold kvR at h ih'
  by_cases q:e.1=k
  ·rw [List.map_cons,valV_pos (show ((e.1,V.ref e.2.1):GKey×V).1=k from q)] at h
   exact ⟨e,List.mem_cons_self,q,(Option.some.inj h).symm⟩
  ·rw [List.map_cons,valV_neg (show ¬ ((e.1,V.ref e.2.1):GKey×V).1=k from q)] at h
   obtain ⟨e',h1,h2,h3⟩:=ih' h
   exact ⟨e',List.mem_cons_of_mem _ h1,h2,h3⟩
theorem hasR_kv (es:List REnt) (k:GKey):hasR (gR es) k=((kvR es).any fun kv=>decide (kv.1=k)):=by
 unfold hasR gR kvR
 rw [List.any_map,List.any_map]
 rfl
theorem put_es {H:Hp} {es:List REnt} (nd:((gR es).map (·.1)).Nodup) (he:∀ e ∈ es,RwH H e.2.1 e.2.2) (k:GKey) {lg:Addr} {v:RWay} (hv:RwH H lg v) :
  ∃ b u,(valV (kvR es) k).getD (.ref lg)=.ref b∧RwH H b u∧∀ c,RwH H c (minR v u)→∃ es',putK (kvR es) k (.ref c)=kvR es'∧gR es'=putR (gR es) k v∧∀ e ∈ es',RwH H e.2.1 e.2.2:=by
 cases hx:valV (kvR es) k with
 | none =>
  have hn:hasR (gR es) k=false:=by rw [hasR_kv,valV_any,hx]; rfl
  have em:minR v v=v:=by unfold minR; rw [if_neg (rlt_irrefl v)]
  refine ⟨lg,v,rfl,hv,fun c hc=>⟨es++[(k,c,v)],?_,?_,?_⟩⟩
  ·rw [putK_new _ hx]
   unfold kvR
   rw [List.map_append]
   rfl
  ·unfold putR
   rw [hn,if_neg (by decide)]
   unfold gR
   rw [List.map_append]
   rfl
  ·intro e hm
   rcases List.mem_append.mp hm with hm | hm
   ·exact he e hm
   ·rw [List.mem_singleton.mp hm]
    rw [em] at hc
    exact hc
 | some x =>
  obtain ⟨e0,h0,ek,ex⟩:=valV_kvR hx
  have hn:hasR (gR es) k=true:=by rw [hasR_kv,valV_any,hx]; rfl
  have only:∀ e ∈ es,e.1=k→e=e0:=fun e hm q=>by
   obtain ⟨i,hi⟩:=List.getElem?_of_mem hm
   obtain ⟨j,hj⟩:=List.getElem?_of_mem h0
   have a1:((gR es).map (·.1))[i]?=some k:=by
    unfold gR
    rw [List.map_map,List.getElem?_map,hi,← q]
    rfl
   have a2:((gR es).map (·.1))[j]?=some k:=by
    unfold gR
    rw [List.map_map,List.getElem?_map,hj,← ek]
    rfl
   have:=nd_ix nd a1 a2
   subst this
   rw [hi] at hj
   exact Option.some.inj hj
  refine ⟨e0.2.1,e0.2.2,by rw [ex]; rfl,he e0 h0,fun c hc=>⟨es.map fun e=>if e.1=k then (e.1,c,minR v e.2.2) else e,?_,?_,?_⟩⟩
  ·unfold putK
   rw [valV_any,hx,if_pos (by rfl)]
   unfold kvR
   rw [List.map_map,List.map_map]
   refine List.map_congr_left fun e _=>?_
   by_cases q:e.1=k
   ·simp [q]
   ·simp [q]
  ·unfold putR
   rw [hn,if_pos rfl]
   unfold gR
   rw [List.map_map,List.map_map]
   refine List.map_congr_left fun e _=>?_
   by_cases q:e.1=k
   ·simp [q]
   ·simp [q]
  ·intro e hm
   obtain ⟨e1,h1,rfl⟩:=List.mem_map.mp hm
   by_cases q:e1.1=k
   ·rw [if_pos q]
    rw [only e1 h1 q]
    exact hc
   ·rw [if_neg q]
    exact he e1 h1
section
variable {P:Program} {w:World} {K:PySem.W.Frag} {mg:Str→Option Value} {base:Heap} {c:Cs}
structure FurRPre (P:Program) (w:World) (c:Cs) (H:Hp) (p gd:Addr) (a:Abs) (es:List REnt):Prop where
 W:WorksR c H p a
 hw:Wf a
 gr:RGrE P w H gd es
 nd:((gR es).map (·.1)).Nodup
 key:∀ e ∈ es,(∀ n ∈ e.1.1,n<a.flavours)∧(∀ g,e.1.2=some g→g<a.flavours)∧e.1.1.length≤7
 ol:∀ e ∈ es,e.2.2.2.length≤7
 l7:7 * es.length<sizeLine
def spFurR (P:Program) (w:World) (c:Cs):Sp:=fun vs H Q _=>∃ p gd a es,vs=[.ref p,.ref gd]∧FurRPre P w c H p gd a es ∧
 ∀ H' F es',Same H H'→H F=none→RGrE P w H' F es'→gR es'=furtherR a (gR es)→Q (.ref F) H'
theorem scFurR:FnScope ["works","ways","further","key","way","left","place","flavour","longer","after"] ["works","ways"] (defScope (top 6)):=⟨rfl,rfl,rfl,by decide +kernel,rfl,by decide +kernel,by decide +kernel⟩
theorem ok_furR {f:Addr} {fd:FuncData} (F:Fun K "one_flavour_further" "one_flavour_further" (top 6) f fd) (T:Txt K c) (G:Gc mg) (hC:MOk P w K mg base 1 c.W "change_minutes" ["self","loaded","flavour"] (spChg c)):FnOk P w K mg base CX0 2 f fd ["works","ways"] (spFurR P w c):=by
 obtain ⟨fC,fdC,mC,GC,bC⟩:=hC
 refine F.ok scFurR (fun vs H Q E h=>?_) (fun cdv A outer s H vs Q E hr h=>?_)
 ·obtain ⟨p,gd,a,es,rfl,_⟩:=h
  rfl
 ·obtain ⟨p,gd,a,es,rfl,pre,k⟩:=h
  have nd:=scFurR.nd
  have hu:=hu_of hr
  have hu2:=hu_n hr 2 (by decide)
  have hu4:=hu_n hr 4 (by decide)
  refine ⟨_,pss_cons (ps_set (i:=2) nd rfl (Or.inl rfl) (pe_gnewE P w rfl rfl))
   (pss_cons (ps_lock (ps_for PassesOwn.never rfl (pi_gitems (pv 1)) (pg_tup rfl (pgs_cons (pg_name (i:=3) nd rfl (Or.inl rfl)) (pgs_cons (pg_name (i:=4) nd rfl (Or.inl rfl)) pgs_nil)))
    (pss_cons (ps_set (i:=5) nd rfl (Or.inl rfl) (pe_ix ix_tup (pv 3) pe_int (fun _ _=>rfl)))
    (pss_one (ps_for PassesOwn.never rfl (pi_enumT (by rfl) G.enum (pa_cons (pv 5) pa_nil)) (pg_tup rfl (pgs_cons (pg_name (i:=6) nd rfl (Or.inl rfl)) (pgs_cons (pg_name (i:=7) nd rfl (Or.inl rfl)) pgs_nil)))
     (pss_cons (ps_set (i:=8) nd rfl (Or.inl rfl) (pe_tup (pa_cons (pe_op op_add (pe_ix ix_tup (pv 4) pe_int (fun _ _=>rfl)) (pe_meth (pv 0) T.clW mC GC hr bC .nil pass0 (pa_cons (pe_ix ix_tup (pv 3) pe_int (fun _ _=>rfl)) (pa_cons (pv 7) pa_nil)))) (pa_cons (pe_op op_catN (pe_ix ix_tup (pv 4) pe_int (fun _ _=>rfl)) (pe_tup (pa_cons (pv 7) pa_nil))) pa_nil))))
     (pss_cons (ps_set (i:=9) nd rfl (Or.inl rfl) (pe_tup (pa_cons (pe_op op_catN (pe_slice sl_tup (pv 5) po_none (po_some (pv 6))) (pe_slice sl_tup (pv 5) (po_some (pe_op op_add (pv 6) pe_int)) po_none)) (pa_cons (pv 7) pa_nil))))
     (pss_one (ps_gput P w rfl rfl hu2 (pv 2) (pv 9) (pe_callB (cr_min2R rfl hu4) (by rfl) G.min PyProof.Rows.boot_min (pa_cons (pv 8) (pa_cons (pe_gget2 P w rfl rfl hu2 (pv 2) (pv 9) (pv 8) ⟨rfl,rfl,rfl,rfl⟩) pa_nil))) rfl)))))))))
   (pss_one (ps_ret (pv 2)))),?_⟩
  obtain ⟨hz,xs,hgd,hgx⟩:=pre.gr.dict
  obtain ⟨dx,lc,lj,lo,lr,rows,js,rs,dcs,W⟩:=id pre.W
  intro Fa hF gdF
  have nF:gd≠Fa:=ne_of_none hgd hF
  have e0:upd H Fa (.ext (gphi P w Fa [])) gd=some (.ext (gphi P w gd xs)):=(upd_ne nF).trans hgd
  refine ⟨gd,_,e0,trivial,fun od=>?_⟩
  have h1g:upd (upd H Fa (.ext (gphi P w Fa []))) gd (.frz od (.ext (gphi P w gd xs))) gd=some (.frz od (.ext (gphi P w gd xs))):=upd_same
  have h1F:upd (upd H Fa (.ext (gphi P w Fa []))) gd (.frz od (.ext (gphi P w gd xs))) Fa=some (.ext (gphi P w Fa [])):=(upd_ne nF.symm).trans upd_same
  have s1:∀ b o,H b=some o→b≠gd→upd (upd H Fa (.ext (gphi P w Fa []))) gd (.frz od (.ext (gphi P w gd xs))) b=some o:=fun b o e hb=>by rw [upd_ne hb,upd_ne (ne_of_none e hF)]; exact e
  generalize upd (upd H Fa (.ext (gphi P w Fa []))) gd (.frz od (.ext (gphi P w gd xs)))=H1 at h1g h1F s1 ⊢
  have t1:∀ b ys,H b=some (.tup ys)→H1 b=some (.tup ys):=fun b ys e=>s1 _ _ e (ne_of e hgd (by intro z; cases z))
  have tF:∀ {b:Addr} {ys:List V},H1 b=some (.tup ys)→b≠Fa:=fun e=>ne_of e h1F (by intro z; cases z)
  have lF:∀ {b:Addr} {ys:List V},H1 b=some (.lst ys)→b≠Fa:=fun e=>ne_of e h1F (by intro z; cases z)
  have iF:∀ {b C d:Addr} {fs:List (Str×V)},H1 b=some (.ins C d fs)→b≠Fa:=fun e=>ne_of e h1F (by intro z; cases z)
  have li:∀ {b:Addr} {ys:List V},H b=some (.lst ys)→H1 b=some (.lst ys):=fun e=>s1 _ _ e (ne_of e hgd (by intro z; cases z))
  have ii:∀ {b C d:Addr} {fs:List (Str×V)},H b=some (.ins C d fs)→H1 b=some (.ins C d fs):=fun e=>s1 _ _ e (ne_of e hgd (by intro z; cases z))
  have Wk:∀ {H':Hp},(∀ b o,H1 b=some o→b≠Fa→H' b=some o)→Parts c H' p a dx lc lj lo lr rows js rs dcs:=fun {H'} kp =>
   have q1:∀ {b:Addr} {ys:List V},H b=some (.lst ys)→H' b=some (.lst ys):=fun e=>kp _ _ (li e) (lF (li e))
   have q2:∀ {b C d:Addr} {fs:List (Str×V)},H b=some (.ins C d fs)→H' b=some (.ins C d fs):=fun e=>kp _ _ (ii e) (iF (ii e))
   ⟨q2 W.obj,q1 W.hlc,Paired.mapP W.hrw fun _ _ q=>q1 q,q1 W.hlj,Paired.mapP W.hjb fun _ _ ⟨d,q⟩=>⟨d,q2 q⟩,q1 W.hlo,q1 W.hlr,Paired.mapP W.hrs fun _ _ ⟨d,q⟩=>⟨d,q2 q⟩,W.dn,W.chd,W.nd⟩
  have klen:(kvR es).length=es.length:=List.length_map ..
  have sz:=foldR_keys a 7
  refine ⟨_,rfl,gd,od,kvR es,xs,rfl,⟨h1g,GX.mono hgx t1⟩,for_gen (n:=es.length) (fun i σ H'=>∃ v3 v4 v5 v6 v7 v8 v9:Option V,σ=[some (.ref p),some (.ref gd),some (.ref Fa),v3,v4,v5,v6,v7,v8,v9] ∧
   (∀ b o,H1 b=some o→b≠Fa→H' b=some o)∧∃ es2,RGrE P w H' Fa es2∧gR es2=((gR es).take i).foldl (turnR a) []) ?_ ?_ ?_ ?_ ?_⟩
  ·exact ⟨none,none,none,none,none,none,none,rfl,fun b o e _=>e,[],⟨gdF _ h1F,(by intro e he; cases he)⟩,rfl⟩
  ·rintro i σ H' hi ⟨v3,v4,v5,v6,v7,v8,v9,rfl,kp,_⟩
   exact ⟨⟨kp _ _ h1g nF,GX.mono hgx fun b ys e=>kp _ _ (t1 _ _ e) (tF (t1 _ _ e))⟩,by rw [klen]; exact hi⟩
  ·rintro σ H' ⟨v3,v4,v5,v6,v7,v8,v9,rfl,kp,_⟩
   exact ⟨⟨kp _ _ h1g nF,GX.mono hgx fun b ys e=>kp _ _ (t1 _ _ e) (tF (t1 _ _ e))⟩,by rw [klen]; exact Nat.le_refl _⟩
  ·rintro i x σ H' H'' hi ⟨v3,v4,v5,v6,v7,v8,v9,rfl,kp,es2,GE2,eg2⟩ ⟨Tt,ka,kk,vv,hkv,rfl,hTt,hkh,rfl⟩
   obtain ⟨e,he⟩:∃ e,es[i]?=some e:=⟨es[i],List.getElem?_eq_getElem hi⟩
   have hkv2:(e.1,V.ref e.2.1)=(kk,vv):=by
    unfold kvR at hkv
    rw [List.getElem?_map,he] at hkv
    exact Option.some.inj hkv
   injection hkv2 with hk1 hk2
   subst hk1 hk2
   obtain ⟨kb,hka,hkb⟩:=hkh
   have hem:e ∈ es:=List.mem_of_getElem? he
   have hgi:(gR es)[i]?=some (e.1,e.2.2):=by unfold gR; rw [List.getElem?_map,he]; rfl
   obtain ⟨hk3,hk4,hk5⟩:=pre.key e hem
   obtain ⟨ob,hw1,hw2⟩:=pre.gr.ent e hem
   have hol:=pre.ol e hem
   have tH:∀ b ys,H b=some (.tup ys)→H' b=some (.tup ys):=fun b ys q=>kp _ _ (t1 _ _ q) (tF (t1 _ _ q))
   obtain ⟨okA,lA⟩:=sz ((gR es).take i) [] List.nodup_nil (fun q hq=>by
    have hq':=List.mem_of_mem_take hq
    obtain ⟨e1,h1,rfl⟩:=List.mem_map.mp hq'
    exact (pre.key e1 h1).2.2)
   rw [← eg2] at okA lA
   have hi7:((gR es).take i).length+1≤es.length:=by
    rw [List.length_take]
    have:(gR es).length=es.length:=List.length_map ..
    omega
   have hl7:=pre.l7
   have sS:Same H' (upd H' Tt (.tup [V.ref ka,V.ref e.2.1])):=Same.upd_new (Same.refl H') hTt
   have hTt':upd H' Tt (.tup [V.ref ka,V.ref e.2.1]) Tt=some (.tup [V.ref ka,V.ref e.2.1]):=upd_same
   generalize upd H' Tt (.tup [V.ref ka,V.ref e.2.1])=Hs at sS hTt' ⊢
   have hkaS:=sS _ _ hka
   have hkbS:TupN Hs kb e.1.1:=sS _ _ hkb
   have hw1S:=sS _ _ (tH _ _ hw1)
   have hw2S:TupN Hs ob e.2.2.2:=sS _ _ (tH _ _ hw2)
   obtain ⟨_,xs2,hF2,_⟩:=GE2.dict
   have hFS:=sS _ _ hF2
   have fS:∀ {b:Addr} {ys:List V},Hs b=some (.tup ys)→b≠Fa:=fun q=>ne_of q hFS (by intro z; cases z)
   refine ⟨Tt,_,rfl,SqT.of hTt',rfl,_,_,rfl,_,_,rfl,rfl,_,rfl,ka,_,_,_,rfl,rfl,SqT.of hkaS,atI_nat (j:=0) rfl,_,rfl,kb,_,rfl,SqT.of hkbS,?_⟩
   refine for_gen (n:=e.1.1.length) (fun j σ H3=>∃ v6 v7 v8 v9:Option V,σ=[some (.ref p),some (.ref gd),some (.ref Fa),some (.ref ka),some (.ref e.2.1),some (.ref kb),v6,v7,v8,v9]∧(∀ b o,Hs b=some o→b≠Fa→H3 b=some o) ∧
    ∃ es3,RGrE P w H3 Fa es3∧gR es3=(List.range j).foldl (stepR a (e.1,e.2.2)) (gR es2)) ?_ ?_ ?_ ?_ ?_
   ·exact ⟨v6,v7,v8,v9,rfl,fun b o q _=>q,es2,GE2.move (fun o q=>sS _ _ q) (fun b ys q=>sS _ _ q),rfl⟩
   ·rintro j σ H3 hj ⟨v6,v7,v8,v9,rfl,kp3,_⟩
    exact ⟨_,_,SqT.of (kp3 _ _ hkbS (fS hkbS)),intsV_get hj⟩
   ·rintro σ H3 ⟨v6,v7,v8,v9,rfl,kp3,_⟩
    exact ⟨_,SqT.of (kp3 _ _ hkbS (fS hkbS)),len_ints _⟩
   ·rintro j x σ H3 H4 hj ⟨v6,v7,v8,v9,rfl,kp3,es3,GE3,eg3⟩ ⟨T2,x2,rfl,hT2,rfl,hx2⟩
    obtain ⟨n,hn,rfl⟩:=ints_at (hx2 _ (SqT.of (kp3 _ _ hkbS (fS hkbS))))
    have hnf:n<a.flavours:=hk3 n (List.mem_of_getElem? hn)
    have sA:Same H3 (upd H3 T2 (.tup [V.int (j:Int),V.int (n:Int)])):=Same.upd_new (Same.refl H3) hT2
    have hT2':upd H3 T2 (.tup [V.int (j:Int),V.int (n:Int)]) T2=some (.tup [V.int (j:Int),V.int (n:Int)]):=upd_same
    generalize upd H3 T2 (.tup [V.int (j:Int),V.int (n:Int)])=Ha at sA hT2' ⊢
    have kpA:∀ b o,Hs b=some o→b≠Fa→Ha b=some o:=fun b o q hb=>sA _ _ (kp3 b o q hb)
    have WA:=Wk (H':=Ha) fun b o q hb=>kpA _ _ (sS _ _ (kp b o q hb)) hb
    have hkaA:=kpA _ _ hkaS (fS hkaS)
    have hkbA:TupN Ha kb e.1.1:=kpA _ _ hkbS (fS hkbS)
    have hw1A:=kpA _ _ hw1S (fS hw1S)
    have hw2A:TupN Ha ob e.2.2.2:=kpA _ _ hw2S (fS hw2S)
    have hfold:(List.range (j+1)).foldl (stepR a (e.1,e.2.2)) (gR es2)=stepR a (e.1,e.2.2) (gR es3) j:=by
     rw [List.range_succ,List.foldl_append,eg3]
     rfl
    obtain ⟨okJ,lJ⟩:=stepsR_keys a (e.1,e.2.2) okA j
    rw [← eg3] at okJ lJ
    have hl3:(gR es3).length=es3.length:=List.length_map ..
    refine ⟨T2,_,rfl,SqT.of hT2',rfl,_,_,rfl,_,_,rfl,rfl,_,rfl,e.2.1,_,_,_,rfl,rfl,SqT.of hw1A,atI_nat (j:=0) rfl,_,rfl,p,dx,_,rfl,WA.obj,rfl,_,rfl,ka,_,_,_,rfl,rfl,SqT.of hkaA,atI_nat (j:=1) rfl,_,rfl,p,a,e.1.2,n,rfl,⟨dx,lc,lj,lo,lr,rows,js,rs,dcs,WA⟩,pre.hw,hk4,hnf,_,_,rfl,rfl,
     _,rfl,e.2.1,_,_,_,rfl,rfl,SqT.of hw1A,atI_nat (j:=1) rfl,_,rfl,by show 1≤sizeLine; decide,fun q5 hq5=>?_⟩
    have s5:Same Ha (upd Ha q5 (.tup [V.int (n:Int)])):=Same.upd_new (Same.refl Ha) hq5
    refine ⟨ob,q5,_,_,rfl,rfl,s5 _ _ hw2A,upd_same,?_,fun q6 H5 hq6 alt=>⟨by show 2≤sizeLine; decide,fun lg hlg=>?_⟩⟩
    ·rw [len_ints]
     exact Nat.le_trans (show e.2.2.2.length+1≤8 by omega) (by decide)
    rw [ints_snoc] at hq6
    have sB:Same Ha H5:=by
     rcases alt with q | ⟨q,q'⟩
     ·rw [q]; exact s5
     ·rw [q']; exact Same.upd_new s5 q
    have hlg':upd H5 lg (.tup [V.int ((e.2.2.1:Int)+((turnO a e.1.2 n:Nat):Int)),V.ref q6]) lg=some (.tup [V.int ((e.2.2.1:Int)+((turnO a e.1.2 n:Nat):Int)),V.ref q6]):=upd_same
    have sC:Same H5 (upd H5 lg (.tup [V.int ((e.2.2.1:Int)+((turnO a e.1.2 n:Nat):Int)),V.ref q6])):=Same.upd_new (Same.refl H5) hlg
    have hkb6:=sC _ _ (sB _ _ hkbA)
    have hq6':=sC _ _ hq6
    have sAC:Same Ha (upd H5 lg (.tup [V.int ((e.2.2.1:Int)+((turnO a e.1.2 n:Nat):Int)),V.ref q6])):=sB.trans sC
    refine ⟨_,rfl,_,rfl,_,rfl,kb,_,rfl,SqT.of hkb6,cut_ne1 _ hj,fun q1 hq1=>⟨_,rfl,_,rfl,_,_,rfl,rfl,_,rfl,kb,_,rfl,SqT.of (Same.upd_new (Same.refl _) hq1 _ _ hkb6),cut_ne2 _ hj,fun q2 hq2=>?_⟩⟩
    generalize upd H5 lg (.tup [V.int ((e.2.2.1:Int)+((turnO a e.1.2 n:Nat):Int)),V.ref q6])=H6 at *
    have sD:Same H6 (upd (upd H6 q1 (.tup (cutV (intsV e.1.1) none (some (j:Int))))) q2 (.tup (cutV (intsV e.1.1) (some ((j:Int)+1)) none))):=Same.upd_new (Same.upd_new (Same.refl H6) hq1) hq2
    have hD1:upd (upd H6 q1 (.tup (cutV (intsV e.1.1) none (some (j:Int))))) q2 (.tup (cutV (intsV e.1.1) (some ((j:Int)+1)) none)) q1=some (.tup (cutV (intsV e.1.1) none (some (j:Int)))):=(upd_ne (ne_of_none upd_same hq2)).trans upd_same
    have hD2:upd (upd H6 q1 (.tup (cutV (intsV e.1.1) none (some (j:Int))))) q2 (.tup (cutV (intsV e.1.1) (some ((j:Int)+1)) none)) q2=some (.tup (cutV (intsV e.1.1) (some ((j:Int)+1)) none)):=upd_same
    refine ⟨q1,q2,_,_,rfl,rfl,hD1,hD2,?_,fun q3 H7 hq3 alt2=>⟨_,rfl,by show 2≤sizeLine; decide,fun q4 hq4=>?_⟩⟩
    ·rw [cut_to _ hj,cut_from _ hj,len_ints,len_ints,List.length_take,List.length_drop]
     exact Nat.le_trans (show min j e.1.1.length+(e.1.1.length - (j+1))≤7 by omega) (by decide)
    rw [cut_to _ hj,cut_from _ hj,cut_both] at hq3
    have sE:Same H6 H7:=by
     rcases alt2 with q | ⟨q,q'⟩
     ·rw [q]; exact sD
     ·rw [q']; exact Same.upd_new sD q
    have sG:Same H7 (upd H7 q4 (.tup [V.ref q3,V.int (n:Int)])):=Same.upd_new (Same.refl H7) hq4
    have h84:upd H7 q4 (.tup [V.ref q3,V.int (n:Int)]) q4=some (.tup [V.ref q3,V.int (n:Int)]):=upd_same
    generalize upd H7 q4 (.tup [V.ref q3,V.int (n:Int)])=H8 at sG h84 ⊢
    have s68:Same H6 H8:=sE.trans sG
    have s38:Same H3 H8:=sA.trans (sAC.trans s68)
    have h83:TupN H8 q3 (e.1.1.eraseIdx j):=sG _ _ hq3
    have GE8:RGrE P w H8 Fa es3:=GE3.move (fun o q=>s38 _ _ q) fun b ys q=>s38 _ _ q
    have hlg8:RwH H8 lg (extR a e.1.2 n e.2.2):=by
     refine ⟨q6,?_,s68 _ _ hq6'⟩
     have:=s68 _ _ hlg'
     rw [← Int.natCast_add] at this
     exact this
    obtain ⟨b,u,hb,hbu,hput⟩:=put_es okJ GE8.ent (e.1.1.eraseIdx j,some n) hlg8
    have hkey:KeyH H8 q4 (e.1.1.eraseIdx j,some n):=⟨q3,h84,h83⟩
    refine ⟨_,rfl,_,rfl,Fa,rfl,⟨_,GE8.dict⟩,_,rfl,_,rfl,q4,_,kvR es3,rfl,hkey,GE8.dict,lg,b,_,u,by rw [hb],hlg8,hbu,fun cc hcc=>⟨_,rfl,_,rfl,Fa,q4,_,kvR es3,rfl,rfl,hkey,GE8.dict,?_,fun o ho=>?_⟩⟩
    ·have q0:(kvR es3).length=es3.length:=List.length_map ..
     rw [q0,← hl3]
     have q1:(gR es2).length≤0+7 * ((gR es).take i).length:=lA
     have q2:j<7:=Nat.lt_of_lt_of_le hj hk5
     omega
    ·obtain ⟨es4,p1,p2,p3⟩:=hput cc hcc
     obtain ⟨_,xs8,hF8,_⟩:=GE8.dict
     have tk8:∀ b ys,H8 b=some (.tup ys)→upd H8 Fa o b=some (.tup ys):=fun b ys q=>by rw [upd_ne (ne_of q hF8 (by intro z; cases z))]; exact q
     have gd4:=ho (upd H8 Fa o) upd_same tk8
     rw [p1] at gd4
     refine ⟨_,_,_,_,rfl,fun b o q hb=>by rw [upd_ne hb]; exact s38 _ _ (kp3 b o q hb),es4,⟨gd4,fun e4 he4=>rwH_mono2 tk8 (p3 e4 he4)⟩,?_⟩
     rw [p2,hfold]
     have en:e.1.1.getD j 0=n:=by rw [List.getD_eq_getElem?_getD,hn]; rfl
     unfold stepR
     rw [en]
   ·rintro σ H3 ⟨v6,v7,v8,v9,rfl,kp3,es3,GE3,eg3⟩
    refine ⟨_,_,_,_,_,_,_,rfl,fun b o q hb=>kp3 _ _ (sS _ _ (kp b o q hb)) hb,es3,GE3,?_⟩
    rw [eg3,eg2,List.take_add_one,hgi,List.foldl_append]
    rfl
  ·rintro σ H' ⟨v3,v4,v5,v6,v7,v8,v9,rfl,kp,es2,GE2,eg2⟩
   have hg1:=kp _ _ h1g nF
   refine ⟨hg1,_,rfl,k _ Fa es2 (fun b o q=>?_) hF (GE2.move (fun o q=>?_) fun b ys q=>?_) ?_⟩
   ·by_cases hb:b=gd
    ·rw [hb] at q ⊢
     rw [hgd] at q
     cases q
     exact upd_same
    ·rw [upd_ne hb]
     exact kp _ _ (s1 b o q hb) (ne_of_none q hF)
   ·rw [upd_ne nF.symm]; exact q
   ·rw [upd_ne (ne_of q hg1 (by intro z; cases z))]; exact q
   ·rw [eg2]
    have:(gR es).length=es.length:=List.length_map ..
    rw [← this,List.take_length]
    rfl
end
end FR
namespace FR
open PySem PySem.Spec PyProof.Rows L2 N2 Fr Su73
theorem others_ints {a:Abs} (hn:0<a.flavours):((List.range ((a.flavours:Int) - 1).toNat).map fun k:Nat=>V.int (1+(k:Int)))=intsV (othersR a):=by
 obtain ⟨m,hm⟩:∃ m,a.flavours=m+1:=⟨a.flavours - 1,by omega⟩
 unfold othersR intsV
 rw [hm]
 have e:(((m+1:Nat):Int) - 1).toNat=m:=by omega
 rw [e,List.range_succ_eq_map,List.drop_succ_cons,List.drop_zero,List.map_map]
 refine List.map_congr_left fun k _=>?_
 show V.int (1+(k:Int))=V.int ((k+1:Nat):Int)
 congr 1
 omega
theorem others_len (a:Abs):(othersR a).length=a.flavours - 1:=by
 unfold othersR
 rw [List.length_drop,List.length_range]
theorem others_lt {a:Abs} {n:Nat} (h:n ∈ othersR a):n<a.flavours:=by
 unfold othersR at h
 exact List.mem_range.mp (List.mem_of_mem_drop h)
theorem atI_path (o:List Nat):atI (intsV (0::o)) (-1)=some (.int ((o.getLastD 0:Nat):Int)):=by
 rcases List.eq_nil_or_concat o with rfl | ⟨o',j,rfl⟩
 ·rfl
 ·rw [List.concat_eq_append]
  have e:(o'++[j]).getLastD 0=j:=by simp
  rw [e]
  have e2:intsV (0::(o'++[j]))=intsV (0::o')++[.int ((j:Nat):Int)]:=by
   rw [ints_snoc]
   rfl
  rw [e2]
  exact atI_last _ _
theorem lvR_key {a:Abs} (hn:0<a.flavours) (h7:a.flavours≤7) {n:Nat} {es:List REnt} (h:LvR a n (gR es)) (hle:n≤a.flavours - 1) :
  (∀ e ∈ es,(∀ n ∈ e.1.1,n<a.flavours)∧(∀ g,e.1.2=some g→g<a.flavours)∧e.1.1.length≤7)∧∀ e ∈ es,e.2.2.2.length≤7:=by
 have key:∀ e ∈ es,∃ o,e.2.2=wayR a o∧o.length=n∧e.1=(leftR a o,some (o.getLastD 0))∧(o++leftR a o).Perm (othersR a):=fun e he=>h.sound e.1 e.2.2 (List.mem_map.mpr ⟨e,he,rfl⟩)
 refine ⟨fun e he=>?_,fun e he=>?_⟩
 ·obtain ⟨o,e1,e2,e3,e4⟩:=key e he
  rw [e3]
  refine ⟨fun x hx=>others_lt (List.mem_filter.mp hx).1,fun g hg=>?_,?_⟩
  ·have hg':o.getLastD 0=g:=Option.some.inj hg
   rw [← hg']
   rcases List.eq_nil_or_concat o with rfl | ⟨o',j,rfl⟩
   ·exact hn
   ·rw [List.concat_eq_append]
    have:(o'++[j]).getLastD 0=j:=by simp
    rw [this]
    exact others_lt (e4.subset (List.mem_append_left _ (by simp)))
  ·refine Nat.le_trans (List.length_filter_le _ _) ?_
   rw [others_len]
   omega
 ·obtain ⟨o,e1,e2,e3,e4⟩:=key e he
  rw [e1]
  show (0::o).length≤7
  rw [List.length_cons,e2]
  omega
section
variable {P:Program} {w:World} {K:PySem.W.Frag} {mg:Str→Option Value} {base:Heap} {c:Cs}
def spRing (c:Cs):Sp:=fun vs H Q _=>∃ p a,vs=[.ref p]∧WorksR c H p a∧Wf a∧0<a.flavours∧∀ H' q,Same H H'→RwH H' q (a.round (0::a.ring),0::a.ring)→(0::a.ring).length≤7→Q (.ref q) H'
theorem scRing:FnScope ["works","others","ways","flavour","way"] ["works"] (defScope (top 7)):=⟨rfl,rfl,rfl,by decide +kernel,rfl,by decide +kernel,by decide +kernel⟩
theorem bkRing:BlkOk ["works","others","ways","flavour","way"] (defScope (top 7)) (lcScope (callArg (asgVal (stAt (top 7) 3)))) [("way",4)]:=⟨rfl,by decide +kernel,by decide +kernel,by decide +kernel,by decide +kernel⟩
theorem ok_ring {f:Addr} {fd:FuncData} (F:Fun K "best_ring" "best_ring" (top 7) f fd) (T:Txt K c) (G:Gc mg) (hC:MOk P w K mg base 1 c.W "change_minutes" ["self","loaded","flavour"] (spChg c)) (hF:GOk P w K mg base 2 "one_flavour_further" ["works","ways"] (spFurR P w c)):FnOk P w K mg base CX0 3 f fd ["works"] (spRing c):=by
 obtain ⟨fC,fdC,mC,GC,bC⟩:=hC
 obtain ⟨fF,fdF,mF,kF,GF,bF⟩:=hF
 refine F.ok scRing (fun vs H Q E h=>?_) (fun cdv A outer s H vs Q E hr h=>?_)
 ·obtain ⟨p,a,rfl,_⟩:=h
  rfl
 ·obtain ⟨p,a,rfl,hW,hw,hn,k⟩:=h
  obtain ⟨dx,lc,lj,lo,lr,rows,js,rs,dcs,W⟩:=id hW
  have nd:=scRing.nd
  have hu:=hu_of hr
  have hu4:=hu_n hr 4 (by decide)
  have hr1:Room 1 (A.deeper (envOfC "best_ring" (defScope (top 7)) s.heap.objs.size f cdv)):=hr.mono (by decide)
  refine ⟨_,pss_cons (ps_set (i:=1) nd rfl (Or.inl rfl) (pe_callTy (cr_tupleR rfl) (by rfl) G.tuple PyProof.Rows.boot_tuple (pa_cons (pe_callTy cr_range2 (by rfl) G.range PyProof.Rows.boot_range (pa_cons pe_int (pa_cons (pe_fld (pv 0) rfl) pa_nil))) pa_nil)))
   (pss_cons (ps_set (i:=2) nd rfl (Or.inl rfl) (pe_gdispE P w rfl rfl hu (pe_tup (pa_cons (pv 1) (pa_cons pe_int pa_nil))) (pe_tup (pa_cons pe_int (pa_cons (pe_tup (pa_cons pe_int pa_nil)) pa_nil)))))
   (pss_cons (ps_for PassesOwn.never rfl (pi_tup (pv 1)) (pg_name (i:=3) nd rfl (Or.inl rfl)) (pss_one (ps_set (i:=2) nd rfl (Or.inl rfl) (pe_call GF hr (by rfl) mF kF bF .nil pass0 (pa_cons (pv 0) (pa_cons (pv 2) pa_nil))))))
   (pss_one (ps_ret (pe_callB (cr_minR rfl hu4) (by rfl) G.min PyProof.Rows.boot_min (pa_cons (pe_lock (pe_lc (te:=tTup (tCons (tOp (rI0 fun i j=>.int (i+j)) (tOp (rIxT K) (tVar 4) (tC (.int 0))) (tMeth c.W "change_minutes" (spChg c) [] E0 (tVar 0) (tCons (tOp (rIxT K) (tOp (rIxT K) (tVar 4) (tC (.int 1))) (tUn (rU fun i=>.int (-i)) (tC (.int 1)))) (tCons (tC (.int 0)) tNil)))) (tCons (tOp (rIxT K) (tVar 4) (tC (.int 1))) tNil))) rfl nd (pi_gvals (pv 2)) bkRing (fun _ _ _ _ _=>pg_name (i:=4) nd rfl (Or.inl rfl)) (fun _ _ _ _ _=>pts_nil)
    (fun _ _ _ _ _=>pe_tup (pa_cons (pe_op op_add (pe_ix ix_tup (pv 4) pe_int (by intro _ _; rfl)) (pe_meth (pv 0) T.clW mC GC hr1 bC .nil pass0 (pa_cons (pe_ix ix_tup (pe_ix ix_tup (pv 4) pe_int (by intro _ _; rfl)) (pe_un un_neg pe_int) (by intro _ _; rfl)) (pa_cons pe_int pa_nil)))) (pa_cons (pe_ix ix_tup (pv 4) pe_int (by intro _ _; rfl)) pa_nil))))) pa_nil)))))),?_⟩
  have f7:=hw.fl7
  refine ⟨_,rfl,p,c.W,dx,_,_,rfl,W.obj,T.clW,T.nW "flavours" (by decide +kernel),rfl,1,_,rfl,fun rg hrg=>?_⟩
  have s0:Same H (upd H rg (.ext (RngAt rg 1 (a.flavours:Int)))):=Same.upd_new (Same.refl H) hrg
  refine ⟨rg,1,(a.flavours:Int),rfl,upd_same,⟨by decide,by omega,by omega⟩,fun ot hot=>?_⟩
  have s1:=Same.upd_new (o:=.tup ((List.range ((a.flavours:Int) - 1).toNat).map fun k:Nat=>V.int (1+(k:Int)))) s0 hot
  have ho1:upd (upd H rg (.ext (RngAt rg 1 (a.flavours:Int)))) ot (.tup ((List.range ((a.flavours:Int) - 1).toNat).map fun k:Nat=>V.int (1+(k:Int)))) ot=some (.tup ((List.range ((a.flavours:Int) - 1).toNat).map fun k:Nat=>V.int (1+(k:Int)))):=upd_same
  generalize upd (upd H rg (.ext (RngAt rg 1 (a.flavours:Int)))) ot (.tup ((List.range ((a.flavours:Int) - 1).toNat).map fun k:Nat=>V.int (1+(k:Int))))=H1 at s1 ho1 ⊢
  rw [others_ints hn] at ho1
  intro gd hgd0
  have t0:Same H1 (upd H1 gd (.ext (gphi P w gd []))):=Same.upd_new (Same.refl H1) hgd0
  have g0:upd H1 gd (.ext (gphi P w gd [])) gd=some (.ext (gphi P w gd [])):=upd_same
  generalize upd H1 gd (.ext (gphi P w gd []))=H2 at t0 g0 ⊢
  refine ⟨_,rfl,by show 2≤sizeLine; decide,fun kt hkt=>⟨by show 1≤sizeLine; decide,fun et het=>⟨by show 2≤sizeLine; decide,fun wt hwt=>?_⟩⟩⟩
  have u1:Same H2 (upd H2 kt (.tup [V.ref ot,V.int 0])):=Same.upd_new (Same.refl H2) hkt
  have u2:=Same.upd_new (o:=.tup [V.int 0]) (Same.refl _) het
  have u3:=Same.upd_new (o:=.tup [V.int 0,V.ref et]) (Same.refl _) hwt
  have e1:=u3 _ _ (u2 kt _ upd_same)
  have e2:=u3 et _ upd_same
  have e3:upd (upd (upd H2 kt (.tup [V.ref ot,V.int 0])) et (.tup [V.int 0])) wt (.tup [V.int 0,V.ref et]) wt=some (.tup [V.int 0,V.ref et]):=upd_same
  have u13:Same H2 (upd (upd (upd H2 kt (.tup [V.ref ot,V.int 0])) et (.tup [V.int 0])) wt (.tup [V.int 0,V.ref et])):=u1.trans (u2.trans u3)
  clear u1 u2 u3
  generalize upd (upd (upd H2 kt (.tup [V.ref ot,V.int 0])) et (.tup [V.int 0])) wt (.tup [V.int 0,V.ref et])=H3 at *
  refine ⟨u13 _ _ g0,kt,(othersR a,some 0),rfl,⟨ot,e1,u13 _ _ (t0 _ _ ho1)⟩,fun xs hGD=>?_⟩
  have g3:=u13 _ _ g0
  have tk4:∀ b ys,H3 b=some (.tup ys)→upd H3 gd (.ext (gphi P w gd xs)) b=some (.tup ys):=fun b ys e=>by rw [upd_ne (ne_of e g3 (by intro z; cases z))]; exact e
  have GE4:RGrE P w (upd H3 gd (.ext (gphi P w gd xs))) gd [((othersR a,some 0),wt,(0,[0]))]:=by
   refine ⟨hGD _ upd_same tk4,fun e he=>?_⟩
   rw [List.mem_singleton.mp he]
   exact ⟨et,tk4 _ _ e3,tk4 _ _ e2⟩
  have s4:Same H1 (upd H3 gd (.ext (gphi P w gd xs))):=fun b o e=>by rw [upd_ne (ne_of_none e hgd0)]; exact u13 _ _ (t0 _ _ e)
  generalize upd H3 gd (.ext (gphi P w gd xs))=H4 at s4 GE4 ⊢
  clear hGD tk4 e1 e2 e3 u13 g0 t0 hwt het hkt
  have hot4:TupN H4 ot (othersR a):=s4 _ _ ho1
  refine ⟨_,rfl,ot,rfl,⟨_,SqT.of hot4⟩,for_tup (K:=K) (a:=ot) (xs:=intsV (othersR a)) (fun i σ H'=>∃ (gi:Addr) (v3 v4:Option V),σ=[some (.ref p),some (.ref ot),some (.ref gi),v3,v4]∧Same H1 H'∧∃ es,RGrE P w H' gi es∧gR es=levelR a i)
   ⟨gd,none,none,rfl,s4,_,GE4,rfl⟩ (fun i σ H' _ ⟨_,_,_,_,s5,_⟩=>SqT.of (s5 _ _ ho1)) ?_ ?_⟩
  ·rintro i y σ H' hi ⟨gi,v3,v4,rfl,s5,es,GE,eg⟩
   have hil:i<a.flavours - 1:=by
    have:=(List.getElem?_eq_some_iff.mp hi).1
    rw [len_ints,others_len] at this
    exact this
   have L:=lvR_all a i
   rw [← eg] at L
   obtain ⟨q1,q2⟩:=lvR_key hn f7 L (by omega)
   have q3:es.length≤7 ^ i:=by
    have:=levelR_small a f7 i
    rw [← eg] at this
    have e:(gR es).length=es.length:=List.length_map ..
    rw [e] at this
    exact this
   have hp7:=pow7 (show i<7 by omega)
   refine ⟨_,rfl,_,rfl,p,gi,a,es,rfl,⟨hW.mono (s1.trans s5),hw,GE,L.nd,q1,q2,Nat.lt_of_le_of_lt (Nat.mul_le_mul_left 7 q3) hp7⟩,fun H5 F5 es5 s6 _ GE5 eg5=>?_⟩
   exact ⟨F5,_,_,rfl,s5.trans s6,es5,GE5,by rw [eg5,eg]; rfl⟩
  ·rintro σ H' ⟨gi,v3,v4,rfl,s5,es,GE,eg⟩
   rw [len_ints,others_len] at eg
   obtain ⟨hz,xs8,hg8,hx8⟩:=GE.dict
   have L:=lvR_all a (a.flavours - 1)
   rw [← eg] at L
   refine ⟨gi,_,hg8,trivial,fun od2=>⟨_,rfl,gi,od2,kvR es,xs8,rfl,⟨upd_same,GX.mono hx8 fun b ys e=>by rw [upd_ne (ne_of e hg8 (by intro z; cases z))]; exact e⟩,fun D hD=>?_⟩⟩
   have h9g:upd H' gi (.frz od2 (.ext (gphi P w gi xs8))) gi=some (.frz od2 (.ext (gphi P w gi xs8))):=upd_same
   have k9:∀ b o,H' b=some o→b≠gi→upd H' gi (.frz od2 (.ext (gphi P w gi xs8))) b=some o:=fun b o e hb=>by rw [upd_ne hb]; exact e
   generalize upd H' gi (.frz od2 (.ext (gphi P w gi xs8)))=H9 at h9g k9 hD ⊢
   have t9:∀ b ys,H' b=some (.tup ys)→H9 b=some (.tup ys):=fun b ys e=>k9 _ _ e (ne_of e hg8 (by intro z; cases z))
   have l9:∀ {b:Addr} {ys:List V},H' b=some (.lst ys)→H9 b=some (.lst ys):=fun e=>k9 _ _ e (ne_of e hg8 (by intro z; cases z))
   have i9:∀ {b C d:Addr} {fs:List (Str×V)},H' b=some (.ins C d fs)→H9 b=some (.ins C d fs):=fun e=>k9 _ _ e (ne_of e hg8 (by intro z; cases z))
   have W':=W.mono (s1.trans s5)
   have W9:Parts c H9 p a dx lc lj lo lr rows js rs dcs:=⟨i9 W'.obj,l9 W'.hlc,Paired.mapP W'.hrw fun _ _ q=>l9 q,l9 W'.hlj,Paired.mapP W'.hjb fun _ _ ⟨d,q⟩=>⟨d,i9 q⟩,l9 W'.hlo,l9 W'.hlr,Paired.mapP W'.hrs fun _ _ ⟨d,q⟩=>⟨d,i9 q⟩,W'.dn,W'.chd,W'.nd⟩
   have klen:(kvR es).length=es.length:=List.length_map ..
   have hsm:es.length<sizeLine:=by
    have:=levelR_small a f7 (a.flavours - 1)
    rw [← eg] at this
    have e:(gR es).length=es.length:=List.length_map ..
    rw [e] at this
    exact Nat.lt_of_le_of_lt this (Nat.lt_of_le_of_lt (Nat.pow_le_pow_right (by decide) (show a.flavours - 1≤7 by omega)) (by decide))
   refine lc_gen (n:=es.length) (fun i H''=>Same H9 H''∧∃ as ws,H'' D=some (.lst (as.map V.ref))∧RwsH H'' as ws∧Paired (fun (e:REnt) (r:RWay)=>∃ x,e.1.2=some x∧r=backR a e.2.2 x) (es.take i) ws) ?_ ?_ ?_ ?_ ?_
   ·exact ⟨Same.upd_new (Same.refl H9) hD,[],[],upd_same,.nil,.nil⟩
   ·rintro i H'' hi ⟨s,_⟩
    exact ⟨⟨s _ _ h9g,GX.mono hx8 fun b ys e=>s _ _ (t9 _ _ e)⟩,by rw [klen]; exact hi⟩
   ·rintro H'' ⟨s,_⟩
    exact ⟨⟨s _ _ h9g,GX.mono hx8 fun b ys e=>s _ _ (t9 _ _ e)⟩,by rw [klen]; exact Nat.le_refl _⟩
   ·rintro i x Hq H'' hi ⟨s,as,ws,hDl,hws,hpr⟩ ⟨rfl,kk,hkv⟩
    obtain ⟨e,he⟩:∃ e,es[i]?=some e:=⟨es[i],List.getElem?_eq_getElem hi⟩
    have hkv2:(e.1,V.ref e.2.1)=(kk,x):=by
     unfold kvR at hkv
     rw [List.getElem?_map,he] at hkv
     exact Option.some.inj hkv
    injection hkv2 with hk1 hk2
    subst hk1 hk2
    have hem:e ∈ es:=List.mem_of_getElem? he
    obtain ⟨o,f1,f2,f3,f4⟩:=L.sound e.1 e.2.2 (List.mem_map.mpr ⟨e,hem,rfl⟩)
    obtain ⟨ob,r1,r2⟩:=GE.ent e hem
    have r1':=s _ _ (t9 _ _ r1)
    have r2':TupN H'' ob e.2.2.2:=s _ _ (t9 _ _ r2)
    have hxf:o.getLastD 0<a.flavours:=by
     have:=(lvR_key hn f7 L (Nat.le_refl _)).1 e hem
     exact this.2.1 _ (by rw [f3])
    have hat:atI (intsV e.2.2.2) (-1)=some (.int ((o.getLastD 0:Nat):Int)):=by
     rw [f1]
     exact atI_path o
    have W'':=W9.mono s
    have hal:as.length=i:=by
     rw [Paired.length hws,← Paired.length hpr,List.length_take]
     omega
    refine ⟨rfl,_,rfl,e.2.1,_,_,_,rfl,rfl,SqT.of r1',atI_nat (j:=0) rfl,_,rfl,p,dx,_,rfl,W''.obj,rfl,_,rfl,e.2.1,_,_,_,rfl,rfl,SqT.of r1',atI_nat (j:=1) rfl,_,rfl,ob,_,_,_,rfl,rfl,SqT.of r2',hat,p,a,some (o.getLastD 0),0,rfl,⟨dx,lc,lj,lo,lr,rows,js,rs,dcs,W''⟩,hw,fun g q=>by cases q; exact hxf,hn,_,_,rfl,rfl,_,rfl,e.2.1,_,_,_,rfl,rfl,SqT.of r1',atI_nat (j:=1) rfl,by show 2≤sizeLine; decide,fun q hq=>?_⟩
    have sq:Same H'' (upd H'' q (.tup [V.int ((e.2.2.1:Int)+((turnO a (some (o.getLastD 0)) 0:Nat):Int)),V.ref ob])):=Same.upd_new (Same.refl H'') hq
    have hq':upd H'' q (.tup [V.int ((e.2.2.1:Int)+((turnO a (some (o.getLastD 0)) 0:Nat):Int)),V.ref ob]) q=some (.tup [V.int ((e.2.2.1:Int)+((turnO a (some (o.getLastD 0)) 0:Nat):Int)),V.ref ob]):=upd_same
    generalize upd H'' q (.tup [V.int ((e.2.2.1:Int)+((turnO a (some (o.getLastD 0)) 0:Nat):Int)),V.ref ob])=Hz at sq hq' ⊢
    have hDz:=sq _ _ hDl
    refine ⟨_,hDz,by rw [List.length_map,hal]; omega,?_⟩
    have kt:∀ b ys,Hz b=some (.tup ys)→upd Hz D (.lst (as.map V.ref++[V.ref q])) b=some (.tup ys):=fun b ys e=>by rw [upd_ne (ne_of e hDz (by intro z; cases z))]; exact e
    refine ⟨fun x o z=>by rw [upd_ne (ne_of_none z hD)]; exact sq _ _ (s x o z),as++[q],ws++[backR a e.2.2 (o.getLastD 0)],by rw [upd_same,List.map_append]; rfl,paired_snoc (Paired.mapP hws fun _ _ z=>rwH_mono2 kt (rwH_mono2 (fun b ys e=>sq _ _ e) z)) ⟨ob,?_,kt _ _ (sq _ _ r2')⟩,?_⟩
    ·have:=kt _ _ hq'
     rw [← Int.natCast_add] at this
     exact this
    ·rw [List.take_add_one,he]
     exact paired_snoc hpr ⟨_,by rw [f3],rfl⟩
   ·rintro H'' ⟨s,as,ws,hDl,hws,hpr⟩
    rw [List.take_length] at hpr
    have hg':=s _ _ h9g
    have tu:∀ b ys,H'' b=some (.tup ys)→upd H'' gi (.ext (gphi P w gi xs8)) b=some (.tup ys):=fun b ys e=>by rw [upd_ne (ne_of e hg' (by intro z; cases z))]; exact e
    have hws':RwsH (upd H'' gi (.ext (gphi P w gi xs8))) as ws:=Paired.mapP hws fun _ _ z=>rwH_mono2 tu z
    have hne:as≠[]:=fun z=>by
     obtain ⟨v,hv,_⟩:=L.all (othersR a) (others_nd a) (fun _ h=>h) (others_len a)
     have q1:=Paired.length hws
     have q2:=Paired.length hpr
     rw [z] at q1
     have q3:es=[]:=List.length_eq_zero_iff.mp (by rw [q2,← q1]; rfl)
     rw [q3] at hv
     cases hv
    refine ⟨hg',D,as,ws,rfl,SqL.of (by rw [upd_ne (ne_of hDl hg' (by intro z; cases z))]; exact hDl),hws',hne,fun b v hbv hv hmin=>?_⟩
    obtain ⟨e1,he1,x1,hx1,hv1⟩:=paired_right hpr hv
    have er:v=(a.round (0::a.ring),0::a.ring):=by
     refine ring_level a hn (k:=e1.1) (v:=e1.2.2) (x:=x1) ?_ hx1 hv1 fun k2 v2 x2 hin hk2=>?_
     ·rw [← eg]
      exact List.mem_map.mpr ⟨e1,he1,rfl⟩
     ·rw [← eg] at hin
      obtain ⟨e2,he2,q2⟩:=List.mem_map.mp hin
      cases q2
      obtain ⟨r,hr3,x3,hx3,hr4⟩:=paired_left hpr he2
      have:x3=x2:=by rw [hk2] at hx3; exact (Option.some.inj hx3).symm
      rw [this] at hr4
      rw [← hr4]
      exact hmin r hr3
    have hl7:(0::a.ring).length≤7:=by
     have q1:=(lvR_key hn f7 L (Nat.le_refl _)).2 e1 he1
     have q2:v.2=e1.2.2.2:=by rw [hv1]; rfl
     rw [er] at q2
     rw [← q2] at q1
     exact q1
    rw [er] at hbv
    refine k _ b (fun x o q=>?_) hbv hl7
    have q8:=s5 _ _ (s1 x o q)
    by_cases hx:x=gi
    ·rw [hx] at q8 ⊢
     rw [hg8] at q8
     cases q8
     exact upd_same
    ·rw [upd_ne hx]
     exact s _ _ (k9 _ _ q8 hx)
def spReB (c:Cs) (ok:List Nat→Prop) (cl:List Nat→Su73.Call):Sp:=fun vs H Q _=>∃ Kp p g a ns,vs=[.ref p,.ref g]∧WorksAt c Kp H p a∧Wf a∧0<a.flavours∧(∀ b,Kp b→H b≠none)∧H g=some (.lst (intsV ns))∧ok ns∧Post c Kp H p Q (does a (cl ns))
theorem reB {k:Nat} {f:Addr} {fd:FuncData} {ps:List Str} {ok:List Nat→Prop} {cl:List Nat→Su73.Call} (F:FnOk P w K mg base CX0 k f fd ps (spRe c ok cl)):FnOk P w K mg base CX0 k f fd ps (spReB c ok cl) :=
 F.imp fun vs H Q E ⟨Kp,p,g,a,ns,h1,h2,h3,_,h5⟩=>⟨Kp,p,g,a,ns,h1,h2,h3,h5⟩
theorem scRingR:FnScope ["works","given","way"] ["works","given"] (defScope (top 40)):=⟨rfl,rfl,rfl,by decide +kernel,rfl,by decide +kernel,by decide +kernel⟩
theorem ok_ringR {f:Addr} {fd:FuncData} (F:Fun K "ring" "ring" (top 40) f fd) (T:Txt K c) (G:Gc mg) (hB:GOk P w K mg base 3 "best_ring" ["works"] (spRing c)):FnOk P w K mg base CX0 4 f fd ["works","given"] (spReB c len0 fun _=>.ring):=by
 obtain ⟨fB,fdB,mB,kB,GB,bB⟩:=hB
 refine F.ok scRingR (fun vs H Q E h=>?_) (fun cdv A outer s H vs Q E hr h=>?_)
 ·obtain ⟨Kp,p,g,a,ns,rfl,_⟩:=h
  rfl
 ·obtain ⟨Kp,p,g,a,ns,rfl,hW,hw,hn,hKp,hg,hl,k⟩:=h
  replace k:Post c Kp H p Q (a,num (a.round (0::a.ring)) (0::a.ring)):=k
  have nd:=scRingR.nd
  refine ⟨_,pss_cons (ps_set (i:=2) nd rfl (Or.inl rfl) (pe_call GB hr (by rfl) mB kB bB .nil pass0 (pa_cons (pv 0) pa_nil)))
   (pss_one (ps_ret (pe_op op_cat (pe_lst (pa_cons (pe_ix ix_tup (pv 2) pe_int (fun _ _=>rfl)) pa_nil)) (pe_callTy call_list_of (by rfl) G.list PyProof.Rows.boot_list (pa_cons (pe_ix ix_tup (pv 2) pe_int (fun _ _=>rfl)) pa_nil))))),?_⟩
  refine ⟨_,rfl,p,a,rfl,hW.r,hw,hn,fun H1 q s1 hq hl7=>?_⟩
  obtain ⟨ob,h1,h2⟩:=hq
  refine ⟨_,rfl,q,_,_,_,rfl,rfl,SqT.of h1,atI_nat (j:=0) rfl,by show 1≤sizeLine; decide,fun l1 hl1=>?_⟩
  have s3:Same H1 (upd H1 l1 (.lst [V.int ((a.round (0::a.ring):Nat):Int)])):=Same.upd_new (Same.refl H1) hl1
  refine ⟨_,rfl,q,_,_,_,rfl,rfl,SqT.of (s3 _ _ h1),atI_nat (j:=1) rfl,ob,_,rfl,.inr (SqT.of (s3 _ _ h2)),fun l2 hl2=>?_⟩
  have s4:Same (upd H1 l1 (.lst [V.int ((a.round (0::a.ring):Nat):Int)])) (upd (upd H1 l1 (.lst [V.int ((a.round (0::a.ring):Nat):Int)])) l2 (.lst (intsV (0::a.ring)))):=Same.upd_new (Same.refl _) hl2
  refine ⟨l1,l2,_,_,rfl,rfl,s4 _ _ upd_same,upd_same,?_,fun l hl=>k.same hKp hW (s1.trans (s3.trans s4)) hl ?_⟩
  ·rw [len_ints,List.length_singleton]
   exact Nat.le_trans (show 1+(0::a.ring).length≤8 by omega) (by decide)
  ·show _=V.int ((a.round (0::a.ring):Nat):Int)::(Su73Neutral.outs (0::a.ring)).map V.int
   rw [outs_map]
   rfl
end
end FR
namespace FR
open Su73 Fr
def clc (i:Nat) (ns:List Nat):Su73.Call:=match i with
 | 0=>.begin_ (ns.getD 0 0)
 | 1=>.change (ns.getD 0 0) (ns.getD 1 0) (ns.getD 2 0)
 | 2=>.job (ns.getD 0 0) (ns.getD 1 0) (ns.getD 2 0)
 | 3=>.drop (ns.getD 0 0)
 | 4=>.run (ns.getD 0 0)
 | 5=>.wait (ns.getD 0 0)
 | 6=>.best
 | 7=>.fewest
 | 8=>.least
 | 9=>.times ns
 | 10=>.would (ns.getD 0 0) (ns.getD 1 0) (ns.getD 2 0)
 | 11=>.ring
 | 12=>.hopeless
 | 13=>.soon (ns.getD 0 0)
 | 14=>.turn (ns.getD 0 0) (ns.getD 1 0)
 | 15=>.open_
 | 16=>.look (ns.getD 0 0)
 | 17=>.done
 | 18=>.sums
 | _=>.state
def szc (i:Nat):Nat:=match i with
 | 0=>1 | 1=>3 | 2=>3 | 3=>1 | 4=>1 | 5=>1 | 10=>3 | 13=>1 | 14=>2 | 16=>1 | _=>0
def okc (i:Nat) (ns:List Nat):Prop:=if i=9 then ns.length≤10 else ns.length=szc i
theorem wf_new {n:Nat} (h:n≤7):Wf (new n):=by
 refine ⟨by simp [new],fun g row e=>?_,fun g row e=>?_,h,fun j job e=>?_,by simp [new],by simp [new],by simp [new],Nat.zero_le _,by simp [new],by simp [new],by simp [new],by simp [new]⟩
 ·have e':(List.replicate n (List.replicate n 0))[g]?=some row:=e
  rw [List.getElem?_replicate] at e'
  split at e'
  ·cases e'
   simp [new]
  ·cases e'
 ·have e':(List.replicate n (List.replicate n 0))[g]?=some row:=e
  rw [List.getElem?_replicate] at e'
  split at e'
  ·cases e'
   rw [List.getD_eq_getElem?_getD,List.getElem?_replicate]
   split <;> rfl
  ·cases e'
 ·have e':([]:List Su73.Job)[j]?=some job:=e
  cases e'
theorem wf_with {a:Abs} (h:Wf a) {f m d:Nat} (hf:f<a.flavours) (ho:¬ 7≤a.open_.length) (hj:¬ 40≤a.jobs.length):Wf (a.with_ f m d):=by
 refine ⟨h.rows,h.cols,h.diag,h.fl7,fun j job e=>?_,?_,fun j hjm=>?_,?_,h.last,?_,?_,fun x hx=>?_,?_⟩
 ·have e':(a.jobs++[⟨f,m,d⟩])[j]?=some job:=e
  by_cases hlt:j<a.jobs.length
  ·rw [List.getElem?_append_left hlt] at e'
   exact h.jfl j job e'
  ·rw [List.getElem?_append_right (by omega)] at e'
   have:job=⟨f,m,d⟩:=List.mem_singleton.mp (List.mem_of_getElem? e')
   rw [this]
   exact hf
 ·show (a.open_++[a.jobs.length]).Pairwise (·<·)
  rw [List.pairwise_append]
  exact ⟨h.rise,by simp,fun y hy z hz=>by rw [List.mem_singleton.mp hz]; exact h.opn y hy⟩
 ·show j<(a.jobs++[_]).length
  rw [List.length_append,List.length_singleton]
  rcases List.mem_append.mp (show j ∈ a.open_++[a.jobs.length] from hjm) with hjm | hjm
  ·have:=h.opn j hjm
   omega
  ·rw [List.mem_singleton.mp hjm]
   omega
 ·show (a.open_++[a.jobs.length]).length≤7
  rw [List.length_append,List.length_singleton]
  omega
 ·show (a.jobs++[_]).length≤40
  rw [List.length_append,List.length_singleton]
  omega
 ·show a.done.length+(a.open_++[a.jobs.length]).length≤(a.jobs++[_]).length
  rw [List.length_append,List.length_singleton,List.length_append,List.length_singleton]
  have:=h.dno
  omega
 ·show x.job<(a.jobs++[_]).length
  rw [List.length_append,List.length_singleton]
  have:=h.dnj x hx
  omega
 ·show (a.done.map fun x=>((a.with_ f m d).job x.job).mins).sum=a.ran
  rw [← h.ran]
  congr 1
  exact List.map_congr_left fun x hx=>by rw [with_job (h.dnj x hx)]
theorem wf_drop {a:Abs} (h:Wf a) {j:Nat} (hj:j ∈ a.open_):Wf { a with open_:=a.open_.filter fun x=>x != j }:=by
 have hl:=filter_len (nodup_of_rising h.rise) hj
 refine ⟨h.rows,h.cols,h.diag,h.fl7,h.jfl,h.rise.filter _,fun x hx=>h.opn x (List.mem_filter.mp hx).1,?_,h.last,h.j40,?_,h.dnj,h.ran⟩
 ·show (a.open_.filter fun x=>x != j).length≤7
  have:=h.op7
  omega
 ·show a.done.length+(a.open_.filter fun x=>x != j).length≤a.jobs.length
  have:=h.dno
  omega
theorem wf_change {a:Abs} (h:Wf a) {f g m:Nat} (hne:f≠g):Wf { a with change:=a.change.modify f fun r=>r.set g m }:=by
 have key:∀ (x:Nat) (row:List Nat),(a.change.modify f fun r=>r.set g m)[x]?=some row→∃ r0,a.change[x]?=some r0∧row=if f=x then r0.set g m else r0:=fun x row e=>by
  rw [List.getElem?_modify] at e
  cases q:a.change[x]? with
  | none=>rw [q] at e; cases e
  | some r0 =>
   rw [q] at e
   refine ⟨r0,rfl,?_⟩
   exact (Option.some.inj e).symm
 refine ⟨by show (a.change.modify f _).length=_; rw [List.length_modify]; exact h.rows,fun x row e=>?_,fun x row e=>?_,h.fl7,h.jfl,h.rise,h.opn,h.op7,h.last,h.j40,h.dno,h.dnj,h.ran⟩
 ·obtain ⟨r0,e1,e2⟩:=key x row e
  have:=h.cols x r0 e1
  rw [e2]
  split
  ·rw [List.length_set]; exact this
  ·exact this
 ·obtain ⟨r0,e1,e2⟩:=key x row e
  have:=h.diag x r0 e1
  rw [e2]
  split
  ·rename_i hx
   rw [List.getD_eq_getElem?_getD,List.getElem?_set_ne (by omega),← List.getD_eq_getElem?_getD]
   exact this
  ·exact this
theorem wf_run {a:Abs} (h:Wf a) {j t e l:Nat} (hj:j ∈ a.open_):Wf { a with open_:=a.open_.filter (fun x=>x != j),done:=a.done++[⟨j,e,l⟩],last:=(a.job j).flavour+1,now_:=e,changed:=a.changed+t,ran:=a.ran+(a.job j).mins }:=by
 have hl:=filter_len (nodup_of_rising h.rise) hj
 have hjl:=h.opn j hj
 have hpos:0<a.open_.length:=List.length_pos_of_mem hj
 refine ⟨h.rows,h.cols,h.diag,h.fl7,h.jfl,h.rise.filter _,fun x hx=>h.opn x (List.mem_filter.mp hx).1,?_,?_,h.j40,?_,fun x hx=>?_,?_⟩
 ·show (a.open_.filter fun x=>x != j).length≤7
  have:=h.op7
  omega
 ·exact (h.job_of hjl).2
 ·show (a.done++[_]).length+(a.open_.filter fun x=>x != j).length≤a.jobs.length
  rw [List.length_append,List.length_singleton]
  have:=h.dno
  omega
 ·rcases List.mem_append.mp (show x ∈ a.done++[⟨j,e,l⟩] from hx) with hx | hx
  ·exact h.dnj x hx
  ·rw [List.mem_singleton.mp hx]
   exact hjl
 ·show ((a.done++[(⟨j,e,l⟩:Done)]).map fun x:Done=>(a.job x.job).mins).sum=a.ran+(a.job j).mins
  rw [List.map_append,List.sum_append,h.ran]
  simp
theorem wf_does {a:Abs} (h:Wf a) (c:Su73.Call) (hp:0<a.flavours):Wf (does a c).1∧0<(does a c).1.flavours:=by
 have same:∀ {r:Ans},does a c=(a,r)→Wf (does a c).1∧0<(does a c).1.flavours:=fun e=>by rw [e]; exact ⟨h,hp⟩
 cases c with
 | begin_ n =>
  by_cases hb:n=0∨FLAVOURS<n
  ·exact same (if_pos hb)
  ·have h1:¬ n=0:=fun z=>hb (.inl z)
   have h2:¬ 7<n:=fun z=>hb (.inr z)
   rw [show does a (.begin_ n)=(new n,no 0) from if_neg hb]
   exact ⟨wf_new (by omega),by show 0<n; omega⟩
 | change f g m =>
  by_cases h1:a.isF f=false∨a.isF g=false
  ·exact same (if_pos h1)
  ·by_cases h2:f=g∨500<m
   ·exact same ((if_neg h1).trans (if_pos h2))
   ·rw [show does a (.change f g m)=({ a with change:=a.change.modify f fun r=>r.set g m },num (a.turn (f+1) g) []) from (if_neg h1).trans (if_neg h2)]
    exact ⟨wf_change h (fun z=>h2 (.inl z)),hp⟩
 | job f m d =>
  by_cases h1:a.isF f=false
  ·exact same (if_pos h1)
  ·by_cases h2:m=0∨1000<m∨1000000<d
   ·exact same ((if_neg h1).trans (if_pos h2))
   ·by_cases h3:OPEN≤a.open_.length∨JOBS≤a.jobs.length
    ·exact same ((if_neg h1).trans ((if_neg h2).trans (if_pos h3)))
    ·rw [show does a (.job f m d)=(a.with_ f m d,num a.jobs.length []) from (if_neg h1).trans ((if_neg h2).trans (if_neg h3))]
     have hf:f<a.flavours:=of_decide_eq_true (show a.isF f=true by simpa using h1)
     exact ⟨wf_with h hf (fun z=>h3 (.inl z)) (fun z=>h3 (.inr z)),hp⟩
 | drop j =>
  by_cases h1:a.isO j=false
  ·exact same (if_pos h1)
  ·rw [show does a (.drop j)=({ a with open_:=a.open_.filter fun x=>x != j },num (a.open_.length - 1) []) from if_neg h1]
   exact ⟨wf_drop h (isO_mem (by simpa using h1)),hp⟩
 | run j =>
  by_cases h1:a.isO j=false
  ·exact same (if_pos h1)
  ·rw [show does a (.run j)=_ from if_neg h1]
   exact ⟨wf_run h (isO_mem (by simpa using h1)),hp⟩
 | wait n =>
  by_cases h1:n=0∨1000<n
  ·exact same (if_pos h1)
  ·rw [show does a (.wait n)=({ a with now_:=a.now_+n,waited:=a.waited+n },num (a.now_+n) []) from if_neg h1]
   exact ⟨⟨h.rows,h.cols,h.diag,h.fl7,h.jfl,h.rise,h.opn,h.op7,h.last,h.j40,h.dno,h.dnj,h.ran⟩,hp⟩
 | times l =>
  by_cases h1:¬ l.Nodup
  ·exact same (if_pos h1)
  ·by_cases h2:(l.any fun j=>!(a.isO j))=true
   ·exact same ((if_neg h1).trans (if_pos h2))
   ·exact same ((if_neg h1).trans (if_neg h2))
 | would f m d =>
  rcases refV_cases a f m d with ⟨z,_,_,e⟩ | ⟨_,h1,h2,h3⟩
  ·exact same e
  ·exact same ((if_neg (by rw [h1]; decide)).trans ((if_neg h2).trans (if_neg h3)))
 | soon j =>
  by_cases h1:a.isO j=false
  ·exact same (if_pos h1)
  ·exact same (if_neg h1)
 | turn f g =>
  by_cases h1:a.isF f=false∨a.isF g=false
  ·exact same (if_pos h1)
  ·exact same (if_neg h1)
 | look j =>
  by_cases h1:a.jobs.length≤j
  ·exact same (if_pos h1)
  ·exact same (if_neg h1)
 | _=>exact ⟨h,hp⟩
def good (c:List (List Int)):Prop:=Su73Neutral.asked1 ((PySu73.whole c).headD [])=true
theorem nat_of {z:Int} (h:Su73Neutral.natural z 32=true):z=((z.toNat:Nat):Int):=by
 unfold Su73Neutral.natural at h
 rw [Bool.and_eq_true] at h
 have:=of_decide_eq_true h.1
 omega
structure Dec (i:Nat) (gs:List Nat) (c:List (List Int)):Prop where
 lt:i<20
 ok:okc i gs
 st:∀ s,Su73Neutral.step s ((PySu73.whole c).headD [])=((Su73.step s (clc i gs)).1,ansI (Su73.step s (clc i gs)).2)
theorem calls_cons {f:Nat} {x:Int} {rest:List Int} {raw:List (List (List Int))} (h:PyFlat.calls PySu73.shape f (x::rest)=some raw):∃ f' c t raw',PyFlat.call PySu73.shape (x::rest)=some (c,t)∧PyFlat.calls PySu73.shape f' t=some raw'∧raw=c::raw':=by
 cases f with
 | zero=>cases h
 | succ f =>
  unfold PyFlat.calls at h
  cases q:PyFlat.call PySu73.shape (x::rest) with
  | none=>rw [q] at h; cases h
  | some ct =>
   obtain ⟨c,t⟩:=ct
   rw [q] at h
   simp only at h
   cases q2:PyFlat.calls PySu73.shape f t with
   | none=>rw [q2] at h; cases h
   | some cs =>
    rw [q2] at h
    exact ⟨f,c,t,cs,rfl,q2,(Option.some.inj h).symm⟩
end FR
namespace FR
open Su73 Fr
theorem nat1 {b:Bool} {x:Int} (h:(b && Su73Neutral.natural x 32)=true):x=((x.toNat:Nat):Int):=nat_of (Bool.and_eq_true_iff.mp h).2
theorem nat2 {b:Bool} {x y:Int} (h:(b && (Su73Neutral.natural x 32 && Su73Neutral.natural y 32))=true):x=((x.toNat:Nat):Int)∧y=((y.toNat:Nat):Int):=by
 have h2:=Bool.and_eq_true_iff.mp (Bool.and_eq_true_iff.mp h).2
 exact ⟨nat_of h2.1,nat_of h2.2⟩
theorem nat3 {b:Bool} {x y z:Int} (h:(b && [x,y,z].all fun z=>Su73Neutral.natural z 32)=true):x=((x.toNat:Nat):Int)∧y=((y.toNat:Nat):Int)∧z=((z.toNat:Nat):Int):=by
 have h2:=List.all_eq_true.mp (Bool.and_eq_true_iff.mp h).2
 exact ⟨nat_of (h2 x (by simp)),nat_of (h2 y (by simp)),nat_of (h2 z (by simp))⟩
def castN (l:List Nat):List Int:=l.map fun n:Nat=>(n:Int)
theorem shape_some {x:Int} {n k:Nat} (h:PySu73.shape x=some (n,k)):∃ i:Nat,i<20∧x=(i:Int)∧((i≠9∧n=szc i∧k=0)∨(i=9∧n=0∧k=1)):=by
 unfold PySu73.shape at h
 by_cases h0:x=0
 ·simp only [h0] at h
  have e:some (1,0)=some (n,k):=h
  cases e
  exact ⟨0,by decide,h0,.inl ⟨by decide,rfl,rfl⟩⟩
 rw [if_neg h0] at h
 by_cases h1:x=1
 ·simp only [h1] at h
  have e:some (3,0)=some (n,k):=h
  cases e
  exact ⟨1,by decide,h1,.inl ⟨by decide,rfl,rfl⟩⟩
 rw [if_neg h1] at h
 by_cases h2:x=2
 ·simp only [h2] at h
  have e:some (3,0)=some (n,k):=h
  cases e
  exact ⟨2,by decide,h2,.inl ⟨by decide,rfl,rfl⟩⟩
 rw [if_neg h2] at h
 by_cases h3:x=3
 ·simp only [h3] at h
  have e:some (1,0)=some (n,k):=h
  cases e
  exact ⟨3,by decide,h3,.inl ⟨by decide,rfl,rfl⟩⟩
 rw [if_neg h3] at h
 by_cases h4:x=4
 ·simp only [h4] at h
  have e:some (1,0)=some (n,k):=h
  cases e
  exact ⟨4,by decide,h4,.inl ⟨by decide,rfl,rfl⟩⟩
 rw [if_neg h4] at h
 by_cases h5:x=5
 ·simp only [h5] at h
  have e:some (1,0)=some (n,k):=h
  cases e
  exact ⟨5,by decide,h5,.inl ⟨by decide,rfl,rfl⟩⟩
 rw [if_neg h5] at h
 by_cases h6:x=6
 ·simp only [h6] at h
  have e:some (0,0)=some (n,k):=h
  cases e
  exact ⟨6,by decide,h6,.inl ⟨by decide,rfl,rfl⟩⟩
 rw [if_neg h6] at h
 by_cases h7:x=7
 ·simp only [h7] at h
  have e:some (0,0)=some (n,k):=h
  cases e
  exact ⟨7,by decide,h7,.inl ⟨by decide,rfl,rfl⟩⟩
 rw [if_neg h7] at h
 by_cases h8:x=8
 ·simp only [h8] at h
  have e:some (0,0)=some (n,k):=h
  cases e
  exact ⟨8,by decide,h8,.inl ⟨by decide,rfl,rfl⟩⟩
 rw [if_neg h8] at h
 by_cases h9:x=9
 ·simp only [h9] at h
  have e:some (0,1)=some (n,k):=h
  cases e
  exact ⟨9,by decide,h9,.inr ⟨rfl,rfl,rfl⟩⟩
 rw [if_neg h9] at h
 by_cases h10:x=10
 ·simp only [h10] at h
  have e:some (3,0)=some (n,k):=h
  cases e
  exact ⟨10,by decide,h10,.inl ⟨by decide,rfl,rfl⟩⟩
 rw [if_neg h10] at h
 by_cases h11:x=11
 ·simp only [h11] at h
  have e:some (0,0)=some (n,k):=h
  cases e
  exact ⟨11,by decide,h11,.inl ⟨by decide,rfl,rfl⟩⟩
 rw [if_neg h11] at h
 by_cases h12:x=12
 ·simp only [h12] at h
  have e:some (0,0)=some (n,k):=h
  cases e
  exact ⟨12,by decide,h12,.inl ⟨by decide,rfl,rfl⟩⟩
 rw [if_neg h12] at h
 by_cases h13:x=13
 ·simp only [h13] at h
  have e:some (1,0)=some (n,k):=h
  cases e
  exact ⟨13,by decide,h13,.inl ⟨by decide,rfl,rfl⟩⟩
 rw [if_neg h13] at h
 by_cases h14:x=14
 ·simp only [h14] at h
  have e:some (2,0)=some (n,k):=h
  cases e
  exact ⟨14,by decide,h14,.inl ⟨by decide,rfl,rfl⟩⟩
 rw [if_neg h14] at h
 by_cases h15:x=15
 ·simp only [h15] at h
  have e:some (0,0)=some (n,k):=h
  cases e
  exact ⟨15,by decide,h15,.inl ⟨by decide,rfl,rfl⟩⟩
 rw [if_neg h15] at h
 by_cases h16:x=16
 ·simp only [h16] at h
  have e:some (1,0)=some (n,k):=h
  cases e
  exact ⟨16,by decide,h16,.inl ⟨by decide,rfl,rfl⟩⟩
 rw [if_neg h16] at h
 by_cases h17:x=17
 ·simp only [h17] at h
  have e:some (0,0)=some (n,k):=h
  cases e
  exact ⟨17,by decide,h17,.inl ⟨by decide,rfl,rfl⟩⟩
 rw [if_neg h17] at h
 by_cases h18:x=18
 ·simp only [h18] at h
  have e:some (0,0)=some (n,k):=h
  cases e
  exact ⟨18,by decide,h18,.inl ⟨by decide,rfl,rfl⟩⟩
 rw [if_neg h18] at h
 by_cases h19:x=19
 ·simp only [h19] at h
  have e:some (0,0)=some (n,k):=h
  cases e
  exact ⟨19,by decide,h19,.inl ⟨by decide,rfl,rfl⟩⟩
 rw [if_neg h19] at h
 cases h
theorem dec_of {i:Nat} {xs:List Int} (hi:i<20) (h9:i≠9) (hl:xs.length=szc i) (hg:good [(i:Int)::xs]):Dec i (xs.map Int.toNat) [(i:Int)::xs]∧xs=castN (xs.map Int.toNat):=by
 match i,hi,h9 with
 | 0,_,_ =>
  match xs,hl,hg with
  | [x0],_,hg=>exact ⟨⟨by decide,rfl,fun s=>rfl⟩,by have q:=nat1 (show (([0,3,4,5,13,16]:List Int).contains 0 && Su73Neutral.natural x0 32)=true from hg); show [x0]=[((x0.toNat:Nat):Int)]; rw [← q]⟩
 | 1,_,_ =>
  match xs,hl,hg with
  | [x0,x1,x2],_,hg=>exact ⟨⟨by decide,rfl,fun s=>rfl⟩,by obtain ⟨q1,q2,q3⟩:=nat3 (show (([1,2,10]:List Int).contains 1 && [x0,x1,x2].all fun z=>Su73Neutral.natural z 32)=true from hg); show [x0,x1,x2]=[((x0.toNat:Nat):Int),((x1.toNat:Nat):Int),((x2.toNat:Nat):Int)]; rw [← q1,← q2,← q3]⟩
 | 2,_,_ =>
  match xs,hl,hg with
  | [x0,x1,x2],_,hg=>exact ⟨⟨by decide,rfl,fun s=>rfl⟩,by obtain ⟨q1,q2,q3⟩:=nat3 (show (([1,2,10]:List Int).contains 2 && [x0,x1,x2].all fun z=>Su73Neutral.natural z 32)=true from hg); show [x0,x1,x2]=[((x0.toNat:Nat):Int),((x1.toNat:Nat):Int),((x2.toNat:Nat):Int)]; rw [← q1,← q2,← q3]⟩
 | 3,_,_ =>
  match xs,hl,hg with
  | [x0],_,hg=>exact ⟨⟨by decide,rfl,fun s=>rfl⟩,by have q:=nat1 (show (([0,3,4,5,13,16]:List Int).contains 3 && Su73Neutral.natural x0 32)=true from hg); show [x0]=[((x0.toNat:Nat):Int)]; rw [← q]⟩
 | 4,_,_ =>
  match xs,hl,hg with
  | [x0],_,hg=>exact ⟨⟨by decide,rfl,fun s=>rfl⟩,by have q:=nat1 (show (([0,3,4,5,13,16]:List Int).contains 4 && Su73Neutral.natural x0 32)=true from hg); show [x0]=[((x0.toNat:Nat):Int)]; rw [← q]⟩
 | 5,_,_ =>
  match xs,hl,hg with
  | [x0],_,hg=>exact ⟨⟨by decide,rfl,fun s=>rfl⟩,by have q:=nat1 (show (([0,3,4,5,13,16]:List Int).contains 5 && Su73Neutral.natural x0 32)=true from hg); show [x0]=[((x0.toNat:Nat):Int)]; rw [← q]⟩
 | 6,_,_ =>
  match xs,hl,hg with
  | [],_,hg=>exact ⟨⟨by decide,rfl,fun s=>rfl⟩,rfl⟩
 | 7,_,_ =>
  match xs,hl,hg with
  | [],_,hg=>exact ⟨⟨by decide,rfl,fun s=>rfl⟩,rfl⟩
 | 8,_,_ =>
  match xs,hl,hg with
  | [],_,hg=>exact ⟨⟨by decide,rfl,fun s=>rfl⟩,rfl⟩
 | 10,_,_ =>
  match xs,hl,hg with
  | [x0,x1,x2],_,hg=>exact ⟨⟨by decide,rfl,fun s=>rfl⟩,by obtain ⟨q1,q2,q3⟩:=nat3 (show (([1,2,10]:List Int).contains 10 && [x0,x1,x2].all fun z=>Su73Neutral.natural z 32)=true from hg); show [x0,x1,x2]=[((x0.toNat:Nat):Int),((x1.toNat:Nat):Int),((x2.toNat:Nat):Int)]; rw [← q1,← q2,← q3]⟩
 | 11,_,_ =>
  match xs,hl,hg with
  | [],_,hg=>exact ⟨⟨by decide,rfl,fun s=>rfl⟩,rfl⟩
 | 12,_,_ =>
  match xs,hl,hg with
  | [],_,hg=>exact ⟨⟨by decide,rfl,fun s=>rfl⟩,rfl⟩
 | 13,_,_ =>
  match xs,hl,hg with
  | [x0],_,hg=>exact ⟨⟨by decide,rfl,fun s=>rfl⟩,by have q:=nat1 (show (([0,3,4,5,13,16]:List Int).contains 13 && Su73Neutral.natural x0 32)=true from hg); show [x0]=[((x0.toNat:Nat):Int)]; rw [← q]⟩
 | 14,_,_ =>
  match xs,hl,hg with
  | [x0,x1],_,hg=>exact ⟨⟨by decide,rfl,fun s=>rfl⟩,by obtain ⟨q1,q2⟩:=nat2 (show (([14]:List Int).contains 14 && (Su73Neutral.natural x0 32 && Su73Neutral.natural x1 32))=true from hg); show [x0,x1]=[((x0.toNat:Nat):Int),((x1.toNat:Nat):Int)]; rw [← q1,← q2]⟩
 | 15,_,_ =>
  match xs,hl,hg with
  | [],_,hg=>exact ⟨⟨by decide,rfl,fun s=>rfl⟩,rfl⟩
 | 16,_,_ =>
  match xs,hl,hg with
  | [x0],_,hg=>exact ⟨⟨by decide,rfl,fun s=>rfl⟩,by have q:=nat1 (show (([0,3,4,5,13,16]:List Int).contains 16 && Su73Neutral.natural x0 32)=true from hg); show [x0]=[((x0.toNat:Nat):Int)]; rw [← q]⟩
 | 17,_,_ =>
  match xs,hl,hg with
  | [],_,hg=>exact ⟨⟨by decide,rfl,fun s=>rfl⟩,rfl⟩
 | 18,_,_ =>
  match xs,hl,hg with
  | [],_,hg=>exact ⟨⟨by decide,rfl,fun s=>rfl⟩,rfl⟩
 | 19,_,_ =>
  match xs,hl,hg with
  | [],_,hg=>exact ⟨⟨by decide,rfl,fun s=>rfl⟩,rfl⟩
 | 9,_,h=>exact absurd rfl h
 | n+20,h,_=>omega
theorem dec_9 {xs:List Int} (hg:good [[9],xs]):Dec 9 (xs.map Int.toNat) [[9],xs]∧xs=castN (xs.map Int.toNat):=by
 have hg':(decide (xs.length≤10) && xs.all fun z=>Su73Neutral.natural z 32)=true:=hg
 obtain ⟨h1,h2⟩:=Bool.and_eq_true_iff.mp hg'
 refine ⟨⟨by decide,?_,fun s=>rfl⟩,?_⟩
 ·show (xs.map Int.toNat).length≤10
  rw [List.length_map]
  exact of_decide_eq_true h1
 ·unfold castN
  rw [List.map_map]
  have h3:=List.all_eq_true.mp h2
  conv=>lhs; rw [← List.map_id xs]
  exact List.map_congr_left fun z hz=>nat_of (h3 z hz)
theorem dec_step {f:Nat} {x:Int} {rest:List Int} {raw:List (List (List Int))} (h:PyFlat.calls PySu73.shape f (x::rest)=some raw) (hg:∀ c ∈ raw,good c) :
  ∃ (i:Nat) (gs:List Nat) (c:List (List Int)) (raw':List (List (List Int))) (f':Nat),x=(i:Int)∧raw=c::raw'∧Dec i gs c ∧
   ((i≠9∧szc i≤rest.length∧rest.take (szc i)=castN gs∧PyFlat.calls PySu73.shape f' (rest.drop (szc i))=some raw') ∨
   (i=9∧∃ r,rest=(gs.length:Int)::r∧gs.length≤r.length∧r.take gs.length=castN gs∧PyFlat.calls PySu73.shape f' (r.drop gs.length)=some raw')):=by
 obtain ⟨f',c,t,raw',h1,h2,h3⟩:=calls_cons h
 have hgc:good c:=hg c (by rw [h3]; exact List.mem_cons_self)
 unfold PyFlat.call at h1
 simp only at h1
 cases q:PySu73.shape x with
 | none=>rw [q] at h1; cases h1
 | some nk =>
  obtain ⟨n,k⟩:=nk
  rw [q] at h1
  simp only at h1
  obtain ⟨i,hi,hx,hk⟩:=shape_some q
  by_cases hr:rest.length<n
  ·rw [if_pos hr] at h1; cases h1
  ·rw [if_neg hr] at h1
   rcases hk with ⟨h9,hn,hk0⟩ | ⟨h9,hn,hk1⟩
   ·rw [hk0] at h1
    have e:some ([x::rest.take n],rest.drop n)=some (c,t):=h1
    cases e
    subst hx
    have hl:(rest.take n).length=szc i:=by rw [List.length_take,← hn]; omega
    obtain ⟨d1,d2⟩:=dec_of hi h9 hl hgc
    refine ⟨i,_,_,raw',f',rfl,h3,d1,.inl ⟨h9,by omega,?_,?_⟩⟩
    ·rw [← hn]; exact d2
    ·rw [← hn]; exact h2
   ·rw [hk1,hn] at h1
    rw [List.drop_zero,List.take_zero] at h1
    unfold PyFlat.rows at h1
    cases qr:PyFlat.row rest with
    | none=>rw [qr] at h1; cases h1
    | some xs =>
     obtain ⟨r0,t0⟩:=xs
     rw [qr] at h1
     have e:some ([x]::[r0],t0)=some (c,t):=h1
     cases e
     subst hx
     subst h9
     obtain ⟨d1,d2⟩:=dec_9 hgc
     refine ⟨9,_,_,raw',f',rfl,h3,d1,.inr ⟨rfl,?_⟩⟩
     unfold PyFlat.row at qr
     match rest,qr with
     | m::r,qr =>
      simp only at qr
      by_cases hm:0≤m∧m.toNat≤r.length
      ·rw [if_pos hm] at qr
       cases qr
       have el:((r.take m.toNat).map Int.toNat).length=m.toNat:=by rw [List.length_map,List.length_take]; omega
       refine ⟨r,?_,by rw [el]; exact hm.2,?_,?_⟩
       ·rw [el]
        congr 1
        omega
       ·rw [el]; exact d2
       ·rw [el]; exact h2
      ·rw [if_neg hm] at qr
       cases qr
end FR
namespace FR
open PySem PySem.Spec PyProof.Rows L2 N2 Fr Su73
def StAt (c:Cs) (Kp:Addr→Prop) (H:Hp) (p:Addr) (st:Option Abs):Prop:=match st with
 | none=>WorksAt c Kp H p (new 0)
 | some a=>WorksAt c Kp H p a∧Wf a∧0<a.flavours
def spI (c:Cs) (i:Nat):Sp:=if i=0 then spRe c len1 (fun ns=>.begin_ (ns.getD 0 0)) else spReB c (okc i) (clc i)
def RepOk (P:Program) (w:World) (K:PySem.W.Frag) (mg:Str→Option Value) (base:Heap) (c:Cs) (fs:List Addr):Prop:=fs.length=20∧∀ i f,fs[i]?=some f→∃ fd,FnOk P w K mg base CX0 5 f fd ["works","given"] (spI c i)∧PySem.W.keepIn K (.ref f)=true∧Binds K fd ["works","given"] []
def spReply (c:Cs):Sp:=fun vs H Q _=>∃ Kp p i g st ns,vs=[.ref p,.int ((i:Nat):Int),.ref g]∧i<20∧StAt c Kp H p st∧(∀ b,Kp b→H b≠none)∧H g=some (.lst (intsV ns))∧okc i ns ∧
 ∀ H' q,Keeps Kp H H'→StAt c Kp H' p (Su73.step st (clc i ns)).1→H' q=some (.lst ((ansI (Su73.step st (clc i ns)).2).map V.int))→¬ Kp q→Q (.ref q) H'
section
variable {P:Program} {w:World} {K:PySem.W.Frag} {mg:Str→Option Value} {base:Heap} {c:Cs}
theorem scReply:FnScope ["works","number","given"] ["works","number","given"] (defScope (top 50)):=⟨rfl,rfl,rfl,by decide +kernel,rfl,by decide +kernel,by decide +kernel⟩
theorem step_some (a:Abs) (c:Su73.Call):Su73.step (some a) c=(some (does a c).1,(does a c).2):=rfl
theorem step_none {i:Nat} (hi:i<20) (h0:i≠0) (ns:List Nat):Su73.step none (clc i ns)=(none,no (-11)):=by
 match i,hi,h0 with
 | 0,_,h=>exact absurd rfl h
 | 1,_,_=>rfl
 | 2,_,_=>rfl
 | 3,_,_=>rfl
 | 4,_,_=>rfl
 | 5,_,_=>rfl
 | 6,_,_=>rfl
 | 7,_,_=>rfl
 | 8,_,_=>rfl
 | 9,_,_=>rfl
 | 10,_,_=>rfl
 | 11,_,_=>rfl
 | 12,_,_=>rfl
 | 13,_,_=>rfl
 | 14,_,_=>rfl
 | 15,_,_=>rfl
 | 16,_,_=>rfl
 | 17,_,_=>rfl
 | 18,_,_=>rfl
 | 19,_,_=>rfl
 | n+20,h,_=>omega
theorem begin_none (n:Nat):Su73.step none (.begin_ n)=if n=0∨FLAVOURS<n then (none,no (-22)) else (some (new n),no 0):=by
 by_cases h:n=0∨FLAVOURS<n
 ·rw [if_pos h]
  show (if (does (new 1) (.begin_ n)).2.value<0 then none else some (does (new 1) (.begin_ n)).1,(does (new 1) (.begin_ n)).2)=_
  rw [show does (new 1) (.begin_ n)=(new 1,no (-22)) from if_pos h]
  rfl
 ·rw [if_neg h]
  show (if (does (new 1) (.begin_ n)).2.value<0 then none else some (does (new 1) (.begin_ n)).1,(does (new 1) (.begin_ n)).2)=_
  rw [show does (new 1) (.begin_ n)=(new n,no 0) from if_neg h]
  rfl
theorem StAt.works {Kp:Addr→Prop} {H:Hp} {p:Addr} {st:Option Abs} (h:StAt c Kp H p st):∃ a,WorksAt c Kp H p a∧Wf a∧(st=none∧a=new 0∨st=some a∧0<a.flavours):=by
 cases st with
 | none=>exact ⟨new 0,h,wf_new (by decide),.inl ⟨rfl,rfl⟩⟩
 | some a=>exact ⟨a,h.1,h.2.1,.inr ⟨rfl,h.2.2⟩⟩
theorem ok_reply {f:Addr} {fd:FuncData} (F:Fun K "reply" "reply" (top 50) f fd) (T:Txt K c) (G:Gc mg) (hB:MOk P w K mg base 1 c.W "has_begun" ["self"] (spBegun c)) {R:Addr} {fs:List Addr} (mR:mg "REPLIES"=some (.ref R)) (hT:∀ H,SqT K H R (fs.map V.ref)) (hR:RepOk P w K mg base c fs) :
  FnOk P w K mg base CX0 6 f fd ["works","number","given"] (spReply c):=by
 obtain ⟨fB,fdB,mB,GB,bB⟩:=hB
 refine F.ok scReply (fun vs H Q E h=>?_) (fun cdv A outer s H vs Q E hr h=>?_)
 ·obtain ⟨Kp,p,i,g,st,ns,rfl,_⟩:=h
  rfl
 ·obtain ⟨Kp,p,i,g,st,ns,rfl,hi,hst,hKp,hg,hok,k⟩:=h
  obtain ⟨a,hW,hw,hcase⟩:=hst.works
  obtain ⟨dx,lc,lj,lo,lr,rows,js,rs,dcs,W,nK⟩:=id hW
  have hGc:∀ f sp,(∃ i,fs[i]?=some f∧sp=spI c i)→∃ fd ps,FnOk P w K mg base CX0 5 f fd ps sp∧PySem.W.keepIn K (.ref f)=true∧Binds K fd ps []:=fun f sp ⟨i,h1,h2⟩=>by
   obtain ⟨fd,q1,q2,q3⟩:=hR.2 i f h1
   subst h2
   exact ⟨fd,_,q1,q2,q3⟩
  refine ⟨_,pss_cons (ps_if (PW.pt (pw_and (pt_cmpR op_ne (pv 1) (pe_gi (by rfl) G.beg) (nomark _)) (pw_and1 (pt_not (pt_val (pe_meth0 (pv 0) T.clW mB GB (hr.mono (by decide)) bB .nil pass0)))))) (pss_one (ps_ret (pe_lst (pa_cons (pe_gi (by rfl) G.nbeg) pa_nil)))) pss_nil)
   (pss_one (ps_ret (pe_callV (k:=5) (G:=fun f sp=>∃ i,fs[i]?=some f∧sp=spI c i) (pe_ix ix_tup (pe_glob (v:=.ref R) (by rfl) mR rfl) (pv 1) (fun _ _=>rfl)) hGc hr (pa_cons (pv 0) (pa_cons (pv 2) pa_nil))))),?_⟩
  obtain ⟨fi,hfi⟩:∃ fi,fs[i]?=some fi:=⟨fs[i]'(by rw [hR.1]; exact hi),List.getElem?_eq_getElem _⟩
  have hat:atI (fs.map V.ref) ((i:Nat):Int)=some (.ref fi):=atI_nat (by rw [List.getElem?_map,hfi]; rfl)
  by_cases h0:i=0
  ·subst h0
   have ok1:len1 ns:=hok
   obtain ⟨n,rfl⟩:=of1 ok1
   have hpost:Post c Kp H p Q (does a (.begin_ n)):=fun H' q kp hW' hq nq=>by
    by_cases hb:n=0∨FLAVOURS<n
    ·rw [show does a (.begin_ n)=(a,no (-22)) from if_pos hb] at hW' hq
     rcases hcase with ⟨rfl,rfl⟩ | ⟨rfl,hpos⟩
     ·have e:=begin_none n
      rw [if_pos hb] at e
      refine k H' q kp ?_ ?_ nq
      ·rw [show Su73.step none (clc 0 [n])=(none,no (-22)) from e]; exact hW'
      ·rw [show Su73.step none (clc 0 [n])=(none,no (-22)) from e]; exact hq
     ·refine k H' q kp ?_ ?_ nq
      ·rw [show Su73.step (some a) (clc 0 [n])=(some a,no (-22)) from by rw [step_some,show does a (clc 0 [n])=(a,no (-22)) from if_pos hb]]
       exact ⟨hW',hw,hpos⟩
      ·rw [show Su73.step (some a) (clc 0 [n])=(some a,no (-22)) from by rw [step_some,show does a (clc 0 [n])=(a,no (-22)) from if_pos hb]]
       exact hq
    ·rw [show does a (.begin_ n)=(new n,no 0) from if_neg hb] at hW' hq
     have n1:¬ n=0:=fun z=>hb (.inl z)
     have n2:¬ 7<n:=fun z=>hb (.inr z)
     have es:Su73.step st (clc 0 [n])=(some (new n),no 0):=by
      rcases hcase with ⟨rfl,rfl⟩ | ⟨rfl,hpos⟩
      ·have e:=begin_none n
       rw [if_neg hb] at e
       exact e
      ·rw [step_some,show does a (clc 0 [n])=(new n,no 0) from if_neg hb]
     refine k H' q kp ?_ ?_ nq
     ·rw [es]; exact ⟨hW',wf_new (by omega),by show 0<n; omega⟩
     ·rw [es]; exact hq
   have hsp:spI c 0 [.ref p,.ref g] H Q E0:=by
    unfold spI
    rw [if_pos rfl]
    exact ⟨Kp,p,g,a,[n],rfl,hW,hw,hKp,hg,rfl,hpost⟩
   exact ⟨_,rfl,rfl,_,rfl,iteF (iteF ⟨_,rfl,R,_,_,_,rfl,rfl,hT H,hat,fi,spI c 0,rfl,⟨0,hfi,rfl⟩,_,rfl,_,rfl,hsp⟩)⟩
  ·have h0':(!decide (V.int ((i:Nat):Int)=V.int 0))=true:=by
    have:¬ V.int ((i:Nat):Int)=V.int 0:=fun z=>by injection z with z; omega
    rw [decide_eq_false this]
    rfl
   refine ⟨_,rfl,rfl,_,rfl,ite2 (fun _=>⟨_,rfl,p,dx,_,rfl,W.obj,rfl,p,a,rfl,hW.r,_,rfl,ite2 (fun h=>?_) fun h=>?_⟩) fun z=>absurd h0' z⟩
   ·have hz:¬ 0<a.flavours:=fun z=>by rw [decide_eq_true z] at h; cases h
    rcases hcase with ⟨rfl,rfl⟩ | ⟨rfl,hpos⟩
    ·refine ⟨by show 1≤sizeLine; decide,fun l hl=>?_⟩
     have es:=step_none hi h0 ns
     refine k _ l (same_keeps (Same.upd_new (Same.refl H) hl)) ?_ ?_ (nk hKp (Keeps.refl Kp H) hl)
     ·rw [es]; exact hW.mono (Same.upd_new (Same.refl H) hl)
     ·rw [es,upd_same]; rfl
    ·exact absurd hpos hz
   ·have hz:0<a.flavours:=by
     rcases Nat.lt_or_ge 0 a.flavours with z | z
     ·exact z
     ·exact absurd (show (!decide (0<a.flavours))=true by rw [decide_eq_false (by omega)]; rfl) h
    rcases hcase with ⟨rfl,rfl⟩ | ⟨rfl,hpos⟩
    ·exact absurd hz (by decide)
    ·have hsp:spI c i [.ref p,.ref g] H Q E0:=by
      unfold spI
      rw [if_neg h0]
      refine ⟨Kp,p,g,a,ns,rfl,hW,hw,hpos,hKp,hg,hok,fun H' q kp hW' hq nq=>k H' q kp ?_ ?_ nq⟩
      ·rw [step_some]; exact ⟨hW',wf_does hw _ hpos⟩
      ·rw [step_some]; exact hq
     exact ⟨_,rfl,R,_,_,_,rfl,rfl,hT H,hat,fi,spI c i,rfl,⟨i,hfi,rfl⟩,_,rfl,_,rfl,hsp⟩
end
end FR
namespace FR
open PySem PySem.Spec PyProof.Rows L2 N2 Fr Su73
def szV:List V:=[.int 1,.int 3,.int 3,.int 1,.int 1,.int 1,.int 0,.int 0,.int 0,.non,.int 3,.int 0,.int 0,.int 1,.int 2,.int 0,.int 1,.int 0,.int 0,.int 0]
theorem szV_at {i:Nat} (hi:i<20) (h9:i≠9):szV[i]?=some (.int ((szc i:Nat):Int)):=by
 match i,hi,h9 with
 | 0,_,_=>rfl
 | 1,_,_=>rfl
 | 2,_,_=>rfl
 | 3,_,_=>rfl
 | 4,_,_=>rfl
 | 5,_,_=>rfl
 | 6,_,_=>rfl
 | 7,_,_=>rfl
 | 8,_,_=>rfl
 | 9,_,h=>exact absurd rfl h
 | 10,_,_=>rfl
 | 11,_,_=>rfl
 | 12,_,_=>rfl
 | 13,_,_=>rfl
 | 14,_,_=>rfl
 | 15,_,_=>rfl
 | 16,_,_=>rfl
 | 17,_,_=>rfl
 | 18,_,_=>rfl
 | 19,_,_=>rfl
 | n+20,h,_=>omega
def stepf (s:Option Abs) (c:List (List Int)):Option Abs×List Int:=Su73Neutral.step s (c.headD [])
theorem cut_calls (ns:List Int) {lo sz:Nat} (h:lo+sz≤ns.length) {gs:List Nat} (e:(ns.drop lo).take sz=castN gs) (z:Int) (hz:z=((lo+sz:Nat):Int)):cutV (ns.map V.int) (some (lo:Int)) (some z)=intsV gs:=by
 unfold cutV
 rw [hz,HT.sIx_nat,HT.sIx_nat,List.length_map,Nat.min_eq_left h,Nat.min_eq_left (show lo≤ns.length by omega),Nat.add_sub_cancel_left,← List.map_drop,← List.map_take,e]
 unfold castN intsV
 rw [List.map_map]
 rfl
theorem WorksAt.rekp {c:Cs} {Kp Kp':Addr→Prop} {H:Hp} {p:Addr} {a:Abs} (h:WorksAt c Kp H p a) (f:∀ b,H b≠none→¬ Kp b→¬ Kp' b):WorksAt c Kp' H p a:=by
 obtain ⟨dx,lc,lj,lo,lr,rows,js,rs,dcs,W,k⟩:=h
 refine ⟨dx,lc,lj,lo,lr,rows,js,rs,dcs,W,fun b hb=>f b ?_ (k b hb)⟩
 have nn:∀ {b:Addr} {o:HO},H b=some o→H b≠none:=fun e z=>by rw [e] at z; cases z
 rcases List.mem_cons.mp hb with rfl | hb
 ·exact nn W.obj
 ·rcases List.mem_cons.mp hb with rfl | hb
  ·exact nn W.hlc
  ·rcases List.mem_cons.mp hb with rfl | hb
   ·exact nn W.hlj
   ·rcases List.mem_cons.mp hb with rfl | hb
    ·exact nn W.hlo
    ·rcases List.mem_cons.mp hb with rfl | hb
     ·exact nn W.hlr
     ·obtain ⟨j,hj⟩:=List.getElem?_of_mem hb
      obtain ⟨x2,_,q2⟩:=paired_get W.hrw hj
      exact nn q2
theorem StAt.upd {c:Cs} {Kp:Addr→Prop} {H H':Hp} {p:Addr} {st:Option Abs} (h:StAt c Kp H p st) (k:∀ b o,¬ Kp b∨(∀ ys,o≠.lst ys)→H b=some o→H' b=some o):StAt c Kp H' p st:=by
 have key:∀ a,WorksAt c Kp H p a→WorksAt c Kp H' p a:=by
  rintro a ⟨dx,lc,lj,lo,lr,rows,js,rs,dcs,W,nK⟩
  have ki:∀ {b C d:Addr} {fs:List (Str×V)},H b=some (.ins C d fs)→H' b=some (.ins C d fs):=fun e=>k _ _ (.inr fun ys z=>nomatch z) e
  exact ⟨dx,lc,lj,lo,lr,rows,js,rs,dcs,⟨ki W.obj,k _ _ (.inl (nK _ (by simp))) W.hlc,paired_mem W.hrw fun b hb x q=>k _ _ (.inl (nK _ (by simp [hb]))) q,k _ _ (.inl (nK _ (by simp))) W.hlj,Paired.mapP W.hjb fun _ _ ⟨d,q⟩=>⟨d,ki q⟩,k _ _ (.inl (nK _ (by simp))) W.hlo,k _ _ (.inl (nK _ (by simp))) W.hlr,Paired.mapP W.hrs fun _ _ ⟨d,q⟩=>⟨d,ki q⟩,W.dn,W.chd,W.nd⟩,nK⟩
 cases st with
 | none=>exact key _ h
 | some a=>exact ⟨key a h.1,h.2⟩
theorem told_cons (x:List Int) (l:List (List Int)):PyFlat.told (x::l)=(x.length:Int)::x++PyFlat.told l:=rfl
def spAns (K:PySem.W.Frag):Sp:=fun vs H Q _=>∃ (a:Addr) (ns:List Int),vs=[.ref a]∧SqL K H a (ns.map V.int)∧PySu73.answers_asked ns=true∧∀ (H':Hp) (p:Addr),H' p=some (.lst ((PySu73.answers ns).map V.int))→Q (.ref p) H'
theorem asked_is {ns:List Int} (h:PySu73.answers_asked ns=true):∃ raw,PyFlat.calls PySu73.shape ns.length ns=some raw∧(∀ c ∈ raw,good c)∧PySu73.answers ns=PyFlat.told (PyFlat.played stepf none (raw.map PySu73.whole))∧(PySu73.answers ns).length≤10000000:=by
 unfold PySu73.answers_asked at h
 cases q:PyFlat.calls PySu73.shape ns.length ns with
 | none=>rw [q] at h; cases h
 | some raw =>
  rw [q] at h
  simp only at h
  rw [Bool.and_eq_true,Bool.and_eq_true] at h
  obtain ⟨⟨_,h1⟩,h2⟩:=h
  refine ⟨raw,rfl,fun c hc=>?_,?_,of_decide_eq_true h2⟩
  ·unfold Su73Neutral.asked at h1
   rw [Bool.and_eq_true] at h1
   exact List.all_eq_true.mp h1.2 _ (List.mem_map.mpr ⟨_,List.mem_map.mpr ⟨c,hc,rfl⟩,rfl⟩)
  ·unfold PySu73.answers PySu73.calls
   rw [q]
   rfl
section
variable {P:Program} {w:World} {K:PySem.W.Frag} {mg:Str→Option Value} {base:Heap} {c:Cs}
theorem scAns:FnScope ["calls","works","told","at","number","start","size","answer"] ["calls"] (defScope (top 53)):=⟨rfl,rfl,rfl,by decide +kernel,rfl,by decide +kernel,by decide +kernel⟩
def muA (n:Nat) (σ:L2.St):Nat:=n - (match σ[3]? with | some (some (V.int z))=>z.toNat | _=>0)
theorem ok_ans {f:Addr} {fd:FuncData} (F:Fun K "answers" "answers" (top 53) f fd) (T:Txt K c) (G:Gc mg) (hM:KOk P w K mg base 2 "Works" c.W ["self"] (spWInit c)) (hR:GOk P w K mg base 6 "reply" ["works","number","given"] (spReply c)) {S:Addr} (mS:mg "SIZES"=some (.ref S)) (hS:∀ H,SqT K H S szV) :
  FnOk P w K mg base CX0 7 f fd ["calls"] (spAns K):=by
 obtain ⟨fM,fdM,mM,MM,GM,bM⟩:=hM
 obtain ⟨fR,fdR,mR,kR,GR,bR⟩:=hR
 refine F.ok scAns (fun vs H Q E h=>?_) (fun cdv A outer s H vs Q E hr h=>?_)
 ·obtain ⟨a,ns,rfl,_⟩:=h
  rfl
 ·obtain ⟨ca,ns,rfl,hca,hask,k⟩:=h
  obtain ⟨raw0,hraw0,hgood0,hans,hshort⟩:=asked_is hask
  have nd:=scAns.nd
  refine ⟨_,pss_cons (ps_set (i:=1) nd rfl (Or.inl rfl) (pe_make0 MM GM (hr.mono (by decide)) (by rfl) mM bM .nil pass0))
   (pss_cons (ps_set (i:=2) nd rfl (Or.inl rfl) (pe_lst pa_nil))
   (pss_cons (ps_set (i:=3) nd rfl (Or.inl rfl) pe_int)
   (pss_cons (ps_while PassesOwn.never (pt_cmpR op_lt (pv 3) (pe_callB call_len_seq (by rfl) G.len PySem.boot_len (pa_cons (pv 0) pa_nil)) (nomark _))
    (pss_cons (ps_set (i:=4) nd rfl (Or.inl rfl) (pe_ix ix_list (pv 0) (pv 3) (fun _ _=>rfl)))
    (pss_cons (ps_set (i:=5) nd rfl (Or.inl rfl) (pe_op op_add (pv 3) pe_int))
    (pss_cons (ps_set (i:=6) nd rfl (Or.inl rfl) (pe_ix ix_tup (pe_glob (v:=.ref S) (by rfl) mS rfl) (pv 4) (fun _ _=>rfl)))
    (pss_cons (ps_if (pt_cmp (pc_isN (pv 6))) (pss_cons (ps_set (i:=6) nd rfl (Or.inl rfl) (pe_ix ix_list (pv 0) (pv 5) (fun _ _=>rfl))) (pss_one (ps_aug (i:=5) nd rfl (Or.inl rfl) pe_int ip_add))) pss_nil)
    (pss_cons (ps_set (i:=3) nd rfl (Or.inl rfl) (pe_op op_add (pv 5) (pv 6)))
    (pss_cons (ps_set (i:=7) nd rfl (Or.inl rfl) (pe_call GR hr (by rfl) mR kR bR .nil pass0 (pa_cons (pv 1) (pa_cons (pv 4) (pa_cons (pe_slice sl_list (pv 0) (po_some (pv 5)) (po_some (pv 3))) pa_nil)))))
    (pss_cons (ps_expr (pe_bm PySem.F.plainAttrs_list PySem.F.slot_list_append PySem.F.type_list_append mt_append (pv 2) (pa_cons (pe_callB call_len_seq (by rfl) G.len PySem.boot_len (pa_cons (pv 7) pa_nil)) pa_nil)))
    (pss_one (ps_expr (pe_bm PySem.F.plainAttrs_list PySem.F.slot_list_extend PySem.F.type_list_extend mt_extend (pv 2) (pa_cons (pv 7) pa_nil))))))))))))
   (pss_one (ps_ret (pv 2)))))),?_⟩
  intro x dx nx ndx nex
  refine ⟨fun b=>H b≠none,x,dx,rfl,upd_same,fun z=>z nx,fun b hb=>?_,fun H1 hW kp1 fr=>⟨rfl,?_⟩⟩
  ·by_cases h1:b=x
   ·rw [h1,upd_same]; exact fun z=>nomatch z
   ·by_cases h2:b=dx
    ·rw [upd_ne h1,h2,upd_same]; exact fun z=>nomatch z
    ·rw [upd_ne h1,upd_ne h2]; exact hb
  have s1:Same H H1:=Same.made nx ndx fr
  refine ⟨Nat.zero_le _,fun t ht=>?_⟩
  have hW2:WorksAt c (fun b=>H b≠none∨b=t) H1 x (new 0):=hW.rekp fun b hb nk z=>by
   rcases z with z | z
   ·exact nk z
   ·rw [z] at hb; exact hb ht
  have s2:Same H1 (upd H1 t (.lst [])):=Same.upd_new (Same.refl H1) ht
  refine while_by (fun σ H'=>∃ (at_:Nat) (v4 v5 v6 v7:Option V) (st:Option Abs) (raw:List (List (List Int))) (f:Nat) (tl:List Int),σ=[some (.ref ca),some (.ref x),some (.ref t),some (.int (at_:Int)),v4,v5,v6,v7]∧at_≤ns.length∧Same H H'∧StAt c (fun b=>H b≠none∨b=t) H' x st∧H' t=some (.lst (tl.map V.int)) ∧
    PyFlat.calls PySu73.shape f (ns.drop at_)=some raw∧(∀ c ∈ raw,good c)∧PySu73.answers ns=tl++PyFlat.told (PyFlat.played stepf st (raw.map PySu73.whole))) (fun σ _=>muA ns.length σ) ?_ ?_ ?_
  ·exact ⟨0,none,none,none,none,none,raw0,ns.length,[],rfl,Nat.zero_le _,s1.trans s2,hW2.mono s2,upd_same,hraw0,hgood0,hans⟩
  ·rintro σ H' ⟨at_,v4,v5,v6,v7,st,raw,f,tl,rfl,hat,sH,hst,htl,hraw,hgood,hA⟩
   have hca':SqL K H' ca (ns.map V.int):=sH.seq hca
   have htlen:tl.length≤10000000:=by
    have:=hshort
    rw [hA,List.length_append] at this
    omega
   refine ⟨_,rfl,_,rfl,ca,_,rfl,.inl hca',_,_,rfl,rfl,_,rfl,ite2 (fun hlt=>?_) fun hge=>?_⟩
   rotate_left
   ·have hge':¬ at_<ns.length:=fun z=>hge (decide_eq_true (by rw [List.length_map]; omega))
    have e0:ns.drop at_=[]:=List.drop_eq_nil_of_le (by omega)
    rw [e0] at hraw
    have er:raw=[]:=by
     cases f with
     | zero=>exact (Option.some.inj hraw).symm
     | succ f=>exact (Option.some.inj hraw).symm
    subst er
    have hA':PySu73.answers ns=tl:=by rw [hA]; exact List.append_nil tl
    rw [← hA'] at htl
    exact ⟨_,rfl,k H' t htl⟩
   ·have hlt':at_<ns.length:=by
     have:=of_decide_eq_true hlt
     rw [List.length_map] at this
     omega
    have hdr:ns.drop at_=ns[at_]::ns.drop (at_+1):=List.drop_eq_getElem_cons hlt'
    rw [hdr] at hraw
    obtain ⟨i,gs,cc,raw',f',hx,hr',D,hcase⟩:=dec_step hraw hgood
    have hnum:atI (ns.map V.int) ((at_:Nat):Int)=some (.int ((i:Nat):Int)):=atI_nat (by
     rw [List.getElem?_map,List.getElem?_eq_getElem hlt']
     show some (V.int ns[at_])=_
     rw [hx])
    have hst1:stepf st (PySu73.whole cc)=((Su73.step st (clc i gs)).1,ansI (Su73.step st (clc i gs)).2):=D.st st
    have hA2:PySu73.answers ns=(tl++(((ansI (Su73.step st (clc i gs)).2).length:Int)::ansI (Su73.step st (clc i gs)).2))++PyFlat.told (PyFlat.played stepf (Su73.step st (clc i gs)).1 (raw'.map PySu73.whole)):=by
     rw [hA,hr']
     show tl++PyFlat.told ((stepf st (PySu73.whole cc)).2::PyFlat.played stepf (stepf st (PySu73.whole cc)).1 (raw'.map PySu73.whole))=_
     rw [hst1,told_cons,List.append_assoc]
    have hlen2:tl.length+(1+(ansI (Su73.step st (clc i gs)).2).length)≤10000000:=by
     have:=hshort
     rw [hA2,List.length_append,List.length_append,List.length_cons] at this
     omega
    have hgood':∀ c ∈ raw',good c:=fun c hc=>hgood c (by rw [hr']; exact List.mem_cons_of_mem _ hc)
    have hHt:H t=none:=s1.free ht
    have szl:sizeLine=16777216:=sizeLine_eq
    rcases hcase with ⟨h9,hsz,hgs,hcs⟩ | ⟨h9,r,hrest,hgl9,hgs,hcs⟩
    ·rw [List.length_drop] at hsz
     refine ⟨_,rfl,_,rfl,ca,_,_,_,rfl,rfl,hca',hnum,_,rfl,_,_,rfl,rfl,_,rfl,S,_,_,_,rfl,rfl,hS H',atI_nat (szV_at D.lt h9),_,rfl,_,rfl,iteF ?_⟩
     refine ⟨_,rfl,_,rfl,_,_,rfl,rfl,_,rfl,_,rfl,_,rfl,_,rfl,_,rfl,_,rfl,_,rfl,ca,_,rfl,hca',fun g hg=>?_⟩
     have eg:cutV (ns.map V.int) (some (((at_:Nat):Int)+1:Int)) (some ((((at_:Nat):Int)+1:Int)+(((szc i:Nat):Int):Int)))=intsV gs:=cut_calls ns (lo:=at_+1) (sz:=szc i) (by omega) hgs _ (by omega)
     have sG:Same H' (upd H' g (.lst (cutV (ns.map V.int) (some (((at_:Nat):Int)+1:Int)) (some ((((at_:Nat):Int)+1:Int)+(((szc i:Nat):Int):Int)))))):=Same.upd_new (Same.refl H') hg
     have hgl:upd H' g (.lst (cutV (ns.map V.int) (some (((at_:Nat):Int)+1:Int)) (some ((((at_:Nat):Int)+1:Int)+(((szc i:Nat):Int):Int))))) g=some (.lst (intsV gs)):=by rw [upd_same,eg]
     refine ⟨fun b=>H b≠none∨b=t,x,i,g,st,gs,rfl,D.lt,hst.upd (fun b o _ e=>sG _ _ e),fun b hb=>?_,hgl,D.ok,fun H2 q kp2 hst2 hq nq=>?_⟩
     ·rcases hb with hb | rfl
      ·cases e:H b with
       | none=>exact absurd e hb
       | some o=>rw [sG _ _ (sH _ _ e)]; exact fun z=>nomatch z
      ·rw [sG _ _ htl]; exact fun z=>nomatch z
     have htl2:H2 t=some (.lst (tl.map V.int)):=kp2 t _ (.inr rfl) (sG _ _ htl)
     have nqt:q≠t:=fun z=>nq (.inr z)
     have hq3:upd H2 t (.lst (tl.map V.int++[V.int (((ansI (Su73.step st (clc i gs)).2).map V.int).length:Int)])) q=some (.lst ((ansI (Su73.step st (clc i gs)).2).map V.int)):=(upd_ne nqt).trans hq
     refine ⟨_,rfl,.inl ⟨rfl,_,SqL.of htl2⟩,_,rfl,q,_,rfl,.inl (SqL.of hq),t,_,_,rfl,rfl,htl2,by rw [List.length_map]; omega,_,rfl,.inl ⟨rfl,_,SqL.of upd_same⟩,_,rfl,t,q,_,_,rfl,rfl,upd_same,hq3,by rw [List.length_append,List.length_map,List.length_map,List.length_singleton]; omega,?_⟩
     refine ⟨⟨at_+1+szc i,_,_,_,_,(Su73.step st (clc i gs)).1,raw',f',_,by show [_,_,_,some (V.int (((at_:Nat):Int)+1+((szc i:Nat):Int))),_,_,_,_]=_; rw [show ((at_:Nat):Int)+1+((szc i:Nat):Int)=((at_+1+szc i:Nat):Int) by omega],by omega,fun b o e=>?_,hst2.upd fun b o hor e=>?_,?_,by rw [List.drop_drop] at hcs; exact hcs,hgood',hA2⟩,?_⟩
     ·have hb:b≠t:=ne_of_none e hHt
      rw [upd_ne hb,upd_ne hb]
      exact kp2 b o (.inl (by rw [e]; exact fun z=>nomatch z)) (sG _ _ (sH _ _ e))
     ·have hb:b≠t:=fun z=>by
       rcases hor with h | h
       ·exact h (.inr z)
       ·rw [z,htl2] at e
        cases e
        exact h _ rfl
      rw [upd_ne hb,upd_ne hb]
      exact e
     ·rw [upd_same,List.length_map,List.map_append,List.map_cons,List.append_assoc]
      rfl
     ·show ns.length - ((((at_:Nat):Int)+1+((szc i:Nat):Int))).toNat<ns.length - ((at_:Nat):Int).toNat
      omega
    ·have hlr:(ns.drop (at_+1)).length=r.length+1:=by rw [hrest,List.length_cons]
     rw [List.length_drop] at hlr
     have hlt2:at_+1<ns.length:=by omega
     have hd2:ns.drop (at_+1)=ns[at_+1]::ns.drop (at_+1+1):=List.drop_eq_getElem_cons hlt2
     rw [hd2] at hrest
     injection hrest with hr1 hr2
     have hnum2:atI (ns.map V.int) (((at_:Nat):Int)+1)=some (.int ((gs.length:Nat):Int)):=at_of (j:=at_+1) (by omega) (by
      rw [List.getElem?_map,List.getElem?_eq_getElem hlt2]
      show some (V.int ns[at_+1])=_
      rw [hr1])
     rw [← hr2] at hgs hcs
     refine ⟨_,rfl,_,rfl,ca,_,_,_,rfl,rfl,hca',hnum,_,rfl,_,_,rfl,rfl,_,rfl,S,_,_,_,rfl,rfl,hS H',(show atI szV ((i:Nat):Int)=some V.non by rw [h9]; rfl),_,rfl,_,rfl,iteT ⟨_,rfl,_,rfl,ca,_,_,_,rfl,rfl,hca',hnum2,_,rfl,_,_,rfl,rfl,?_⟩⟩
     refine ⟨_,rfl,_,rfl,_,_,rfl,rfl,_,rfl,_,rfl,_,rfl,_,rfl,_,rfl,_,rfl,_,rfl,ca,_,rfl,hca',fun g hg=>?_⟩
     have eg:cutV (ns.map V.int) (some (((at_:Nat):Int)+1+1:Int)) (some ((((at_:Nat):Int)+1+1:Int)+(((gs.length:Nat):Int):Int)))=intsV gs:=cut_calls ns (lo:=at_+1+1) (sz:=gs.length) (by omega) hgs _ (by omega)
     have sG:Same H' (upd H' g (.lst (cutV (ns.map V.int) (some (((at_:Nat):Int)+1+1:Int)) (some ((((at_:Nat):Int)+1+1:Int)+(((gs.length:Nat):Int):Int)))))):=Same.upd_new (Same.refl H') hg
     have hgl:upd H' g (.lst (cutV (ns.map V.int) (some (((at_:Nat):Int)+1+1:Int)) (some ((((at_:Nat):Int)+1+1:Int)+(((gs.length:Nat):Int):Int))))) g=some (.lst (intsV gs)):=by rw [upd_same,eg]
     refine ⟨fun b=>H b≠none∨b=t,x,i,g,st,gs,rfl,D.lt,hst.upd (fun b o _ e=>sG _ _ e),fun b hb=>?_,hgl,D.ok,fun H2 q kp2 hst2 hq nq=>?_⟩
     ·rcases hb with hb | rfl
      ·cases e:H b with
       | none=>exact absurd e hb
       | some o=>rw [sG _ _ (sH _ _ e)]; exact fun z=>nomatch z
      ·rw [sG _ _ htl]; exact fun z=>nomatch z
     have htl2:H2 t=some (.lst (tl.map V.int)):=kp2 t _ (.inr rfl) (sG _ _ htl)
     have nqt:q≠t:=fun z=>nq (.inr z)
     have hq3:upd H2 t (.lst (tl.map V.int++[V.int (((ansI (Su73.step st (clc i gs)).2).map V.int).length:Int)])) q=some (.lst ((ansI (Su73.step st (clc i gs)).2).map V.int)):=(upd_ne nqt).trans hq
     refine ⟨_,rfl,.inl ⟨rfl,_,SqL.of htl2⟩,_,rfl,q,_,rfl,.inl (SqL.of hq),t,_,_,rfl,rfl,htl2,by rw [List.length_map]; omega,_,rfl,.inl ⟨rfl,_,SqL.of upd_same⟩,_,rfl,t,q,_,_,rfl,rfl,upd_same,hq3,by rw [List.length_append,List.length_map,List.length_map,List.length_singleton]; omega,?_⟩
     refine ⟨⟨at_+1+1+gs.length,_,_,_,_,(Su73.step st (clc i gs)).1,raw',f',_,by show [_,_,_,some (V.int (((at_:Nat):Int)+1+1+((gs.length:Nat):Int))),_,_,_,_]=_; rw [show ((at_:Nat):Int)+1+1+((gs.length:Nat):Int)=((at_+1+1+gs.length:Nat):Int) by omega],by omega,fun b o e=>?_,hst2.upd fun b o hor e=>?_,?_,by rw [List.drop_drop] at hcs; exact hcs,hgood',hA2⟩,?_⟩
     ·have hb:b≠t:=ne_of_none e hHt
      rw [upd_ne hb,upd_ne hb]
      exact kp2 b o (.inl (by rw [e]; exact fun z=>nomatch z)) (sG _ _ (sH _ _ e))
     ·have hb:b≠t:=fun z=>by
       rcases hor with h | h
       ·exact h (.inr z)
       ·rw [z,htl2] at e
        cases e
        exact h _ rfl
      rw [upd_ne hb,upd_ne hb]
      exact e
     ·rw [upd_same,List.length_map,List.map_append,List.map_cons,List.append_assoc]
      rfl
     ·show ns.length - ((((at_:Nat):Int)+1+1+((gs.length:Nat):Int))).toNat<ns.length - ((at_:Nat):Int).toNat
      omega
  ·rintro σ H Q Q' m ⟨x,hx,y,hy,p,ys,e1,e2,i,j,e3,e4,kk,e5,q⟩
   exact ⟨x,hx,y,hy,p,ys,e1,e2,i,j,e3,e4,kk,e5,m _ _ q⟩
end
end FR
namespace FR
open PySem PySem.Spec PyProof.Rows L2 N2 Fr Su73
structure GAt (K:PySem.W.Frag) (x:Str) (st:Stmt) (f:Addr):Prop where
 a:PySem.W.nsIn K mainGlobals x=some (some (.ref f))
 fn:∃ fd,Fun K x x st f fd
structure MAt (K:PySem.W.Frag) (C:Addr) (m qual:Str) (st:Stmt) (f:Addr):Prop where
 a:PySem.W.findIn K (.ref C) m=some (some (.ref f))
 i:PySem.W.isFn K (.ref f)=true
 fn:∃ fd,Fun K m qual st f fd
theorem gat_mk {K:PySem.W.Frag} {x:Str} {st:Stmt} {f:Addr} {oc:Value} {od an:Option Addr} {osl:Array (Option Value)} {kV doc pm cdv ct:Value} (a:PySem.W.nsIn K mainGlobals x=some (some (.ref f))) (l:K.lookup f=some ⟨oc,od,.func (PySem.W.fnOf x x (defArgs st) (defBody st) (defScope st) .none kV doc pm an cdv ct),osl⟩)
  (c:PySem.W.codeIn K cdv x=true) (k:PySem.W.keepIn K (.ref f)=true):GAt K x st f:=⟨a,_,fun_mk l c k⟩
theorem mat_mk {K:PySem.W.Frag} {C:Addr} {m qual:Str} {st:Stmt} {f:Addr} {oc:Value} {od an:Option Addr} {osl:Array (Option Value)} {kV doc pm cdv ct:Value} (a:PySem.W.findIn K (.ref C) m=some (some (.ref f))) (i:PySem.W.isFn K (.ref f)=true) (l:K.lookup f=some ⟨oc,od,.func (PySem.W.fnOf m qual (defArgs st) (defBody st) (defScope st) .none kV doc pm an cdv ct),osl⟩)
  (c:PySem.W.codeIn K cdv qual=true) (k:PySem.W.keepIn K (.ref f)=true):MAt K C m qual st f:=⟨a,i,_,fun_mk l c k⟩
structure ClAt (K:PySem.W.Frag) (x:Str) (C:Addr):Prop where
 a:PySem.W.nsIn K mainGlobals x=some (some (.ref C))
 pg:PySem.W.plainGet K C Str.empty=true
 hd:PySem.W.hasDictIn K C=true
 po:PySem.W.plainOver K C=true
 sa:PySem.W.findIn K (.ref C) "__setattr__"=some (some (.builtin "object.__setattr__"))
 mks:PySem.W.makesIn K C=true
 kc:PySem.W.keepIn K (.ref C)=true
section
variable {P:Program} {w:World} {K:PySem.W.Frag} {mg:Str→Option Value} {base:Heap} {c:Cs}
theorem mk_m {C:Addr} {m qual:Str} {st:Stmt} {f:Addr} {k:Nat} {ps:List Str} {sp:Sp} (h:MAt K C m qual st f) (bd:∀ (kV doc pm:Value) (an:Option Addr) (cdv ct:Value) (us:List Value),us.length=ps.length→bindArgs (PySem.W.fnOf m qual (defArgs st) (defBody st) (defScope st) .none kV doc pm an cdv ct) ⟨us,[]⟩=pure (ps.zip us))
  (ok:∀ fd,Fun K m qual st f fd→FnOk P w K mg base CX0 k f fd ps sp):MOk P w K mg base k C m ps sp:=by
 obtain ⟨fd,F⟩:=h.fn
 exact ⟨f,fd,⟨h.a,h.i,F.kp⟩,ok fd F,F.binds bd⟩
theorem mk_k {C:Addr} {x qual:Str} {st:Stmt} {f:Addr} {k:Nat} {ps:List Str} {sp:Sp} (hc:ClAt K x C) (mx:mg x=some (.ref C)) (h:MAt K C "__init__" qual st f) (bd:∀ (kV doc pm:Value) (an:Option Addr) (cdv ct:Value) (us:List Value),us.length=ps.length→bindArgs (PySem.W.fnOf "__init__" qual (defArgs st) (defBody st) (defScope st) .none kV doc pm an cdv ct) ⟨us,[]⟩=pure (ps.zip us))
  (ok:∀ fd,Fun K "__init__" qual st f fd→FnOk P w K mg base CX0 k f fd ps sp):KOk P w K mg base k x C ps sp:=by
 obtain ⟨fd,F⟩:=h.fn
 exact ⟨f,fd,mx,⟨hc.mks,h.a,h.i,hc.kc⟩,ok fd F,F.binds bd⟩
theorem mk_g {x:Str} {st:Stmt} {f:Addr} {k:Nat} {ps:List Str} {sp:Sp} (h:GAt K x st f) (mx:mg x=some (.ref f)) (bd:∀ (kV doc pm:Value) (an:Option Addr) (cdv ct:Value) (us:List Value),us.length=ps.length→bindArgs (PySem.W.fnOf x x (defArgs st) (defBody st) (defScope st) .none kV doc pm an cdv ct) ⟨us,[]⟩=pure (ps.zip us))
  (ok:∀ fd,Fun K x x st f fd→FnOk P w K mg base CX0 k f fd ps sp):GOk P w K mg base k x ps sp:=by
 obtain ⟨fd,F⟩:=h.fn
 exact ⟨f,fd,mx,F.kp,ok fd F,F.binds bd⟩
theorem mk_r {x:Str} {st:Stmt} {f:Addr} {sp:Sp} (h:GAt K x st f) (bd:∀ (kV doc pm:Value) (an:Option Addr) (cdv ct:Value) (us:List Value),us.length=(["works","given"]:List Str).length→bindArgs (PySem.W.fnOf x x (defArgs st) (defBody st) (defScope st) .none kV doc pm an cdv ct) ⟨us,[]⟩=pure ((["works","given"]:List Str).zip us))
  (ok:∀ fd,Fun K x x st f fd→FnOk P w K mg base CX0 5 f fd ["works","given"] sp):∃ fd,FnOk P w K mg base CX0 5 f fd ["works","given"] sp∧PySem.W.keepIn K (.ref f)=true∧Binds K fd ["works","given"] []:=by
 obtain ⟨fd,F⟩:=h.fn
 exact ⟨fd,ok fd F,F.kp,F.binds bd⟩
end
theorem all_mk {P:Program} {w:World} {K:PySem.W.Frag} {h:Heap} {mg:Str→Option Value} {fa cw cj cr R S fw0 fw1 fw2 fw3 fw4 fw5 fw6 fw7 fw8 fw9 fw10 fj0 fj1 fu0 fg0 fg1 fg2 fg3 fg4 fg5 fg6 fg7 fg8 fg9 fg10 fr0 fr1 fr2 fr3 fr4 fr5 fr6 fr7 fr8 fr9 fr10 fr11 fr12 fr13 fr14 fr15 fr16 fr17 fr18 fr19 fa2:Addr} {t0 t1 t2 t3 t4 t5 t6 t7 t8 t9 t10 t11 y0 y1 y2 y3 y4 y5 y6 y7 y8 y10 y11 y12 y13 y14 y15 y16 y17 y18 y19:Tok} {nR nS:Nat} (X:K.In h) (G0:h.Ns mainGlobals mg) (hfa:mg "answers"=some (.ref fa))
  (cW:ClAt K "Works" cw) (cJ:ClAt K "Job" cj) (cR:ClAt K "Run" cr)
  (w0:MAt K cw "__init__" "Works.__init__" (inClass (top 11) 0) fw0)
  (w1:MAt K cw "restart" "Works.restart" (inClass (top 11) 1) fw1)
  (w2:MAt K cw "has_begun" "Works.has_begun" (inClass (top 11) 2) fw2)
  (w3:MAt K cw "has_flavour" "Works.has_flavour" (inClass (top 11) 3) fw3)
  (w4:MAt K cw "has_job" "Works.has_job" (inClass (top 11) 4) fw4)
  (w5:MAt K cw "is_open" "Works.is_open" (inClass (top 11) 5) fw5)
  (w6:MAt K cw "open_jobs" "Works.open_jobs" (inClass (top 11) 6) fw6)
  (w7:MAt K cw "change_minutes" "Works.change_minutes" (inClass (top 11) 7) fw7)
  (w8:MAt K cw "change_if_next" "Works.change_if_next" (inClass (top 11) 8) fw8)
  (w9:MAt K cw "end_if_next" "Works.end_if_next" (inClass (top 11) 9) fw9)
  (w10:MAt K cw "late_if_next" "Works.late_if_next" (inClass (top 11) 10) fw10)
  (j0:MAt K cj "__init__" "Job.__init__" (inClass (top 9) 0) fj0) (j1:MAt K cj "lateness" "Job.lateness" (inClass (top 9) 1) fj1) (u0:MAt K cr "__init__" "Run.__init__" (inClass (top 10) 0) fu0)
  (g0:GAt K "ends_in_order" (top 1) fg0)
  (g1:GAt K "worth_going_on" (top 2) fg1)
  (g2:GAt K "one_job_further" (top 3) fg2)
  (g3:GAt K "best_way" (top 4) fg3)
  (g4:GAt K "one_flavour_further" (top 6) fg4)
  (g5:GAt K "best_ring" (top 7) fg5)
  (g6:GAt K "job_refusal" (top 27) fg6)
  (g7:GAt K "nothing" (top 32) fg7)
  (g8:GAt K "one_if_late" (top 33) fg8)
  (g9:GAt K "minutes_late" (top 34) fg9)
  (g10:GAt K "reply" (top 50) fg10)
  (r0:GAt K "begin" (top 25) fr0)
  (r1:GAt K "change" (top 26) fr1)
  (r2:GAt K "add_job" (top 28) fr2)
  (r3:GAt K "drop" (top 29) fr3)
  (r4:GAt K "run" (top 30) fr4)
  (r5:GAt K "wait" (top 31) fr5)
  (r6:GAt K "best" (top 35) fr6)
  (r7:GAt K "fewest" (top 36) fr7)
  (r8:GAt K "least" (top 37) fr8)
  (r9:GAt K "times" (top 38) fr9)
  (r10:GAt K "would" (top 39) fr10)
  (r11:GAt K "ring" (top 40) fr11)
  (r12:GAt K "hopeless" (top 41) fr12)
  (r13:GAt K "soon" (top 42) fr13)
  (r14:GAt K "turn" (top 43) fr14)
  (r15:GAt K "list_open" (top 44) fr15)
  (r16:GAt K "look" (top 45) fr16)
  (r17:GAt K "done" (top 46) fr17)
  (r18:GAt K "sums" (top 47) fr18)
  (r19:GAt K "state" (top 48) fr19)
  (ga:GAt K "answers" (top 53) fa2)
  (i0:PySem.W.nsIn K mainGlobals "NONE_SUCH"=some (some (.int (-2) t0)))
  (i1:PySem.W.nsIn K mainGlobals "NOT_BEGUN"=some (some (.int (-11) t1)))
  (i2:PySem.W.nsIn K mainGlobals "OUT_OF_RANGE"=some (some (.int (-22) t2)))
  (i3:PySem.W.nsIn K mainGlobals "TOO_MANY"=some (some (.int (-28) t3)))
  (i4:PySem.W.nsIn K mainGlobals "MOST_FLAVOURS"=some (some (.int (7) t4)))
  (i5:PySem.W.nsIn K mainGlobals "MOST_CHANGE_MINUTES"=some (some (.int (500) t5)))
  (i6:PySem.W.nsIn K mainGlobals "MOST_JOB_MINUTES"=some (some (.int (1000) t6)))
  (i7:PySem.W.nsIn K mainGlobals "MOST_DUE"=some (some (.int (1000000) t7)))
  (i8:PySem.W.nsIn K mainGlobals "MOST_OPEN"=some (some (.int (7) t8)))
  (i9:PySem.W.nsIn K mainGlobals "MOST_JOBS"=some (some (.int (40) t9)))
  (i10:PySem.W.nsIn K mainGlobals "MOST_WAIT"=some (some (.int (1000) t10)))
  (i11:PySem.W.nsIn K mainGlobals "BEGIN"=some (some (.int (0) t11)))
  (z0:PySem.W.nsIn K mainGlobals "len"=some none)
  (z1:PySem.W.nsIn K mainGlobals "max"=some none)
  (z2:PySem.W.nsIn K mainGlobals "min"=some none)
  (z3:PySem.W.nsIn K mainGlobals "range"=some none)
  (z4:PySem.W.nsIn K mainGlobals "enumerate"=some none)
  (z5:PySem.W.nsIn K mainGlobals "tuple"=some none)
  (z6:PySem.W.nsIn K mainGlobals "list"=some none)
  (z7:PySem.W.nsIn K mainGlobals "set"=some none)
  (z8:PySem.W.nsIn K mainGlobals "all"=some none)
  (z9:PySem.W.nsIn K mainGlobals "zip"=some none)
  (z10:PySem.W.nsIn K mainGlobals "sum"=some none)
  (z11:PySem.W.nsIn K mainGlobals "sorted"=some none)
  (nw0:PySem.W.findIn K (.ref cw) "flavours"=some none)
  (nw1:PySem.W.findIn K (.ref cw) "changes"=some none)
  (nw2:PySem.W.findIn K (.ref cw) "jobs"=some none)
  (nw3:PySem.W.findIn K (.ref cw) "to_run"=some none)
  (nw4:PySem.W.findIn K (.ref cw) "runs"=some none)
  (nw5:PySem.W.findIn K (.ref cw) "waited"=some none)
  (nw6:PySem.W.findIn K (.ref cw) "minute"=some none)
  (nw7:PySem.W.findIn K (.ref cw) "loaded"=some none)
  (nj0:PySem.W.findIn K (.ref cj) "flavour"=some none)
  (nj1:PySem.W.findIn K (.ref cj) "minutes"=some none)
  (nj2:PySem.W.findIn K (.ref cj) "due"=some none)
  (nr0:PySem.W.findIn K (.ref cr) "number"=some none)
  (nr1:PySem.W.findIn K (.ref cr) "change_took"=some none)
  (nr2:PySem.W.findIn K (.ref cr) "end"=some none)
  (nr3:PySem.W.findIn K (.ref cr) "late"=some none)
  (aR:PySem.W.nsIn K mainGlobals "REPLIES"=some (some (.ref R))) (lR:K.lookup R=some ⟨.type "tuple",none,.seq #[.ref fr0,.ref fr1,.ref fr2,.ref fr3,.ref fr4,.ref fr5,.ref fr6,.ref fr7,.ref fr8,.ref fr9,.ref fr10,.ref fr11,.ref fr12,.ref fr13,.ref fr14,.ref fr15,.ref fr16,.ref fr17,.ref fr18,.ref fr19] nR,#[]⟩)
  (aS:PySem.W.nsIn K mainGlobals "SIZES"=some (some (.ref S))) (lS:K.lookup S=some ⟨.type "tuple",none,.seq #[.int 1 y0,.int 3 y1,.int 3 y2,.int 1 y3,.int 1 y4,.int 1 y5,.int 0 y6,.int 0 y7,.int 0 y8,.none,.int 3 y10,.int 0 y11,.int 0 y12,.int 1 y13,.int 2 y14,.int 0 y15,.int 1 y16,.int 0 y17,.int 0 y18,.int 0 y19] nS,#[]⟩)
  : ∃ fd:FuncData,(∀ (s:Shared) (us:List Value),us.length=(["calls"]:List Str).length→BindsTo s fd ⟨us,[]⟩ ((["calls"]:List Str).zip us))∧∀ base:Heap,K.In base→base.Ns mainGlobals mg→FnOk P w K mg base CX0 7 fa fd ["calls"] (spAns K):=by
 have e:=hfa.symm.trans (PySem.W.mg_of X G0 ga.a)
 cases e
 obtain ⟨fda,Fa⟩:=ga.fn
 have T:Txt K ⟨cw,cj,cr⟩:=⟨⟨cW.pg,cW.hd,cW.po,cW.sa⟩,⟨cJ.pg,cJ.hd,cJ.po,cJ.sa⟩,⟨cR.pg,cR.hd,cR.po,cR.sa⟩,
  (List.forall_mem_cons.mpr ⟨nw0,(List.forall_mem_cons.mpr ⟨nw1,(List.forall_mem_cons.mpr ⟨nw2,(List.forall_mem_cons.mpr ⟨nw3,(List.forall_mem_cons.mpr ⟨nw4,(List.forall_mem_cons.mpr ⟨nw5,(List.forall_mem_cons.mpr ⟨nw6,(List.forall_mem_cons.mpr ⟨nw7,(fun _ h=>by cases h)⟩)⟩)⟩)⟩)⟩)⟩)⟩)⟩),
  (List.forall_mem_cons.mpr ⟨nj0,(List.forall_mem_cons.mpr ⟨nj1,(List.forall_mem_cons.mpr ⟨nj2,(fun _ h=>by cases h)⟩)⟩)⟩),
  (List.forall_mem_cons.mpr ⟨nr0,(List.forall_mem_cons.mpr ⟨nr1,(List.forall_mem_cons.mpr ⟨nr2,(List.forall_mem_cons.mpr ⟨nr3,(fun _ h=>by cases h)⟩)⟩)⟩)⟩)⟩
 have G:Gc mg:=⟨⟨_,PySem.W.mg_of X G0 i0,_,rfl⟩,⟨_,PySem.W.mg_of X G0 i1,_,rfl⟩,⟨_,PySem.W.mg_of X G0 i2,_,rfl⟩,⟨_,PySem.W.mg_of X G0 i3,_,rfl⟩,⟨_,PySem.W.mg_of X G0 i4,_,rfl⟩,⟨_,PySem.W.mg_of X G0 i5,_,rfl⟩,⟨_,PySem.W.mg_of X G0 i6,_,rfl⟩,⟨_,PySem.W.mg_of X G0 i7,_,rfl⟩,⟨_,PySem.W.mg_of X G0 i8,_,rfl⟩,⟨_,PySem.W.mg_of X G0 i9,_,rfl⟩,⟨_,PySem.W.mg_of X G0 i10,_,rfl⟩,⟨_,PySem.W.mg_of X G0 i11,_,rfl⟩,PySem.W.mg_none_of X G0 z0,PySem.W.mg_none_of X G0 z1,PySem.W.mg_none_of X G0 z2,PySem.W.mg_none_of X G0 z3,PySem.W.mg_none_of X G0 z4,PySem.W.mg_none_of X G0 z5,PySem.W.mg_none_of X G0 z6,PySem.W.mg_none_of X G0 z7,PySem.W.mg_none_of X G0 z8,PySem.W.mg_none_of X G0 z9,PySem.W.mg_none_of X G0 z10,PySem.W.mg_none_of X G0 z11⟩
 have ba:∀ (s:Shared) (us:List Value),us.length=(["calls"]:List Str).length→BindsTo s fda ⟨us,[]⟩ ((["calls"]:List Str).zip us):=fun s us hu=>by
  obtain ⟨oc,od,kV,doc,pm,an,cdv,ct,osl,rfl,lk,hcd⟩:=Fa.ex
  exact match us,hu with | [_],_=>.of_eq rfl
 refine ⟨fda,ba,fun base _ _=>?_⟩
 have chg:=mk_m (P:=P) (w:=w) (mg:=mg) (base:=base) w7 (fun _ _ _ _ _ _ us hl=>match us,hl with | [_,_,_],_=>rfl) fun fd F=>ok_chg (c:=⟨cw,cj,cr⟩) F T
 have late:=mk_m (P:=P) (w:=w) (mg:=mg) (base:=base) j1 (fun _ _ _ _ _ _ us hl=>match us,hl with | [_,_],_=>rfl) fun fd F=>ok_late (c:=⟨cw,cj,cr⟩) F T G.max
 have rest:=mk_m (P:=P) (w:=w) (mg:=mg) (base:=base) w1 (fun _ _ _ _ _ _ us hl=>match us,hl with | [_,_],_=>rfl) fun fd F=>ok_rest (c:=⟨cw,cj,cr⟩) F T G.range
 have beg:=mk_m (P:=P) (w:=w) (mg:=mg) (base:=base) w2 (fun _ _ _ _ _ _ us hl=>match us,hl with | [_],_=>rfl) fun fd F=>ok_begun (c:=⟨cw,cj,cr⟩) F T
 have hasF:=mk_m (P:=P) (w:=w) (mg:=mg) (base:=base) w3 (fun _ _ _ _ _ _ us hl=>match us,hl with | [_,_],_=>rfl) fun fd F=>ok_hasF (c:=⟨cw,cj,cr⟩) F T
 have hasJ:=mk_m (P:=P) (w:=w) (mg:=mg) (base:=base) w4 (fun _ _ _ _ _ _ us hl=>match us,hl with | [_,_],_=>rfl) fun fd F=>ok_hasJ (c:=⟨cw,cj,cr⟩) F T G.len
 have isO:=mk_m (P:=P) (w:=w) (mg:=mg) (base:=base) w5 (fun _ _ _ _ _ _ us hl=>match us,hl with | [_,_],_=>rfl) fun fd F=>ok_open (c:=⟨cw,cj,cr⟩) F T
 have oj:=mk_m (P:=P) (w:=w) (mg:=mg) (base:=base) w6 (fun _ _ _ _ _ _ us hl=>match us,hl with | [_],_=>rfl) fun fd F=>ok_jobs (c:=⟨cw,cj,cr⟩) F T
 have cin:=mk_m (P:=P) (w:=w) (mg:=mg) (base:=base) w8 (fun _ _ _ _ _ _ us hl=>match us,hl with | [_,_],_=>rfl) fun fd F=>ok_cin (c:=⟨cw,cj,cr⟩) F T chg
 have ein:=mk_m (P:=P) (w:=w) (mg:=mg) (base:=base) w9 (fun _ _ _ _ _ _ us hl=>match us,hl with | [_,_],_=>rfl) fun fd F=>ok_ein (c:=⟨cw,cj,cr⟩) F T cin
 have lin:=mk_m (P:=P) (w:=w) (mg:=mg) (base:=base) w10 (fun _ _ _ _ _ _ us hl=>match us,hl with | [_,_],_=>rfl) fun fd F=>ok_lin (c:=⟨cw,cj,cr⟩) F T ein late
 have kW:=mk_k (P:=P) (w:=w) (mg:=mg) (base:=base) cW (PySem.W.mg_of X G0 cW.a) w0 (fun _ _ _ _ _ _ us hl=>match us,hl with | [_],_=>rfl) fun fd F=>ok_winit (c:=⟨cw,cj,cr⟩) F T rest
 have kJ:=mk_k (P:=P) (w:=w) (mg:=mg) (base:=base) cJ (PySem.W.mg_of X G0 cJ.a) j0 (fun _ _ _ _ _ _ us hl=>match us,hl with | [_,_,_,_],_=>rfl) fun fd F=>ok_jinit (c:=⟨cw,cj,cr⟩) F T
 have kR:=mk_k (P:=P) (w:=w) (mg:=mg) (base:=base) cR (PySem.W.mg_of X G0 cR.a) u0 (fun _ _ _ _ _ _ us hl=>match us,hl with | [_,_,_,_,_],_=>rfl) fun fd F=>ok_rinit (c:=⟨cw,cj,cr⟩) F T
 have ends:=mk_g (P:=P) (w:=w) (mg:=mg) (base:=base) g0 (PySem.W.mg_of X G0 g0.a) (fun _ _ _ _ _ _ us hl=>match us,hl with | [_,_],_=>rfl) fun fd F=>ok_ends (c:=⟨cw,cj,cr⟩) F T chg
 have wrt:=mk_g (P:=P) (w:=w) (mg:=mg) (base:=base) g1 (PySem.W.mg_of X G0 g1.a) (fun _ _ _ _ _ _ us hl=>match us,hl with | [_],_=>rfl) fun fd F=>ok_worth F G.sorted G.len
 have fur:=mk_g (P:=P) (w:=w) (mg:=mg) (base:=base) g2 (PySem.W.mg_of X G0 g2.a) (fun _ _ _ _ _ _ us hl=>match us,hl with | [_,_,_,_],_=>rfl) fun fd F=>ok_fur (c:=⟨cw,cj,cr⟩) F T G chg late wrt
 have bw:=mk_g (P:=P) (w:=w) (mg:=mg) (base:=base) g3 (PySem.W.mg_of X G0 g3.a) (fun _ _ _ _ _ _ us hl=>match us,hl with | [_,_,_],_=>rfl) fun fd F=>ok_best (c:=⟨cw,cj,cr⟩) F T G fur
 have fuR:=mk_g (P:=P) (w:=w) (mg:=mg) (base:=base) g4 (PySem.W.mg_of X G0 g4.a) (fun _ _ _ _ _ _ us hl=>match us,hl with | [_,_],_=>rfl) fun fd F=>ok_furR (c:=⟨cw,cj,cr⟩) F T G chg
 have rw:=mk_g (P:=P) (w:=w) (mg:=mg) (base:=base) g5 (PySem.W.mg_of X G0 g5.a) (fun _ _ _ _ _ _ us hl=>match us,hl with | [_],_=>rfl) fun fd F=>ok_ring (c:=⟨cw,cj,cr⟩) F T G chg fuR
 have jr:=mk_g (P:=P) (w:=w) (mg:=mg) (base:=base) g6 (PySem.W.mg_of X G0 g6.a) (fun _ _ _ _ _ _ us hl=>match us,hl with | [_,_],_=>rfl) fun fd F=>ok_jr (c:=⟨cw,cj,cr⟩) F T G hasF
 have co0:GCo P w K mg base "nothing" c0:=by
  obtain ⟨fd,F⟩:=g7.fn
  exact ⟨fg7,PySem.W.mg_of X G0 g7.a,fd,ok_c0 F,F.kp,F.binds (fun _ _ _ _ _ _ us hl=>match us,hl with | [_],_=>rfl)⟩
 have co1:GCo P w K mg base "one_if_late" c1:=by
  obtain ⟨fd,F⟩:=g8.fn
  exact ⟨fg8,PySem.W.mg_of X G0 g8.a,fd,ok_c1 F,F.kp,F.binds (fun _ _ _ _ _ _ us hl=>match us,hl with | [_],_=>rfl)⟩
 have co2:GCo P w K mg base "minutes_late" c2:=by
  obtain ⟨fd,F⟩:=g9.fn
  exact ⟨fg9,PySem.W.mg_of X G0 g9.a,fd,ok_c2 F,F.kp,F.binds (fun _ _ _ _ _ _ us hl=>match us,hl with | [_],_=>rfl)⟩
 have q0:∃ fd,FnOk P w K mg base CX0 5 fr0 fd ["works","given"] (spI ⟨cw,cj,cr⟩ 0)∧PySem.W.keepIn K (.ref fr0)=true∧Binds K fd ["works","given"] []:=mk_r r0 (fun _ _ _ _ _ _ us hl=>match us,hl with | [_,_],_=>rfl) fun fd F=>(ok_begin F T G rest).mono (by decide)
 have q1:∃ fd,FnOk P w K mg base CX0 5 fr1 fd ["works","given"] (spI ⟨cw,cj,cr⟩ 1)∧PySem.W.keepIn K (.ref fr1)=true∧Binds K fd ["works","given"] []:=mk_r r1 (fun _ _ _ _ _ _ us hl=>match us,hl with | [_,_],_=>rfl) fun fd F=>reB ((ok_change F T G hasF).mono (by decide))
 have q2:∃ fd,FnOk P w K mg base CX0 5 fr2 fd ["works","given"] (spI ⟨cw,cj,cr⟩ 2)∧PySem.W.keepIn K (.ref fr2)=true∧Binds K fd ["works","given"] []:=mk_r r2 (fun _ _ _ _ _ _ us hl=>match us,hl with | [_,_],_=>rfl) fun fd F=>reB ((ok_job F T G jr kJ).mono (by decide))
 have q3:∃ fd,FnOk P w K mg base CX0 5 fr3 fd ["works","given"] (spI ⟨cw,cj,cr⟩ 3)∧PySem.W.keepIn K (.ref fr3)=true∧Binds K fd ["works","given"] []:=mk_r r3 (fun _ _ _ _ _ _ us hl=>match us,hl with | [_,_],_=>rfl) fun fd F=>reB ((ok_drop F T G isO).mono (by decide))
 have q4:∃ fd,FnOk P w K mg base CX0 5 fr4 fd ["works","given"] (spI ⟨cw,cj,cr⟩ 4)∧PySem.W.keepIn K (.ref fr4)=true∧Binds K fd ["works","given"] []:=mk_r r4 (fun _ _ _ _ _ _ us hl=>match us,hl with | [_,_],_=>rfl) fun fd F=>reB ((ok_run F T G isO cin ein lin kR).mono (by decide))
 have q5:∃ fd,FnOk P w K mg base CX0 5 fr5 fd ["works","given"] (spI ⟨cw,cj,cr⟩ 5)∧PySem.W.keepIn K (.ref fr5)=true∧Binds K fd ["works","given"] []:=mk_r r5 (fun _ _ _ _ _ _ us hl=>match us,hl with | [_,_],_=>rfl) fun fd F=>reB ((ok_wait F T G).mono (by decide))
 have q6:∃ fd,FnOk P w K mg base CX0 5 fr6 fd ["works","given"] (spI ⟨cw,cj,cr⟩ 6)∧PySem.W.keepIn K (.ref fr6)=true∧Binds K fd ["works","given"] []:=mk_r r6 (fun _ _ _ _ _ _ us hl=>match us,hl with | [_,_],_=>rfl) fun fd F=>reB ((ok_bestR F T G bw oj co0).mono (by decide))
 have q7:∃ fd,FnOk P w K mg base CX0 5 fr7 fd ["works","given"] (spI ⟨cw,cj,cr⟩ 7)∧PySem.W.keepIn K (.ref fr7)=true∧Binds K fd ["works","given"] []:=mk_r r7 (fun _ _ _ _ _ _ us hl=>match us,hl with | [_,_],_=>rfl) fun fd F=>reB ((ok_fewR F T G bw oj co1).mono (by decide))
 have q8:∃ fd,FnOk P w K mg base CX0 5 fr8 fd ["works","given"] (spI ⟨cw,cj,cr⟩ 8)∧PySem.W.keepIn K (.ref fr8)=true∧Binds K fd ["works","given"] []:=mk_r r8 (fun _ _ _ _ _ _ us hl=>match us,hl with | [_,_],_=>rfl) fun fd F=>reB ((ok_leastR F T G bw oj co2).mono (by decide))
 have q9:∃ fd,FnOk P w K mg base CX0 5 fr9 fd ["works","given"] (spI ⟨cw,cj,cr⟩ 9)∧PySem.W.keepIn K (.ref fr9)=true∧Binds K fd ["works","given"] []:=mk_r r9 (fun _ _ _ _ _ _ us hl=>match us,hl with | [_,_],_=>rfl) fun fd F=>reB ((ok_times F T G isO late ends).mono (by decide))
 have q10:∃ fd,FnOk P w K mg base CX0 5 fr10 fd ["works","given"] (spI ⟨cw,cj,cr⟩ 10)∧PySem.W.keepIn K (.ref fr10)=true∧Binds K fd ["works","given"] []:=mk_r r10 (fun _ _ _ _ _ _ us hl=>match us,hl with | [_,_],_=>rfl) fun fd F=>reB ((ok_would F T G bw oj co0 co1 jr kJ).mono (by decide))
 have q11:∃ fd,FnOk P w K mg base CX0 5 fr11 fd ["works","given"] (spI ⟨cw,cj,cr⟩ 11)∧PySem.W.keepIn K (.ref fr11)=true∧Binds K fd ["works","given"] []:=mk_r r11 (fun _ _ _ _ _ _ us hl=>match us,hl with | [_,_],_=>rfl) fun fd F=>(ok_ringR F T G rw).mono (by decide)
 have q12:∃ fd,FnOk P w K mg base CX0 5 fr12 fd ["works","given"] (spI ⟨cw,cj,cr⟩ 12)∧PySem.W.keepIn K (.ref fr12)=true∧Binds K fd ["works","given"] []:=mk_r r12 (fun _ _ _ _ _ _ us hl=>match us,hl with | [_,_],_=>rfl) fun fd F=>reB ((ok_hope F T G lin).mono (by decide))
 have q13:∃ fd,FnOk P w K mg base CX0 5 fr13 fd ["works","given"] (spI ⟨cw,cj,cr⟩ 13)∧PySem.W.keepIn K (.ref fr13)=true∧Binds K fd ["works","given"] []:=mk_r r13 (fun _ _ _ _ _ _ us hl=>match us,hl with | [_,_],_=>rfl) fun fd F=>reB ((ok_soon F T G isO ein cin).mono (by decide))
 have q14:∃ fd,FnOk P w K mg base CX0 5 fr14 fd ["works","given"] (spI ⟨cw,cj,cr⟩ 14)∧PySem.W.keepIn K (.ref fr14)=true∧Binds K fd ["works","given"] []:=mk_r r14 (fun _ _ _ _ _ _ us hl=>match us,hl with | [_,_],_=>rfl) fun fd F=>reB ((ok_turn F T G hasF chg).mono (by decide))
 have q15:∃ fd,FnOk P w K mg base CX0 5 fr15 fd ["works","given"] (spI ⟨cw,cj,cr⟩ 15)∧PySem.W.keepIn K (.ref fr15)=true∧Binds K fd ["works","given"] []:=mk_r r15 (fun _ _ _ _ _ _ us hl=>match us,hl with | [_,_],_=>rfl) fun fd F=>reB ((ok_lopen F T G).mono (by decide))
 have q16:∃ fd,FnOk P w K mg base CX0 5 fr16 fd ["works","given"] (spI ⟨cw,cj,cr⟩ 16)∧PySem.W.keepIn K (.ref fr16)=true∧Binds K fd ["works","given"] []:=mk_r r16 (fun _ _ _ _ _ _ us hl=>match us,hl with | [_,_],_=>rfl) fun fd F=>reB ((ok_look F T G hasJ).mono (by decide))
 have q17:∃ fd,FnOk P w K mg base CX0 5 fr17 fd ["works","given"] (spI ⟨cw,cj,cr⟩ 17)∧PySem.W.keepIn K (.ref fr17)=true∧Binds K fd ["works","given"] []:=mk_r r17 (fun _ _ _ _ _ _ us hl=>match us,hl with | [_,_],_=>rfl) fun fd F=>reB ((ok_done F T G).mono (by decide))
 have q18:∃ fd,FnOk P w K mg base CX0 5 fr18 fd ["works","given"] (spI ⟨cw,cj,cr⟩ 18)∧PySem.W.keepIn K (.ref fr18)=true∧Binds K fd ["works","given"] []:=mk_r r18 (fun _ _ _ _ _ _ us hl=>match us,hl with | [_,_],_=>rfl) fun fd F=>reB ((ok_sums F T G).mono (by decide))
 have q19:∃ fd,FnOk P w K mg base CX0 5 fr19 fd ["works","given"] (spI ⟨cw,cj,cr⟩ 19)∧PySem.W.keepIn K (.ref fr19)=true∧Binds K fd ["works","given"] []:=mk_r r19 (fun _ _ _ _ _ _ us hl=>match us,hl with | [_,_],_=>rfl) fun fd F=>reB ((ok_state F T G).mono (by decide))
 have hR:RepOk P w K mg base ⟨cw,cj,cr⟩ [fr0,fr1,fr2,fr3,fr4,fr5,fr6,fr7,fr8,fr9,fr10,fr11,fr12,fr13,fr14,fr15,fr16,fr17,fr18,fr19]:=by
  refine ⟨rfl,fun i f h=>?_⟩
  match i,h with
  | 0,h=>cases h; exact q0
  | 1,h=>cases h; exact q1
  | 2,h=>cases h; exact q2
  | 3,h=>cases h; exact q3
  | 4,h=>cases h; exact q4
  | 5,h=>cases h; exact q5
  | 6,h=>cases h; exact q6
  | 7,h=>cases h; exact q7
  | 8,h=>cases h; exact q8
  | 9,h=>cases h; exact q9
  | 10,h=>cases h; exact q10
  | 11,h=>cases h; exact q11
  | 12,h=>cases h; exact q12
  | 13,h=>cases h; exact q13
  | 14,h=>cases h; exact q14
  | 15,h=>cases h; exact q15
  | 16,h=>cases h; exact q16
  | 17,h=>cases h; exact q17
  | 18,h=>cases h; exact q18
  | 19,h=>cases h; exact q19
  | n+20,h=>simp at h
 have hT:∀ H,SqT K H R (([fr0,fr1,fr2,fr3,fr4,fr5,fr6,fr7,fr8,fr9,fr10,fr11,fr12,fr13,fr14,fr15,fr16,fr17,fr18,fr19]:List Addr).map V.ref):=fun H=>.inr ⟨_,_,_,lR,rfl,rfl,by show 20≤sizeLine; decide,vals_refs _⟩
 have hS:∀ H,SqT K H S szV:=fun H=>.inr ⟨_,_,_,lS,rfl,rfl,by show 20≤sizeLine; decide,(.cons ⟨_,rfl⟩ (.cons ⟨_,rfl⟩ (.cons ⟨_,rfl⟩ (.cons ⟨_,rfl⟩ (.cons ⟨_,rfl⟩ (.cons ⟨_,rfl⟩ (.cons ⟨_,rfl⟩ (.cons ⟨_,rfl⟩ (.cons ⟨_,rfl⟩ (.cons rfl (.cons ⟨_,rfl⟩ (.cons ⟨_,rfl⟩ (.cons ⟨_,rfl⟩ (.cons ⟨_,rfl⟩ (.cons ⟨_,rfl⟩ (.cons ⟨_,rfl⟩ (.cons ⟨_,rfl⟩ (.cons ⟨_,rfl⟩ (.cons ⟨_,rfl⟩ (.cons ⟨_,rfl⟩ .nil))))))))))))))))))))⟩
 have rep:=mk_g (P:=P) (w:=w) (mg:=mg) (base:=base) g10 (PySem.W.mg_of X G0 g10.a) (fun _ _ _ _ _ _ us hl=>match us,hl with | [_,_,_],_=>rfl) fun fd F=>ok_reply (c:=⟨cw,cj,cr⟩) F T G beg (PySem.W.mg_of X G0 aR) hT hR
 exact ok_ans (c:=⟨cw,cj,cr⟩) Fa T G kW rep (PySem.W.mg_of X G0 aS) hS
end FR
open PySem PySem.W PyProof.Rows
def PySem.W.Fast.tw12260805168378339669:=0
def PySem.W.Fast.tw11062009728100366093:=0
def PySem.W.Fast.tw1423760986537512581:=0
def PySem.W.Fast.tw8820385332973564103:=0
def PySem.W.Fast.tw9837344393244431232:=0
def PySem.W.Fast.tw13426656362362436264:=0
def PySem.W.Fast.tw39615320244808244:=0
def PySem.W.Fast.tw14775847173841375118:=0
def PySem.W.Fast.tw7532793199978587928:=0
def PySem.W.Fast.tw8998823276258892337:=0
def PySem.W.Fast.tw10944837906163250328:=0
def PySem.W.Fast.tw6134708904589927092:=0
def PySem.W.Fast.tw16646074969004060657:=0
def PySem.W.Fast.tw2541315187449352371:=0
def PySem.W.Fast.tw951798240985752866:=0
def PySem.W.Fast.tw9914936281257689821:=0
def PySem.W.Fast.tw10082836899284102464:=0
def PySem.W.Fast.tw1911789021886680731:=0
def PySem.W.Fast.tw6418781218629071664:=0
def PySem.W.Fast.tw9841309518927432753:=0
set_option maxRecDepth 100000 in
set_option maxHeartbeats 0 in
theorem PySem.Challenge.cw_flavourruns_s01_answers_holds : PySem.Challenge.rw_flavourruns_s01_answers.Holds := by
  w_on; k_headS; (case hw => exact ⟨[.list [.int 6]], by decide +kernel, by decide +kernel⟩)
  k_fillS
  refine L2.walk_specK (r := PySem.Challenge.rw_flavourruns_s01_answers) (k := 7) (CX := L2.CX0) (ps := ["calls"]) (sp := FR.spAns) (by decide +kernel) rfl rfl ⟨rfl, by decide, by decide⟩ (fun w h Y => PySem.W.kIn_of Y) ?F ?S (fun _ _ _ _ z => z)
  case F =>
    intro w mg fa h Y KX G hmg
    refine' FR.all_mk KX G hmg ?fxcW ?fxcJ ?fxcR ?fxw0 ?fxw1 ?fxw2 ?fxw3 ?fxw4 ?fxw5 ?fxw6 ?fxw7 ?fxw8 ?fxw9 ?fxw10 ?fxj0 ?fxj1 ?fxu0 ?fxg0 ?fxg1 ?fxg2 ?fxg3 ?fxg4 ?fxg5 ?fxg6 ?fxg7 ?fxg8 ?fxg9 ?fxg10 ?fxr0 ?fxr1 ?fxr2 ?fxr3 ?fxr4 ?fxr5 ?fxr6 ?fxr7 ?fxr8 ?fxr9 ?fxr10 ?fxr11 ?fxr12 ?fxr13 ?fxr14 ?fxr15 ?fxr16 ?fxr17 ?fxr18 ?fxr19 ?fxga ?fxi0 ?fxi1 ?fxi2 ?fxi3 ?fxi4 ?fxi5 ?fxi6 ?fxi7 ?fxi8 ?fxi9 ?fxi10 ?fxi11 ?fxz0 ?fxz1 ?fxz2 ?fxz3 ?fxz4 ?fxz5 ?fxz6 ?fxz7 ?fxz8 ?fxz9 ?fxz10 ?fxz11 ?fxnw0 ?fxnw1 ?fxnw2 ?fxnw3 ?fxnw4 ?fxnw5 ?fxnw6 ?fxnw7 ?fxnj0 ?fxnj1 ?fxnj2 ?fxnr0 ?fxnr1 ?fxnr2 ?fxnr3 ?fxaR ?fxlR ?fxaS ?fxlS
    (case fxcW => refine' FR.ClAt.mk ?a ?pg ?hd ?po ?sa ?mks ?kc; (case a => k_is); (case pg => k_is); (case hd => k_is); (case po => k_is); (case sa => k_is); (case mks => k_is); (case kc => k_is))
    (case fxcJ => refine' FR.ClAt.mk ?a ?pg ?hd ?po ?sa ?mks ?kc; (case a => k_is); (case pg => k_is); (case hd => k_is); (case po => k_is); (case sa => k_is); (case mks => k_is); (case kc => k_is))
    (case fxcR => refine' FR.ClAt.mk ?a ?pg ?hd ?po ?sa ?mks ?kc; (case a => k_is); (case pg => k_is); (case hd => k_is); (case po => k_is); (case sa => k_is); (case mks => k_is); (case kc => k_is))
    (case fxw0 => refine' FR.mat_mk ?a ?i ?l ?c ?k; (case a => k_is); (case i => k_is); (case l => k_is); (case c => k_is); (case k => k_is))
    (case fxw1 => refine' FR.mat_mk ?a ?i ?l ?c ?k; (case a => k_is); (case i => k_is); (case l => k_is); (case c => k_is); (case k => k_is))
    (case fxw2 => refine' FR.mat_mk ?a ?i ?l ?c ?k; (case a => k_is); (case i => k_is); (case l => k_is); (case c => k_is); (case k => k_is))
    (case fxw3 => refine' FR.mat_mk ?a ?i ?l ?c ?k; (case a => k_is); (case i => k_is); (case l => k_is); (case c => k_is); (case k => k_is))
    (case fxw4 => refine' FR.mat_mk ?a ?i ?l ?c ?k; (case a => k_is); (case i => k_is); (case l => k_is); (case c => k_is); (case k => k_is))
    (case fxw5 => refine' FR.mat_mk ?a ?i ?l ?c ?k; (case a => k_is); (case i => k_is); (case l => k_is); (case c => k_is); (case k => k_is))
    (case fxw6 => refine' FR.mat_mk ?a ?i ?l ?c ?k; (case a => k_is); (case i => k_is); (case l => k_is); (case c => k_is); (case k => k_is))
    (case fxw7 => refine' FR.mat_mk ?a ?i ?l ?c ?k; (case a => k_is); (case i => k_is); (case l => k_is); (case c => k_is); (case k => k_is))
    (case fxw8 => refine' FR.mat_mk ?a ?i ?l ?c ?k; (case a => k_is); (case i => k_is); (case l => k_is); (case c => k_is); (case k => k_is))
    (case fxw9 => refine' FR.mat_mk ?a ?i ?l ?c ?k; (case a => k_is); (case i => k_is); (case l => k_is); (case c => k_is); (case k => k_is))
    (case fxw10 => refine' FR.mat_mk ?a ?i ?l ?c ?k; (case a => k_is); (case i => k_is); (case l => k_is); (case c => k_is); (case k => k_is))
    (case fxj0 => refine' FR.mat_mk ?a ?i ?l ?c ?k; (case a => k_is); (case i => k_is); (case l => k_is); (case c => k_is); (case k => k_is))
    (case fxj1 => refine' FR.mat_mk ?a ?i ?l ?c ?k; (case a => k_is); (case i => k_is); (case l => k_is); (case c => k_is); (case k => k_is))
    (case fxu0 => refine' FR.mat_mk ?a ?i ?l ?c ?k; (case a => k_is); (case i => k_is); (case l => k_is); (case c => k_is); (case k => k_is))
    (case fxg0 => refine' FR.gat_mk ?a ?l ?c ?k; (case a => k_is); (case l => k_is); (case c => k_is); (case k => k_is))
    (case fxg1 => refine' FR.gat_mk ?a ?l ?c ?k; (case a => k_is); (case l => k_is); (case c => k_is); (case k => k_is))
    (case fxg2 => refine' FR.gat_mk ?a ?l ?c ?k; (case a => k_is); (case l => k_is); (case c => k_is); (case k => k_is))
    (case fxg3 => refine' FR.gat_mk ?a ?l ?c ?k; (case a => k_is); (case l => k_is); (case c => k_is); (case k => k_is))
    (case fxg4 => refine' FR.gat_mk ?a ?l ?c ?k; (case a => k_is); (case l => k_is); (case c => k_is); (case k => k_is))
    (case fxg5 => refine' FR.gat_mk ?a ?l ?c ?k; (case a => k_is); (case l => k_is); (case c => k_is); (case k => k_is))
    (case fxg6 => refine' FR.gat_mk ?a ?l ?c ?k; (case a => k_is); (case l => k_is); (case c => k_is); (case k => k_is))
    (case fxg7 => refine' FR.gat_mk ?a ?l ?c ?k; (case a => k_is); (case l => k_is); (case c => k_is); (case k => k_is))
    (case fxg8 => refine' FR.gat_mk ?a ?l ?c ?k; (case a => k_is); (case l => k_is); (case c => k_is); (case k => k_is))
    (case fxg9 => refine' FR.gat_mk ?a ?l ?c ?k; (case a => k_is); (case l => k_is); (case c => k_is); (case k => k_is))
    (case fxg10 => refine' FR.gat_mk ?a ?l ?c ?k; (case a => k_is); (case l => k_is); (case c => k_is); (case k => k_is))
    (case fxr0 => refine' FR.gat_mk ?a ?l ?c ?k; (case a => k_is); (case l => k_is); (case c => k_is); (case k => k_is))
    (case fxr1 => refine' FR.gat_mk ?a ?l ?c ?k; (case a => k_is); (case l => k_is); (case c => k_is); (case k => k_is))
    (case fxr2 => refine' FR.gat_mk ?a ?l ?c ?k; (case a => k_is); (case l => k_is); (case c => k_is); (case k => k_is))
    (case fxr3 => refine' FR.gat_mk ?a ?l ?c ?k; (case a => k_is); (case l => k_is); (case c => k_is); (case k => k_is))
    (case fxr4 => refine' FR.gat_mk ?a ?l ?c ?k; (case a => k_is); (case l => k_is); (case c => k_is); (case k => k_is))
    (case fxr5 => refine' FR.gat_mk ?a ?l ?c ?k; (case a => k_is); (case l => k_is); (case c => k_is); (case k => k_is))
    (case fxr6 => refine' FR.gat_mk ?a ?l ?c ?k; (case a => k_is); (case l => k_is); (case c => k_is); (case k => k_is))
    (case fxr7 => refine' FR.gat_mk ?a ?l ?c ?k; (case a => k_is); (case l => k_is); (case c => k_is); (case k => k_is))
    (case fxr8 => refine' FR.gat_mk ?a ?l ?c ?k; (case a => k_is); (case l => k_is); (case c => k_is); (case k => k_is))
    (case fxr9 => refine' FR.gat_mk ?a ?l ?c ?k; (case a => k_is); (case l => k_is); (case c => k_is); (case k => k_is))
    (case fxr10 => refine' FR.gat_mk ?a ?l ?c ?k; (case a => k_is); (case l => k_is); (case c => k_is); (case k => k_is))
    (case fxr11 => refine' FR.gat_mk ?a ?l ?c ?k; (case a => k_is); (case l => k_is); (case c => k_is); (case k => k_is))
    (case fxr12 => refine' FR.gat_mk ?a ?l ?c ?k; (case a => k_is); (case l => k_is); (case c => k_is); (case k => k_is))
    (case fxr13 => refine' FR.gat_mk ?a ?l ?c ?k; (case a => k_is); (case l => k_is); (case c => k_is); (case k => k_is))
    (case fxr14 => refine' FR.gat_mk ?a ?l ?c ?k; (case a => k_is); (case l => k_is); (case c => k_is); (case k => k_is))
    (case fxr15 => refine' FR.gat_mk ?a ?l ?c ?k; (case a => k_is); (case l => k_is); (case c => k_is); (case k => k_is))
    (case fxr16 => refine' FR.gat_mk ?a ?l ?c ?k; (case a => k_is); (case l => k_is); (case c => k_is); (case k => k_is))
    (case fxr17 => refine' FR.gat_mk ?a ?l ?c ?k; (case a => k_is); (case l => k_is); (case c => k_is); (case k => k_is))
    (case fxr18 => refine' FR.gat_mk ?a ?l ?c ?k; (case a => k_is); (case l => k_is); (case c => k_is); (case k => k_is))
    (case fxr19 => refine' FR.gat_mk ?a ?l ?c ?k; (case a => k_is); (case l => k_is); (case c => k_is); (case k => k_is))
    (case fxga => refine' FR.gat_mk ?a ?l ?c ?k; (case a => k_is); (case l => k_is); (case c => k_is); (case k => k_is))
    (case fxi0 => k_is)
    (case fxi1 => k_is)
    (case fxi2 => k_is)
    (case fxi3 => k_is)
    (case fxi4 => k_is)
    (case fxi5 => k_is)
    (case fxi6 => k_is)
    (case fxi7 => k_is)
    (case fxi8 => k_is)
    (case fxi9 => k_is)
    (case fxi10 => k_is)
    (case fxi11 => k_is)
    (case fxz0 => k_is)
    (case fxz1 => k_is)
    (case fxz2 => k_is)
    (case fxz3 => k_is)
    (case fxz4 => k_is)
    (case fxz5 => k_is)
    (case fxz6 => k_is)
    (case fxz7 => k_is)
    (case fxz8 => k_is)
    (case fxz9 => k_is)
    (case fxz10 => k_is)
    (case fxz11 => k_is)
    (case fxnw0 => k_is)
    (case fxnw1 => k_is)
    (case fxnw2 => k_is)
    (case fxnw3 => k_is)
    (case fxnw4 => k_is)
    (case fxnw5 => k_is)
    (case fxnw6 => k_is)
    (case fxnw7 => k_is)
    (case fxnj0 => k_is)
    (case fxnj1 => k_is)
    (case fxnj2 => k_is)
    (case fxnr0 => k_is)
    (case fxnr1 => k_is)
    (case fxnr2 => k_is)
    (case fxnr3 => k_is)
    (case fxaR => k_is)
    (case fxlR => k_is)
    (case fxaS => k_is)
    (case fxlS => k_is)
  case S =>
    intro K H xs a hO hwi hask hx
    cases hx with
    | cons h1 h2 =>
      cases h2
      cases h1 with
      | lst hs ha =>
        have e := L2.ints_dw a.1 _ ha
        subst e
        exact ⟨_, a.1, rfl, hs, hask, fun H' p hp => .lst (L2.SqL.of hp) (L2.dw_ints _)⟩
#print axioms PySem.Challenge.cw_flavourruns_s01_answers_holds
