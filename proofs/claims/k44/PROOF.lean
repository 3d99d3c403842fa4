import PyProof.Rows.All
import Wide.All
import OpenK.AllK
import Wide.FinOn
import Lean
import PyProof.EqAt
import PyProof.EqKinds
import PyProof.TupleCall
import KE.KIsAll
import KE.KTryMore
import PyProof.ExcAttrAll.ValueError
import KE.KIntText
import KE.KItemsList
import KE.KDictOf
import PyProof.AttrMissHeap
import KE.KPairComp
import PyProof.DictWalks
import PyProof.P3In
import PyProof.SameEqv
import KE.KDictList
import KE.KDictIter
import PyProof.Draws
import PyProof.EnumMake
import PyProof.Rows.Range3
import PyProof.ZipIter
import KE.KTurns
import PyProof.FactsAll.zip_1
import PySem.Challenge.RW_purse_k44_closing
set_option Elab.async false
set_option linter.all false
set_option maxRecDepth 100000
namespace L2
open PySem PySem.Spec PyProof.Rows
noncomputable abbrev Key:=Sum Int Str
noncomputable def keyIs:Key→Value→Bool
  | .inl k,v=>Value.isInt k v
  | .inr x,v=>Value.isStrOf x v
noncomputable def keyH (w:World):Key→Int
  | .inl k=>hashInt k
  | .inr x=>hashStr w x
theorem keyIs_shape:∀ {k:Key}{v:Value},keyIs k v=true→(∃ i t,k=Sum.inl i∧v=Value.int i t)∨(∃ x t,k=Sum.inr x∧v=Value.str x t)
  | .inl i,v,h=>by
    obtain ⟨t,e⟩:=Value.isInt_shape (k:=i) (v:=v) h
    exact .inl ⟨i,t,rfl,e⟩
  | .inr x,v,h=>by
    obtain ⟨t,e⟩:=Value.isStrOf_shape (x:=x) (v:=v) h
    exact .inr ⟨x,t,rfl,e⟩
theorem keyIs_int (i:Int) (t:Tok):keyIs (.inl i) (.int i t)=true:=by simp [keyIs,Value.isInt]
theorem keyIs_str (x:Str) (t:Tok):keyIs (.inr x) (.str x t)=true:=by simp [keyIs,Value.isStrOf]
theorem key_ll (a b:Int):decide ((Sum.inl a:Key)=Sum.inl b)=(a==b):=by
  by_cases e:a=b
  · subst e;simp
  · have h:¬ (Sum.inl a:Key)=Sum.inl b:=fun q=>e (Sum.inl.inj q)
    rw [decide_eq_false h]
    exact (beq_eq_false_iff_ne.mpr e).symm
theorem key_rr (a b:Str):decide ((Sum.inr a:Key)=Sum.inr b)=decide (a=b):=by
  by_cases e:a=b
  · subst e;simp
  · have h:¬ (Sum.inr a:Key)=Sum.inr b:=fun q=>e (Sum.inr.inj q)
    rw [decide_eq_false h,decide_eq_false e]
theorem key_lr (a:Int) (b:Str):decide ((Sum.inl a:Key)=Sum.inr b)=false:=decide_eq_false (fun q=>nomatch q)
theorem key_rl (a:Str) (b:Int):decide ((Sum.inr a:Key)=Sum.inl b)=false:=decide_eq_false (fun q=>nomatch q)
noncomputable def mixKind (prog:Program) (w:World):PySem.KeyKind prog w Key where
  is:=keyIs
  hash:=keyH w
  inj:=fun v a b ha hb=>by
    rcases keyIs_shape ha with ⟨i,t,rfl,rfl⟩ | ⟨x,t,rfl,rfl⟩
    · rcases keyIs_shape hb with ⟨j,u,rfl,e⟩ | ⟨y,u,rfl,e⟩
      · injection e with e1 _;rw [e1]
      · exact nomatch e
    · rcases keyIs_shape hb with ⟨j,u,rfl,e⟩ | ⟨y,u,rfl,e⟩
      · exact nomatch e
      · injection e with e1 _;rw [e1]
  byValue:=fun k v h=>by
    rcases keyIs_shape h with ⟨i,t,rfl,rfl⟩ | ⟨x,t,rfl,rfl⟩ <;> rfl
  pyHash:=fun hv h=>by
    rcases keyIs_shape hv with ⟨i,t,rfl,rfl⟩ | ⟨x,t,rfl,rfl⟩
    · exact wpAny_pyHash_int h
    · exact wpAny_pyHash_str h
  eqBool:=fun hu hv h=>by
    rcases keyIs_shape hu with ⟨i,t,rfl,rfl⟩ | ⟨x,t,rfl,rfl⟩
    · rcases keyIs_shape hv with ⟨j,u,rfl,rfl⟩ | ⟨y,u,rfl,rfl⟩
      · rw [key_ll] at h;exact wpAny_eqBool_int h
      · rw [key_lr] at h;exact SeqAt.EqAt.int_str i t y u _ _ _ _ h
    · rcases keyIs_shape hv with ⟨j,u,rfl,rfl⟩ | ⟨y,u,rfl,rfl⟩
      · rw [key_rl] at h;exact SeqAt.EqAt.str_int x t j u _ _ _ _ h
      · rw [key_rr] at h;exact wpAny_eqBool_str h
  «strs»:=fun k x t v h=>by
    rcases keyIs_shape h with ⟨i,u,rfl,e⟩ | ⟨y,u,rfl,e⟩
    · exact nomatch e
    · injection e with e1 _
      subst e1
      cases v <;> rfl
theorem mixKind_int (prog:Program) (w:World) (i:Int) (t:Tok):(mixKind prog w).is (.inl i) (.int i t)=true:=keyIs_int i t
theorem mixKind_str (prog:Program) (w:World) (x:Str) (t:Tok):(mixKind prog w).is (.inr x) (.str x t)=true:=keyIs_str x t
end L2
namespace L2
open PySem PySem.Spec PyProof.Rows
inductive V where
  | non | bl (b:Bool) | int (i:Int) | str (x:Str) | byt (b:Array UInt8) | flt (b:UInt64) | ref (a:Addr) | ty (n:String)
  deriving DecidableEq
noncomputable def RelV:V→Value→Prop
  | .non,u=>u=Value.none
  | .bl b,u=>u=Value.bool b
  | .int i,u=>∃ t,u=Value.int i t
  | .str x,u=>∃ t,u=Value.str x t
  | .byt b,u=>∃ t,u=Value.bytes b t
  | .flt b,u=>∃ t,u=Value.float b t
  | .ref a,u=>u=Value.ref a
  | .ty n,u=>u=Value.type n
noncomputable abbrev Vals:List V→List Value→Prop:=Paired RelV
theorem Vals.length {xs:List V}{us:List Value} (r:Vals xs us):xs.length=us.length:=Paired.length r
theorem Vals.get:∀ {xs:List V}{us:List Value}{i:Nat}{x:V},Vals xs us→xs[i]?=some x→∃ u,us[i]?=some u∧RelV x u
  | _,_,_,_,.nil,e=>by simp at e
  | _,_,0,_,.cons r _,e=>by simp at e;subst e;exact ⟨_,rfl,r⟩
  | _,_,i + 1,x,.cons _ t,e=>by
    obtain ⟨u,h1,h2⟩:=Vals.get (i:=i) (x:=x) t (by simpa using e)
    exact ⟨u,by simpa using h1,h2⟩
theorem Vals.set {x:V}{u:Value} (r:RelV x u):∀ {xs:List V}{us:List Value} (i:Nat),Vals xs us→Vals (xs.set i x) (us.set i u)
  | _,_,_,.nil=>.nil
  | _,_,0,.cons _ t=>.cons r t
  | _,_,i + 1,.cons q t=>.cons q (Vals.set r i t)
theorem Vals.append:∀ {xs ys:List V}{us ws:List Value},Vals xs us→Vals ys ws→Vals (xs ++ ys) (us ++ ws)
  | _,_,_,_,.nil,s=>s
  | _,_,_,_,.cons r t,s=>.cons r (Vals.append t s)
theorem Vals.take:∀ {xs:List V}{us:List Value} (n:Nat),Vals xs us→Vals (xs.take n) (us.take n)
  | _,_,0,_=>.nil
  | _,_,_ + 1,.nil=>.nil
  | _,_,n + 1,.cons r t=>.cons r (Vals.take n t)
theorem Vals.drop:∀ {xs:List V}{us:List Value} (n:Nat),Vals xs us→Vals (xs.drop n) (us.drop n)
  | _,_,0,r=>r
  | _,_,_ + 1,.nil=>.nil
  | _,_,n + 1,.cons _ t=>Vals.drop n t
noncomputable def RelO:Option V→Option Value→Prop
  | some v,some u=>RelV v u
  | none,none=>True
  | _,_=>False
noncomputable def KV {κ:Type}:List (κ×V)→List (κ×Value)→Prop:=Paired fun (p:κ×V) (q:κ×Value)=>p.1=q.1∧RelV p.2 q.2
noncomputable def kV:Key→V
  | .inl i=>.int i
  | .inr x=>.str x
inductive HO where
  | lst (xs:List V)
  | tup (xs:List V)
  | dK (kvs:List (Key×V)) | dT (kvs:List (List Key×V))
  | set (S:Int→Bool) (n:Nat)
  | ins (C dx:Addr) (fs:List (Str×V))
  | own (x:Addr)
  | xd (fs:List (Str×V))
  | met (f x:Addr)
  | rng (lo hi:Int)
  | frz (o:Obj) (u:HO)
  | tbl (ps:Array Value)
  | ext (φ:Heap→Prop)
noncomputable abbrev Hp:=Addr→Option HO
noncomputable def upd (H:Hp) (a:Addr) (o:HO):Hp:=fun b=>if b=a then some o else H b
theorem upd_same {H:Hp}{a:Addr}{o:HO}:upd H a o a=some o:=by unfold upd;rw [if_pos rfl]
theorem upd_ne {H:Hp}{a b:Addr}{o:HO} (h:b≠a):upd H a o b=H b:=by unfold upd;rw [if_neg h]
theorem ne_of {H:Hp}{a b:Addr}{o u:HO} (h:H a=some o) (h':H b=some u) (d:o≠u):a≠b:=by
  intro e;subst e;rw [h] at h';exact d (Option.some.inj h')
theorem ne_of_none {H:Hp}{a b:Addr}{o:HO} (h:H a=some o) (h':H b=none):a≠b:=by
  intro e;subst e;rw [h] at h';cases h'
section
variable (P:Program)(w:World)
noncomputable def ObjOk (H:Hp) (h:Heap) (a:Addr):HO→Prop
  | .lst xs=>xs.length≤sizeLine∧∃ (its:List Value) (n:Nat),Vals xs its∧h.get? a=some {cls:=.type "list",data:=.seq its.toArray n}
  | .tup xs=>xs.length≤sizeLine∧∃ its:List Value,Vals xs its∧IsTup h a its.toArray
  | .dK kvs=>kvs.length≤sizeLine∧(a==sysModules)=false∧∃ vs,KV kvs vs∧h.DictOf (mixKind P w) a vs
  | .dT kvs=>kvs.length≤sizeLine∧(a==sysModules)=false∧∃ xs:List (List Key×Addr×Value),
      Paired (fun (p:List Key×V) (q:List Key×Addr×Value)=>p.1=q.1∧H q.2.1=some (.tup (p.1.map kV))∧RelV p.2 q.2.2) kvs xs∧
      ∃ o es ep,h.get? a=some o∧o.ExactDict∧o.data=.dict es ep∧es.toList=xs.map (entryOfKey (tupleKind (mixKind P w)))∧(xs.map (·.1)).Nodup
  | .set S n=>h.SetOf (intKind P w) a S n
  | .ins C dx fs=>H dx=some (.own a)∧fs.length≤1000∧dx≠a∧h.get? a=some (PySem.W.instObj C dx)∧
      ∃ mA,h.Ns1 dx mA∧(∀ f,RelO (fs.lookup f) (mA f))∧PySem.Within mA (fs.map (·.1))
  | .own _=>∃ o,h.get? a=some o
  | .xd fs=>∃ mA,h.Ns1 a mA∧∀ f,RelO (fs.lookup f) (mA f)
  | .rng lo hi=>∃ t u v,h.get? a=some {cls:=.type "range",data:=.fields #[.int lo t,.int hi u,.int 1 v]}
  | .frz o u=>h.get? a=some o∧ObjOk H h a u
  | .tbl ps=>h.get? a=some {cls:=.none,data:=.fields ps}
  | .met f x=>h.get? a=some (PySem.W.methodObj (.ref f) (.ref x))
  | .ext φ=>φ h∧(∃ o,h.get? a=some o)∧∀ h1 h2:Heap,φ h1→(∀ o,h1.get? a=some o→h2.get? a=some o)→φ h2
noncomputable def HOk (H:Hp) (h:Heap):Prop:=∀ a o,H a=some o→ObjOk P w H h a o
end
section
variable {P:Program}{w:World}{H H':Hp}{h h':Heap}{a:Addr}{o:HO}
theorem ObjOk.lt (x:ObjOk P w H h a o):a < h.objs.size:=by
  cases o with
  | lst xs=>obtain ⟨_,_,_,_,e⟩:=x;exact Heap.lt_size e
  | tup xs=>obtain ⟨_,_,_,p⟩:=x;exact p.lt
  | dK kvs=>obtain ⟨_,_,_,_,o,_,_,e,_⟩:=x;exact Heap.lt_size e
  | dT kvs=>obtain ⟨_,_,_,_,o,_,_,e,_⟩:=x;exact Heap.lt_size e
  | set S n=>obtain ⟨o,_,_,_,e,_⟩:=x;exact Heap.lt_size e
  | ins C dx fs=>obtain ⟨_,_,_,e,_⟩:=x;exact Heap.lt_size e
  | own y=>obtain ⟨_,e⟩:=x;exact Heap.lt_size e
  | xd fs=>obtain ⟨_,⟨_,_,_,e,_⟩,_⟩:=x;exact Heap.lt_size e
  | rng lo hi=>obtain ⟨_,_,_,e⟩:=x;exact Heap.lt_size e
  | frz ob u=>obtain ⟨e,_⟩:=x;exact Heap.lt_size e
  | tbl ps=>exact Heap.lt_size (show h.get? a=some _ from x)
  | met f y=>exact Heap.lt_size (show h.get? a=some _ from x)
  | ext φ=>obtain ⟨_,⟨_,e⟩,_⟩:=x;exact Heap.lt_size e
theorem Paired.mapP {α β:Type}{F G:α→β→Prop}:∀ {l₁:List α}{l₂:List β},Paired F l₁ l₂→(∀ a b,F a b→G a b)→Paired G l₁ l₂
  | _,_,.nil,_=>.nil
  | _,_,.cons r t,f=>.cons (f _ _ r) (Paired.mapP t f)
theorem ObjOk.stay (x:ObjOk P w H h a o) (k:∀ b u,(b=a∨H b=some (.own a))→h.get? b=some u→h'.get? b=some u)
    (ho:∀ b,H b=some (.own a)→H' b=some (.own a)) (ht:∀ b xs,H b=some (.tup xs)→H' b=some (.tup xs)):ObjOk P w H' h' a o:=by
  induction o with
  | lst xs=>obtain ⟨z,its,n,r,e⟩:=x;exact ⟨z,its,n,r,k _ _ (.inl rfl) e⟩
  | tup xs=>obtain ⟨z,its,r,ob,e,c⟩:=x;exact ⟨z,its,r,ob,k _ _ (.inl rfl) e,c⟩
  | dK kvs=>obtain ⟨z,y,vs,r,ob,es,ep,e,c⟩:=x;exact ⟨z,y,vs,r,ob,es,ep,k _ _ (.inl rfl) e,c⟩
  | dT kvs=>
    obtain ⟨z,y,xs,r,ob,es,ep,e,c⟩:=x
    exact ⟨z,y,xs,Paired.mapP r fun p q z=>⟨z.1,ht _ _ z.2.1,z.2.2⟩,ob,es,ep,k _ _ (.inl rfl) e,c⟩
  | set S n=>obtain ⟨ob,es,ep,t,e,c⟩:=x;exact ⟨ob,es,ep,t,k _ _ (.inl rfl) e,c⟩
  | ins C dx fs=>
    obtain ⟨d,z,ne,e,mA,⟨od,es,ep,e2,c⟩,r⟩:=x
    exact ⟨ho _ d,z,ne,k _ _ (.inl rfl) e,mA,⟨od,es,ep,k _ _ (.inr d) e2,c⟩,r⟩
  | own y=>obtain ⟨ob,e⟩:=x;exact ⟨ob,k _ _ (.inl rfl) e⟩
  | xd fs=>obtain ⟨mA,⟨od,es,ep,e,c⟩,r⟩:=x;exact ⟨mA,⟨od,es,ep,k _ _ (.inl rfl) e,c⟩,r⟩
  | rng lo hi=>obtain ⟨t,u,v,e⟩:=x;exact ⟨t,u,v,k _ _ (.inl rfl) e⟩
  | frz ob u ih=>obtain ⟨e,q⟩:=x;exact ⟨k _ _ (.inl rfl) e,ih q⟩
  | tbl ps=>
    have e:h.get? a=some {cls:=.none,data:=.fields ps}:=x
    show h'.get? a=some {cls:=.none,data:=.fields ps}
    exact k a _ (.inl rfl) e
  | met f y=>
    have e:h.get? a=some (PySem.W.methodObj (.ref f) (.ref y)):=x
    show h'.get? a=some (PySem.W.methodObj (.ref f) (.ref y))
    exact k a _ (.inl rfl) e
  | ext φ=>obtain ⟨p,⟨o,e⟩,st⟩:=x;exact ⟨st _ _ p fun o q=>k _ _ (.inl rfl) q,⟨o,k _ _ (.inl rfl) e⟩,st⟩
theorem HOk.lt (x:HOk P w H h) (e:H a=some o):a < h.objs.size:=(x a o e).lt
theorem HOk.fresh (x:HOk P w H h) (e:h.objs.size≤a):H a=none:=by
  cases q:H a with
  | none=>rfl
  | some u=>exact absurd (Nat.lt_of_lt_of_le (x.lt q) e) (Nat.lt_irrefl _)
theorem HOk.kept (x:HOk P w H h) (k:∀ b u,h.get? b=some u→h'.get? b=some u):HOk P w H h':=fun a o e=>
  (x a o e).stay (fun b u _ q=>k b u q) (fun _ q=>q) fun _ _ q=>q
theorem HOk.laid (x:HOk P w H h) (k:∀ b u,h.get? b=some u→h'.get? b=some u) (hp:h.objs.size≤a) (new:ObjOk P w (upd H a o) h' a o):HOk P w (upd H a o) h':=fun b u e=>by
  have hn:=x.fresh hp
  by_cases hb:b=a
  · subst hb;rw [upd_same] at e;cases e;exact new
  · rw [upd_ne hb] at e
    exact (x b u e).stay (fun c v _ q=>k c v q) (fun c q=>by rw [upd_ne (ne_of_none q hn)];exact q) fun c xs q=>by rw [upd_ne (ne_of_none q hn)];exact q
end
noncomputable def Rd (H:Hp) (a:Addr) (u:HO):Prop:=H a=some u∨∃ o,H a=some (.frz o u)
theorem Rd.ok {P:Program}{w:World}{H:Hp}{h:Heap}{a:Addr}{u:HO} (r:Rd H a u) (x:HOk P w H h):ObjOk P w H h a u:=by
  rcases r with r | ⟨o,r⟩
  · exact x a u r
  · obtain ⟨_,q⟩:=x a _ r
    exact q
noncomputable def Mut:Option HO→Prop
  | some (.lst _)=>True
  | some (.dK _)=>True
  | some (.dT _)=>True
  | some (.set _ _)=>True
  | some (.ins _ _ _)=>True
  | some (.ext _)=>True
  | _=>False
section
variable {P:Program}{w:World}{H:Hp}{h h':Heap}{x e:Addr}{o':HO}
theorem HOk.write (ok:HOk P w H h) (mu:Mut (H x)) (he:e=x∨H e=some (.own x)) (k:∀ b u,b≠e→h.get? b=some u→h'.get? b=some u) (heo:∃ u,h'.get? e=some u)
    (new:ObjOk P w (upd H x o') h' x o'):HOk P w (upd H x o') h':=fun b u q=>by
  have nown:∀ c y,H c=some (.own y)→c≠x:=fun c y r z=>by subst z;rw [r] at mu;exact mu
  have ntup:∀ c xs,H c=some (.tup xs)→c≠x:=fun c xs r z=>by subst z;rw [r] at mu;exact mu
  by_cases hb:b=x
  · subst hb;rw [upd_same] at q;cases q;exact new
  · rw [upd_ne hb] at q
    by_cases hbe:b=e
    · have q':H b=some (.own x):=by
        rcases he with z | z
        · exact absurd (hbe.trans z) hb
        · rw [hbe];exact z
      rw [q] at q';cases q'
      obtain ⟨v,hv⟩:=heo
      exact ⟨v,by rw [hbe];exact hv⟩
    · refine (ok b u q).stay (fun c v hc r=>k c v ?_ r) (fun c r=>by rw [upd_ne (nown c b r)];exact r) fun c xs r=>by rw [upd_ne (ntup c xs r)];exact r
      rcases hc with rfl | hc
      · exact hbe
      · rintro rfl
        rcases he with z | z
        · exact nown c b hc z
        · rw [hc] at z;cases z;exact hb rfl
end
structure Un (fs ex:List Addr) (H H':Hp) (h h':Heap):Prop where
  keep:∀ b o,h.get? b=some o→H b=none→b∉fs→b∉ex→h'.get? b=some o
  slot:∀ b o,h.get? b=some o→H b=none→b∈fs→b∉ex→∃ sl,h'.get? b=some {o with slots:=sl}
  free:∀ b o,h.get? b=some o→H b=none→b∉ex→H' b=none
  there:∀ b o,h.get? b=some o→b∉ex→∃ o',h'.get? b=some o'
  tups:∀ b xs,H b=some (.tup xs)→H' b=some (.tup xs)
  frzs:∀ b o u,H b=some (.frz o u)→H' b=some (.frz o u)
  tbls:∀ b ps,H b=some (.tbl ps)→∃ more,H' b=some (.tbl (ps ++ more))
section
variable {fs fs' ex ex':List Addr}{H H1 H2:Hp}{h h1 h2 h':Heap}{a x e:Addr}{o:HO}
theorem Un.any (u:Un fs ex H H1 h h1) {b:Addr}{ob:Obj} (q:h.get? b=some ob) (n:H b=none) (hx:b∉ex):∃ sl,h1.get? b=some {ob with slots:=sl}:=by
  by_cases hb:b∈fs
  · exact u.slot b ob q n hb hx
  · exact ⟨ob.slots,u.keep b ob q n hb hx⟩
theorem Un.kept (k:∀ b u,h.get? b=some u→h'.get? b=some u):Un fs ex H H h h':=
  ⟨fun b ob q _ _ _=>k b ob q,fun b ob q _ _ _=>⟨ob.slots,k b ob q⟩,fun _ _ _ n _=>n,fun b ob q _=>⟨ob,k b ob q⟩,fun _ _ q=>q,fun _ _ _ q=>q,fun _ ps q=>⟨#[],by rw [q];simp⟩⟩
theorem Un.refl:Un fs ex H H h h:=Un.kept fun _ _ q=>q
theorem Un.laid (k:∀ b u,h.get? b=some u→h'.get? b=some u) (hp:h.objs.size≤a) (hn:H a=none):Un fs ex H (upd H a o) h h' where
  keep:=fun b u q _ _ _=>k b u q
  slot:=fun b u q _ _ _=>⟨u.slots,k b u q⟩
  free:=fun b u q n _=>by rw [upd_ne (Nat.ne_of_lt (Nat.lt_of_lt_of_le (Heap.lt_size q) hp))];exact n
  there:=fun b u q _=>⟨u,k b u q⟩
  tups:=fun b xs q=>by rw [upd_ne (ne_of_none q hn)];exact q
  frzs:=fun b u xs q=>by rw [upd_ne (ne_of_none q hn)];exact q
  tbls:=fun b ps q=>⟨#[],by rw [upd_ne (ne_of_none q hn),q];simp⟩
theorem Un.write (mu:Mut (H x)) (he:e=x∨H e=some (.own x)) (k:∀ b u,b≠e→h.get? b=some u→h'.get? b=some u) (heo:∃ u,h'.get? e=some u):Un fs ex H (upd H x o) h h':=by
  have hx:∀ b,H b=none→b≠x:=fun b n z=>by subst z;rw [n] at mu;exact mu
  have hb:∀ b,H b=none→b≠e:=fun b n z=>by
    subst z
    rcases he with r | r
    · exact hx b n r
    · rw [n] at r;cases r
  have hm:∀ b u,H b=some u→¬ Mut (some u)→b≠x:=fun b u q nm z=>by subst z;rw [q] at mu;exact nm mu
  refine ⟨fun b u q n _ _=>k b u (hb b n) q,fun b u q n _ _=>⟨u.slots,k b u (hb b n) q⟩,fun b u q n _=>by rw [upd_ne (hx b n)];exact n,fun b u q _=>?_,
    fun b xs q=>by rw [upd_ne (hm b _ q fun z=>z)];exact q,fun b u xs q=>by rw [upd_ne (hm b _ q fun z=>z)];exact q,fun b ps q=>⟨#[],by rw [upd_ne (hm b _ q fun z=>z),q];simp⟩⟩
  by_cases hbe:b=e
  · subst hbe;exact heo
  · exact ⟨u,k b u hbe q⟩
end
noncomputable def trk (h:Heap) (H:Hp):List Addr:=(List.range h.objs.size).filter fun a=>(H a).isSome
noncomputable def hidT (h:Heap) (H:Hp):Heap:=PySem.W.hideAll h (trk h H)
theorem hidT_size (h:Heap) (H:Hp):(hidT h H).objs.size=h.objs.size:=PySem.W.hideAll_size _ _
theorem hidT_get {h:Heap}{H:Hp}{b:Addr}{o:Obj} (e:h.get? b=some o) (n:H b=none):(hidT h H).get? b=some o:=
  PySem.W.hideAll_get _ e fun hm=>by
    have q:(H b).isSome=true:=(List.mem_filter.mp hm).2
    rw [n] at q;simp at q
theorem of_hidT {h:Heap}{H:Hp}{b:Addr}{o:Obj} (e:(hidT h H).get? b=some o):h.get? b=some o∧H b=none:=by
  have e':h.get? b=some o:=PySem.W.of_hideAll (trk h H) e
  refine ⟨e',?_⟩
  cases q:H b with
  | none=>rfl
  | some x=>
    have hm:b∈trk h H:=List.mem_filter.mpr ⟨List.mem_range.mpr (Heap.lt_size e'),by simp [q]⟩
    have z:(hidT h H).get? b=none:=PySem.W.hideAll_none (trk h H) hm
    rw [z] at e;cases e
end L2
namespace L2
open PySem PySem.Spec PyProof.Rows
structure Mod (K:PySem.W.Frag) (mg:Str→Option Value) (base:Heap):Prop where
  kin:K.In base
  glob:base.Ns mainGlobals mg
  blt:∃ mb,base.Ns builtinsNs mb∧∀ x:Str,x≠"__name__"→mb x=bootBuiltins x
  nolimit:base.NoLimit
structure Cx where
  prog:Program
  w:World
  K:PySem.W.Frag
  mg:Str→Option Value
  base:Heap
  A:Around
  N:List Str
  s₀:Shared
  H₀:Hp
  env:Env
  outer:List Env
  stack:List Env
  ex:List Addr
  fn:Str→Bool
  calm:Bool
  pn:List (Addr×Obj)
  xe:Value→Shared→Prop
noncomputable def frs (l:List Env):List Addr:=l.filterMap (·.frame)
noncomputable abbrev Cx.fs (X:Cx):List Addr:=frs X.outer
noncomputable def Vis (sc:Scope) (x:Str):Prop:=sc.names.lookup x=some .local∨sc.names.lookup x=some .cell∨sc.names.lookup x=some .free
noncomputable def Loc (sc:Scope) (x:Str):Prop:=sc.names.lookup x=some .local∨sc.names.lookup x=some .cell
noncomputable def Look (env:Env) (h:Heap) (m:Str→Option Value) (x:Str) (u:Value):Prop:=
  (env.kindOf x=some .local∧m x=some u)∨((env.kindOf x=some .cell∨env.kindOf x=some .free)∧∃ c,env.cells.lookup x=some c∧h.IsCell c (some u))
structure Cx.Ok (X:Cx):Prop where
  mod:Mod X.K X.mg X.base
  kind:X.env.scope.kind=.function
  glob:X.env.globals=mainGlobals
  blt:X.env.builtins=builtinsNs
  above:X.s₀.heap.objs.size≤X.env.locals
  inj:∀ x y c,X.env.cells.lookup x=some c→X.env.cells.lookup y=some c→x=y
  has:∀ x,(X.env.kindOf x=some .cell∨X.env.kindOf x=some .free)→∃ c,X.env.cells.lookup x=some c
  cab:∀ x c,X.fn x=true→X.env.cells.lookup x=some c→X.s₀.heap.objs.size≤c
  hd:X.calm=true→X.A.handled=none
  frames:X.A.frames=some X.stack
  stk:X.stack=X.outer∨(X.stack=X.env::X.outer∧X.env.frame=some X.env.locals)
  exf:∀ b∈X.ex,b≠X.env.locals∧∀ x c,X.env.cells.lookup x=some c→c≠b
  bs:∀ b o,X.base.get? b=some o→X.s₀.heap.get? b=some o∧X.H₀ b=none
  bsz:X.base.objs.size≤X.s₀.heap.objs.size
  noex:∀ b o,X.base.get? b=some o→b∉X.ex
  exfs:∀ b∈X.ex,b∉X.fs
  funs:X.s₀.heap.FunFrames X.base X.outer
  frf:∀ b∈X.fs,X.H₀ b=none
structure Inv (X:Cx) (pins:List (Addr×Obj)) (σ:List (Option V)) (H:Hp) (s:Shared):Prop where
  ok:X.Ok
  os:s.os=X.s₀.os
  bare:AllBare s.gens
  base:Un X.fs X.ex X.H₀ H X.s₀.heap s.heap
  loc:∃ m,s.heap.Ns X.env.locals m∧∀ (i:Nat) (x:Str) (v:V),X.N[i]?=some x→σ[i]?=some (some v)→Vis X.env.scope x→∃ u,RelV v u∧Look X.env s.heap m x u
  cell:∀ x c,X.env.cells.lookup x=some c→∃ v,s.heap.IsCell c v
  free:H X.env.locals=none
  freeC:∀ x c,X.env.cells.lookup x=some c→H c=none
  pin:∀ p∈X.pn ++ pins,s.heap.get? p.1=some p.2∧H p.1=none∧p.1≠X.env.locals∧p.1∉X.fs∧∀ v,p.2.data≠.cell v
  hok:HOk X.prog X.w H s.heap
  len:σ.length=X.N.length
section
variable {X:Cx}{pins:List (Addr×Obj)}{σ:List (Option V)}{H H':Hp}{s:Shared}{h':Heap}
theorem Cx.Ok.nofr (ok:X.Ok) {b:Addr}{o:Obj} (e:X.base.get? b=some o):b∉X.fs:=fun hb=>by
  have:=(ok.funs.mem hb).1
  rw [e] at this;cases this
theorem Inv.bs (I:Inv X pins σ H s):∀ b o,X.base.get? b=some o→s.heap.get? b=some o∧H b=none:=fun b o e=>
  ⟨I.base.keep b o (I.ok.bs b o e).1 (I.ok.bs b o e).2 (I.ok.nofr e) (I.ok.noex b o e),I.base.free b o (I.ok.bs b o e).1 (I.ok.bs b o e).2 (I.ok.noex b o e)⟩
theorem Inv.bk (I:Inv X pins σ H s):∀ b o,X.base.get? b=some o→s.heap.get? b=some o:=fun b o e=>(I.bs b o e).1
theorem Inv.mod (I:Inv X pins σ H s):Mod X.K X.mg X.base:=I.ok.mod
theorem Inv.kIn (I:Inv X pins σ H s):X.K.In s.heap:=I.ok.mod.kin.keeps I.bk
theorem Inv.lt (I:Inv X pins σ H s):X.env.locals < s.heap.objs.size:=let ⟨_,hn,_⟩:=I.loc;hn.lt
theorem Inv.sz (I:Inv X pins σ H s):X.s₀.heap.objs.size≤s.heap.objs.size:=Nat.le_trans I.ok.above (Nat.le_of_lt I.lt)
theorem Inv.nofs (I:Inv X pins σ H s) {a:Addr} (h:s.heap.objs.size≤a):a∉X.fs:=fun hb=>by
  obtain ⟨_,o,ho,_⟩:=I.ok.funs.mem hb
  exact absurd (Nat.lt_of_lt_of_le (Heap.lt_size ho) (Nat.le_trans I.sz h)) (Nat.lt_irrefl _)
theorem Inv.cne (I:Inv X pins σ H s):∀ x c,X.env.cells.lookup x=some c→c≠X.env.locals:=fun x c e z=>by
  obtain ⟨v,o,ho,hd⟩:=I.cell x c e
  obtain ⟨m,⟨o',es,ep,ho',hd',_⟩,_⟩:=I.loc
  rw [z,ho'] at ho;cases ho;rw [hd'] at hd;cases hd
theorem Inv.funs (I:Inv X pins σ H s):s.heap.FunFrames X.base X.outer:=by
  have all:∀ (l:List Env),(∀ b∈frs l,b∈X.fs)→X.s₀.heap.FunFrames X.base l→s.heap.FunFrames X.base l:=by
    intro l
    induction l with
    | nil=>intro _ _;trivial
    | cons env r ih=>
      intro hs hl
      obtain ⟨hk,⟨L,o,hf,hn,ho,hd⟩,hr⟩:=hl
      have hL:L∈X.fs:=hs L (by unfold frs;rw [List.filterMap_cons,hf];exact List.mem_cons_self)
      obtain ⟨sl,e⟩:=I.base.slot L o ho (I.ok.frf L hL) hL fun z=>I.ok.exfs L z hL
      exact ⟨hk,⟨L,_,hf,hn,e,hd⟩,ih (fun b hb=>hs b (by unfold frs;rw [List.filterMap_cons,hf];exact List.mem_cons_of_mem _ hb)) hr⟩
  exact all X.outer (fun _ hb=>hb) I.ok.funs
theorem Inv.stack (I:Inv X pins σ H s):s.heap.FunFrames X.base X.stack:=by
  rcases I.ok.stk with e | ⟨e,hf⟩
  · rw [e];exact I.funs
  · rw [e]
    obtain ⟨m,hn,_⟩:=I.loc
    refine .cons (by rw [I.ok.kind];decide) hf hn ?_ I.funs
    exact Heap.get?_none_of_le (Nat.le_trans I.ok.bsz I.ok.above)
theorem Inv.stkSub (I:Inv X pins σ H s):∀ b∈frs X.stack,b∈X.env.locals::X.fs:=fun b hb=>by
  rcases I.ok.stk with e | ⟨e,hf⟩
  · rw [e] at hb;exact List.mem_cons_of_mem _ hb
  · rw [e] at hb
    unfold frs at hb
    rw [List.filterMap_cons,hf] at hb
    exact hb
theorem Inv.stkFree (I:Inv X pins σ H s):∀ b∈frs X.stack,H b=none:=fun b hb=>by
  rcases List.mem_cons.mp (I.stkSub b hb) with e | hb
  · rw [e];exact I.free
  · obtain ⟨_,o,ho,_⟩:=I.ok.funs.mem hb
    exact I.base.free b o ho (I.ok.frf b hb) fun z=>I.ok.exfs b z hb
theorem Inv.step {g':Array GenState}{t':Nat}{d':Drawn}{ch:List Addr} (I:Inv X pins σ H s)
    (hch:∀ b∈ch,(b∈X.ex∨X.s₀.heap.objs.size≤b)∧b≠X.env.locals∧(∀ x c,X.env.cells.lookup x=some c→c≠b)∧∀ p∈X.pn ++ pins,p.1≠b)
    (keep:∀ b o,b≠X.env.locals→b∉X.fs→b∉ch→s.heap.get? b=some o→H b=none→h'.get? b=some o)
    (slot:∀ b o,b≠X.env.locals→b∈X.fs→b∉ch→s.heap.get? b=some o→H b=none→∃ sl,h'.get? b=some {o with slots:=sl}) (free:∀ b o,b∉ch→s.heap.get? b=some o→H b=none→H' b=none)
    (there:∀ b o,b∉ch→s.heap.get? b=some o→∃ o',h'.get? b=some o')
    (tups:∀ b xs,H b=some (.tup xs)→H' b=some (.tup xs)) (frzs:∀ b o u,H b=some (.frz o u)→H' b=some (.frz o u)) (tbls:∀ b ps,H b=some (.tbl ps)→∃ more,H' b=some (.tbl (ps ++ more)))
    (ns:∀ m,s.heap.Ns X.env.locals m→h'.Ns X.env.locals m) (hok:HOk X.prog X.w H' h') (hg:AllBare g'):
    Inv X pins σ H' {s with heap:=h',gens:=g',drawn:=d',toks:=t'}:=by
  have neL:∀ b o,X.s₀.heap.get? b=some o→b≠X.env.locals:=fun b o e=>Nat.ne_of_lt (Nat.lt_of_lt_of_le (Heap.lt_size e) I.ok.above)
  have neC:∀ b o,X.s₀.heap.get? b=some o→b∉X.ex→b∉ch:=fun b o e hx hb=>by
    rcases (hch b hb).1 with z | z
    · exact hx z
    · exact absurd (Nat.lt_of_lt_of_le (Heap.lt_size e) z) (Nat.lt_irrefl _)
  have cellK:∀ x c,X.env.cells.lookup x=some c→∀ v,s.heap.IsCell c v→h'.IsCell c v:=fun x c e v ⟨o,ho,hd⟩=>by
    have nch:c∉ch:=fun z=>(hch c z).2.2.1 x c e rfl
    by_cases hc:c∈X.fs
    · obtain ⟨sl,q⟩:=slot c o (I.cne x c e) hc nch ho (I.freeC x c e)
      exact ⟨_,q,hd⟩
    · exact ⟨o,keep c o (I.cne x c e) hc nch ho (I.freeC x c e),hd⟩
  refine ⟨I.ok,I.os,hg,⟨fun b o e n hb hx=>?_,fun b o e n hb hx=>?_,fun b o e n hx=>?_,fun b o e hx=>?_,fun b xs e=>tups b xs (I.base.tups b xs e),fun b o xs e=>frzs b o xs (I.base.frzs b o xs e),fun b ps e=>?_⟩,?_,fun x c e=>?_,?_,fun x c e=>?_,fun p hp=>?_,hok,I.len⟩
  · exact keep b o (neL b o e) hb (neC b o e hx) (I.base.keep b o e n hb hx) (I.base.free b o e n hx)
  · obtain ⟨sl,e1⟩:=I.base.slot b o e n hb hx
    obtain ⟨sl',e2⟩:=slot b _ (neL b o e) hb (neC b o e hx) e1 (I.base.free b o e n hx)
    exact ⟨sl',e2⟩
  · obtain ⟨o',e1⟩:=I.base.there b o e hx
    exact free b o' (neC b o e hx) e1 (I.base.free b o e n hx)
  · obtain ⟨o',e1⟩:=I.base.there b o e hx
    exact there b o' (neC b o e hx) e1
  · obtain ⟨m1,e1⟩:=I.base.tbls b ps e
    obtain ⟨m2,e2⟩:=tbls b _ e1
    exact ⟨m1 ++ m2,by rw [e2,Array.append_assoc]⟩
  · obtain ⟨m,hn,hl⟩:=I.loc
    refine ⟨m,ns m hn,fun i x v e1 e2 e3=>?_⟩
    obtain ⟨u,r,l⟩:=hl i x v e1 e2 e3
    refine ⟨u,r,?_⟩
    rcases l with l | ⟨k,c,e,z⟩
    · exact .inl l
    · exact .inr ⟨k,c,e,cellK x c e _ z⟩
  · obtain ⟨v,z⟩:=I.cell x c e
    exact ⟨v,cellK x c e v z⟩
  · obtain ⟨m,⟨o,_,_,ho,_⟩,_⟩:=I.loc
    exact free _ o (fun z=>(hch _ z).2.1 rfl) ho I.free
  · obtain ⟨v,o,ho,hd⟩:=I.cell x c e
    exact free c o (fun z=>(hch c z).2.2.1 x c e rfl) ho (I.freeC x c e)
  · obtain ⟨e,n,ne,nf,d⟩:=I.pin p hp
    have nch:p.1∉ch:=fun z=>(hch p.1 z).2.2.2 p hp rfl
    exact ⟨keep p.1 p.2 ne nf nch e n,free p.1 p.2 nch e n,ne,nf,d⟩
theorem Inv.un {t':Nat} (I:Inv X pins σ H s) (u:Un X.fs [] H H' s.heap h') (hok:HOk X.prog X.w H' h'):Inv X pins σ H' {s with heap:=h',toks:=t'}:=by
  obtain ⟨m,⟨o,es,ep,ho,r⟩,_⟩:=id I.loc
  obtain ⟨sl,hL⟩:=u.any ho I.free (by simp)
  exact I.step (g':=s.gens) (d':=s.drawn) (ch:=[]) (fun _ z=>nomatch z) (fun b o _ hb _ e n=>u.keep b o e n hb (by simp)) (fun b o _ hb _ e n=>u.slot b o e n hb (by simp)) (fun b o _ e n=>u.free b o e n (by simp)) (fun b o _ e=>u.there b o e (by simp)) u.tups u.frzs u.tbls (fun m' hm=>by
    obtain ⟨o',es',ep',ho',r'⟩:=hm
    rw [ho] at ho';cases ho'
    exact ⟨_,es',ep',hL,r'⟩) hok I.bare
theorem Inv.call {g':Array GenState}{t':Nat}{d':Drawn}{ch:List Addr} (I:Inv X pins σ H s) (u:Un (frs X.stack) ch H H' s.heap h') (hok:HOk X.prog X.w H' h') (hg:AllBare g')
    (hch:∀ b∈ch,(b∈X.ex∨X.s₀.heap.objs.size≤b)∧b≠X.env.locals∧(∀ x c,X.env.cells.lookup x=some c→c≠b)∧∀ p∈X.pn ++ pins,p.1≠b):
    Inv X pins σ H' {s with heap:=h',gens:=g',drawn:=d',toks:=t'}:=by
  obtain ⟨m,⟨o,es,ep,ho,r⟩,_⟩:=id I.loc
  obtain ⟨sl,hL⟩:=u.any ho I.free fun z=>(hch _ z).2.1 rfl
  exact I.step (ch:=ch) hch (fun b o hL hb hc e n=>u.keep b o e n (fun z=>(List.mem_cons.mp (I.stkSub b z)).elim hL hb) hc) (fun b o _ _ hc e n=>u.any e n hc) (fun b o hc e n=>u.free b o e n hc) (fun b o hc e=>u.there b o e hc) u.tups u.frzs u.tbls (fun m' hm=>by
    obtain ⟨o',es',ep',ho',r'⟩:=hm
    rw [ho] at ho';cases ho'
    exact ⟨_,es',ep',hL,r'⟩) hok hg
theorem Inv.turned {t':Nat}{it:Addr} (I:Inv X pins σ H s) (k:∀ b o,b≠it→s.heap.get? b=some o→h'.get? b=some o) (hn:H it=none) (hL:it≠X.env.locals)
    (h1:it∈X.ex∨X.s₀.heap.objs.size≤it) (h2:∀ x c,X.env.cells.lookup x=some c→c≠it) (h3:∀ p∈X.pn ++ pins,p.1≠it):Inv X pins σ H {s with heap:=h',toks:=t'}:=by
  have nit:∀ b u,H b=some u→b≠it:=fun b u e z=>by rw [z,hn] at e;cases e
  refine I.step (g':=s.gens) (d':=s.drawn) (ch:=[it]) (fun b hb=>?_) (fun b o _ _ hc e _=>k b o (fun z=>hc (by simp [z])) e) (fun b o _ _ hc e _=>⟨o.slots,k b o (fun z=>hc (by simp [z])) e⟩) (fun _ _ _ _ n=>n)
    (fun b o hc e=>⟨o,k b o (fun z=>hc (by simp [z])) e⟩) (fun _ _ e=>e) (fun _ _ _ e=>e) (fun b ps e=>⟨#[],by rw [e];simp⟩) (fun m hm=>?_) (fun b u e=>?_) I.bare
  · have e:b=it:=by simpa using hb
    subst e
    exact ⟨h1,hL,h2,h3⟩
  · obtain ⟨o,es,ep,ho,r⟩:=hm
    exact ⟨o,es,ep,k _ o (Ne.symm hL) ho,r⟩
  · refine (I.hok b u e).stay (fun c v hc q=>k c v ?_ q) (fun _ q=>q) fun _ _ q=>q
    rcases hc with z | z
    · rw [z];exact nit b u e
    · exact nit c _ z
theorem Inv.tok (I:Inv X pins σ H s) (t:Nat):Inv X pins σ H {s with toks:=t}:=I.un (h':=s.heap) (t':=t) Un.refl I.hok
theorem Inv.kept {t':Nat} (I:Inv X pins σ H s) (k:∀ b u,s.heap.get? b=some u→h'.get? b=some u):Inv X pins σ H {s with heap:=h',toks:=t'}:=I.un (Un.kept k) (I.hok.kept k)
theorem Inv.laid {a:Addr}{o:HO}{t':Nat} (I:Inv X pins σ H s) (k:∀ b u,s.heap.get? b=some u→h'.get? b=some u) (hp:s.heap.objs.size≤a) (new:ObjOk X.prog X.w (upd H a o) h' a o):
    Inv X pins σ (upd H a o) {s with heap:=h',toks:=t'}:=I.un (Un.laid k hp (I.hok.fresh hp)) (I.hok.laid k hp new)
theorem Inv.write {x e:Addr}{o:HO}{t':Nat} (I:Inv X pins σ H s) (mu:Mut (H x)) (he:e=x∨H e=some (.own x)) (k:∀ b u,b≠e→s.heap.get? b=some u→h'.get? b=some u) (heo:∃ u,h'.get? e=some u)
    (new:ObjOk X.prog X.w (upd H x o) h' x o):Inv X pins σ (upd H x o) {s with heap:=h',toks:=t'}:=I.un (Un.write mu he k heo) (I.hok.write mu he k heo new)
theorem Inv.pins_of {pins':List (Addr×Obj)} (I:Inv X pins σ H s) (h:∀ p∈pins',s.heap.get? p.1=some p.2∧H p.1=none∧p.1≠X.env.locals∧p.1∉X.fs∧∀ v,p.2.data≠.cell v):Inv X pins' σ H s:=
  ⟨I.ok,I.os,I.bare,I.base,I.loc,I.cell,I.free,I.freeC,fun p hp=>(List.mem_append.mp hp).elim (fun z=>I.pin p (List.mem_append_left _ z)) (h p),I.hok,I.len⟩
theorem nodup_ix {N:List Str} (hN:N.Nodup) {i j:Nat}{x:Str} (a:N[i]?=some x) (b:N[j]?=some x):i=j:=by
  obtain ⟨h1,e1⟩:=List.getElem?_eq_some_iff.mp a
  obtain ⟨h2,e2⟩:=List.getElem?_eq_some_iff.mp b
  exact (List.getElem_inj hN).mp (e1.trans e2.symm)
theorem store_ok2 {M:Model}{A:Around}{E:Value→Shared→Prop}{i:Nat}{x:Str}{v:V}{u:Value}{Q:Unit→Shared→Prop} (I:Inv X pins σ H s) (hN:X.N.Nodup) (hi:X.N[i]?=some x) (hx:Loc X.env.scope x) (r:RelV v u)
    (h:∀ s',Inv X pins (σ.set i (some v)) H s'→(∃ a,Heap.SameBut a s.heap s'.heap∧(a=X.env.locals∨X.env.cells.lookup x=some a))→Q () s') (hf:X.fn x=true∨X.env.scope.names.lookup x=some .local:=by first | exact .inl rfl | exact .inr rfl | assumption):wpAny M A (storeName X.env x u) Q E s:=by
  obtain ⟨m,hn,hl⟩:=id I.loc
  have hcls:(X.env.scope.kind==.class || (X.env.scope.kind==.module && X.env.locals != X.env.globals))=false:=by rw [I.ok.kind];rfl
  have hiσ:i < σ.length:=by rw [I.len];exact (List.getElem?_eq_some_iff.mp hi).1
  have cne:=I.cne
  have tracked:∀ {a:Addr}{h':Heap},(∃ o,s.heap.get? a=some o∧H a=none)→Heap.SameBut a s.heap h'→HOk X.prog X.w H h':=fun {a h'} ha hs b ob e=>by
    obtain ⟨_,_,hfree⟩:=ha
    refine (I.hok b ob e).stay (fun c w' hc q=>(hs.2 c ?_).trans q) (fun _ q=>q) fun _ _ q=>q
    rintro rfl
    rcases hc with rfl | hc
    · rw [hfree] at e;cases e
    · rw [hfree] at hc;cases hc
  rcases hx with hk | hk
  · refine wpAny_storeName_local hk hn (fun h' hn' hs=>?_) hcls
    obtain ⟨oL,_,_,hoL,_⟩:=id hn
    refine h _ ⟨I.ok,I.os,I.bare,⟨fun b o e n hb hx=>?_,fun b o e n hb hx=>?_,I.base.free,fun b o e hx=>?_,I.base.tups,I.base.frzs,I.base.tbls⟩,⟨_,hn',fun j y v' e1 e2 e3=>?_⟩,fun y c e=>?_,I.free,I.freeC,fun p hp=>?_,tracked ⟨oL,hoL,I.free⟩ hs,by simpa using I.len⟩ ⟨_,hs,.inl rfl⟩
    · exact (hs.2 b (Nat.ne_of_lt (Nat.lt_of_lt_of_le (Heap.lt_size e) I.ok.above))).trans (I.base.keep b o e n hb hx)
    · obtain ⟨sl,e1⟩:=I.base.slot b o e n hb hx
      exact ⟨sl,(hs.2 b (Nat.ne_of_lt (Nat.lt_of_lt_of_le (Heap.lt_size e) I.ok.above))).trans e1⟩
    · obtain ⟨o',e1⟩:=I.base.there b o e hx
      exact ⟨o',(hs.2 b (Nat.ne_of_lt (Nat.lt_of_lt_of_le (Heap.lt_size e) I.ok.above))).trans e1⟩
    · by_cases hj:j=i
      · subst hj
        rw [hi] at e1;cases e1
        rw [List.getElem?_set_self hiσ] at e2
        cases e2
        exact ⟨u,r,.inl ⟨hk,by simp⟩⟩
      · rw [List.getElem?_set_ne (Ne.symm hj)] at e2
        obtain ⟨u',r',q⟩:=hl j y v' e1 e2 e3
        refine ⟨u',r',?_⟩
        rcases q with ⟨k,e⟩ | ⟨k,c,e,z⟩
        · refine .inl ⟨k,?_⟩
          have:y≠x:=fun e=>hj (nodup_ix hN e1 (e ▸ hi))
          simp [this,e]
        · exact .inr ⟨k,c,e,z.sameBut hs (cne y c e)⟩
    · obtain ⟨w',z⟩:=I.cell y c e
      exact ⟨w',z.sameBut hs (cne y c e)⟩
    · obtain ⟨e,n,ne,nf,d⟩:=I.pin p hp
      exact ⟨(hs.2 p.1 ne).trans e,n,ne,nf,d⟩
  · have hfn:X.fn x=true:=by
      rcases hf with z | z
      · exact z
      · rw [z] at hk;cases hk
    obtain ⟨c,hc⟩:=I.ok.has x (.inl hk)
    obtain ⟨w',z⟩:=I.cell x c hc
    refine wpAny_storeName_cell I.ok.kind hk hc z (fun h' hc' hs=>?_)
    obtain ⟨oc,hoc,hocd⟩:=id z
    refine h {s with heap:=h'} ⟨I.ok,I.os,I.bare,⟨fun b o e n hb hx=>?_,fun b o e n hb hx=>?_,I.base.free,fun b o e hx=>?_,I.base.tups,I.base.frzs,I.base.tbls⟩,⟨m,hn.sameBut hs (Ne.symm (cne x c hc)),fun j y v' e1 e2 e3=>?_⟩,fun y c' e=>?_,I.free,I.freeC,fun p hp=>?_,tracked ⟨oc,hoc,I.freeC x c hc⟩ hs,by simpa using I.len⟩ ⟨c,hs,.inr hc⟩
    · exact (hs.2 b (Nat.ne_of_lt (Nat.lt_of_lt_of_le (Heap.lt_size e) (I.ok.cab x c hfn hc)))).trans (I.base.keep b o e n hb hx)
    · obtain ⟨sl,e1⟩:=I.base.slot b o e n hb hx
      exact ⟨sl,(hs.2 b (Nat.ne_of_lt (Nat.lt_of_lt_of_le (Heap.lt_size e) (I.ok.cab x c hfn hc)))).trans e1⟩
    · obtain ⟨o',e1⟩:=I.base.there b o e hx
      exact ⟨o',(hs.2 b (Nat.ne_of_lt (Nat.lt_of_lt_of_le (Heap.lt_size e) (I.ok.cab x c hfn hc)))).trans e1⟩
    · by_cases hj:j=i
      · subst hj
        rw [hi] at e1;cases e1
        rw [List.getElem?_set_self hiσ] at e2
        cases e2
        exact ⟨u,r,.inr ⟨.inl hk,c,hc,hc'⟩⟩
      · rw [List.getElem?_set_ne (Ne.symm hj)] at e2
        obtain ⟨u',r',q⟩:=hl j y v' e1 e2 e3
        refine ⟨u',r',?_⟩
        rcases q with q | ⟨k,c',e,z'⟩
        · exact .inl q
        · refine .inr ⟨k,c',e,z'.sameBut hs ?_⟩
          rintro rfl
          exact hj (nodup_ix hN e1 (I.ok.inj _ _ _ e hc ▸ hi))
    · by_cases hcc:c'=c
      · subst hcc;exact ⟨_,hc'⟩
      · obtain ⟨w2,z2⟩:=I.cell y c' e
        exact ⟨w2,z2.sameBut hs hcc⟩
    · obtain ⟨e,n,ne,nf,d⟩:=I.pin p hp
      refine ⟨(hs.2 p.1 ?_).trans e,n,ne,nf,d⟩
      intro q
      rw [q,hoc] at e
      have q':oc=p.2:=Option.some.inj e
      exact d w' (by rw [← q'];exact hocd)
theorem store_ok {M:Model}{A:Around}{E:Value→Shared→Prop}{i:Nat}{x:Str}{v:V}{u:Value}{Q:Unit→Shared→Prop} (I:Inv X pins σ H s) (hN:X.N.Nodup) (hi:X.N[i]?=some x) (hx:Loc X.env.scope x) (r:RelV v u)
    (h:∀ s',Inv X pins (σ.set i (some v)) H s'→Q () s') (hf:X.fn x=true∨X.env.scope.names.lookup x=some .local:=by first | exact .inl rfl | exact .inr rfl | assumption):wpAny M A (storeName X.env x u) Q E s:=
  store_ok2 I hN hi hx r (fun s' I' _=>h s' I') hf
theorem Inv.call' {s':Shared}{ch:List Addr} (I:Inv X pins σ H s) (ho:s'.os=s.os) (u:Un (frs X.stack) ch H H' s.heap s'.heap) (hok:HOk X.prog X.w H' s'.heap) (hg:AllBare s'.gens)
    (hch:∀ b∈ch,(b∈X.ex∨X.s₀.heap.objs.size≤b)∧b≠X.env.locals∧(∀ x c,X.env.cells.lookup x=some c→c≠b)∧∀ p∈X.pn ++ pins,p.1≠b):Inv X pins σ H' s':=by
  obtain ⟨h',g',d',t',o'⟩:=s'
  have e:o'=s.os:=ho
  subst e
  exact I.call (g':=g') (t':=t') (d':=d') u hok hg hch
end
noncomputable abbrev XK:=Value→Option Addr→Hp→Prop
noncomputable abbrev St:=List (Option V)
noncomputable abbrev VK:=V→Hp→Prop
noncomputable abbrev TE:=St→Hp→VK→Prop
noncomputable abbrev TT:=St→Hp→(Bool→Hp→Prop)→Prop
noncomputable abbrev TA:=St→Hp→(List V→Hp→Prop)→Prop
structure Ends where
  nx:St→Hp→Prop
  rt:VK
  bk:St→Hp→Prop:=fun _ _=>False
  ct:St→Hp→Prop:=fun _ _=>False
noncomputable abbrev TS:=Ends→St→Hp→Prop
noncomputable def EP (X:Cx) (pins:List (Addr×Obj)) (σ:St) (Q:VK) (u:Value) (s':Shared):Prop:=∃ v H',Inv X pins σ H' s'∧RelV v u∧Q v H'
noncomputable def TP (X:Cx) (pins:List (Addr×Obj)) (σ:St) (Q:Bool→Hp→Prop) (b:Bool) (s':Shared):Prop:=∃ H',Inv X pins σ H' s'∧Q b H'
noncomputable def AP (X:Cx) (pins:List (Addr×Obj)) (σ:St) (Q:List V→Hp→Prop) (us:List Value) (s':Shared):Prop:=∃ vs H',Inv X pins σ H' s'∧Vals vs us∧Q vs H'
noncomputable def SP (X:Cx) (pins:List (Addr×Obj)) (D:Ends) (f:Flow) (s':Shared):Prop:=
  match f with
  | .next=>∃ σ' H',Inv X pins σ' H' s'∧D.nx σ' H'
  | .brk=>∃ σ' H',Inv X pins σ' H' s'∧D.bk σ' H'
  | .cont=>∃ σ' H',Inv X pins σ' H' s'∧D.ct σ' H'
  | .ret u=>∃ v σ' H',Inv X pins σ' H' s'∧RelV v u∧D.rt v H'
noncomputable def PE (X:Cx) (e:Expr) (t:TE):Prop:=
  ∀ (pins:List (Addr×Obj)) (s:Shared) (σ:St) (H:Hp) (Q:VK),Inv X pins σ H s→t σ H Q→wpAny (model X.prog X.w) X.A (eval e X.env) (EP X pins σ Q) X.xe s
noncomputable def PT (X:Cx) (e:Expr) (t:TT):Prop:=
  ∀ (pins:List (Addr×Obj)) (s:Shared) (σ:St) (H:Hp) (Q:Bool→Hp→Prop),Inv X pins σ H s→t σ H Q→wpAny (model X.prog X.w) X.A (isTrue e X.env (eval e X.env)) (TP X pins σ Q) X.xe s
noncomputable def PW (X:Cx) (e:Expr) (t:TT):Prop:=
  ∀ (whole:Sem Value) (pins:List (Addr×Obj)) (s:Shared) (σ:St) (H:Hp) (Q:Bool→Hp→Prop),Inv X pins σ H s→t σ H Q→wpAny (model X.prog X.w) X.A (isTrue e X.env whole) (TP X pins σ Q) X.xe s
theorem PW.pt {X:Cx}{e:Expr}{t:TT} (h:PW X e t):PT X e t:=h _
noncomputable def PA (X:Cx) (es:List Expr) (t:TA):Prop:=
  ∀ (pos:Pos) (pins:List (Addr×Obj)) (s:Shared) (σ:St) (H:Hp) (Q:List V→Hp→Prop),Inv X pins σ H s→t σ H Q→wpAny (model X.prog X.w) X.A (spliced (backTo pos (starEach es X.env))) (AP X pins σ Q) X.xe s
noncomputable def PS (X:Cx) (st:Stmt) (t:TS):Prop:=
  ∀ (pins:List (Addr×Obj)) (s:Shared) (σ:St) (H:Hp) (D:Ends),Inv X pins σ H s→t D σ H→wpAny (model X.prog X.w) X.A (exec st X.env) (SP X pins D) X.xe s
noncomputable def PSs (X:Cx) (st:List Stmt) (t:TS):Prop:=
  ∀ (pins:List (Addr×Obj)) (s:Shared) (σ:St) (H:Hp) (D:Ends),Inv X pins σ H s→t D σ H→wpAny (model X.prog X.w) X.A (execs st X.env) (SP X pins D) X.xe s
theorem thn {α:Type}{t:Sem α}{Q Q':α→Shared→Prop}{M:Model}{A:Around}{E:Value→Shared→Prop}{s:Shared} (h:wpAny M A t Q E s) (hQ:∀ a s,Q a s→Q' a s):wpAny M A t Q' E s:=wpAny_mono h hQ fun _ _ x=>x
end L2
namespace L2
open PySem PySem.Spec PyProof.Rows
section
variable {X:Cx}
theorem bin {a b:Expr}{ta tb:TE} (ha:PE X a ta) (hb:PE X b tb) {pins:List (Addr×Obj)}{s:Shared}{σ:St}{H:Hp}{R:V→V→Hp→Prop} (I:Inv X pins σ H s) (h:ta σ H fun x H1=>tb σ H1 fun y H2=>R x y H2)
    {α:Type}{Q:α→Shared→Prop}{f:Value→Value→Sem α}
    (hf:∀ v u s2 x y H2,Inv X pins σ H2 s2→RelV x v→RelV y u→R x y H2→wpAny (model X.prog X.w) X.A (f v u) Q X.xe s2):
    wpAny (model X.prog X.w) X.A (eval a X.env) (fun v s₁=>wpAny (model X.prog X.w) X.A (eval b X.env) (fun u s₂=>wpAny (model X.prog X.w) X.A (f v u) Q X.xe s₂) X.xe s₁) X.xe s:=by
  refine thn (ha pins s σ H _ I h) fun v s1 ⟨x,H1,I1,r1,q1⟩=>?_
  refine thn (hb pins s1 σ H1 _ I1 q1) fun u s2 ⟨y,H2,I2,r2,q2⟩=>?_
  exact hf v u s2 x y H2 I2 r1 r2 q2
noncomputable def tVar (i:Nat):TE:=fun σ H Q=>∃ v,σ[i]?=some (some v)∧Q v H
noncomputable def tC (v:V):TE:=fun _ H Q=>Q v H
theorem pe_var {i:Nat}{x:Str}{pos:Pos} (hN:X.N[i]?=some x) (hv:Vis X.env.scope x) (hd:(x==("__debug__":Str))=false:=by decide) (hcd:(x==("__classdict__":Str))=false:=by decide):PE X (.Name x pos) (tVar i):=by
  intro pins s σ H Q I h
  obtain ⟨v,e,h⟩:=h
  obtain ⟨m,hn,hl⟩:=I.loc
  obtain ⟨u,r,l⟩:=hl i x v hN e hv
  have fin:EP X pins σ Q u s:=⟨v,H,I,r,h⟩
  rcases l with ⟨hk,hm⟩ | ⟨hk,c,hc,hcell⟩
  · exact wpAny_Name (wpAny_loadName_local I.ok.kind hk hn hm fin) hd
  · rcases hk with hk | hk
    · exact wpAny_Name (wpAny_loadName_cell I.ok.kind hk hc hcell fin) hd
    · exact wpAny_Name (wpAny_loadName_free I.ok.kind hk hc hcell fin hcd) hd
theorem pe_int {i j pos}:PE X (.Constant (.int i) j pos) (tC (.int i)):=fun _ _ _ H _ I h=>wpAny_Constant_int ⟨.int i,H,I.tok _,⟨_,rfl⟩,h⟩
theorem pe_bl {b j pos}:PE X (.Constant (.bool b) j pos) (tC (.bl b)):=fun _ _ _ H _ I h=>Constant_bool ⟨.bl b,H,I,rfl,h⟩
theorem pe_non {j pos}:PE X (.Constant .none j pos) (tC .non):=fun _ _ _ H _ I h=>Constant_none ⟨.non,H,I,rfl,h⟩
theorem pe_str {x j pos}:PE X (.Constant (.str x) j pos) (tC (.str x)):=fun _ _ _ H _ I h=>Calls.Constant_str ⟨.str x,H,I.tok _,⟨_,rfl⟩,h⟩
noncomputable def Gl (X:Cx) (x:Str):Prop:=X.env.kindOf x=some .globalImplicit
theorem ld_glob {E:Value→Shared→Prop}{pins:List (Addr×Obj)}{s:Shared}{σ:St}{H:Hp}{x:Str}{u:Value}{pos:Pos}{Q:Value→Shared→Prop} (I:Inv X pins σ H s) (hg:Gl X x) (hm:X.mg x=some u) (h:Q u s)
    (hd:(x==("__debug__":Str))=false:=by decide):wpAny (model X.prog X.w) X.A (eval (.Name x pos) X.env) Q E s:=
  Calls.Name_function_global I.ok.kind hg (Calls.loadGlobal_global (by rw [I.ok.glob];exact I.mod.glob.keeps I.bk) hm h) hd
theorem ld_blt {E:Value→Shared→Prop}{pins:List (Addr×Obj)}{s:Shared}{σ:St}{H:Hp}{x:Str}{u:Value}{pos:Pos}{Q:Value→Shared→Prop} (I:Inv X pins σ H s) (hg:Gl X x) (hm:X.mg x=none) (hv:bootBuiltins x=some u) (h:Q u s)
    (hn:x≠"__name__":=by decide) (hd:(x==("__debug__":Str))=false:=by decide):wpAny (model X.prog X.w) X.A (eval (.Name x pos) X.env) Q E s:=by
  obtain ⟨mb,h1,h2⟩:=I.mod.blt
  exact Calls.Name_function_global I.ok.kind hg (Calls.loadGlobal_builtin (by rw [I.ok.glob];exact I.mod.glob.keeps I.bk) hm (by rw [I.ok.blt];exact h1.keeps I.bk) ((h2 x hn).trans hv) h) hd
theorem pe_glob {x:Str}{v:V}{u:Value}{pos:Pos} (hg:Gl X x) (hm:X.mg x=some u) (r:RelV v u) (hd:(x==("__debug__":Str))=false:=by decide):PE X (.Name x pos) (tC v):=
  fun _ _ _ H _ I h=>ld_glob I hg hm ⟨v,H,I,r,h⟩ hd
theorem pe_bltn {x:Str}{v:V}{u:Value}{pos:Pos} (hg:Gl X x) (hm:X.mg x=none) (hv:bootBuiltins x=some u) (r:RelV v u) (hn:x≠"__name__":=by decide) (hd:(x==("__debug__":Str))=false:=by decide):PE X (.Name x pos) (tC v):=
  fun _ _ _ H _ I h=>ld_blt I hg hm hv ⟨v,H,I,r,h⟩ hn hd
variable {a b:Expr}{ta tb:TE}{pos:Pos}
noncomputable def PC (X:Cx) (op:CmpOp) (a b:Expr) (t:TE):Prop:=
  ∀ (pins:List (Addr×Obj)) (s:Shared) (σ:St) (H:Hp) (Q:VK),Inv X pins σ H s→t σ H Q→
    wpAny (model X.prog X.w) X.A (eval a X.env) (fun v s₁=>wpAny (model X.prog X.w) X.A (eval b X.env) (fun u s₂=>wpAny (model X.prog X.w) X.A (compareOp op v u) (EP X pins σ Q) X.xe s₂) X.xe s₁) X.xe s
noncomputable def tB (t:TE):TT:=fun σ H Q=>t σ H fun x H1=>∃ c,x=.bl c∧Q c H1
theorem pt_cmp {op:CmpOp}{t:TE} (h:PC X op a b t) (h1:behindInMarks op b=false:=by first | exact nobehind _ (by decide) (by decide) | rfl):PT X (.Compare a [op] [b] pos) (tB t):=by
  intro pins s σ H Q I hw
  refine wpAny_isTrue_Compare1 (thn (h pins s σ H _ I hw) fun v s1 h1=>thn h1 fun u s2 h2=>thn h2 fun c s3 ⟨x,H1,I1,r1,q1⟩=>?_) h1
  obtain ⟨d,rfl,q⟩:=q1
  cases r1
  exact wpAny_truthy_bool ⟨H1,I1,q⟩
theorem pt_val {e:Expr}{t:TE} (h:PE X e t) (he:∀ whole,isTrue e X.env whole=(do let v ← whole;standAt e.pos;holding [v] (truthy v)):=by intro _;rfl):PT X e (tB t):=by
  intro pins s σ H Q I hw
  refine isTrue_plain (thn (h pins s σ H _ I hw) fun v s1 ⟨x,H1,I1,r1,q1⟩=>?_) (he _)
  obtain ⟨d,rfl,q⟩:=q1
  cases r1
  exact wpAny_truthy_bool ⟨H1,I1,q⟩
variable {tA tB':TT}{rest:List Expr}
noncomputable def tAnd (t u:TT):TT:=fun σ H Q=>t σ H fun c H1=>if c=true then u σ H1 Q else Q false H1
noncomputable def tOr (t u:TT):TT:=fun σ H Q=>t σ H fun c H1=>if c=true then Q true H1 else u σ H1 Q
noncomputable def tNot (t:TT):TT:=fun σ H Q=>t σ H fun c H1=>Q (!c) H1
theorem pw_and1 (ha:PT X a tA):PW X (.BoolOp .And [a] pos) tA:=by
  intro wh pins s σ H Q I h
  refine isTrue_and (thn (ha pins s σ H Q I h) fun c s1 e=>?_)
  cases c with
  | true=>exact isTrue_and_nil e
  | false=>exact e
theorem pw_or1 (ha:PT X a tA):PW X (.BoolOp .Or [a] pos) tA:=by
  intro wh pins s σ H Q I h
  refine isTrue_or (thn (ha pins s σ H Q I h) fun c s1 e=>?_)
  cases c with
  | false=>exact isTrue_or_nil e
  | true=>exact e
theorem pw_and (ha:PT X a tA) (hb:PW X (.BoolOp .And (b::rest) pos) tB'):PW X (.BoolOp .And (a::b::rest) pos) (tAnd tA tB'):=by
  intro wh pins s σ H Q I h
  refine isTrue_and (thn (ha pins s σ H _ I h) fun c s1 ⟨H1,I1,q1⟩=>?_)
  cases c with
  | true=>exact hb wh pins s1 σ H1 Q I1 q1
  | false=>exact ⟨H1,I1,q1⟩
theorem pw_or (ha:PT X a tA) (hb:PW X (.BoolOp .Or (b::rest) pos) tB'):PW X (.BoolOp .Or (a::b::rest) pos) (tOr tA tB'):=by
  intro wh pins s σ H Q I h
  refine isTrue_or (thn (ha pins s σ H _ I h) fun c s1 ⟨H1,I1,q1⟩=>?_)
  cases c with
  | true=>exact ⟨H1,I1,q1⟩
  | false=>exact hb wh pins s1 σ H1 Q I1 q1
theorem pt_not (ha:PT X a tA):PT X (.UnaryOp .Not a pos) (tNot tA):=by
  intro pins s σ H Q I h
  exact isTrue_not (ha pins s σ H (fun c H1=>Q (!c) H1) I h)
noncomputable def tAndV (ta tb:TE):TE:=fun σ H Q=>ta σ H fun x H1=>∃ c,x=.bl c∧if c=true then tb σ H1 Q else Q (.bl false) H1
noncomputable def tNotV (ta:TE):TE:=fun σ H Q=>ta σ H fun x H1=>∃ c,x=.bl c∧Q (.bl (!c)) H1
theorem pe_one {op}{t:TE} (h:PE X a t):PE X (.BoolOp op [a] pos) t:=fun pins s σ H Q I hw=>BoolOp_one (h pins s σ H Q I hw)
theorem pe_and (ha:PE X a ta) (hb:PE X (.BoolOp .And (b::rest) pos) tb):PE X (.BoolOp .And (a::b::rest) pos) (tAndV ta tb):=by
  intro pins s σ H Q I h
  refine BoolOp_and (thn (ha pins s σ H _ I h) fun v s1 ⟨x,H1,I1,r1,q1⟩=>?_)
  obtain ⟨c,rfl,q1⟩:=q1
  cases r1
  refine wpAny_truthy_bool ?_
  cases c with
  | true=>exact hb pins s1 σ H1 Q I1 q1
  | false=>exact ⟨.bl false,H1,I1,rfl,q1⟩
theorem pe_not (ha:PE X a ta):PE X (.UnaryOp .Not a pos) (tNotV ta):=by
  intro pins s σ H Q I h
  refine UnaryOp_ (thn (ha pins s σ H _ I h) fun v s1 ⟨x,H1,I1,r1,q1⟩=>?_)
  obtain ⟨c,rfl,q1⟩:=q1
  cases r1
  exact not_of (wpAny_truthy_bool ⟨.bl (!c),H1,I1,rfl,q1⟩)
noncomputable def tIf (t:TT) (ta tb:TE):TE:=fun σ H Q=>t σ H fun c H1=>if c=true then ta σ H1 Q else tb σ H1 Q
theorem pe_ifExp {c:Expr} (hc:PT X c tA) (ha:PE X a ta) (hb:PE X b tb):PE X (.IfExp c a b pos) (tIf tA ta tb):=by
  intro pins s σ H Q I h
  refine wpAny_IfExp (thn (hc pins s σ H _ I h) fun d s1 ⟨H1,I1,q1⟩=>?_)
  cases d with
  | true=>exact ha pins s1 σ H1 Q I1 q1
  | false=>exact hb pins s1 σ H1 Q I1 q1
end
end L2
namespace L2
open PySem PySem.Spec PyProof.Rows
noncomputable def SqL (K:PySem.W.Frag) (H:Hp) (a:Addr) (xs:List V):Prop:=
  Rd H a (.lst xs)∨
    ∃ (o:Obj) (its:Array Value) (n:Nat),K.lookup a=some o∧o.cls=.type "list"∧o.dict=none∧o.data=.seq its n∧its.size≤sizeLine∧Vals xs its.toList
noncomputable def SqT (K:PySem.W.Frag) (H:Hp) (a:Addr) (xs:List V):Prop:=
  Rd H a (.tup xs)∨
    ∃ (o:Obj) (its:Array Value) (n:Nat),K.lookup a=some o∧o.cls=.type "tuple"∧o.data=.seq its n∧its.size≤sizeLine∧Vals xs its.toList
noncomputable def absV:Value→Option V
  | .none=>some .non
  | .bool b=>some (.bl b)
  | .int i _=>some (.int i)
  | .str x _=>some (.str x)
  | .bytes b _=>some (.byt b)
  | .float b _=>some (.flt b)
  | .ref a=>some (.ref a)
  | .type n=>some (.ty n)
  | _=>none
theorem RelV.abs {x:V}{u:Value} (r:RelV x u):absV u=some x:=by
  cases x with
  | non=>cases r;rfl
  | bl _=>cases r;rfl
  | int _=>obtain ⟨t,rfl⟩:=r;rfl
  | str _=>obtain ⟨t,rfl⟩:=r;rfl
  | byt _=>obtain ⟨t,rfl⟩:=r;rfl
  | flt _=>obtain ⟨t,rfl⟩:=r;rfl
  | ref _=>cases r;rfl
  | ty _=>cases r;rfl
theorem RelV.inj {x y:V}{u:Value} (r:RelV x u) (q:RelV y u):x=y:=Option.some.inj (r.abs.symm.trans q.abs)
theorem Vals.inj:∀ {xs ys:List V}{us:List Value},Vals xs us→Vals ys us→xs=ys
  | _,_,_,.nil,.nil=>rfl
  | _,_,_,.cons r t,.cons r' t'=>by rw [r.inj r',Vals.inj t t']
section
variable {X:Cx}{pins:List (Addr×Obj)}{σ:St}{H:Hp}{s:Shared}{a:Addr}{xs ys:List V}
theorem SqL.of {K:PySem.W.Frag} (h:H a=some (.lst xs)):SqL K H a xs:=.inl (.inl h)
theorem SqT.of {K:PySem.W.Frag} (h:H a=some (.tup xs)):SqT K H a xs:=.inl (.inl h)
theorem Inv.list (I:Inv X pins σ H s) (h:SqL X.K H a xs):∃ its:List Value,Vals xs its∧PlainL s.heap a its.toArray∧xs.length≤sizeLine:=by
  rcases h with h | ⟨o,its,n,hk,hc,hd,hs,hz,r⟩
  · obtain ⟨z,its,n,r,e⟩:=h.ok I.hok
    exact ⟨its,r,⟨_,n,e,rfl,rfl,rfl⟩,z⟩
  · refine ⟨its.toList,r,⟨o,n,I.kIn a o hk,hc,hd,by simpa using hs⟩,?_⟩
    have e:=r.length
    simp only [Array.length_toList] at e
    omega
theorem Inv.tuple (I:Inv X pins σ H s) (h:SqT X.K H a xs):∃ its:List Value,Vals xs its∧IsTup s.heap a its.toArray∧xs.length≤sizeLine:=by
  rcases h with h | ⟨o,its,n,hk,hc,hs,hz,r⟩
  · obtain ⟨z,its,r,p⟩:=h.ok I.hok
    exact ⟨its,r,p,z⟩
  · refine ⟨its.toList,r,⟨o,I.kIn a o hk,hc,n,by simpa using hs⟩,?_⟩
    have e:=r.length
    simp only [Array.length_toList] at e
    omega
theorem Inv.list_inj (I:Inv X pins σ H s) (h:SqL X.K H a xs) (h':SqL X.K H a ys):xs=ys:=by
  obtain ⟨its,r,⟨o,n,e,_,_,d⟩,_⟩:=I.list h
  obtain ⟨its',r',⟨o',n',e',_,_,d'⟩,_⟩:=I.list h'
  rw [e] at e';cases e'
  rw [d] at d'
  injection d' with d1 _
  have:its=its':=by simpa using congrArg Array.toList d1
  subst this
  exact r.inj r'
end
noncomputable abbrev Cx.wish (X:Cx) (E:Value→Shared→Prop):Cx:={X with xe:=E}
noncomputable abbrev Cx.nox (X:Cx):Cx:=X.wish fun _ _=>False
theorem Cx.Ok.wish {X:Cx} (ok:X.Ok) (E:Value→Shared→Prop):(X.wish E).Ok:=
  ⟨ok.mod,ok.kind,ok.glob,ok.blt,ok.above,ok.inj,ok.has,ok.cab,ok.hd,ok.frames,ok.stk,ok.exf,ok.bs,ok.bsz,ok.noex,ok.exfs,ok.funs,ok.frf⟩
theorem Cx.Ok.unwish {X:Cx}{E:Value→Shared→Prop} (ok:(X.wish E).Ok):X.Ok:=
  ⟨ok.mod,ok.kind,ok.glob,ok.blt,ok.above,ok.inj,ok.has,ok.cab,ok.hd,ok.frames,ok.stk,ok.exf,ok.bs,ok.bsz,ok.noex,ok.exfs,ok.funs,ok.frf⟩
section
variable {X:Cx}{pins:List (Addr×Obj)}{σ:St}{H:Hp}{s:Shared}{E:Value→Shared→Prop}
theorem Inv.wish (I:Inv X pins σ H s) (E:Value→Shared→Prop):Inv (X.wish E) pins σ H s:=⟨I.ok.wish E,I.os,I.bare,I.base,I.loc,I.cell,I.free,I.freeC,I.pin,I.hok,I.len⟩
theorem Inv.unwish (I:Inv (X.wish E) pins σ H s):Inv X pins σ H s:=⟨I.ok.unwish,I.os,I.bare,I.base,I.loc,I.cell,I.free,I.freeC,I.pin,I.hok,I.len⟩
theorem SP.unwish {D:Ends}{f:Flow}{s':Shared} (h:SP (X.wish E) pins D f s'):SP X pins D f s':=by
  cases f with
  | next=>obtain ⟨σ',H',I,q⟩:=h;exact ⟨σ',H',I.unwish,q⟩
  | brk=>obtain ⟨σ',H',I,q⟩:=h;exact ⟨σ',H',I.unwish,q⟩
  | cont=>obtain ⟨σ',H',I,q⟩:=h;exact ⟨σ',H',I.unwish,q⟩
  | ret u=>obtain ⟨v,σ',H',I,r,q⟩:=h;exact ⟨v,σ',H',I.unwish,r,q⟩
theorem PSs.nox {st:List Stmt}{t:TS} (h:PSs X.nox st t):PSs X st t:=fun pins s σ H D I hw=>
  wpAny_mono (h pins s σ H D (I.wish _) hw) (fun _ _ q=>q.unwish) fun _ _ z=>False.elim z
end
section
variable {X:Cx}{st:Stmt}{rest:List Stmt}{t u:TS}{e:Expr}{te:TE}{pos:Pos}
noncomputable def tNext:TS:=fun D σ H=>D.nx σ H
noncomputable def tSeq (t u:TS):TS:=fun D σ H=>t {D with nx:=u D} σ H
theorem pss_nil:PSs X [] tNext:=fun _ _ σ H _ I h=>wpAny_execs_nil ⟨σ,H,I,h⟩
theorem pss_cons (h1:PS X st t) (h2:PSs X rest u):PSs X (st::rest) (tSeq t u):=by
  intro pins s σ H D I h
  refine wpAny_execs_cons (thn (h1 pins s σ H {D with nx:=u D} I h) fun f s1 q=>?_)
  cases f with
  | next=>
    obtain ⟨σ',H',I',q⟩:=q
    exact h2 pins s1 σ' H' D I' q
  | ret v=>exact q
  | brk=>exact q
  | cont=>exact q
theorem pss_one (h1:PS X st t):PSs X [st] t:=by
  intro pins s σ H D I h
  refine wpAny_execs_cons (thn (h1 pins s σ H D I h) fun f s1 q=>?_)
  cases f with
  | next=>exact wpAny_execs_nil q
  | ret v=>exact q
  | brk=>exact q
  | cont=>exact q
theorem Inv.quiet {pins:List (Addr×Obj)}{σ:St}{H:Hp}{s:Shared} (I:Inv X pins σ H s):interactive X.env=false:=by simp [interactive,I.ok.kind]
noncomputable def tDrop (te:TE):TS:=fun D σ H=>te σ H fun _ H1=>D.nx σ H1
theorem ps_expr (he:PE X e te) (hs:swapsWith e none pos.line X.env=pure false:=by rfl):PS X (.Expr e pos) (tDrop te):=by
  intro pins s σ H D I h
  exact wpAny_Expr_any (thn (he pins s σ H _ I h) fun v s1 ⟨x,H1,I1,r1,q1⟩=>⟨σ,H1,I1,q1⟩) I.quiet hs
noncomputable def tRet (te:TE):TS:=fun D σ H=>te σ H D.rt
theorem ps_ret (he:PE X e te):PS X (.Return (some e) pos) (tRet te):=by
  intro pins s σ H D I h
  exact wpAny_Return_some (thn (he pins s σ H _ I h) fun v s1 ⟨x,H1,I1,r1,q1⟩=>⟨x,σ,H1,I1,r1,q1⟩)
noncomputable def tIfS (c:TT) (t u:TS):TS:=fun D σ H=>c σ H fun b H1=>if b=true then t D σ H1 else u D σ H1
theorem ps_if {c:Expr}{a b:List Stmt}{tc:TT} (hc:PT X c tc) (ha:PSs X a t) (hb:PSs X b u):PS X (.If c a b pos) (tIfS tc t u):=by
  intro pins s σ H D I h
  refine wpAny_If (thn (hc pins s σ H _ I h) fun d s1 ⟨H1,I1,q1⟩=>?_)
  cases d with
  | true=>exact ha pins s1 σ H1 D I1 q1
  | false=>exact hb pins s1 σ H1 D I1 q1
end
noncomputable abbrev TG:=V→St→Hp→(St→Hp→Prop)→Prop
noncomputable abbrev TGs:=List V→St→Hp→(St→Hp→Prop)→Prop
noncomputable def PG (X:Cx) (target:Expr) (t:TG):Prop:=
  ∀ (pins:List (Addr×Obj)) (s:Shared) (σ:St) (H:Hp) (v:V) (u:Value) (Q:St→Hp→Prop),Inv X pins σ H s→RelV v u→t v σ H Q→
    wpAny (model X.prog X.w) X.A (assign target X.env u) (fun _ s'=>∃ σ' H',Inv X pins σ' H' s'∧Q σ' H') X.xe s
noncomputable def PGs (X:Cx) (ts:List Expr) (t:TGs):Prop:=
  ∀ (pins:List (Addr×Obj)) (s:Shared) (σ:St) (H:Hp) (vs:List V) (us:List Value) (Q:St→Hp→Prop),Inv X pins σ H s→Vals vs us→t vs σ H Q→
    wpAny (model X.prog X.w) X.A (assignInOrder ((assignEach ts X.env).map (·.2)) us) (fun _ s'=>∃ σ' H',Inv X pins σ' H' s'∧Q σ' H') X.xe s
noncomputable abbrev TSet:=V→V→V→Hp→(Hp→Prop)→Prop
noncomputable def PSet (X:Cx) (t:TSet):Prop:=
  ∀ (pins:List (Addr×Obj)) (s:Shared) (σ:St) (H:Hp) (o i v:V) (ov iv u:Value) (Q:Hp→Prop),Inv X pins σ H s→RelV o ov→RelV i iv→RelV v u→t o i v H Q→
    wpAny (model X.prog X.w) X.A (setItem ov iv u) (fun _ s'=>∃ H',Inv X pins σ H' s'∧Q H') X.xe s
noncomputable abbrev TIp:=V→V→Hp→VK→Prop
noncomputable def PIp (X:Cx) (op:Operator) (t:TIp):Prop:=
  ∀ (pins:List (Addr×Obj)) (s:Shared) (σ:St) (H:Hp) (x y:V) (v u:Value) (Q:VK),Inv X pins σ H s→RelV x v→RelV y u→t x y H Q→
    wpAny (model X.prog X.w) X.A (inplaceOp op v u) (EP X pins σ Q) X.xe s
section
variable {X:Cx}{pos:Pos}
noncomputable def gName (i:Nat):TG:=fun v σ H Q=>Q (σ.set i (some v)) H
theorem pg_name {i:Nat}{x:Str} (hN:X.N.Nodup) (hi:X.N[i]?=some x) (hx:Loc X.env.scope x) (hf:X.fn x=true∨X.env.scope.names.lookup x=some .local:=by first | exact .inl rfl | exact .inr rfl | assumption):PG X (.Name x pos) (gName i):=by
  intro pins s σ H v u Q I r h
  exact wpAny_assign_Name (store_ok I hN hi hx r (fun s' I'=>⟨_,H,I',h⟩) hf)
noncomputable def gNil:TGs:=fun vs σ H Q=>vs=[]∧Q σ H
noncomputable def gCons (t:TG) (u:TGs):TGs:=fun vs σ H Q=>∃ v r,vs=v::r∧t v σ H fun σ' H'=>u r σ' H' Q
theorem pgs_nil:PGs X [] gNil:=by
  intro pins s σ H vs us Q I r h
  obtain ⟨e,h⟩:=h
  subst e
  cases r
  exact assignInOrder_nil ⟨σ,H,I,h⟩
theorem pgs_cons {e:Expr}{es:List Expr}{t:TG}{u:TGs} (h1:PG X e t) (h2:PGs X es u)
    (hs:(assignEach (e::es) X.env).map (·.2)=assign e X.env::(assignEach es X.env).map (·.2):=by rfl):PGs X (e::es) (gCons t u):=by
  intro pins s σ H vs us Q I r h
  obtain ⟨v,vr,e1,h⟩:=h
  subst e1
  cases r with
  | cons r rr=>
    rw [hs]
    refine assignInOrder_cons (thn (h1 pins s σ H _ _ _ I r h) fun _ s1 ⟨σ1,H1,I1,q1⟩=>?_)
    exact h2 pins s1 σ1 H1 _ _ Q I1 rr q1
noncomputable def gTup (K:PySem.W.Frag) (n:Nat) (t:TGs):TG:=fun v σ H Q=>∃ a xs,v=.ref a∧SqT K H a xs∧xs.length=n∧t xs σ H Q
theorem pg_tup {es:List Expr}{k:Nat}{t:TGs}{n:Nat} (hc:X.calm=true) (h:PGs X es t)
    (hn:(assignEach es X.env).length=n:=by rfl) (hst:(assignEach es X.env).findIdx? (·.1)=none:=by rfl):PG X (.Tuple es k pos) (gTup X.K n t):=by
  intro pins s σ H v u Q I r hw
  obtain ⟨a,xs,e1,hq,hl,hw⟩:=hw
  subst e1
  cases r
  obtain ⟨its,rv,ht,hz⟩:=I.tuple hq
  refine assign_Tuple_tuple (I.ok.hd hc) ht (by simp [hn,← hl,rv.length]) hst fun h' hx=>?_
  have I1:Inv X pins σ H {s with heap:=h'}:=I.kept (t':=s.toks) fun b o e=>hx b o (Nat.ne_of_lt (Heap.lt_size e)) e
  exact h pins _ σ H xs _ Q I1 (by simpa using rv) hw
noncomputable def gSub (to ti:TE) (t:TSet):TG:=fun v σ H Q=>to σ H fun o H1=>ti σ H1 fun i H2=>t o i v H2 fun H3=>Q σ H3
theorem pg_sub {o i:Expr}{to ti:TE}{t:TSet} (ho:PE X o to) (hi:PE X i ti) (hs:PSet X t)
    (ha:∀ v,assign (.Subscript o i pos) X.env v=(do
      let ov ← holding [v] (eval o X.env)
      let iv ← holding [v,ov] (eval i X.env)
      standAt pos
      holding [v,ov,iv] (setItem ov iv v)
      release [v,ov,iv] []):=by intro _;rfl):PG X (.Subscript o i pos) (gSub to ti t):=by
  intro pins s σ H v u Q I r h
  rw [ha]
  refine wpAny_bind (wpAny_holding (thn (ho pins s σ H _ I h) fun ov s1 ⟨x,H1,I1,r1,q1⟩=>?_))
  refine wpAny_bind (wpAny_holding (thn (hi pins s1 σ H1 _ I1 q1) fun iv s2 ⟨y,H2,I2,r2,q2⟩=>?_))
  refine wpAny_bind (wpAny_standAt (wpAny_bind (wpAny_holding (thn (hs pins s2 σ H2 x y v ov iv u _ I2 r1 r2 r q2) fun _ s3 ⟨H3,I3,q3⟩=>?_))))
  exact wpAny_release ⟨σ,H3,I3,q3⟩
noncomputable def tAsg (te:TE) (g:TG):TS:=fun D σ H=>te σ H fun x H1=>g x σ H1 D.nx
theorem ps_asg {tg e:Expr}{te:TE}{g:TG} (he:PE X e te) (hg:PG X tg g) (hs:swapsWithSole [tg] e pos.line X.env=pure false:=by rfl) (hw:swappedStores [tg] e X.env=pure none:=by rfl)
    (h1:(assignEach [tg] X.env).map (·.2)=[assign tg X.env]:=by rfl):PS X (.Assign [tg] e pos) (tAsg te g):=by
  intro pins s σ H D I h
  refine wpAny_Assign_stores (thn (he pins s σ H _ I h) fun v s1 ⟨x,H1,I1,r1,q1⟩=>?_) hs hw
  rw [h1]
  exact thn (hg pins s1 σ H1 x v _ I1 r1 q1) fun _ s2 q=>q
theorem ps_set {i:Nat}{x:Str}{e:Expr}{te:TE}{pos':Pos} (hN:X.N.Nodup) (hi:X.N[i]?=some x) (hx:Loc X.env.scope x) (he:PE X e te) (hs:swapsWith e (some (.Name x pos')) pos.line X.env=pure false:=by rfl) (hf:X.fn x=true∨X.env.scope.names.lookup x=some .local:=by first | exact .inl rfl | exact .inr rfl | assumption):
    PS X (.Assign [.Name x pos'] e pos) (tAsg te (gName i)):=by
  intro pins s σ H D I h
  refine wpAny_Assign_Name (thn (he pins s σ H _ I h) fun v s1 ⟨y,H1,I1,r1,q1⟩=>?_) hs
  exact store_ok I1 hN hi hx r1 (fun s2 I2=>⟨_,H1,I2,q1⟩) hf
noncomputable def tAug (i:Nat) (te:TE) (ti:TIp):TS:=fun D σ H=>∃ x,σ[i]?=some (some x)∧te σ H fun y H1=>ti x y H1 fun z H2=>D.nx (σ.set i (some z)) H2
theorem ps_aug {i:Nat}{x:Str}{e:Expr}{te:TE}{op:Operator}{ti:TIp}{pos':Pos} (hN:X.N.Nodup) (hi:X.N[i]?=some x) (hx:Loc X.env.scope x) (he:PE X e te) (ho:PIp X op ti) (hf:X.fn x=true∨X.env.scope.names.lookup x=some .local:=by first | exact .inl rfl | exact .inr rfl | assumption):
    PS X (.AugAssign (.Name x pos') op e pos) (tAug i te ti):=by
  intro pins s σ H D I h
  obtain ⟨v,e1,h⟩:=h
  obtain ⟨m,hn,hl⟩:=I.loc
  have vis:Vis X.env.scope x:=by rcases hx with k | k;exact .inl k;exact .inr (.inl k)
  obtain ⟨u,r,l⟩:=hl i x v hi e1 vis
  refine wpAny_AugAssign_Name ?_
  have go:wpAny (model X.prog X.w) X.A (eval e X.env) (fun w s₂=>wpAny (model X.prog X.w) X.A (inplaceOp op u w) (fun r s₃=>wpAny (model X.prog X.w) X.A (storeName X.env x r) (fun _=>SP X pins D .next) X.xe s₃) X.xe s₂) X.xe s:=by
    refine thn (he pins s σ H _ I h) fun w s1 ⟨y,H1,I1,r1,q1⟩=>?_
    refine thn (ho pins s1 σ H1 v y u w _ I1 r r1 q1) fun z s2 ⟨zv,H2,I2,r2,q2⟩=>?_
    exact store_ok I2 hN hi hx r2 (fun s3 I3=>⟨_,H2,I3,q2⟩) hf
  rcases l with ⟨hk,hm⟩ | ⟨hk,c,hc,hcell⟩
  · exact wpAny_loadName_local I.ok.kind hk hn hm go
  · rcases hk with hk | hk
    · exact wpAny_loadName_cell I.ok.kind hk hc hcell go
    · rcases hx with k | k
      · have:X.env.scope.names.lookup x=some .free:=hk
        rw [k] at this;cases this
      · have:X.env.scope.names.lookup x=some .free:=hk
        rw [k] at this;cases this
end
section
variable {X:Cx}{pos:Pos}
noncomputable def tWhile (c:TT) (tb:TS):TS:=fun D σ H=>∃ W:Nat→St→Hp→Prop,(∃ m,W m σ H)∧∀ m σ H,W m σ H→
  c σ H fun b H1=>if b=true then ∃ N:St→Hp→Prop,(∀ σ' H',N σ' H'→∃ m',m' < m∧W m' σ' H')∧tb {D with nx:=N,ct:=N,bk:=D.nx} σ H1 else D.nx σ H1
theorem ps_while {c:Expr}{body:List Stmt}{tc:TT}{tb:TS} (hp:PassesOwn (model X.prog X.w) X.A X.env X.xe) (hc:PT X c tc) (hb:PSs X body tb):PS X (.While c body [] pos) (tWhile tc tb):=by
  intro pins s σ H D I h
  obtain ⟨W,⟨m0,w0⟩,turn⟩:=h
  refine wpAny_While (codeAny_whileLoop (fun n s'=>∃ σ' H',Inv X pins σ' H' s'∧W n σ' H') ?_ m0 ⟨σ,H,I,w0⟩)
  rintro n s1 ⟨σ1,H1,I1,w1⟩
  refine wpAny_passesOwn hp (thn (hc pins s1 σ1 H1 _ I1 (turn n σ1 H1 w1)) fun b s2 ⟨H2,I2,q2⟩=>?_)
  cases b with
  | true=>
    obtain ⟨N,hN,q2⟩:=q2
    rw [if_pos rfl]
    refine wpAny_passesOwn hp (thn (hb pins s2 σ1 H2 _ I2 q2) fun f s3 q3=>?_)
    cases f with
    | next=>
      obtain ⟨σ3,H3,I3,n3⟩:=q3
      obtain ⟨m',hm,w3⟩:=hN σ3 H3 n3
      exact ⟨m',hm,σ3,H3,I3,w3⟩
    | cont=>
      obtain ⟨σ3,H3,I3,n3⟩:=q3
      obtain ⟨m',hm,w3⟩:=hN σ3 H3 n3
      exact ⟨m',hm,σ3,H3,I3,w3⟩
    | brk=>exact q3
    | ret v=>exact q3
  | false=>
    rw [if_neg Bool.false_ne_true]
    exact wpAny_execs_nil ⟨σ1,H2,I2,q2⟩
end
structure It where
  go:Nat→Hp→Prop
  yld:Nat→Hp→V→Hp→Prop
  stop:Nat→Hp→Prop
noncomputable def FpOk (X:Cx) (pins:List (Addr×Obj)) (H:Hp) (b:Addr):Prop:=
  H b=none∧b≠X.env.locals∧b∉X.fs∧(b∈X.ex∨X.s₀.heap.objs.size≤b)∧(∀ x c,X.env.cells.lookup x=some c→c≠b)∧∀ p∈X.pn ++ pins,p.1≠b
theorem Inv.fpOk {X:Cx}{pins:List (Addr×Obj)}{σ:St}{H H':Hp}{s:Shared}{b:Addr} (I:Inv X pins σ H s) (hb:s.heap.objs.size≤b) (hn:H' b=none):FpOk X pins H' b:=by
  refine ⟨hn,Nat.ne_of_gt (Nat.lt_of_lt_of_le I.lt hb),I.nofs hb,.inr (Nat.le_trans I.sz hb),fun x c e z=>?_,fun p hp z=>?_⟩
  · obtain ⟨v,q⟩:=I.cell x c e
    exact absurd (Nat.lt_of_lt_of_le q.lt (by rw [z];exact hb)) (Nat.lt_irrefl _)
  · exact absurd (Nat.lt_of_lt_of_le (Heap.lt_size (I.pin p hp).1) (by rw [z];exact hb)) (Nat.lt_irrefl _)
structure Turn (P:Program) (w:World) (K:PySem.W.Frag) (tg:Expr) (J:It) (fp:List Addr) (it:Addr) (tn:Nat→Heap→Prop):Prop where
  mem:it∈fp
  obj:∀ i h,tn i h→∀ b∈fp,∃ o,h.get? b=some o∧∀ v,o.data≠.cell v
  keep:∀ i h h',tn i h→(∀ b∈fp,∀ o,h.get? b=some o→h'.get? b=some o)→tn i h'
  item:∀ (X:Cx),X.prog=P→X.w=w→X.K=K→X.calm=true→∀ (i:Nat) (pins:List (Addr×Obj)) (s:Shared) (σ:St) (H:Hp) (E:Value→Shared→Prop),Inv X pins σ H s→(∀ b∈fp,FpOk X pins H b)→tn i s.heap→J.go i H→
    wpAny (model P w) X.A (pyNext (.ref it)) (fun r s1=>∃ u,r=some u∧
      wpAny (model P w) X.A (letOwnedTupleGo tg (.ref it) u) (fun _ s2=>∃ x H',Inv X pins σ H' s2∧RelV x u∧J.yld i H x H'∧tn (i + 1) s2.heap∧∀ b∈fp,H' b=none) E s1) E s
  done:∀ (X:Cx),X.prog=P→X.w=w→X.K=K→X.calm=true→∀ (i:Nat) (pins:List (Addr×Obj)) (s:Shared) (σ:St) (H:Hp) (E:Value→Shared→Prop),Inv X pins σ H s→(∀ b∈fp,FpOk X pins H b)→tn i s.heap→J.stop i H→
    wpAny (model P w) X.A (pyNext (.ref it)) (fun r s1=>r=none∧Inv X pins σ H s1) E s
  self:∀ (A:Around) (i:Nat) (s:Shared) (Q:Value→Shared→Prop) (E:Value→Shared→Prop),tn i s.heap→Q (.ref it) s→wpAny (model P w) A (pyIter (.ref it)) Q E s
noncomputable abbrev TI:=St→Hp→(It→Hp→Prop)→Prop
noncomputable def PIE (X:Cx) (pins:List (Addr×Obj)) (σ:St) (tg:Expr) (R:It→Hp→Prop) (itv:Value) (s2:Shared):Prop:=
  ∃ (it:Addr) (fp:List Addr) (tn:Nat→Heap→Prop) (J:It) (H':Hp),itv=.ref it∧Inv X pins σ H' s2∧Turn X.prog X.w X.K tg J fp it tn∧tn 0 s2.heap∧(∀ b∈fp,FpOk X pins H' b)∧R J H'
noncomputable def PI (X:Cx) (tg iter:Expr) (wi:TI):Prop:=
  ∀ (pins:List (Addr×Obj)) (s:Shared) (σ:St) (H:Hp) (R:It→Hp→Prop),Inv X pins σ H s→wi σ H R→
    wpAny (model X.prog X.w) X.A (eval iter X.env) (fun v s1=>wpAny (model X.prog X.w) X.A (pyIter v) (PIE X pins σ tg R) X.xe s1) X.xe s
theorem go_of {M:Model}{A:Around}{E:Value→Shared→Prop}{s:Shared}{tg:Expr}{it:Addr}{u:Value}{o:Obj}{n:String}{vs:Array Value}{Q:Unit→Shared→Prop} (ho:s.heap.get? it=some o) (hc:o.cls=.type n) (hd:o.data=.fields vs)
    (hn:["enumerate","zip","dict_itemiterator","dict_reverseitemiterator","odict_iterator","itertools.zip_longest","itertools.pairwise"].contains n=false) (hQ:Q () s):wpAny M A (letOwnedTupleGo tg (.ref it) u) Q E s:=by
  unfold letOwnedTupleGo
  cases tg <;> first
    | exact wpAny_pure hQ
    | (cases u <;> first
        | exact wpAny_pure hQ
        | (refine wpAny_bind (wpAny_load ho ?_)
           rw [hc,hd]
           show wpAny M A (if (["enumerate","zip","dict_itemiterator","dict_reverseitemiterator","odict_iterator","itertools.zip_longest","itertools.pairwise"].contains n && vs[0]?==some (rawInt _))=true then _ else _) Q E s
           rw [if_neg (by intro h;rw [hn,Bool.false_and] at h;cases h)]
           exact wpAny_pure hQ))
noncomputable def Itl (K:PySem.W.Frag) (a:Addr):It:=
  ⟨fun i H=>∃ xs x,SqL K H a xs∧xs[i]?=some x,fun i H x H'=>H'=H∧∀ xs,SqL K H a xs→xs[i]?=some x,fun i H=>∃ xs,SqL K H a xs∧xs.length≤i⟩
noncomputable def Itr (lo:Int) (n:Nat):It:=⟨fun i _=>i < n,fun i H x H'=>H'=H∧x=.int (lo + i),fun i _=>n≤i⟩
theorem turn_list {P:Program}{w:World}{K:PySem.W.Frag}{tg:Expr} (a it:Addr):Turn P w K tg (Itl K a) [it] it (fun i h=>h.IsListIter it a i) where
  mem:=by simp
  obj:=fun i h st b hb=>by
    have e:b=it:=by simpa using hb
    subst e
    obtain ⟨o,e,c,d⟩:=st
    exact ⟨o,e,fun v z=>by rw [d] at z;cases z⟩
  keep:=fun i h h' st k=>st.at fun o e=>k it (by simp) o e
  item:=by
    intro X hP hw hK hc i pins s σ H E I hf st hg
    subst hP hw hK
    obtain ⟨xs,x,hq,hx⟩:=hg
    obtain ⟨its,rv,p,hz⟩:=I.list hq
    obtain ⟨u,hu,ru⟩:=rv.get hx
    obtain ⟨f0,f1,f2,f3,f4,f5⟩:=hf it (by simp)
    refine wpAny_pyNext_list_item st p.isList (x:=u) (by simpa using hu) fun h' st' sb=>?_
    have I1:Inv X pins σ H {s with heap:=h'}:=I.turned (t':=s.toks) (fun b o hb e=>(sb.2 b hb).trans e) f0 f1 f3 f4 f5
    obtain ⟨o,e,c,d⟩:=id st'
    exact ⟨u,rfl,go_of (s:={s with heap:=h'}) e c d (by decide) ⟨x,H,I1,ru,⟨rfl,fun ys hy=>by rw [I.list_inj hy hq];exact hx⟩,st',fun b hb=>(hf b hb).1⟩⟩
  done:=by
    intro X hP hw hK hc i pins s σ H E I hf st hg
    subst hP hw hK
    obtain ⟨xs,hq,hx⟩:=hg
    obtain ⟨its,rv,p,hz⟩:=I.list hq
    obtain ⟨f0,f1,f2,f3,f4,f5⟩:=hf it (by simp)
    have hl:=rv.length
    exact wpAny_pyNext_list_end (I.ok.hd hc) st p.isList (by simp;omega) fun h' eb=>⟨rfl,I.turned (t':=s.toks) (fun b o hb e=>eb b o hb e) f0 f1 f3 f4 f5⟩
  self:=fun _ _ _ _ _ st h=>wpAny_pyIter_listiter st h
theorem turn_range {P:Program}{w:World}{K:PySem.W.Frag}{tg:Expr} (it:Addr) (lo:Int) (n:Nat):Turn P w K tg (Itr lo n) [it] it (fun i h=>IsRangeIter h it (lo + (i:Nat) * 1) ((n:Int) - (i:Nat)) 1) where
  mem:=by simp
  obj:=fun i h st b hb=>by
    have e:b=it:=by simpa using hb
    subst e
    exact ⟨_,st,fun v z=>by
      have z':Data.fields _=Data.cell v:=z
      cases z'⟩
  keep:=fun i h h' st k=>k it (by simp) _ st
  item:=by
    intro X hP hw hK hc i pins s σ H E I hf st hg
    subst hP hw hK
    obtain ⟨f0,f1,f2,f3,f4,f5⟩:=hf it (by simp)
    have W:=Walks.range (prog:=X.prog) (w:=X.w) (I.ok.hd hc) it lo 1 n
    refine W.item i s _ _ hg st fun v h' tk hv st' kk=>?_
    obtain ⟨t,rfl⟩:=hv
    have I1:Inv X pins σ H {s with heap:=h',toks:=tk}:=I.turned (fun b o hb e=>kk b o (by simpa using hb) e) f0 f1 f3 f4 f5
    refine ⟨_,rfl,go_of (s:={s with heap:=h',toks:=tk}) (n:="range_iterator") st' rfl rfl (by decide) ⟨.int (lo + i),H,I1,⟨t,?_⟩,⟨rfl,rfl⟩,st',fun b hb=>(hf b hb).1⟩⟩
    rw [Int.mul_one]
  done:=by
    intro X hP hw hK hc i pins s σ H E I hf st hg
    subst hP hw hK
    obtain ⟨f0,f1,f2,f3,f4,f5⟩:=hf it (by simp)
    exact wpAny_pyNext_range_end (I.ok.hd hc) st (by have:n≤i:=hg;omega) fun h' eb=>⟨rfl,I.turned (t':=s.toks) (fun b o hb e=>eb b o hb e) f0 f1 f3 f4 f5⟩
  self:=fun _ _ _ _ _ st h=>wpAny_pyIter_rangeiter st h
end L2
namespace L2
open PySem PySem.Spec PyProof.Rows
section
variable {X:Cx}{tg:Expr}
noncomputable def iList (K:PySem.W.Frag) (tl:TE):TI:=fun σ H R=>tl σ H fun x H1=>∃ a,x=.ref a∧(∃ xs,SqL K H1 a xs)∧R (Itl K a) H1
theorem pi_list {l:Expr}{tl:TE} (hl:PE X l tl):PI X tg l (iList X.K tl):=by
  intro pins s σ H R I h
  refine thn (hl pins s σ H _ I h) fun v s1 ⟨x,H1,I1,r1,q1⟩=>?_
  obtain ⟨a,e,⟨xs,hq⟩,q⟩:=q1
  subst e
  cases r1
  obtain ⟨its,rv,p,hz⟩:=I1.list hq
  refine wpAny_pyIter_list p.isList ?_
  refine ⟨s1.heap.objs.size,[s1.heap.objs.size],_,_,H1,rfl,I1.kept (t':=s1.toks) fun b o e=>Heap.get?_push_of_some _ e,turn_list a _,⟨_,Heap.get?_push_size _ rfl,rfl,rfl⟩,fun b hb=>?_,q⟩
  have e:b=s1.heap.objs.size:=by simpa using hb
  subst e
  exact I1.fpOk (Nat.le_refl _) (I1.hok.fresh (Nat.le_refl _))
theorem range_it {pins:List (Addr×Obj)}{σ:St}{H:Hp}{s:Shared}{R:It→Hp→Prop}{E:Value→Shared→Prop}{lo hi:Int}{t u v:Tok}{tk:Nat} (I:Inv X pins σ H s) (h1:-(2 ^ 62)≤lo) (h2:lo < 2 ^ 62) (h3:-(2 ^ 62)≤hi) (h4:hi < 2 ^ 62)
    (q:R (Itr lo (hi - lo).toNat) H):wpAny (model X.prog X.w) X.A (pyIter (.ref s.heap.objs.size)) (PIE X pins σ tg R) E {s with heap:=s.heap.push {cls:=.type "range",data:=.fields #[.int lo t,.int hi u,.int 1 v]},toks:=tk}:=by
  refine wpAny_pyIter_range (IsRange.new ..) (small_one h1 h2 h3 h4) ?_
  have I1:Inv X pins σ H {s with heap:=s.heap.push {cls:=.type "range",data:=.fields #[.int lo t,.int hi u,.int 1 v]},toks:=tk}:=I.kept fun b o e=>Heap.get?_push_of_some _ e
  refine ⟨(s.heap.push {cls:=.type "range",data:=.fields #[.int lo t,.int hi u,.int 1 v]}).objs.size,[(s.heap.push {cls:=.type "range",data:=.fields #[.int lo t,.int hi u,.int 1 v]}).objs.size],_,_,H,rfl,
    I1.kept (t':=tk) fun b o e=>Heap.get?_push_of_some _ e,turn_range _ lo (hi - lo).toNat,?_,fun b hb=>?_,q⟩
  · have e1:lo + ((0:Nat):Int) * 1=lo:=by simp
    have e2:(((hi - lo).toNat:Nat):Int) - ((0:Nat):Int)=Builtin.Range.rangeSize lo hi 1:=by rw [rangeSize_one];split <;> omega
    show IsRangeIter _ _ (lo + ((0:Nat):Int) * 1) ((((hi - lo).toNat:Nat):Int) - ((0:Nat):Int)) 1
    rw [e1,e2]
    exact Heap.get?_push_size _ rfl
  · have e:b=(s.heap.push {cls:=.type "range",data:=.fields #[.int lo t,.int hi u,.int 1 v]}).objs.size:=by simpa using hb
    subst e
    exact I1.fpOk (Nat.le_refl _) (I1.hok.fresh (Nat.le_refl _))
noncomputable def iRng1 (ta:TA):TI:=fun σ H R=>ta σ H fun vs H1=>∃ j:Int,vs=[.int j]∧-(2 ^ 62)≤j∧j < 2 ^ 62∧R (Itr 0 j.toNat) H1
noncomputable def iRng2 (ta:TA):TI:=fun σ H R=>ta σ H fun vs H1=>∃ i j:Int,vs=[.int i,.int j]∧(-(2 ^ 62)≤i∧i < 2 ^ 62∧-(2 ^ 62)≤j∧j < 2 ^ 62)∧R (Itr i (j - i).toNat) H1
theorem pi_range1 {a:Expr}{ta:TA}{p pos:Pos} (hg:Gl X "range") (hm:X.mg "range"=none) (ha:PA X [a] ta) (hs:starEach [a] X.env=[(false,eval a X.env)]:=by rfl):PI X tg (.Call (.Name "range" p) [a] [] pos) (iRng1 ta):=by
  intro pins s σ H R I h
  refine Call_ (ld_blt I hg hm boot_range (PyProof.Rows.callWith_type1 (thn (ha pos pins s σ H _ I h) fun us s1 ⟨vs,H1,I1,r1,q1⟩=>?_) hs rfl))
  obtain ⟨j,e,q1,q2,q⟩:=q1
  subst e
  cases r1 with
  | cons r rr=>
    cases rr
    obtain ⟨t,rfl⟩:=r
    exact call_range_1 (range_it I1 (by omega) (by omega) q1 q2 (by simpa using q))
theorem pi_range2 {a b:Expr}{ta:TA}{p pos:Pos} (hg:Gl X "range") (hm:X.mg "range"=none) (ha:PA X [a,b] ta) (hs:starEach [a,b] X.env=[(false,eval a X.env),(false,eval b X.env)]:=by rfl) (hs2:starEach [b] X.env=[(false,eval b X.env)]:=by rfl):
    PI X tg (.Call (.Name "range" p) [a,b] [] pos) (iRng2 ta):=by
  intro pins s σ H R I h
  refine Call_ (ld_blt I hg hm boot_range (PyProof.Rows.callWith_type1 (thn (ha pos pins s σ H _ I h) fun us s1 ⟨vs,H1,I1,r1,q1⟩=>?_) (by rw [hs,hs2]) (by rw [hs2];rfl)))
  obtain ⟨i,j,e,⟨q1,q2,q3,q4⟩,q⟩:=q1
  subst e
  cases r1 with
  | cons r rr=>
    cases rr with
    | cons r' rr=>
      cases rr
      obtain ⟨t,rfl⟩:=r
      obtain ⟨t',rfl⟩:=r'
      exact call_range_2 (range_it I1 q1 q2 q3 q4 q)
noncomputable def tFor (wi:TI) (g:TG) (tb:TS):TS:=fun D σ H=>wi σ H fun J H1=>∃ W:Nat→Nat→St→Hp→Prop,(∃ m,W 0 m σ H1)∧∀ i m σ H,W i m σ H→
  (J.stop i H∧D.nx σ H)∨(J.go i H∧∃ N:St→Hp→Prop,(∀ σ' H',N σ' H'→∃ m',m' < m∧W (i + 1) m' σ' H')∧∀ x H',J.yld i H x H'→g x σ H' fun σ2 H2=>tb {D with nx:=N,ct:=N,bk:=D.nx} σ2 H2)
noncomputable def pinsAt (fp:List Addr) (h:Heap):List (Addr×Obj):=fp.filterMap fun b=>(h.get? b).map fun o=>(b,o)
theorem mem_pinsAt {fp:List Addr}{h:Heap}{b:Addr}{o:Obj} (hb:b∈fp) (e:h.get? b=some o):(b,o)∈pinsAt fp h:=List.mem_filterMap.mpr ⟨b,hb,by rw [e];rfl⟩
theorem of_pinsAt {fp:List Addr}{h:Heap}{p:Addr×Obj} (hp:p∈pinsAt fp h):p.1∈fp∧h.get? p.1=some p.2:=by
  obtain ⟨b,hb,e⟩:=List.mem_filterMap.mp hp
  cases q:h.get? b with
  | none=>rw [q] at e;cases e
  | some o=>
    rw [q] at e
    have e':(b,o)=p:=Option.some.inj e
    subst e'
    exact ⟨hb,q⟩
theorem Inv.pinned {pins:List (Addr×Obj)}{σ:St}{H:Hp}{s:Shared}{fp:List Addr} (I:Inv X pins σ H s) (hf:∀ b∈fp,FpOk X pins H b) (ho:∀ b∈fp,∃ o,s.heap.get? b=some o∧∀ v,o.data≠.cell v):Inv X (pins ++ pinsAt fp s.heap) σ H s:=
  I.pins_of fun p hp=>(List.mem_append.mp hp).elim (fun z=>I.pin p (List.mem_append_right _ z)) fun z=>by
    obtain ⟨hb,e⟩:=of_pinsAt z
    obtain ⟨f0,f1,f2,_⟩:=hf p.1 hb
    obtain ⟨o,e',d⟩:=ho p.1 hb
    rw [e] at e';cases e'
    exact ⟨e,f0,f1,f2,d⟩
theorem Inv.unpinned {pins pl:List (Addr×Obj)}{σ:St}{H:Hp}{s:Shared} (I:Inv X (pins ++ pl) σ H s):Inv X pins σ H s:=I.pins_of fun p hp=>I.pin p (List.mem_append_right _ (List.mem_append_left _ hp))
theorem ps_for {iter:Expr}{body:List Stmt}{wi:TI}{g:TG}{tb:TS}{pos:Pos} (hp:PassesOwn (model X.prog X.w) X.A X.env X.xe) (hc:X.calm=true) (hi:PI X tg iter wi) (hg:PG X tg g) (hb:PSs X body tb)
    (hs:∀ x,foldedSetIterable iter X.env x=pure x:=by intro _;rfl):PS X (.For tg iter body [] pos) (tFor wi g tb):=by
  intro pins s σ H D I h
  refine wpAny_For (thn (hi pins s σ H _ I h) fun v s1 h1=>thn h1 fun itv s2 h2=>?_) hs
  obtain ⟨it,fp,tn,J,H2,e,I2,T,st2,f2,W,⟨m0,w0⟩,turn⟩:=h2
  subst e
  have stat:∀ {H':Hp},(∀ b∈fp,H' b=none)→∀ b∈fp,FpOk X pins H' b:=fun hn b hb=>⟨hn b hb,(f2 b hb).2⟩
  refine codeAny_forLoop_any (fun n s'=>∃ i σ' H',Inv X pins σ' H' s'∧tn i s'.heap∧(∀ b∈fp,H' b=none)∧W i n σ' H') ?_ m0 ⟨0,σ,H2,I2,st2,fun b hb=>(f2 b hb).1,w0⟩
  rintro n s3 ⟨i,σ3,H3,I3,st3,fr3,w3⟩
  rcases turn i n σ3 H3 w3 with ⟨stop,qn⟩ | ⟨go,N,hN,step⟩
  · refine wpAny_passesOwn hp (thn (T.done X rfl rfl rfl hc i pins s3 σ3 H3 X.xe I3 (stat fr3) st3 stop) fun r s4 ⟨hr,I4⟩=>?_)
    subst hr
    exact wpAny_execs_nil ⟨σ3,H3,I4,qn⟩
  · refine wpAny_passesOwn hp (thn (T.item X rfl rfl rfl hc i pins s3 σ3 H3 X.xe I3 (stat fr3) st3 go) fun r s4 ⟨u,hr,h4⟩=>?_)
    subst hr
    refine wpAny_passesOwn hp (thn h4 fun _ s5 ⟨x,H5,I5,r5,y5,st5,fr5⟩=>?_)
    have I5':=I5.pinned (stat fr5) (T.obj _ _ st5)
    refine wpAny_passesOwn hp (thn (hg _ s5 σ3 H5 x u _ I5' r5 (step x H5 y5)) fun _ s6 ⟨σ6,H6,I6,q6⟩=>?_)
    refine wpAny_passesOwn hp (thn (hb _ s6 σ6 H6 _ I6 q6) fun f s7 q7=>?_)
    have again:∀ {σ7:St}{H7:Hp},Inv X (pins ++ pinsAt fp s5.heap) σ7 H7 s7→N σ7 H7→∃ m,m < n∧∃ i σ' H',Inv X pins σ' H' s7∧tn i s7.heap∧(∀ b∈fp,H' b=none)∧W i m σ' H':=fun {σ7 H7} I7 n7=>by
      obtain ⟨m',hm,w7⟩:=hN σ7 H7 n7
      refine ⟨m',hm,i + 1,σ7,H7,I7.unpinned,T.keep _ _ _ st5 fun b hb o e=>(I7.pin (b,o) (List.mem_append_right _ (List.mem_append_right _ (mem_pinsAt hb e)))).1,fun b hb=>?_,w7⟩
      obtain ⟨o,e,d⟩:=T.obj _ _ st5 b hb
      exact (I7.pin (b,o) (List.mem_append_right _ (List.mem_append_right _ (mem_pinsAt hb e)))).2.1
    cases f with
    | next=>obtain ⟨σ7,H7,I7,n7⟩:=q7;exact again I7 n7
    | cont=>obtain ⟨σ7,H7,I7,n7⟩:=q7;exact again I7 n7
    | brk=>obtain ⟨σ7,H7,I7,q7⟩:=q7;exact ⟨σ7,H7,I7.unpinned,q7⟩
    | ret v=>obtain ⟨x7,σ7,H7,I7,r7,q7⟩:=q7;exact ⟨x7,σ7,H7,I7.unpinned,r7,q7⟩
end
theorem for_list {K:PySem.W.Frag}{a:Addr}{xs:List V}{g:TG}{tb:TS}{D:Ends}{σ:St}{H:Hp} (Pv:Nat→St→Hp→Prop) (h0:Pv 0 σ H) (hl:∀ i σ H,i≤xs.length→Pv i σ H→SqL K H a xs)
    (hs:∀ i x σ H,xs[i]?=some x→Pv i σ H→g x σ H fun σ2 H2=>tb {D with nx:=Pv (i + 1),ct:=Pv (i + 1),bk:=D.nx} σ2 H2) (hd:∀ σ H,Pv xs.length σ H→D.nx σ H):
    ∃ W:Nat→Nat→St→Hp→Prop,(∃ m,W 0 m σ H)∧∀ i m σ H,W i m σ H→
      ((Itl K a).stop i H∧D.nx σ H)∨((Itl K a).go i H∧∃ N:St→Hp→Prop,(∀ σ' H',N σ' H'→∃ m',m' < m∧W (i + 1) m' σ' H')∧∀ x H',(Itl K a).yld i H x H'→g x σ H' fun σ2 H2=>tb {D with nx:=N,ct:=N,bk:=D.nx} σ2 H2):=by
  refine ⟨fun i m σ H=>m=xs.length - i∧i≤xs.length∧Pv i σ H,⟨xs.length,by simp,Nat.zero_le _,h0⟩,?_⟩
  rintro i m σ H ⟨rfl,hi,p⟩
  have q:=hl i σ H hi p
  by_cases hlt:i < xs.length
  · refine .inr ⟨⟨xs,xs[i],q,by simp [hlt]⟩,Pv (i + 1),fun σ' H' p'=>⟨xs.length - (i + 1),by omega,rfl,hlt,p'⟩,fun x H' y=>?_⟩
    obtain ⟨e,y⟩:=y
    subst e
    exact hs i x σ _ (y xs q) p
  · have e:i=xs.length:=by omega
    subst e
    exact .inl ⟨⟨xs,q,Nat.le_refl _⟩,hd σ H p⟩
theorem for_range {lo:Int}{n:Nat}{g:TG}{tb:TS}{D:Ends}{σ:St}{H:Hp} (Pv:Nat→St→Hp→Prop) (h0:Pv 0 σ H)
    (hs:∀ i σ H,i < n→Pv i σ H→g (.int (lo + i)) σ H fun σ2 H2=>tb {D with nx:=Pv (i + 1),ct:=Pv (i + 1),bk:=D.nx} σ2 H2) (hd:∀ σ H,Pv n σ H→D.nx σ H):
    ∃ W:Nat→Nat→St→Hp→Prop,(∃ m,W 0 m σ H)∧∀ i m σ H,W i m σ H→
      ((Itr lo n).stop i H∧D.nx σ H)∨((Itr lo n).go i H∧∃ N:St→Hp→Prop,(∀ σ' H',N σ' H'→∃ m',m' < m∧W (i + 1) m' σ' H')∧∀ x H',(Itr lo n).yld i H x H'→g x σ H' fun σ2 H2=>tb {D with nx:=N,ct:=N,bk:=D.nx} σ2 H2):=by
  refine ⟨fun i m σ H=>m=n - i∧i≤n∧Pv i σ H,⟨n,by simp,Nat.zero_le _,h0⟩,?_⟩
  rintro i m σ H ⟨rfl,hi,p⟩
  by_cases hlt:i < n
  · refine .inr ⟨hlt,Pv (i + 1),fun σ' H' p'=>⟨n - (i + 1),by omega,rfl,hlt,p'⟩,fun x H' y=>?_⟩
    obtain ⟨e,y⟩:=y
    subst e y
    exact hs i σ _ hlt p
  · have e:i=n:=by omega
    subst e
    exact .inl ⟨Nat.le_refl _,hd σ H p⟩
end L2
namespace L2
open PySem PySem.Spec PyProof.Rows
noncomputable abbrev R2:=V→V→Hp→VK→Prop
noncomputable def OpR (X:Cx) (f:Value→Value→Sem Value) (r:R2):Prop:=
  ∀ (pins:List (Addr×Obj)) (s:Shared) (σ:St) (H:Hp) (x y:V) (v u:Value) (Q:VK),Inv X pins σ H s→RelV x v→RelV y u→r x y H Q→
    wpAny (model X.prog X.w) X.A (f v u) (EP X pins σ Q) X.xe s
noncomputable def CallR (X:Cx) (f:Value) (r:List V→Hp→VK→Prop):Prop:=
  ∀ (pins:List (Addr×Obj)) (s:Shared) (σ:St) (H:Hp) (xs:List V) (us:List Value) (Q:VK),Inv X pins σ H s→Vals xs us→r xs H Q→
    wpAny (model X.prog X.w) X.A (call f us) (EP X pins σ Q) X.xe s
noncomputable def tOp (r:R2) (ta tb:TE):TE:=fun σ H Q=>ta σ H fun x H1=>tb σ H1 fun y H2=>r x y H2 Q
noncomputable def rI (C:Int→Int→Prop) (g:Int→Int→V):R2:=fun x y H Q=>∃ i j,x=.int i∧y=.int j∧C i j∧Q (g i j) H
noncomputable def rI0 (g:Int→Int→V):R2:=fun x y H Q=>∃ i j,x=.int i∧y=.int j∧Q (g i j) H
section
variable {X:Cx}{a b c:Expr}{ta tb tc:TE}{pos:Pos}
theorem binT (ha:PE X a ta) (hb:PE X b tb) {pins:List (Addr×Obj)}{s:Shared}{σ:St}{H:Hp}{R:V→V→Hp→Prop} (I:Inv X pins σ H s)
    (h:ta σ H fun x H1=>tb σ H1 fun y H2=>R x y H2) {Q:Value→Shared→Prop}{f:Value→Value→Sem Value}
    (hf:∀ v u s2 x y H2,Inv X pins σ H2 s2→RelV x v→RelV y u→R x y H2→wpAny (model X.prog X.w) X.A (f v u) Q X.xe s2):
    wpAny (model X.prog X.w) X.A (eval a X.env) (fun v s₁=>wpAny (model X.prog X.w) X.A (eval b X.env) (fun u s₂=>wpAny (model X.prog X.w) X.A (f v u) Q X.xe s₂) X.xe s₁) X.xe s:=by
  refine thn (ha pins s σ H _ I h) fun v s1 ⟨x,H1,I1,r1,q1⟩=>?_
  refine thn (hb pins s1 σ H1 _ I1 q1) fun u s2 ⟨y,H2,I2,r2,q2⟩=>?_
  exact hf v u s2 x y H2 I2 r1 r2 q2
theorem pe_op {op:Operator}{r:R2} (ho:OpR X (binaryOp op) r) (ha:PE X a ta) (hb:PE X b tb):PE X (.BinOp a op b pos) (tOp r ta tb):=by
  intro pins s σ H Q I h
  exact wpAny_BinOp (binT ha hb I h fun v u s2 x y H2 I2 rx ry q=>ho pins s2 σ H2 x y v u Q I2 rx ry q)
theorem opI {f:Value→Value→Sem Value}{C:Int→Int→Prop}{g:Int→Int→Int}
    (rule:∀ (i j:Int) (t u:Tok) (s:Shared) (Q:Value→Shared→Prop) (E:Value→Shared→Prop),C i j→Q (.int (g i j) s.toks) {s with toks:=s.toks + 1}→wpAny (model X.prog X.w) X.A (f (.int i t) (.int j u)) Q E s):
    OpR X f (rI C fun i j=>.int (g i j)):=by
  intro pins s σ H x y v u Q I rx ry h
  obtain ⟨i,j,rfl,rfl,hc,q⟩:=h
  obtain ⟨t,rfl⟩:=rx
  obtain ⟨t',rfl⟩:=ry
  exact rule i j t t' s _ _ hc ⟨.int (g i j),H,I.tok _,⟨_,rfl⟩,q⟩
theorem opI0 {f:Value→Value→Sem Value}{g:Int→Int→Int}
    (rule:∀ (i j:Int) (t u:Tok) (s:Shared) (Q:Value→Shared→Prop) (E:Value→Shared→Prop),Q (.int (g i j) s.toks) {s with toks:=s.toks + 1}→wpAny (model X.prog X.w) X.A (f (.int i t) (.int j u)) Q E s):
    OpR X f (rI0 fun i j=>.int (g i j)):=by
  intro pins s σ H x y v u Q I rx ry h
  obtain ⟨i,j,rfl,rfl,q⟩:=h
  obtain ⟨t,rfl⟩:=rx
  obtain ⟨t',rfl⟩:=ry
  exact rule i j t t' s _ _ ⟨.int (g i j),H,I.tok _,⟨_,rfl⟩,q⟩
theorem opB0 {f:Value→Value→Sem Value}{g:Int→Int→Bool}
    (rule:∀ (i j:Int) (t u:Tok) (s:Shared) (Q:Value→Shared→Prop) (E:Value→Shared→Prop),Q (.bool (g i j)) s→wpAny (model X.prog X.w) X.A (f (.int i t) (.int j u)) Q E s):
    OpR X f (rI0 fun i j=>.bl (g i j)):=by
  intro pins s σ H x y v u Q I rx ry h
  obtain ⟨i,j,rfl,rfl,q⟩:=h
  obtain ⟨t,rfl⟩:=rx
  obtain ⟨t',rfl⟩:=ry
  exact rule i j t t' s _ _ ⟨.bl (g i j),H,I,rfl,q⟩
noncomputable def CPow (i j:Int):Prop:=0≤j∧j≤1000000∧i.natAbs < 2 ^ 64
noncomputable def CMul (i j:Int):Prop:=(-(2 ^ 64) < i∧i < 2 ^ 64)∨(-(2 ^ 64) < j∧j < 2 ^ 64)
theorem CMul.ok {i j:Int} (h:CMul i j):IntMulOk i j:=by
  rcases h with ⟨h1,h2⟩ | ⟨h1,h2⟩
  · exact .of_left (intBits_le_64 h1 h2)
  · exact .of_right (intBits_le_64 h1 h2)
theorem op_add:OpR X (binaryOp .Add) (rI0 fun i j=>.int (i + j)):=opI0 fun _ _ _ _ _ _ _ q=>add_int q
theorem op_sub:OpR X (binaryOp .Sub) (rI0 fun i j=>.int (i - j)):=opI0 fun _ _ _ _ _ _ _ q=>sub_int q
theorem op_mod:OpR X (binaryOp .Mod) (rI (fun _ j=>0 < j) fun i j=>.int (i % j)):=opI fun i j _ _ _ _ _ hc q=>by
  have h1:(0:Int) < j:=hc
  exact mod_int' (by omega) (by rw [Int.fmod_eq_emod_of_nonneg i (by omega)];exact q)
theorem iop_add:OpR X (inplaceOp .Add) (rI0 fun i j=>.int (i + j)):=opI0 fun _ _ _ _ _ _ _ q=>iadd_int q
theorem iop_sub:OpR X (inplaceOp .Sub) (rI0 fun i j=>.int (i - j)):=opI0 fun _ _ _ _ _ _ _ q=>isub_int q
end
noncomputable def scal:V→V→Bool
  | .non,.non=>true | .non,.int _=>true | .int _,.non=>true | .non,.bl _=>true | .bl _,.non=>true | .non,.str _=>true | .str _,.non=>true
  | .int _,.int _=>true | .bl _,.bl _=>true | .str _,.str _=>true | .byt _,.byt _=>true
  | .int _,.str _=>true | .str _,.int _=>true | .bl _,.str _=>true | .str _,.bl _=>true
  | _,_=>false
noncomputable def rEq:R2:=fun x y H Q=>scal x y=true∧Q (.bl (decide (x=y))) H
noncomputable def rNe:R2:=fun x y H Q=>scal x y=true∧Q (.bl (!decide (x=y))) H
theorem dec_int {i j:Int}:decide (V.int i=V.int j)=(i==j):=by
  rw [Bool.eq_iff_iff]
  simp
theorem dec_bl {i j:Bool}:decide (V.bl i=V.bl j)=(i==j):=by
  rw [Bool.eq_iff_iff]
  simp
theorem dec_str {i j:Str}:decide (V.str i=V.str j)=(i==j):=by
  rw [Bool.eq_iff_iff]
  simp
theorem dec_byt {i j:Array UInt8}:decide (V.byt i=V.byt j)=(i.toList==j.toList):=by
  rw [Bool.eq_iff_iff]
  cases i
  cases j
  simp
section
variable {X:Cx}{a b c:Expr}{ta tb tc:TE}{pos:Pos}
theorem fin_bl {pins:List (Addr×Obj)}{σ:St}{H:Hp}{s:Shared}{Q:VK}{k k':Bool} (I:Inv X pins σ H s) (q:Q (.bl k) H) (e:k=k'):EP X pins σ Q (.bool k') s:=by
  subst e
  exact ⟨.bl k,H,I,rfl,q⟩
theorem op_eq:OpR X (compareOp .Eq) rEq:=by
  intro pins s σ H x y v u Q I rx ry h
  obtain ⟨hs,q⟩:=h
  cases x with
  | non=>
    cases rx
    cases y with
    | non=>cases ry;exact PySem.EqNone.eq_none_none (fin_bl I q (by simp))
    | bl j=>cases ry;exact PySem.EqNone.eq_none_bool (fin_bl I q (by simp))
    | int j=>obtain ⟨t',rfl⟩:=ry;exact PySem.EqNone.eq_none_int (fin_bl I q (by simp))
    | str j=>obtain ⟨t',rfl⟩:=ry;exact PySem.EqNone.eq_none_str (fin_bl I q (by simp))
    | _=>exact absurd (show false=true from hs) Bool.false_ne_true
  | bl i=>
    cases rx
    cases y with
    | non=>cases ry;exact PySem.EqNone.eq_bool_none (fin_bl I q (by simp))
    | bl j=>cases ry;exact eq_bool (fin_bl I q dec_bl)
    | str j=>obtain ⟨t',rfl⟩:=ry;exact PySem.EqMixed.eq_bool_str (fin_bl I q (by simp))
    | _=>exact absurd (show false=true from hs) Bool.false_ne_true
  | int i=>
    obtain ⟨t,rfl⟩:=rx
    cases y with
    | non=>cases ry;exact PySem.EqNone.eq_int_none (fin_bl I q (by simp))
    | int j=>obtain ⟨t',rfl⟩:=ry;exact eq_int (fin_bl I q dec_int)
    | str j=>obtain ⟨t',rfl⟩:=ry;exact PySem.EqMixed.eq_int_str (fin_bl I q (by simp))
    | _=>exact absurd (show false=true from hs) Bool.false_ne_true
  | str i=>
    obtain ⟨t,rfl⟩:=rx
    cases y with
    | non=>cases ry;exact PySem.EqNone.eq_str_none (fin_bl I q (by simp))
    | bl j=>cases ry;exact PySem.EqMixed.eq_str_bool (fin_bl I q (by simp))
    | int j=>obtain ⟨t',rfl⟩:=ry;exact PySem.EqMixed.eq_str_int (fin_bl I q (by simp))
    | str j=>obtain ⟨t',rfl⟩:=ry;exact eq_str (fin_bl I q dec_str)
    | _=>exact absurd (show false=true from hs) Bool.false_ne_true
  | byt i=>
    obtain ⟨t,rfl⟩:=rx
    cases y with
    | byt j=>obtain ⟨t',rfl⟩:=ry;exact PySem.W.eq_bytes (fin_bl I q dec_byt)
    | _=>exact absurd (show false=true from hs) Bool.false_ne_true
  | _=>cases y <;> exact absurd (show false=true from hs) Bool.false_ne_true
theorem op_ne:OpR X (compareOp .NotEq) rNe:=by
  intro pins s σ H x y v u Q I rx ry h
  obtain ⟨hs,q⟩:=h
  cases x with
  | non=>
    cases rx
    cases y with
    | non=>cases ry;exact PySem.EqNone.ne_none_none (fin_bl I q (by simp))
    | bl j=>cases ry;exact PySem.EqNone.ne_none_bool (fin_bl I q (by simp))
    | int j=>obtain ⟨t',rfl⟩:=ry;exact PySem.EqNone.ne_none_int (fin_bl I q (by simp))
    | str j=>obtain ⟨t',rfl⟩:=ry;exact PySem.EqNone.ne_none_str (fin_bl I q (by simp))
    | _=>exact absurd (show false=true from hs) Bool.false_ne_true
  | bl i=>
    cases rx
    cases y with
    | non=>cases ry;exact PySem.EqNone.ne_bool_none (fin_bl I q (by simp))
    | bl j=>cases ry;exact ne_bool (fin_bl I q (congrArg not dec_bl))
    | str j=>obtain ⟨t',rfl⟩:=ry;exact PySem.EqMixed.ne_bool_str (fin_bl I q (by simp))
    | _=>exact absurd (show false=true from hs) Bool.false_ne_true
  | int i=>
    obtain ⟨t,rfl⟩:=rx
    cases y with
    | non=>cases ry;exact PySem.EqNone.ne_int_none (fin_bl I q (by simp))
    | int j=>obtain ⟨t',rfl⟩:=ry;exact ne_int (fin_bl I q (congrArg not dec_int))
    | str j=>obtain ⟨t',rfl⟩:=ry;exact PySem.EqMixed.ne_int_str (fin_bl I q (by simp))
    | _=>exact absurd (show false=true from hs) Bool.false_ne_true
  | str i=>
    obtain ⟨t,rfl⟩:=rx
    cases y with
    | non=>cases ry;exact PySem.EqNone.ne_str_none (fin_bl I q (by simp))
    | bl j=>cases ry;exact PySem.EqMixed.ne_str_bool (fin_bl I q (by simp))
    | int j=>obtain ⟨t',rfl⟩:=ry;exact PySem.EqMixed.ne_str_int (fin_bl I q (by simp))
    | str j=>obtain ⟨t',rfl⟩:=ry;exact ne_str (fin_bl I q (congrArg not dec_str))
    | _=>exact absurd (show false=true from hs) Bool.false_ne_true
  | byt i=>
    obtain ⟨t,rfl⟩:=rx
    cases y with
    | byt j=>obtain ⟨t',rfl⟩:=ry;exact PySem.W.ne_bytes (fin_bl I q (congrArg not dec_byt))
    | _=>exact absurd (show false=true from hs) Bool.false_ne_true
  | _=>cases y <;> exact absurd (show false=true from hs) Bool.false_ne_true
theorem op_lt:OpR X (compareOp .Lt) (rI0 fun i j=>.bl (decide (i < j))):=opB0 fun _ _ _ _ _ _ _ q=>lt_int q
theorem op_le:OpR X (compareOp .LtE) (rI0 fun i j=>.bl (decide (i≤j))):=opB0 fun _ _ _ _ _ _ _ q=>le_int q
theorem op_gt:OpR X (compareOp .Gt) (rI0 fun i j=>.bl (decide (j < i))):=opB0 fun _ _ _ _ _ _ _ q=>gt_int q
theorem op_ge:OpR X (compareOp .GtE) (rI0 fun i j=>.bl (decide (j≤i))):=opB0 fun _ _ _ _ _ _ _ q=>ge_int q
theorem op_in_str:OpR X (compareOp .In) (fun x y H Q=>∃ i j,x=.str i∧y=.str j∧Q (.bl (!(Builtin.Str.occurrences j i 0 j.length 1).isEmpty)) H):=by
  intro pins s σ H x y v u Q I rx ry h
  obtain ⟨i,j,rfl,rfl,q⟩:=h
  obtain ⟨t,rfl⟩:=rx
  obtain ⟨t',rfl⟩:=ry
  exact in_str (fin_bl I q rfl)
theorem op_isN:OpR X (compareOp .Is) (fun x y H Q=>y=.non∧Q (.bl (decide (x=.non))) H):=by
  intro pins s σ H x y v u Q I rx ry h
  obtain ⟨rfl,q⟩:=h
  cases ry
  refine is_none_gen (fin_bl I q ?_)
  cases x <;> first
    | (cases rx;rfl)
    | (obtain ⟨t,rfl⟩:=rx;rfl)
theorem op_notN:OpR X (compareOp .IsNot) (fun x y H Q=>y=.non∧Q (.bl (!decide (x=.non))) H):=by
  intro pins s σ H x y v u Q I rx ry h
  obtain ⟨rfl,q⟩:=h
  cases ry
  refine isnot_none_gen (fin_bl I q ?_)
  cases x <;> first
    | (cases rx;rfl)
    | (obtain ⟨t,rfl⟩:=rx;rfl)
theorem nomark (b:Expr) {op:CmpOp} (h:op≠.In:=by decide) (h2:op≠.NotIn:=by decide):behindInMarks op b=false:=by
  have e1:(op==CmpOp.In)=false:=by cases op <;> first | rfl | exact absurd rfl h
  have e2:(op==CmpOp.NotIn)=false:=by cases op <;> first | rfl | exact absurd rfl h2
  cases b <;> simp [behindInMarks,e1,e2]
theorem pe_cmpR {op:CmpOp}{r:R2} (ho:OpR X (compareOp op) r) (ha:PE X a ta) (hb:PE X b tb) (hm:behindInMarks op b=false):PE X (.Compare a [op] [b] pos) (tOp r ta tb):=by
  intro pins s σ H Q I h
  exact wpAny_Compare1 (binT ha hb I h fun v u s2 x y H2 I2 rx ry q=>ho pins s2 σ H2 x y v u Q I2 rx ry q) hm
noncomputable def tTest (t:TE):TT:=fun σ H Q=>t σ H fun x H'=>∃ k,x=.bl k∧Q k H'
theorem pt_cmpR {op:CmpOp}{r:R2} (ho:OpR X (compareOp op) r) (ha:PE X a ta) (hb:PE X b tb) (hm:behindInMarks op b=false):PT X (.Compare a [op] [b] pos) (tTest (tOp r ta tb)):=by
  intro pins s σ H Q I h
  refine wpAny_isTrue_Compare1 (thn (ha pins s σ H _ I h) fun v s1 ⟨x,H1,I1,r1,q1⟩=>thn (hb pins s1 σ H1 _ I1 q1) fun u s2 ⟨y,H2,I2,r2,q2⟩=>
    thn (ho pins s2 σ H2 x y v u _ I2 r1 r2 q2) fun c s3 ⟨z,H3,I3,r3,k,e,q3⟩=>?_) hm
  subst e
  cases r3
  exact wpAny_truthy_bool ⟨H3,I3,q3⟩
noncomputable def tChain (r r':R2) (ta tb tc:TE):TE:=fun σ H Q=>ta σ H fun x H1=>tb σ H1 fun y H2=>r x y H2 fun z H3=>∃ k,z=.bl k∧
  (if k=true then tc σ H3 fun w' H4=>r' y w' H4 Q else Q (.bl false) H3)
theorem pe_chain {op op':CmpOp}{r r':R2} (ho:OpR X (compareOp op) r) (ho':OpR X (compareOp op') r') (ha:PE X a ta) (hb:PE X b tb) (hc:PE X c tc)
    (hm:lastMarks [op,op'] [b,c]=false:=by with_unfolding_all rfl):PE X (.Compare a [op,op'] [b,c] pos) (tChain r r' ta tb tc):=by
  intro pins s σ H Q I h
  refine Compare_chain (thn (ha pins s σ H _ I h) fun v s1 ⟨x,H1,I1,r1,q1⟩=>chain_link (thn (hb pins s1 σ H1 _ I1 q1) fun u s2 ⟨y,H2,I2,r2,q2⟩=>
    thn (ho pins s2 σ H2 x y v u _ I2 r1 r2 q2) fun d s3 ⟨z,H3,I3,r3,k,e,q3⟩=>?_)) hm
  subst e
  cases r3
  refine wpAny_truthy_bool ?_
  cases k with
  | false=>exact ite_ff ⟨.bl false,H3,I3,rfl,q3⟩
  | true=>exact ite_tt (chain_last (thn (hc pins s3 σ H3 _ I3 q3) fun w' s4 ⟨z',H4,I4,r4,q4⟩=>ho' pins s4 σ H4 y z' u w' Q I4 r2 r4 q4))
theorem line63:(sizeLine:Nat) < 2 ^ 63:=by rw [sizeLine_eq];decide
theorem op_add_str:OpR X (binaryOp .Add) (fun x y H Q=>∃ i j,x=.str i∧y=.str j∧i.length + j.length≤sizeLine∧Q (.str (i ++ j)) H):=by
  intro pins s σ H x y v u Q I rx ry h
  obtain ⟨i,j,rfl,rfl,hz,q⟩:=h
  obtain ⟨t,rfl⟩:=rx
  obtain ⟨t',rfl⟩:=ry
  exact add_str (fun t' tk=>⟨.str (i ++ j),H,I.tok _,⟨_,rfl⟩,q⟩) hz
theorem vals1 {x:V}{us:List Value} (r:Vals [x] us):∃ u,us=[u]∧RelV x u:=by
  cases r with
  | cons r1 r2=>cases r2;exact ⟨_,rfl,r1⟩
theorem vals2 {x y:V}{us:List Value} (r:Vals [x,y] us):∃ u w',us=[u,w']∧RelV x u∧RelV y w':=by
  cases r with
  | cons r1 r2=>
    cases r2 with
    | cons r3 r4=>cases r4;exact ⟨_,_,rfl,r1,r3⟩
theorem call_min2 (hc:X.calm=true):CallR X (.builtin "min") (fun xs H Q=>∃ i j,xs=[.int i,.int j]∧Q (.int (if j < i then j else i)) H):=by
  intro pins s σ H xs us Q I r h
  obtain ⟨i,j,rfl,q⟩:=h
  obtain ⟨u,w',rfl,⟨t,rfl⟩,⟨t',rfl⟩⟩:=vals2 r
  refine min_two_ints (I.ok.hd hc) fun h' tk k=>⟨_,H,I.kept k,?_,q⟩
  by_cases hj:j < i
  · rw [if_pos hj,if_pos hj];exact ⟨_,rfl⟩
  · rw [if_neg hj,if_neg hj];exact ⟨_,rfl⟩
end
end L2
namespace L2
open PySem PySem.Spec PyProof.Rows
structure ObjM (h:Heap) (x dx C:Addr) (mA:Str→Option Value):Prop where
  obj:h.get? x=some (PySem.W.instObj C dx)
  ns:h.Ns1 dx mA
  ne:dx≠x
theorem lookIn_ns {h:Heap}{dx:Addr}{mA:Str→Option Value} (n:h.Ns1 dx mA):∃ od,h.get? dx=some od∧∀ name,PySem.W.lookIn name od=some (mA name):=by
  obtain ⟨o,es,ep,ho,hd,hk,_,hm⟩:=n
  refine ⟨o,ho,fun name=>?_⟩
  have e:=hm name
  unfold nsFind findBy at e
  rw [← Array.find?_toList] at e
  unfold PySem.W.lookIn
  rw [hd]
  dsimp only
  split
  · rename_i y q
    rw [q] at e
    exact congrArg some e
  · rename_i q
    rw [q] at e
    have a:es.toList.any (·.refKey)=false:=by
      rw [List.any_eq_false]
      intro y hy
      obtain ⟨z,t,hkey⟩:=hk y (Array.mem_toList_iff.mp hy)
      simp [DictEntry.refKey,hkey]
    have a':¬ es.toList.any (·.refKey)=true:=by rw [a];exact Bool.false_ne_true
    rw [if_neg a']
    exact congrArg some e
theorem ObjM.look {h:Heap}{x dx C:Addr}{mA:Str→Option Value} (I:ObjM h x dx C mA):∃ od,PySem.W.InstAt h x (PySem.W.instObj C dx) C (some od)∧∀ name,PySem.W.lookIn name od=some (mA name):=
  let ⟨od,ho,hl⟩:=lookIn_ns I.ns
  ⟨od,⟨I.obj,rfl,rfl,ho⟩,hl⟩
section
variable {prog:Program}{w:World}{A:Around}{E:Value→Shared→Prop}{s:Shared}{K:PySem.W.Frag}{x dx C f:Addr}{mA:Str→Option Value}{name:Str}{v:Value}
theorem get_map {expr:Bool}{Q:Value→Shared→Prop} (X:K.In s.heap) (I:ObjM s.heap x dx C mA) (hg:PySem.W.plainGet K C name=true) (hh:PySem.W.hasDictIn K C=true)
    (ha:PySem.W.findIn K (.ref C) name=some none) (hv:mA name=some v) (hv':PySem.W.handedIn v=true) (h:Q v {s with toks:=s.toks + 1}):
    wpAny (model prog w) A (getAttr (.ref x) name expr) Q E s:=by
  obtain ⟨od,J,hl⟩:=I.look
  exact PySem.W.get_value X J (PySem.W.plainGet_of hg).1 (PySem.W.findObj_own hh ha rfl (by rw [hl,hv])) hv' h
theorem get_meth {pl:Sem Bool}{Q:Value×List Value→Shared→Prop} (X:K.In s.heap) (I:ObjM s.heap x dx C mA) (hg:PySem.W.plainGet K C name=true)
    (hf:PySem.W.findIn K (.ref C) name=some (some (.ref f))) (ht:PySem.W.isFn K (.ref f)=true) (hv:mA name=none) (h:Q (.ref f,[.ref x]) s):
    wpAny (model prog w) A (getMethod (.ref x) name pl) Q E s:=by
  obtain ⟨od,J,hl⟩:=I.look
  exact PySem.W.method_fn X J (PySem.W.plainGet_of hg).1 (PySem.W.plainGet_of hg).2 hf (beq_iff_eq.mp ht) (by show (PySem.W.lookIn name od).map (·.isSome)=some false;rw [hl,hv];rfl) h
theorem set_map {ns:List Str}{Q:Unit→Shared→Prop} (X:K.In s.heap) (I:ObjM s.heap x dx C mA)
    (hs:PySem.W.findIn K (.ref C) "__setattr__"=some (some (.builtin "object.__setattr__"))) (hp:PySem.W.plainOver K C=true) (ht:PySem.W.takerIn K C name=some none) (hh:PySem.W.hasDictIn K C=true)
    (hw:PySem.Within mA ns) (hsz:ns.length≤sizeLine)
    (h:∀ h',ObjM h' x dx C (fun y=>if y=name then some v else mA y)→Heap.SameBut dx s.heap h'→Q () {s with heap:=h',toks:=s.toks + 2}):
    wpAny (model prog w) A (setAttr (.ref x) name v) Q E s:=by
  obtain ⟨od,J,hl⟩:=I.look
  refine PySem.W.set_plain X J hs (PySem.W.osa_open (s:={s with toks:=s.toks + 1}) (r:=none) X J hp ht fun b=>?_)
  obtain ⟨cd,hc,hd'⟩:=PySem.W.any_some hh
  have hx:s.heap.get? x=some ⟨.ref C,some dx,.plain,#[]⟩:=I.obj
  refine wpAny_bind (wpAny_pure (wpAny_bind (wpAny_bind (wpAny_loadPart hx (wpAny_bind (PySem.W.Looks.here (s:={s with toks:=s.toks + 1}) (PySem.W.looks_clsIn X hc) ?_))))))
  rw [hd']
  refine wpAny_pure (a:=some dx) (wpAny_bind (wpAny_pure (wpAny_bind ?_)))
  refine wpAny_nsSet1 (s:={s with toks:=s.toks + 1}) I.ns fun h' hn2 hs2=>?_
  obtain ⟨oD,esD,epD,hoD,hdD,hcD⟩:=hn2.count (PySem.Within.cons name v hw)
  refine wpAny_bind (wpAny_lookBehind hoD (by rw [hdD];exact pastItsLine_dict (Nat.le_trans hcD (by rw [List.length_cons];omega))) ?_)
  exact wpAny_pure (h _ ⟨(hs2.2 _ (Ne.symm I.ne)).trans I.obj,hn2,I.ne⟩ hs2)
theorem make_map {R:Result→Shared→Prop}{vs:List Value}{kw:List (Str×Value)} (X:K.In s.heap) (hm:PySem.W.makesIn K C=true)
    (hi:PySem.W.findIn K (.ref C) "__init__"=some (some (.ref f))) (hf:PySem.W.typeIn K (.ref f)=some (.type "function"))
    (h:codeAny (model prog w) (A.under (.builtin "type.__call__" ⟨.ref C::vs,kw⟩)) (.call (.ref f) ⟨.ref (s.heap.objs.size + 1)::vs,kw⟩) (PySem.W.InitBack (s.heap.objs.size + 1) R)
      {s with heap:=(s.heap.push PySem.W.emptyDict).push (PySem.W.instObj C s.heap.objs.size)}):
    codeAny (model prog w) A (.call (.ref C) ⟨vs,kw⟩) R s:=by
  obtain ⟨hh,g,d,t,os⟩:=s
  exact PySem.W.make_core (PySem.W.makes_of X hm) (PySem.W.looks_findIn X hi) (fun self=>PySem.W.bind_fn X self hf) (.inl rfl) h
end
noncomputable def putF (f:Str) (v:V):List (Str×V)→List (Str×V)
  | []=>[(f,v)]
  | (g,x)::r=>if g=f then (g,v)::r else (g,x)::putF f v r
theorem lookup_putF (f g:Str) (v:V):∀ fs:List (Str×V),(putF f v fs).lookup g=if g=f then some v else fs.lookup g
  | []=>by
    show List.lookup g [(f,v)]=_
    by_cases h:g=f
    · have hb:(g==f)=true:=beq_iff_eq.mpr h
      simp only [List.lookup,hb,if_pos h]
    · have hb:(g==f)=false:=beq_eq_false_iff_ne.mpr h
      simp only [List.lookup,hb,if_neg h]
  | (k,x)::r=>by
    have ih:=lookup_putF f g v r
    rw [show putF f v ((k,x)::r)=(if k=f then (k,v)::r else (k,x)::putF f v r) from rfl]
    by_cases hk:k=f
    · rw [if_pos hk]
      by_cases h:g=k
      · have hb:(g==k)=true:=beq_iff_eq.mpr h
        simp only [List.lookup,hb,if_pos (h.trans hk)]
      · have hb:(g==k)=false:=beq_eq_false_iff_ne.mpr h
        simp only [List.lookup,hb,if_neg (fun e:g=f=>h (e.trans hk.symm))]
    · rw [if_neg hk]
      by_cases h:g=k
      · have hb:(g==k)=true:=beq_iff_eq.mpr h
        simp only [List.lookup,hb,if_neg (fun e:g=f=>hk (h.symm.trans e))]
      · have hb:(g==k)=false:=beq_eq_false_iff_ne.mpr h
        simp only [List.lookup,hb]
        exact ih
theorem keys_putF (f:Str) (v:V):∀ fs:List (Str×V),f∈(putF f v fs).map (·.1)∧∀ g,g∈fs.map (·.1)→g∈(putF f v fs).map (·.1)
  | []=>⟨by simp [putF],fun g h=>by simp at h⟩
  | (k,x)::r=>by
    obtain ⟨i1,i2⟩:=keys_putF f v r
    rw [show putF f v ((k,x)::r)=(if k=f then (k,v)::r else (k,x)::putF f v r) from rfl]
    by_cases hk:k=f
    · rw [if_pos hk]
      subst hk
      exact ⟨by simp,fun g h=>by simpa using h⟩
    · rw [if_neg hk]
      refine ⟨?_,fun g h=>?_⟩
      · rw [List.map_cons]
        exact List.mem_cons_of_mem _ i1
      · rw [List.map_cons] at h ⊢
        rcases List.mem_cons.mp h with e | e
        · exact List.mem_cons.mpr (.inl e)
        · exact List.mem_cons_of_mem _ (i2 g e)
theorem length_putF (f:Str) (v:V):∀ fs:List (Str×V),(putF f v fs).length≤fs.length + 1
  | []=>by simp [putF]
  | (k,x)::r=>by
    have ih:=length_putF f v r
    rw [show putF f v ((k,x)::r)=(if k=f then (k,v)::r else (k,x)::putF f v r) from rfl]
    by_cases hk:k=f
    · rw [if_pos hk,List.length_cons,List.length_cons];omega
    · rw [if_neg hk,List.length_cons,List.length_cons];omega
theorem RelO.some_of {v:V}{o:Option Value} (r:RelO (some v) o):∃ u,o=some u∧RelV v u:=by
  cases o with
  | none=>exact (show False from r).elim
  | some u=>exact ⟨u,rfl,r⟩
theorem RelO.none_of {o:Option Value} (r:RelO none o):o=none:=by
  cases o with
  | none=>rfl
  | some u=>exact (show False from r).elim
theorem handed_of {v:V}{u:Value} (r:RelV v u):PySem.W.handedIn u=true:=by
  cases v with
  | non=>cases (show u=Value.none from r);rfl
  | bl b=>cases (show u=Value.bool b from r);rfl
  | int i=>obtain ⟨t,e⟩:=(show ∃ t,u=Value.int i t from r);cases e;rfl
  | str x=>obtain ⟨t,e⟩:=(show ∃ t,u=Value.str x t from r);cases e;rfl
  | byt b=>obtain ⟨t,e⟩:=(show ∃ t,u=Value.bytes b t from r);cases e;rfl
  | flt b=>obtain ⟨t,e⟩:=(show ∃ t,u=Value.float b t from r);cases e;rfl
  | ref a=>cases (show u=Value.ref a from r);rfl
  | ty n=>cases (show u=Value.type n from r);rfl
section
variable {P:Program}{w:World}{H H':Hp}{h h':Heap}{a C dx:Addr}{fs fs':List (Str×V)}
theorem ins_get (hok:HOk P w H h) (e:H a=some (.ins C dx fs)):∃ mA,ObjM h a dx C mA∧(∀ f,RelO (fs.lookup f) (mA f))∧PySem.Within mA (fs.map (·.1))∧fs.length≤1000∧H dx=some (.own a):=by
  obtain ⟨d,z,ne,ob,mA,n,r,q⟩:=(show ObjOk P w H h a (.ins C dx fs) from hok a _ e)
  exact ⟨mA,⟨ob,n,ne⟩,r,q,z,d⟩
end
structure Cls (K:PySem.W.Frag) (C:Addr):Prop where
  pg:PySem.W.plainGet K C Str.empty=true
  hd:PySem.W.hasDictIn K C=true
  po:PySem.W.plainOver K C=true
  sa:PySem.W.findIn K (.ref C) "__setattr__"=some (some (.builtin "object.__setattr__"))
theorem Cls.get {K:PySem.W.Frag}{C:Addr} (c:Cls K C) (f:Str):PySem.W.plainGet K C f=true:=c.pg
noncomputable def NoAttr (K:PySem.W.Frag) (C:Addr) (f:Str):Prop:=PySem.W.findIn K (.ref C) f=some none
theorem NoAttr.taker {K:PySem.W.Frag}{C:Addr}{f:Str} (n:NoAttr K C f):PySem.W.takerIn K C f=some none:=by
  unfold PySem.W.takerIn
  rw [show PySem.W.findIn K (.ref C) f=some none from n]
  rfl
structure Meth (K:PySem.W.Frag) (C:Addr) (m:Str) (f:Addr):Prop where
  at_:PySem.W.findIn K (.ref C) m=some (some (.ref f))
  fn:PySem.W.isFn K (.ref f)=true
  kp:PySem.W.keepIn K (.ref f)=true
section
variable {X:Cx}{pins:List (Addr×Obj)}{σ:St}{H:Hp}{s:Shared}{a C dx:Addr}{fs:List (Str×V)}{f:Str}{v:V}{A:Around}{E:Value→Shared→Prop}
theorem getattr_ok {b:Bool}{Q:Value→Shared→Prop} (I:Inv X pins σ H s) (e:H a=some (.ins C dx fs)) (c:Cls X.K C) (n:NoAttr X.K C f) (l:fs.lookup f=some v)
    (h:∀ u s',Inv X pins σ H s'→RelV v u→Q u s'):wpAny (model X.prog X.w) A (getAttr (.ref a) f b) Q E s:=by
  obtain ⟨mA,O,r,_,_,_⟩:=ins_get I.hok e
  obtain ⟨u,hu,ru⟩:=RelO.some_of (v:=v) (o:=mA f) (by rw [← l];exact r f)
  exact get_map I.kIn O (c.get f) c.hd n hu (handed_of ru) (h u _ (I.tok _) ru)
theorem getmeth_ok {m:Str}{g:Addr}{pl:Sem Bool}{Q:Value×List Value→Shared→Prop} (I:Inv X pins σ H s) (e:H a=some (.ins C dx fs)) (c:Cls X.K C) (k:Meth X.K C m g) (l:fs.lookup m=none)
    (h:Q (.ref g,[.ref a]) s):wpAny (model X.prog X.w) A (getMethod (.ref a) m pl) Q E s:=by
  obtain ⟨mA,O,r,_,_,_⟩:=ins_get I.hok e
  have hn:mA m=none:=RelO.none_of (by rw [← l];exact r m)
  exact get_meth I.kIn O (c.get m) k.at_ k.fn hn h
theorem setattr_ok {y:V}{u:Value}{Q:Unit→Shared→Prop} (I:Inv X pins σ H s) (e:H a=some (.ins C dx fs)) (c:Cls X.K C) (n:NoAttr X.K C f) (hl:fs.length < 1000) (ry:RelV y u)
    (h:∀ s',Inv X pins σ (upd H a (.ins C dx (putF f y fs))) s'→Q () s'):wpAny (model X.prog X.w) A (setAttr (.ref a) f u) Q E s:=by
  obtain ⟨mA,O,r,wi,_,ho⟩:=ins_get I.hok e
  have hz:(fs.map (·.1)).length≤sizeLine:=by rw [List.length_map,sizeLine_eq];omega
  refine set_map I.kIn O c.sa c.po n.taker c.hd wi hz fun h' O' sb=>h _ ?_
  have hd:∃ o,h'.get? dx=some o:=let ⟨o,_,_,e',_⟩:=O'.ns;⟨o,e'⟩
  refine I.write (x:=a) (e:=dx) (by rw [e];exact True.intro) (.inr ho) (fun b q hb z=>(sb.2 b hb).trans z) hd ?_
  refine ⟨by rw [upd_ne O.ne];exact ho,?_,O.ne,O'.obj,_,O'.ns,fun g=>?_,fun g hg=>?_⟩
  · have:=length_putF f y fs;omega
  · show RelO ((putF f y fs).lookup g) (if g=f then some u else mA g)
    rw [lookup_putF]
    by_cases q:g=f
    · rw [if_pos q,if_pos q];exact ry
    · rw [if_neg q,if_neg q];exact r g
  · by_cases q:g=f
    · rw [q];exact (keys_putF f y fs).1
    · refine (keys_putF f y fs).2 g (wi g fun z=>hg ?_)
      show (if g=f then some u else mA g)=none
      rw [if_neg q];exact z
theorem Inv.made (I:Inv X pins σ H s):Inv X pins σ (upd (upd H s.heap.objs.size (.own (s.heap.objs.size + 1))) (s.heap.objs.size + 1) (.ins C s.heap.objs.size []))
    {s with heap:=(s.heap.push PySem.W.emptyDict).push (PySem.W.instObj C s.heap.objs.size)}:=by
  have e1:(s.heap.push PySem.W.emptyDict).get? s.heap.objs.size=some PySem.W.emptyDict:=Heap.get?_push_size s.heap rfl
  have e2:((s.heap.push PySem.W.emptyDict).push (PySem.W.instObj C s.heap.objs.size)).get? (s.heap.objs.size + 1)=some (PySem.W.instObj C s.heap.objs.size):=by
    have:=Heap.get?_push_size (s.heap.push PySem.W.emptyDict) (o:=PySem.W.instObj C s.heap.objs.size) rfl
    rwa [Heap.size_push] at this
  have e3:(s.heap.push PySem.W.emptyDict).Ns s.heap.objs.size (fun _=>none):=⟨PySem.W.emptyDict,#[],_,e1,rfl,(fun e he=>absurd he (by simp)),fun _=>rfl⟩
  have I1:=I.laid (a:=s.heap.objs.size) (o:=.own (s.heap.objs.size + 1)) (h':=s.heap.push PySem.W.emptyDict) (t':=s.toks) (fun b u q=>Heap.get?_push_of_some _ q) (Nat.le_refl _) ⟨_,e1⟩
  refine I1.laid (a:=s.heap.objs.size + 1) (o:=.ins C s.heap.objs.size []) (t':=s.toks) (fun b u q=>Heap.get?_push_of_some _ q) (Nat.le_of_eq (Heap.size_push _ _)) ?_
  have ne:s.heap.objs.size≠s.heap.objs.size + 1:=Nat.ne_of_lt (Nat.lt_succ_self _)
  refine ⟨by rw [upd_ne ne,upd_same],Nat.zero_le _,ne,e2,fun _=>none,(Heap.Ns1.of_empty e3).at fun o q=>Heap.get?_push_of_some _ q,fun _=>True.intro,fun y hy=>absurd rfl hy⟩
theorem attr_of {prog:Program}{w:World}{env:Env}{e:Expr}{f:Str}{pos:Pos}{s:Shared}{Q:Value→Shared→Prop} (hb:attributeBase e f env (eval e env)=eval e env)
    (h:wpAny (model prog w) A (eval e env) (fun o s₁=>wpAny (model prog w) A (getAttr o f true) Q E s₁) E s):wpAny (model prog w) A (eval (.Attribute e f pos) env) Q E s:=
  Attribute_any_ h (by rw [arm_eval_Attribute,hb])
end
noncomputable def tFld (K:PySem.W.Frag) (ta:TE) (f:Str):TE:=fun σ H Q=>ta σ H fun x H1=>∃ a C dx fs v,x=.ref a∧H1 a=some (.ins C dx fs)∧Cls K C∧NoAttr K C f∧fs.lookup f=some v∧Q v H1
noncomputable def sFld (K:PySem.W.Frag) (ta tv:TE) (f:Str):TS:=fun D σ H=>tv σ H fun y H1=>ta σ H1 fun x H2=>∃ a C dx fs,x=.ref a∧H2 a=some (.ins C dx fs)∧Cls K C∧NoAttr K C f∧fs.length < 1000∧
  D.nx σ (upd H2 a (.ins C dx (putF f y fs)))
noncomputable def InOp (X:Cx) (op:Operator) (rd:V→V→Hp→VK→Prop):Prop:=
  ∀ (pins:List (Addr×Obj)) (s:Shared) (σ:St) (H:Hp) (x y:V) (u v:Value) (Q:VK),Inv X pins σ H s→RelV x u→RelV y v→rd x y H Q→wpAny (model X.prog X.w) X.A (inplaceOp op u v) (EP X pins σ Q) X.xe s
noncomputable def sFldAug (K:PySem.W.Frag) (ta tv:TE) (rd:V→V→Hp→VK→Prop) (f:Str):TS:=fun D σ H=>ta σ H fun x H1=>∃ a C dx fs v,x=.ref a∧H1 a=some (.ins C dx fs)∧Cls K C∧NoAttr K C f∧fs.lookup f=some v∧
  tv σ H1 fun y H2=>rd v y H2 fun z H3=>∃ dx' fs',H3 a=some (.ins C dx' fs')∧fs'.length < 1000∧D.nx σ (upd H3 a (.ins C dx' (putF f z fs')))
section
variable {X:Cx}{o e value:Expr}{f:Str}{pos pos' tpos:Pos}{ta tv:TE}
theorem pe_fld (he:PE X e ta) (hb:attributeBase e f X.env (eval e X.env)=eval e X.env):PE X (.Attribute e f pos) (tFld X.K ta f):=by
  intro pins s σ H Q I h
  refine attr_of hb (thn (he pins s σ H _ I h) fun u s1 ⟨x,H1,I1,rx,a,C,dx,fs,v,ex,ea,c,n,l,q⟩=>?_)
  subst ex
  obtain rfl:u=Value.ref a:=rx
  exact getattr_ok I1 ea c n l fun u' s2 I2 ru=>⟨v,H1,I2,ru,q⟩
theorem ps_fld (ha:PE X o ta) (hv:PE X value tv) (hs:swapsWith value (some (.Attribute o f pos')) pos.line X.env=pure false):PS X (.Assign [.Attribute o f pos'] value pos) (sFld X.K ta tv f):=by
  intro pins s σ H D I h
  refine plainObj_wpAny_Assign_Attribute (thn (hv pins s σ H _ I h) fun u s1 ⟨y,H1,I1,ry,q⟩=>thn (ha pins s1 σ H1 _ I1 q) fun ov s2 ⟨x,H2,I2,rx,a,C,dx,fs,ex,ea,c,n,l,q2⟩=>?_) hs
  subst ex
  obtain rfl:ov=Value.ref a:=rx
  exact setattr_ok I2 ea c n l ry fun s3 I3=>⟨σ,_,I3,q2⟩
theorem ps_fldaug {op:Operator}{rd:V→V→Hp→VK→Prop} (ha:PE X o ta) (hv:PE X value tv) (hop:InOp X op rd):PS X (.AugAssign (.Attribute o f tpos) op value pos) (sFldAug X.K ta tv rd f):=by
  intro pins s σ H D I h
  refine wpAny_AugAssign_AttributeAny (thn (ha pins s σ H _ I h) fun ov s1 ⟨x,H1,I1,rx,a,C,dx,fs,v,ex,ea,c,n,l,q⟩=>?_)
  subst ex
  obtain rfl:ov=Value.ref a:=rx
  refine getattr_ok I1 ea c n l fun u s2 I2 ru=>thn (hv pins s2 σ H1 _ I2 q) fun w3 s3 ⟨y,H2,I3,ry,q3⟩=>thn (hop pins s3 σ H2 v y u w3 _ I3 ru ry q3) fun w4 s4 ⟨z,H3,I4,rz,dx',fs',ea',l',q4⟩=>?_
  exact setattr_ok I4 ea' c n l' rz fun s5 I5=>⟨σ,_,I5,q4⟩
noncomputable def rAdd:V→V→Hp→VK→Prop:=fun x y H Q=>∃ i j,x=.int i∧y=.int j∧Q (.int (i + j)) H
noncomputable def rSub:V→V→Hp→VK→Prop:=fun x y H Q=>∃ i j,x=.int i∧y=.int j∧Q (.int (i - j)) H
theorem in_add:InOp X .Add rAdd:=by
  rintro pins s σ H x y u v Q I rx ry ⟨i,j,rfl,rfl,q⟩
  obtain ⟨t,rfl⟩:=(show ∃ t,u=Value.int i t from rx)
  obtain ⟨t',rfl⟩:=(show ∃ t',v=Value.int j t' from ry)
  exact PyProof.Rows.iadd_int ⟨.int (i + j),H,I.tok _,⟨_,rfl⟩,q⟩
theorem in_sub:InOp X .Sub rSub:=by
  rintro pins s σ H x y u v Q I rx ry ⟨i,j,rfl,rfl,q⟩
  obtain ⟨t,rfl⟩:=(show ∃ t,u=Value.int i t from rx)
  obtain ⟨t',rfl⟩:=(show ∃ t',v=Value.int j t' from ry)
  exact PyProof.Rows.isub_int ⟨.int (i - j),H,I.tok _,⟨_,rfl⟩,q⟩
theorem methcall_of {pl:Sem Bool}{m:Str}{apos:Pos}{args:List Expr}{pins:List (Addr×Obj)}{s:Shared}{σ:St}{H:Hp}{Q:Value→Shared→Prop}{te:TE} (he:PE X e te) (I:Inv X pins σ H s)
    (h:te σ H fun x H1=>∃ a C dx fs g,x=.ref a∧H1 a=some (.ins C dx fs)∧Cls X.K C∧Meth X.K C m g∧fs.lookup m=none∧
      ∀ s1,Inv X pins σ H1 s1→wpAny (model X.prog X.w) X.A (callWith pos (.ref g) [.ref a] (backTo pos (starEach args X.env)) (backToKw pos (keywordEach [] X.env))) Q X.xe s1)
    (ht:eval (.Call (.Attribute e m apos) args [] pos) X.env=(do
      let ov ← eval e X.env
      standAt apos.atName
      let (f,first) ← holding [ov] (getMethod ov m pl)
      callWith pos f first (backTo pos (starEach args X.env)) (backToKw pos (keywordEach [] X.env)))):
    wpAny (model X.prog X.w) X.A (eval (.Call (.Attribute e m apos) args [] pos) X.env) Q X.xe s:=by
  refine PySem.W.methodCall_KW (pl:=pl) (thn (he pins s σ H _ I h) fun u s1 ⟨x,H1,I1,rx,a,C,dx,fs,g,ex,ea,c,k,l,q⟩=>?_) ht
  subst ex
  obtain rfl:u=Value.ref a:=rx
  exact getmeth_ok I1 ea c k l (q s1 I1)
end
section
variable {X:Cx}{pins:List (Addr×Obj)}{σ:St}{H:Hp}{s:Shared}{A:Around}{E:Value→Shared→Prop}{Q:Value→Shared→Prop}{c:Value}{b:Bool}
inductive TyOf (K:PySem.W.Frag) (H:Hp):V→Value→Prop where
  | non:TyOf K H .non (.type "NoneType")
  | bl (x:Bool):TyOf K H (.bl x) (.type "bool")
  | int (i:Int):TyOf K H (.int i) (.type "int")
  | str (x:Str):TyOf K H (.str x) (.type "str")
  | flt (x:UInt64):TyOf K H (.flt x) (.type "float")
  | lst {a:Addr}{xs:List V} (e:H a=some (.lst xs)):TyOf K H (.ref a) (.type "list")
  | frz {a:Addr}{o:Obj}{xs:List V} (e:H a=some (.frz o (.lst xs))):TyOf K H (.ref a) (.type "list")
  | tup {a:Addr}{xs:List V} (e:H a=some (.tup xs)):TyOf K H (.ref a) (.type "tuple")
  | dK {a:Addr}{kvs:List (Key×V)} (e:H a=some (.dK kvs)):TyOf K H (.ref a) (.type "dict")
  | dT {a:Addr}{kvs:List (List Key×V)} (e:H a=some (.dT kvs)):TyOf K H (.ref a) (.type "dict")
  | ins {a C dx:Addr}{fs:List (Str×V)} (e:H a=some (.ins C dx fs)) (cl:Cls K C) (ha:PySem.W.findIn K (.ref C) "__class__"=some (some (.builtin "object.__class__")))
      (hn:PySem.W.specialIn K (.builtin "object.__class__") "__get__"=some (some (.builtin "getset_descriptor.__get__"))) (htk:PySem.W.takesIn K (.builtin "object.__class__")=some true)
      (hm:PySem.W.mroIn K C (.type "object")=some true):TyOf K H (.ref a) (.ref C)
theorem isinst_ok {x:V}{u t:Value} (I:Inv X pins σ H s) (rx:RelV x u) (ty:TyOf X.K H x t) (e:PySem.W.kitOne X.K t c=some b) (h:∀ tk,Q (.bool b) {s with toks:=tk}):
    wpAny (model X.prog X.w) A (call (.builtin "isinstance") [u,c]) Q E s:=by
  cases ty with
  | non=>cases (show u=Value.none from rx);exact PySem.W.kia_one PySem.W.kitx_none I.kIn True.intro e (fun z=>nomatch z) h
  | bl y=>cases (show u=Value.bool y from rx);exact PySem.W.kia_one PySem.W.kitx_bool I.kIn True.intro e (fun z=>nomatch z) h
  | int i=>obtain ⟨t,q⟩:=(show ∃ t,u=Value.int i t from rx);cases q;exact PySem.W.kia_one PySem.W.kitx_int I.kIn True.intro e (fun z=>nomatch z) h
  | str y=>obtain ⟨t,q⟩:=(show ∃ t,u=Value.str y t from rx);cases q;exact PySem.W.kia_one PySem.W.kitx_str I.kIn True.intro e (fun z=>nomatch z) h
  | flt y=>obtain ⟨t,q⟩:=(show ∃ t,u=Value.float y t from rx);cases q;exact PySem.W.kia_one PySem.W.kitx_float I.kIn True.intro e (fun z=>nomatch z) h
  | @lst a xs ea=>
    cases (show u=Value.ref a from rx)
    obtain ⟨_,_,n,_,h1⟩:=(show ObjOk X.prog X.w H s.heap a (.lst xs) from I.hok a _ ea)
    exact PySem.W.kia_one PySem.W.kitx_list I.kIn ⟨_,h1,rfl⟩ e (fun z=>nomatch z) h
  | @frz a ob xs ea=>
    cases (show u=Value.ref a from rx)
    obtain ⟨_,_,_,n,_,h1⟩:=(show ObjOk X.prog X.w H s.heap a (.frz ob (.lst xs)) from I.hok a _ ea)
    exact PySem.W.kia_one PySem.W.kitx_list I.kIn ⟨_,h1,rfl⟩ e (fun z=>nomatch z) h
  | @tup a xs ea=>
    cases (show u=Value.ref a from rx)
    obtain ⟨_,_,_,p⟩:=(show ObjOk X.prog X.w H s.heap a (.tup xs) from I.hok a _ ea)
    obtain ⟨o,h1,h2,_⟩:=p
    exact PySem.W.kia_one PySem.W.kitx_tuple I.kIn ⟨o,h1,h2⟩ e (fun z=>nomatch z) h
  | @dK a kvs ea=>
    cases (show u=Value.ref a from rx)
    obtain ⟨_,_,vs,_,p⟩:=(show ObjOk X.prog X.w H s.heap a (.dK kvs) from I.hok a _ ea)
    obtain ⟨o,es,ep,h1,h2,_⟩:=p
    exact PySem.W.kia_one PySem.W.kitx_dict I.kIn ⟨o,h1,h2.1⟩ e (fun z=>nomatch z) h
  | @dT a kvs ea=>
    cases (show u=Value.ref a from rx)
    obtain ⟨_,_,xs,_,o,es,ep,h1,h2,_⟩:=(show ObjOk X.prog X.w H s.heap a (.dT kvs) from I.hok a _ ea)
    exact PySem.W.kia_one PySem.W.kitx_dict I.kIn ⟨o,h1,h2.1⟩ e (fun z=>nomatch z) h
  | @ins a C dx fs ea cl ha hn htk hm=>
    cases (show u=Value.ref a from rx)
    obtain ⟨mA,O,_⟩:=ins_get I.hok ea
    obtain ⟨od,J,_⟩:=O.look
    exact PySem.W.kia_one (PySem.W.kitx_own (cl.get _) cl.hd ha hn htk hm) I.kIn J e (fun z=>nomatch z) h
end
end L2
namespace L2
open PySem PySem.Spec PyProof.Rows
structure Room (k:Nat) (A:Around):Prop where
  hd:A.handled=none
  dp:A.depth + 3 * k + 5 < recursionLimit
  un:A.units + 16 * k + 200 < cLine
theorem Room.mono {j k:Nat}{A:Around} (r:Room k A) (h:j≤k):Room j A:=⟨r.hd,by have:=r.dp;omega,by have:=r.un;omega⟩
theorem Room.deeper {k:Nat}{A:Around} (r:Room (k + 1) A) (env:Env):Room k (A.deeper env):=
  ⟨r.hd,by have:=r.dp;show A.depth + 1 + 3 * k + 5 < _;omega,by have:=r.un;show A.units + 3 + 16 * k + 200 < _;omega⟩
theorem make_depth {A:Around}{C:Addr}{us:List Value}{kw:List (Str×Value)}:(A.under (.builtin "type.__call__" ⟨.ref C::us,kw⟩)).depth=A.depth + 1:=by
  first | rfl | simp [Around.under,Code.weight,Code.isCreation,Code.isGuard,Code.isCaller,Code.frames,Code.isFrame,guardIds]
theorem make_units {A:Around}{C:Addr}{us:List Value}{kw:List (Str×Value)}:(A.under (.builtin "type.__call__" ⟨.ref C::us,kw⟩)).units=A.units + 1:=by
  first | rfl | simp [Around.under,Code.cUnits,Code.frames,Code.isFrame]
theorem Room.make {k:Nat}{A:Around} (r:Room (k + 1) A) (C:Addr) (us:List Value) (kw:List (Str×Value)):Room k (A.under (.builtin "type.__call__" ⟨.ref C::us,kw⟩)):=
  ⟨r.hd,by have:=r.dp;rw [make_depth];omega,by have:=r.un;rw [make_units];omega⟩
theorem Room.depth {k:Nat}{A:Around} (r:Room k A):A.depth < recursionLimit:=by have:=r.dp;omega
theorem Room.units {k:Nat}{A:Around} (r:Room k A):A.units + 64 < cLine:=by have:=r.un;omega
noncomputable def tNil:TA:=fun _ H Q=>Q [] H
noncomputable def tCons (ta:TE) (tr:TA):TA:=fun σ H Q=>ta σ H fun x H1=>tr σ H1 fun xs H2=>Q (x::xs) H2
section
variable {X:Cx}{e:Expr}{es:List Expr}{te:TE}{t:TA}{pos:Pos}
theorem pa_nil:PA X [] tNil:=fun _ _ _ _ H Q I h=>Calls.spliced_nil ⟨[],H,I,.nil,h⟩
theorem pa_cons (ha:PE X e te) (hr:PA X es t) (hs:starEach (e::es) X.env=(false,eval e X.env)::starEach es X.env:=by rfl):PA X (e::es) (tCons te t):=by
  intro pos pins s σ H Q I h
  rw [hs]
  show wpAny _ _ (spliced ((false,eval e X.env)::backTo pos (starEach es X.env))) _ _ s
  refine Calls.spliced_cons (thn (ha pins s σ H _ I h) fun u s1 ⟨x,H1,I1,r1,q1⟩=>?_)
  exact thn (hr pos pins s1 σ H1 _ I1 q1) fun us s2 ⟨xs,H2,I2,r2,q2⟩=>⟨x::xs,H2,I2,.cons r1 r2,q2⟩
noncomputable def tTup (t:TA):TE:=fun σ H Q=>t σ H fun xs H1=>xs.length≤sizeLine∧∀ p,H1 p=none→Q (.ref p) (upd H1 p (.tup xs))
noncomputable def tLst (t:TA):TE:=fun σ H Q=>t σ H fun xs H1=>xs.length≤sizeLine∧∀ p,H1 p=none→Q (.ref p) (upd H1 p (.lst xs))
theorem pe_tup {x1} (h:PA X es t):PE X (.Tuple es x1 pos) (tTup t):=by
  intro pins s σ H Q I hq
  refine wpAny_Tuple_spliced (thn (h pos pins s σ H _ I hq) fun us s1 ⟨xs,H1,I1,r,z,q⟩=>⟨by rw [← r.length];exact z,?_⟩)
  have hf:H1 s1.heap.objs.size=none:=I1.hok.fresh (Nat.le_refl _)
  refine ⟨.ref s1.heap.objs.size,upd H1 s1.heap.objs.size (.tup xs),I1.laid (t':=s1.toks) (fun b u e=>Heap.get?_push_of_some _ e) (Nat.le_refl _) ?_,rfl,q _ hf⟩
  exact ⟨z,us,r,⟨_,Heap.get?_push_size _ rfl,rfl,_,rfl⟩⟩
theorem pe_lst (h:PA X es t):PE X (.List es pos) (tLst t):=by
  intro pins s σ H Q I hq
  refine wpAny_List_spliced (thn (h pos pins s σ H _ I hq) fun us s1 ⟨xs,H1,I1,r,z,q⟩=>⟨by rw [← r.length];exact z,?_⟩)
  have hf:H1 s1.heap.objs.size=none:=I1.hok.fresh (Nat.le_refl _)
  refine ⟨.ref s1.heap.objs.size,upd H1 s1.heap.objs.size (.lst xs),I1.laid (t':=s1.toks) (fun b u e=>Heap.get?_push_of_some _ e) (Nat.le_refl _) ?_,rfl,q _ hf⟩
  exact ⟨z,us,0,r,Heap.get?_push_size _ rfl⟩
end
noncomputable abbrev Sp:=List V→Hp→VK→XK→Prop
noncomputable abbrev CXT:=List Env→Hp→Shared→XK→Value→Shared→Prop
structure Env0 (P:Program) (w:World) (K:PySem.W.Frag) (mg:Str→Option Value) (base:Heap) (A:Around) (outer:List Env) (s:Shared) (H:Hp):Prop where
  frames:A.frames=some outer
  mod:Mod K mg base
  bs:∀ b o,base.get? b=some o→s.heap.get? b=some o∧H b=none
  bsz:base.objs.size≤s.heap.objs.size
  funs:s.heap.FunFrames base outer
  frf:∀ b∈frs outer,H b=none
  hok:HOk P w H s.heap
  bare:AllBare s.gens
noncomputable def CE (outer:List Env) (P:Program) (w:World) (H:Hp) (s:Shared) (Q:VK) (u:Value) (s':Shared):Prop:=
  ∃ v H',s'.os=s.os∧AllBare s'.gens∧Un (frs outer) [] H H' s.heap s'.heap∧HOk P w H' s'.heap∧RelV v u∧Q v H'
noncomputable def CR (CX:CXT) (outer:List Env) (P:Program) (w:World) (H:Hp) (s:Shared) (Q:VK) (E:XK) (r:Result) (s':Shared):Prop:=
  match r with
  | .ok (.ret u)=>CE outer P w H s Q u s'
  | .ok _=>False
  | .error e=>CX outer H s E e s'
structure FnOk (P:Program) (w:World) (K:PySem.W.Frag) (mg:Str→Option Value) (base:Heap) (CX:CXT) (k:Nat) (f:Addr) (fd:FuncData) (ps:List Str) (sp:Sp):Prop where
  len:∀ vs H Q E,sp vs H Q E→vs.length=ps.length
  run:∀ (A:Around) (outer:List Env) (s:Shared) (H:Hp) (args:Args) (us:List Value) (vs:List V) (Q:VK) (E:XK),Room k A→Env0 P w K mg base A outer s H→BindsTo s fd args (ps.zip us)→Vals vs us→sp vs H Q E→
    codeAny (model P w) A (.call (.ref f) args) (CR CX outer P w H s Q E) s
theorem Env0.make {P:Program}{w:World}{K:PySem.W.Frag}{mg:Str→Option Value}{base:Heap}{A:Around}{outer:List Env}{s:Shared}{H:Hp} (e:Env0 P w K mg base A outer s H) (C:Addr) (us:List Value) (kw:List (Str×Value)):
    Env0 P w K mg base (A.under (.builtin "type.__call__" ⟨.ref C::us,kw⟩)) outer s H:=⟨by first | exact e.frames | (simpa [Around.under,Code.envs,Code.isFrame,pushEnvs] using e.frames),e.mod,e.bs,e.bsz,e.funs,e.frf,e.hok,e.bare⟩
section
variable {X:Cx}{pins:List (Addr×Obj)}{σ:St}{H:Hp}{s s':Shared}
theorem Inv.env0 (I:Inv X pins σ H s):Env0 X.prog X.w X.K X.mg X.base X.A X.stack s H:=
  ⟨I.ok.frames,I.ok.mod,I.bs,Nat.le_trans I.ok.bsz I.sz,I.stack,I.stkFree,I.hok,I.bare⟩
theorem Inv.after {Q:VK}{u:Value} (I:Inv X pins σ H s) (h:CE X.stack X.prog X.w H s Q u s'):EP X pins σ Q u s':=by
  obtain ⟨v,H',os,bare,un,hok,r,q⟩:=h
  obtain ⟨hh,g,d,t,os'⟩:=s'
  obtain rfl:os'=s.os:=os
  exact ⟨v,H',I.call (h':=hh) (g':=g) (d':=d) (t':=t) (ch:=[]) un hok bare (fun b z=>absurd z (by simp)),r,q⟩
end
noncomputable def tCall (sp:Sp) (dvs:List V) (E:XK) (t:TA):TE:=fun σ H Q=>t σ H fun vs H1=>sp (vs ++ dvs) H1 Q E
noncomputable def tMeth (C:Addr) (m:Str) (sp:Sp) (dvs:List V) (E:XK) (ta:TE) (t:TA):TE:=fun σ H Q=>ta σ H fun x H1=>∃ a dx fs,x=.ref a∧H1 a=some (.ins C dx fs)∧fs.lookup m=none∧
  t σ H1 fun vs H2=>sp (x::(vs ++ dvs)) H2 Q E
noncomputable def tMake (C:Addr) (sp:Sp) (dvs:List V) (E:XK) (t:TA):TE:=fun σ H Q=>t σ H fun vs H1=>∀ x dx,H1 x=none→H1 dx=none→dx≠x→
  sp (.ref x::(vs ++ dvs)) (upd (upd H1 dx (.own x)) x (.ins C dx [])) (fun v H2=>v=.non∧Q (.ref x) H2) E
noncomputable def Binds (K:PySem.W.Frag) (fd:FuncData) (ps:List Str) (ds:List Value):Prop:=
  ∀ (s:Shared) (us:List Value),K.In s.heap→(us ++ ds).length=ps.length→BindsTo s fd ⟨us,[]⟩ (ps.zip (us ++ ds))
theorem Binds.all {K:PySem.W.Frag}{fd:FuncData}{ps:List Str} (h:∀ us:List Value,us.length=ps.length→bindArgs fd ⟨us,[]⟩=pure (ps.zip us)):Binds K fd ps []:=fun s us _ hl=>by
  rw [List.append_nil] at hl ⊢
  exact .of_eq (h us hl)
noncomputable def Passes (CX:CXT) (X:Cx) (E:XK):Prop:=∀ (pins:List (Addr×Obj)) (σ:St) (H:Hp) (s:Shared) (e:Value) (s':Shared),Inv X pins σ H s→CX X.stack H s E e s'→X.xe e s'
section
variable {X:Cx}{CX:CXT}{k:Nat}{f C:Addr}{fd:FuncData}{ps:List Str}{sp:Sp}{dvs:List V}{ds:List Value}{E:XK}{x m:Str}{p pos apos:Pos}{e o:Expr}{es:List Expr}{ta:TE}{t:TA}
theorem run_fn {pins:List (Addr×Obj)}{σ:St}{H:Hp}{s:Shared}{Q:VK}{us:List Value}{vs:List V} (F:FnOk X.prog X.w X.K X.mg X.base CX k f fd ps sp) (hr:Room k X.A) (hb:Binds X.K fd ps ds) (hd:Vals dvs ds) (hx:Passes CX X E)
    (I:Inv X pins σ H s) (r:Vals vs us) (h:sp (vs ++ dvs) H Q E):wpAny (model X.prog X.w) X.A (call (.ref f) us) (EP X pins σ Q) X.xe s:=by
  have r2:Vals (vs ++ dvs) (us ++ ds):=r.append hd
  have hl:(us ++ ds).length=ps.length:=by rw [← r2.length];exact F.len _ _ _ _ h
  refine wpAny_call (codeAny_mono (F.run X.A X.stack s H ⟨us,[]⟩ (us ++ ds) (vs ++ dvs) Q E hr I.env0 (hb s us I.kIn hl) r2 h) fun r s' hq=>?_)
  cases r with
  | error e=>exact hx pins σ H s e s' I hq
  | ok fl=>
    cases fl with
    | ret u=>exact I.after hq
    | next=>exact False.elim hq
    | brk=>exact False.elim hq
    | cont=>exact False.elim hq
theorem pe_call (F:FnOk X.prog X.w X.K X.mg X.base CX k f fd ps sp) (hr:Room k X.A) (hg:Gl X x) (hm:X.mg x=some (.ref f)) (hk:PySem.W.keepIn X.K (.ref f)=true) (hb:Binds X.K fd ps ds) (hd:Vals dvs ds) (hx:Passes CX X E)
    (ha:PA X (e::es) t) (hdb:(x==("__debug__":Str))=false:=by decide) (he:starEach (e::es) X.env=(false,eval e X.env)::starEach es X.env:=by rfl) (hpl:(backTo pos (starEach es X.env)).any (·.1)=false:=by rfl):
    PE X (.Call (.Name x p) (e::es) [] pos) (tCall sp dvs E t):=by
  intro pins s σ H Q I h
  refine wpAny_Call_Name_kw (ld_glob I hg hm ?_ hdb)
  refine PySem.W.callWith_K (h₀:=X.base) I.ok.mod.kin hk (thn (ha pos pins s σ H _ I h) fun us s1 ⟨vs,H1,I1,r,q⟩=>⟨I1.kIn,?_⟩) he hpl
  exact run_fn F hr hb hd hx I1 r q
theorem pe_meth {pl:Sem Bool} (he:PE X o ta) (c:Cls X.K C) (hm:Meth X.K C m f) (F:FnOk X.prog X.w X.K X.mg X.base CX k f fd ps sp) (hr:Room k X.A) (hb:Binds X.K fd ps ds) (hd:Vals dvs ds) (hx:Passes CX X E) (ha:PA X (e::es) t)
    (hst:starEach (e::es) X.env=(false,eval e X.env)::starEach es X.env:=by rfl) (hpl:(backTo pos (starEach es X.env)).any (·.1)=false:=by rfl)
    (ht:eval (.Call (.Attribute o m apos) (e::es) [] pos) X.env=(do
      let ov ← eval o X.env
      standAt apos.atName
      let (f,first) ← holding [ov] (getMethod ov m pl)
      callWith pos f first (backTo pos (starEach (e::es) X.env)) (backToKw pos (keywordEach [] X.env))):=by rfl):
    PE X (.Call (.Attribute o m apos) (e::es) [] pos) (tMeth C m sp dvs E ta t):=by
  intro pins s σ H Q I h
  refine PySem.W.methodCall_KW (pl:=pl) (thn (he pins s σ H _ I h) fun u s1 ⟨x,H1,I1,rx,a,dx,fs,ex,ea,l,q⟩=>?_) ht
  subst ex
  obtain rfl:u=Value.ref a:=rx
  refine getmeth_ok I1 ea c hm l ?_
  refine PySem.W.callWith_K (first:=[.ref a]) (h₀:=X.base) I.ok.mod.kin hm.kp (thn (ha pos pins s1 σ H1 _ I1 q) fun us s2 ⟨vs,H2,I2,r,q2⟩=>⟨I2.kIn,?_⟩) hst hpl
  exact run_fn (us:=.ref a::us) (vs:=.ref a::vs) F hr hb hd hx I2 (.cons rfl r) q2
theorem pe_meth0 {pl:Sem Bool} (he:PE X o ta) (c:Cls X.K C) (hm:Meth X.K C m f) (F:FnOk X.prog X.w X.K X.mg X.base CX k f fd ps sp) (hr:Room k X.A) (hb:Binds X.K fd ps ds) (hd:Vals dvs ds) (hx:Passes CX X E)
    (ht:eval (.Call (.Attribute o m apos) [] [] pos) X.env=(do
      let ov ← eval o X.env
      standAt apos.atName
      let (f,first) ← holding [ov] (getMethod ov m pl)
      callWith pos f first (backTo pos (starEach [] X.env)) (backToKw pos (keywordEach [] X.env))):=by rfl):
    PE X (.Call (.Attribute o m apos) [] [] pos) (tMeth C m sp dvs E ta tNil):=by
  intro pins s σ H Q I h
  refine PySem.W.methodCall_KW (pl:=pl) (thn (he pins s σ H _ I h) fun u s1 ⟨x,H1,I1,rx,a,dx,fs,ex,ea,l,q⟩=>?_) ht
  subst ex
  obtain rfl:u=Value.ref a:=rx
  refine getmeth_ok I1 ea c hm l ?_
  exact PySem.W.callWith_K0 (first:=[.ref a]) I1.kIn hm.kp (run_fn (us:=[.ref a]) (vs:=[.ref a]) F hr hb hd hx I1 (.cons rfl .nil) q)
structure Mk (K:PySem.W.Frag) (C f:Addr):Prop where
  makes:PySem.W.makesIn K C=true
  init:PySem.W.findIn K (.ref C) "__init__"=some (some (.ref f))
  fn:PySem.W.isFn K (.ref f)=true
  kp:PySem.W.keepIn K (.ref C)=true
theorem run_make {pins:List (Addr×Obj)}{σ:St}{H:Hp}{s:Shared}{Q:VK}{us:List Value}{vs:List V} (M:Mk X.K C f) (F:FnOk X.prog X.w X.K X.mg X.base CX k f fd ps sp) (hr:Room (k + 1) X.A) (hb:Binds X.K fd ps ds) (hd:Vals dvs ds)
    (hx:Passes CX X E) (I:Inv X pins σ H s) (r:Vals vs us)
    (h:∀ x dx,H x=none→H dx=none→dx≠x→sp (.ref x::(vs ++ dvs)) (upd (upd H dx (.own x)) x (.ins C dx [])) (fun v H2=>v=.non∧Q (.ref x) H2) E):
    wpAny (model X.prog X.w) X.A (call (.ref C) us) (EP X pins σ Q) X.xe s:=by
  have hq:=h (s.heap.objs.size + 1) s.heap.objs.size (I.hok.fresh (Nat.le_succ _)) (I.hok.fresh (Nat.le_refl _)) (Nat.ne_of_lt (Nat.lt_succ_self _))
  have I2:=Inv.made (C:=C) I
  have r2:Vals (V.ref (s.heap.objs.size + 1)::(vs ++ dvs)) (Value.ref (s.heap.objs.size + 1)::(us ++ ds)):=.cons rfl (r.append hd)
  have hl:(Value.ref (s.heap.objs.size + 1)::us ++ ds).length=ps.length:=by
    have e:=r2.length
    rw [F.len _ _ _ _ hq] at e
    exact e.symm
  refine wpAny_call (make_map (f:=f) I.kIn M.makes M.init (beq_iff_eq.mp M.fn) (codeAny_mono (F.run _ X.stack _ _ ⟨Value.ref (s.heap.objs.size + 1)::us,[]⟩ (Value.ref (s.heap.objs.size + 1)::(us ++ ds)) _ _ E (hr.make C us [])
    (I2.env0.make C us []) (hb _ (Value.ref (s.heap.objs.size + 1)::us) I2.kIn hl) r2 hq) fun r s' hq'=>?_))
  cases r with
  | error e=>exact hx pins σ _ _ e s' I2 hq'
  | ok fl=>
    cases fl with
    | ret u=>
      obtain ⟨v,H',I3,rv,ev,q3⟩:=I2.after hq'
      subst ev
      exact ⟨rv,⟨V.ref (s.heap.objs.size + 1),H',I3,rfl,q3⟩⟩
    | next=>exact False.elim hq'
    | brk=>exact False.elim hq'
    | cont=>exact False.elim hq'
theorem pe_make0 (M:Mk X.K C f) (F:FnOk X.prog X.w X.K X.mg X.base CX k f fd ps sp) (hr:Room (k + 1) X.A) (hg:Gl X x) (hm:X.mg x=some (.ref C)) (hb:Binds X.K fd ps ds) (hd:Vals dvs ds) (hx:Passes CX X E)
    (hdb:(x==("__debug__":Str))=false:=by decide):PE X (.Call (.Name x p) [] [] pos) (tMake C sp dvs E tNil):=by
  intro pins s σ H Q I h
  refine wpAny_Call_Name_kw (ld_glob I hg hm ?_ hdb)
  exact PySem.W.callWith_K0 I.kIn M.kp (run_make (us:=[]) M F hr hb hd hx I .nil h)
end
section
variable {X:Cx}{CX:CXT}{k:Nat}{f C:Addr}{fd:FuncData}{ps ks:List Str}{sp:Sp}{E:XK}{x m:Str}{p pos apos kpos:Pos}{e o:Expr}{es:List Expr}{kws:List Keyword}{te ta:TE}{t tk:TA}{nm:Option Str}
variable {g:List Value→List Value→List Value}{gV:List V→List V→List V}
end
structure FnScope (N P:List Str) (sc:Scope):Prop where
  kind:sc.kind=.function
  co:sc.isCoroutine=false
  gen:sc.isGenerator=false
  nd:N.Nodup
  pre:N.take P.length=P
  par:∀ x∈P,sc.names.lookup x=some .local∨sc.names.lookup x=some .cell
  nofree:∀ y∈sc.names,y.2≠.free
theorem bindL_out {kindOf:Str→Option NameKind}{x:Str}:∀ {binds:List (Str×Value)}{m:Str→Option Value},(∀ v,(x,v)∉binds)→bindL kindOf binds m x=m x
  | [],_,_=>rfl
  | (n,v)::r,m,h=>by
    unfold bindL
    rw [bindL_out fun w hw=>h w (List.mem_cons_of_mem _ hw)]
    split
    · have:x≠n:=by rintro rfl;exact h v List.mem_cons_self
      simp [this]
    · rfl
theorem bindC_out {kindOf:Str→Option NameKind}{x:Str}:∀ {binds:List (Str×Value)}{m:Str→Option Value},(∀ v,(x,v)∉binds)→bindC kindOf binds m x=m x
  | [],_,_=>rfl
  | (n,v)::r,m,h=>by
    unfold bindC
    rw [bindC_out fun w hw=>h w (List.mem_cons_of_mem _ hw)]
    split
    · rfl
    · have:x≠n:=by rintro rfl;exact h v List.mem_cons_self
      simp [this]
theorem bindL_get {kindOf:Str→Option NameKind}{x:Str}{v:Value}:∀ {P:List Str}{vs:List Value}{i:Nat}{m:Str→Option Value},P.Nodup→P[i]?=some x→vs[i]?=some v→kindOf x=some .local→
    bindL kindOf (P.zip vs) m x=some v
  | [],_,_,_,_,h,_,_=>by simp at h
  | _::_,[],_,_,_,_,h,_=>by simp at h
  | p::P,w::vs,0,m,nd,h1,h2,hk=>by
    simp at h1 h2;subst h1;subst h2
    show bindL kindOf ((p,w)::P.zip vs) m p=_
    unfold bindL
    rw [bindL_out fun v hv=>(List.nodup_cons.mp nd).1 (List.of_mem_zip hv).1,if_pos hk]
    simp
  | p::P,w::vs,i + 1,m,nd,h1,h2,hk=>by
    show bindL kindOf ((p,w)::P.zip vs) m x=_
    unfold bindL
    exact bindL_get (i:=i) (List.nodup_cons.mp nd).2 (by simpa using h1) (by simpa using h2) hk
theorem bindC_get {kindOf:Str→Option NameKind}{x:Str}{v:Value}:∀ {P:List Str}{vs:List Value}{i:Nat}{m:Str→Option Value},P.Nodup→P[i]?=some x→vs[i]?=some v→kindOf x≠some .local→
    bindC kindOf (P.zip vs) m x=some v
  | [],_,_,_,_,h,_,_=>by simp at h
  | _::_,[],_,_,_,_,h,_=>by simp at h
  | p::P,w::vs,0,m,nd,h1,h2,hk=>by
    simp at h1 h2;subst h1;subst h2
    show bindC kindOf ((p,w)::P.zip vs) m p=_
    unfold bindC
    rw [bindC_out fun v hv=>(List.nodup_cons.mp nd).1 (List.of_mem_zip hv).1,if_neg hk]
    simp
  | p::P,w::vs,i + 1,m,nd,h1,h2,hk=>by
    show bindC kindOf ((p,w)::P.zip vs) m x=_
    unfold bindC
    exact bindC_get (i:=i) (List.nodup_cons.mp nd).2 (by simpa using h1) (by simpa using h2) hk
noncomputable def start (N:List Str) (vs:List V):St:=vs.map some ++ List.replicate (N.length - vs.length) none
noncomputable def cxOf (CX:CXT) (P:Program) (w:World) (K:PySem.W.Frag) (mg:Str→Option Value) (base:Heap) (N:List Str) (qual:Str) (scope:Scope) (f:Addr) (cd:Value) (A:Around) (outer:List Env) (s:Shared) (H:Hp) (E:XK):Cx where
  prog:=P
  w:=w
  K:=K
  mg:=mg
  base:=base
  A:=A.deeper (envOfC qual scope s.heap.objs.size f cd)
  N:=N
  s₀:=s
  H₀:=H
  env:=envOfC qual scope s.heap.objs.size f cd
  outer:=outer
  stack:=envOfC qual scope s.heap.objs.size f cd::outer
  ex:=[]
  calm:=true
  fn:=fun _=>true
  pn:=[]
  xe:=fun e s'=>wpAny (model P w) (A.deeper (envOfC qual scope s.heap.objs.size f cd)) (leaving (envOfC qual scope s.heap.objs.size f cd) e) (fun _ s''=>CX outer H s E e s'') (fun e' s''=>CX outer H s E e' s'') s'
theorem cell_has {sc:Scope}{n:Nat}{x:Str} (h:sc.names.lookup x=some .cell):∃ c,(cellsFrom n sc.names []).lookup x=some c:=by
  have q:=PySem.W.cellsFrom_some sc.names n [] (.inl h)
  exact Option.isSome_iff_exists.mp q
theorem inv_start {CX:CXT}{P:Program}{w:World}{K:PySem.W.Frag}{mg:Str→Option Value}{base:Heap}{N ps:List Str}{qual:Str}{scope:Scope}{f:Addr}{cd:Value}{A:Around}{outer:List Env}{s s1:Shared}{H:Hp}{E:XK}{us:List Value}{vs:List V}
    (S:FnScope N ps scope) (hd:A.handled=none) (e0:Env0 P w K mg base A outer s H) (hl:vs.length=ps.length) (r:Vals vs us)
    (x:InCallC s s.heap.objs.size (bindL (envOfC qual scope s.heap.objs.size f cd).kindOf (ps.zip us) fun _=>none) (cellsFrom (s.heap.objs.size + 1) scope.names []) (bindC (envOfC qual scope s.heap.objs.size f cd).kindOf (ps.zip us) fun _=>none) s1):
    Inv (cxOf CX P w K mg base N qual scope f cd A outer s H E) [] (start N vs) H s1:=by
  have hpl:ps.length≤N.length:=by have:=congrArg List.length S.pre;rw [List.length_take] at this;omega
  obtain ⟨h1,tk,rfl,hk⟩:=x.done
  have noA:∀ b:Addr,b∉(cxOf CX P w K mg base N qual scope f cd A outer s H E).ex:=fun b z=>absurd (show b∈([]:List Addr) from z) (by simp)
  refine ⟨⟨e0.mod,S.kind,rfl,rfl,Nat.le_refl _,fun y z c h1 h2=>?_,fun y hy=>?_,fun y c _ h=>?_,fun _=>hd,Around.frames_deeper e0.frames,.inr ⟨rfl,rfl⟩,fun b z=>absurd z (noA b),e0.bs,e0.bsz,fun b _ _=>noA b,fun b z=>absurd z (noA b),e0.funs,e0.frf⟩,
    rfl,e0.bare,Un.kept hk,⟨_,x.toInCall.ns,fun i y v h1 h2 h3=>?_⟩,fun y c h=>⟨_,x.cell y c h⟩,e0.hok.fresh (Nat.le_refl _),fun y c h=>?_,fun p hp=>absurd (show p∈([]:List (Addr×Obj)) from hp) (by simp),e0.hok.kept hk,?_⟩
  · exact name_of_addr x.apart (PySem.mem_of_lookup h1) (PySem.mem_of_lookup h2)
  · have hy:scope.names.lookup y=some .cell∨scope.names.lookup y=some .free:=hy
    rcases hy with hy | hy
    · exact cell_has hy
    · exact absurd rfl (S.nofree _ (PySem.mem_of_lookup hy))
  · exact Nat.le_of_lt (x.above y c (PySem.mem_of_lookup h))
  · have hi:i < vs.length:=by
      unfold start at h2
      by_cases hi:i < vs.length
      · exact hi
      · rw [List.getElem?_append_right (by simpa using hi)] at h2
        rw [List.getElem?_replicate] at h2
        split at h2 <;> cases h2
    have ha:vs[i]?=some v:=by
      unfold start at h2
      rw [List.getElem?_append_left (by simpa using hi),List.getElem?_map] at h2
      cases e:vs[i]? with
      | none=>rw [e] at h2;cases h2
      | some a=>rw [e] at h2;cases h2;rfl
    obtain ⟨u,hu,rv⟩:=r.get ha
    have hp:ps[i]?=some y:=by
      rw [← S.pre,List.getElem?_take_of_lt (by omega)];exact h1
    have ndP:ps.Nodup:=by rw [← S.pre];exact S.nd.sublist (List.take_sublist _ _)
    refine ⟨u,rv,?_⟩
    rcases S.par y (List.mem_of_getElem? hp) with k | k
    · exact .inl ⟨k,bindL_get ndP hp hu k⟩
    · obtain ⟨c,e⟩:=cell_has (n:=s.heap.objs.size + 1) k
      refine .inr ⟨.inl k,c,e,?_⟩
      have q:=x.cell y c e
      rw [bindC_get ndP hp hu (by show scope.names.lookup y≠_;rw [k];decide)] at q
      exact q
  · exact e0.hok.fresh (Nat.le_of_lt (x.above y c (PySem.mem_of_lookup h)))
  · unfold start
    show _=N.length
    rw [List.length_append,List.length_map,List.length_replicate]
    omega
theorem fn_of {CX:CXT}{P:Program}{w:World}{K:PySem.W.Frag}{mg:Str→Option Value}{base:Heap}{k:Nat}{f:Addr}{name qual:Str}{params:Arguments}{body:List Stmt}{scope:Scope}{dV kV doc pm cdv ct oc:Value}{an od:Option Addr}
    {osl:Array (Option Value)}{N ps:List Str}{sp:Sp} (lk:K.lookup f=some ⟨oc,od,.func (PySem.W.fnOf name qual params body scope dV kV doc pm an cdv ct),osl⟩) (hcd:PySem.W.codeIn K cdv qual=true) (S:FnScope N ps scope)
    (len:∀ vs H Q E,sp vs H Q E→vs.length=ps.length)
    (hbody:∀ (A:Around) (outer:List Env) (s:Shared) (H:Hp) (vs:List V) (Q:VK) (E:XK),Room k (A.deeper (envOfC qual scope s.heap.objs.size f cdv))→sp vs H Q E→
      ∃ t,PSs (cxOf CX P w K mg base N qual scope f cdv A outer s H E) body t∧t {nx:=fun _ H'=>Q .non H',rt:=Q} (start N vs) H):
    FnOk P w K mg base CX (k + 1) f (PySem.W.fnOf name qual params body scope dV kV doc pm an cdv ct) ps sp:=by
  refine ⟨len,fun A outer s H args us vs Q E hr e0 hb r hsp=>?_⟩
  have hl:=len _ _ _ _ hsp
  have KX:K.In s.heap:=e0.mod.kin.keeps fun b o e=>(e0.bs b o e).1
  have lim:s.heap.NoLimit:=e0.mod.nolimit.keeps fun b o e=>(e0.bs b o e).1
  have hkind:∀ y∈ps.zip us,scope.names.lookup y.1=some .local∨(scope.names.lookup y.1=some .cell∧((cellsFrom (s.heap.objs.size + 1) scope.names []).lookup y.1).isSome=true):=fun ⟨n,v⟩ hy=>by
    rcases S.par n (List.of_mem_zip hy).1 with q | q
    · exact .inl q
    · exact .inr ⟨q,PySem.W.cellsFrom_some _ _ _ (.inl q)⟩
  refine codeAny_call_function hr.depth (KX _ _ lk) rfl S.co S.gen rfl (PySem.W.codeRec_of KX hcd) (hb _ _ _ _ ?_)
  refine wpAny_newFunctionEnv_cells S.kind hkind fun env he s1 x=>?_
  subst he
  refine ⟨lim.keeps x.toInCall.keep,codeAny_func ?_⟩
  obtain ⟨t,ht,hq⟩:=hbody A outer s H vs Q E (hr.deeper _) hsp
  have I:Inv (cxOf CX P w K mg base N qual scope f cdv A outer s H E) [] (start N vs) H s1:=inv_start S hr.hd e0 hl r x
  refine wpAny_mono (ht [] s1 (start N vs) H _ I hq) (fun fl s' hs=>?_) fun e s' hs=>hs
  have fin:∀ {σ':St}{H':Hp}{v:V}{u:Value},Inv (cxOf CX P w K mg base N qual scope f cdv A outer s H E) [] σ' H' s'→RelV v u→Q v H'→CE outer P w H s Q u s':=
    fun {σ' H' v u} J rv q=>⟨v,H',J.os,J.bare,J.base,J.hok,rv,q⟩
  cases fl with
  | ret u=>
    obtain ⟨v,σ',H',J,rv,q⟩:=hs
    exact fin J rv q
  | next=>
    obtain ⟨σ',H',J,q⟩:=hs
    exact fin (v:=V.non) (u:=Value.none) J rfl q
  | brk=>
    obtain ⟨_,_,_,q⟩:=hs
    exact False.elim q
  | cont=>
    obtain ⟨_,_,_,q⟩:=hs
    exact False.elim q
end L2
namespace L2
open PySem PySem.Spec PyProof.Rows
section
variable {X:Cx}{x:Str}{p pos:Pos}{e:Expr}{es:List Expr}{t:TA}{id T:String}{r:List V→Hp→VK→Prop}
noncomputable def tCB (r:List V→Hp→VK→Prop) (t:TA):TE:=fun σ H Q=>t σ H fun vs H1=>r vs H1 Q
theorem pe_callB (hc:CallR X (.builtin id) r) (hg:Gl X x) (hm:X.mg x=none) (hv:bootBuiltins x=some (.builtin id)) (ha:PA X (e::es) t) (hn:x≠"__name__":=by decide) (hdb:(x==("__debug__":Str))=false:=by decide)
    (he:starEach (e::es) X.env=(false,eval e X.env)::starEach es X.env:=by rfl) (hpl:(backTo pos (starEach es X.env)).any (·.1)=false:=by rfl):PE X (.Call (.Name x p) (e::es) [] pos) (tCB r t):=by
  intro pins s σ H Q I h
  refine wpAny_Call_Name_kw (ld_blt I hg hm hv ?_ hn hdb)
  exact PyProof.Rows.callWith_builtin1 (thn (ha pos pins s σ H _ I h) fun us s1 ⟨vs,H1,I1,r1,q1⟩=>hc pins s1 σ H1 vs us Q I1 r1 q1) he hpl
theorem pe_callTy (hc:CallR X (.type T) r) (hg:Gl X x) (hm:X.mg x=none) (hv:bootBuiltins x=some (.type T)) (ha:PA X (e::es) t) (hn:x≠"__name__":=by decide) (hdb:(x==("__debug__":Str))=false:=by decide)
    (he:starEach (e::es) X.env=(false,eval e X.env)::starEach es X.env:=by rfl) (hpl:(backTo pos (starEach es X.env)).any (·.1)=false:=by rfl):PE X (.Call (.Name x p) (e::es) [] pos) (tCB r t):=by
  intro pins s σ H Q I h
  refine wpAny_Call_Name_kw (ld_blt I hg hm hv ?_ hn hdb)
  exact PyProof.Rows.callWith_type1 (thn (ha pos pins s σ H _ I h) fun us s1 ⟨vs,H1,I1,r1,q1⟩=>hc pins s1 σ H1 vs us Q I1 r1 q1) he hpl
end
end L2
namespace HT
open PySem PyProof.Rows
section
open PySem.SeqAt
open PySem.AutoSeq1 (wpAny_loadPart')
open PySem.MeetsSeq PySem.MeetsSeq2 PySem.MeetsSeq3
end
section
variable {prog:Program}{w:World}{A:Around}{E:Value→Shared→Prop}{s:Shared}
noncomputable def sIx (n d:Nat):Option Int→Nat
  | none=>d
  | some v=>if v < 0 then (v + (n:Int)).toNat else min v.toNat n
theorem sIx_none (n d:Nat):sIx n d none=d:=rfl
theorem sIx_nat (n d k:Nat):sIx n d (some (k:Int))=min k n:=by
  show (if (k:Int) < 0 then ((k:Int) + (n:Int)).toNat else min (k:Int).toNat n)=min k n
  rw [if_neg (by omega),Int.toNat_natCast]
end
end HT
namespace L2
open PySem PySem.Spec PyProof.Rows
noncomputable abbrev TO:=St→Hp→(Option Int→Hp→Prop)→Prop
noncomputable def PO (X:Cx) (e:Option Expr) (t:TO):Prop:=
  ∀ (pins:List (Addr×Obj)) (s:Shared) (σ:St) (H:Hp) (Q:Option Int→Hp→Prop),Inv X pins σ H s→t σ H Q→
    wpAny (model X.prog X.w) X.A (evalPart e X.env) (fun u s'=>∃ o H',Inv X pins σ H' s'∧IsPart u o∧Q o H') X.xe s
noncomputable def tNoPart:TO:=fun _ H Q=>Q none H
noncomputable def tPart (t:TE):TO:=fun σ H Q=>t σ H fun x H1=>∃ i,x=.int i∧Q (some i) H1
theorem intsAre_of {ns:List Int}:∀ {us:List Value},Vals (ns.map V.int) us→IntsAre us ns:=by
  induction ns with
  | nil=>intro us r;rw [List.map_nil] at r;cases r;exact .nil
  | cons n ns ih=>
    intro us r
    rw [List.map_cons] at r
    cases r with
    | cons r1 r2=>
      obtain ⟨t,e⟩:=r1
      subst e
      exact .cons n t (ih r2)
section
variable {X:Cx}{e:Expr}{te:TE}{lo hi:Option Expr}{tl th:TO}{pos p2:Pos}
theorem po_none:PO X none tNoPart:=by
  intro pins s σ H Q I h
  rw [evalPart_none]
  exact wpAny_pure ⟨none,H,I,.none,h⟩
theorem po_some (h:PE X e te):PO X (some e) (tPart te):=by
  intro pins s σ H Q I hw
  rw [evalPart_some]
  refine thn (h pins s σ H _ I hw) fun u s1 ⟨x,H1,I1,r1,q1⟩=>?_
  obtain ⟨i,rfl,q⟩:=q1
  obtain ⟨t,rfl⟩:=r1
  exact ⟨some i,H1,I1,.int i t,q⟩
noncomputable def SlR (X:Cx) (r:V→Option Int→Option Int→Hp→VK→Prop):Prop:=
  ∀ (pins:List (Addr×Obj)) (s:Shared) (σ:St) (H:Hp) (x:V) (v vl vu:Value) (lo hi:Option Int) (sl:Addr) (Q:VK),Inv X pins σ H s→RelV x v→s.heap.IsSliceOf sl vl vu .none→IsPart vl lo→IsPart vu hi→r x lo hi H Q→
    ∃ T id,typeLookup (.type T) "__getitem__"=pure (some (.builtin id))∧s.TypeIs v T∧wpAny (model X.prog X.w) X.A (getItem v (.ref sl)) (EP X pins σ Q) X.xe s
noncomputable def tSl (r:V→Option Int→Option Int→Hp→VK→Prop) (te:TE) (tl th:TO):TE:=fun σ H Q=>te σ H fun x H1=>tl σ H1 fun l H2=>th σ H2 fun u H3=>r x l u H3 Q
theorem pe_slice {r:V→Option Int→Option Int→Hp→VK→Prop} (hr:SlR X r) (he:PE X e te) (hl:PO X lo tl) (hu:PO X hi th):PE X (.Subscript e (.Slice lo hi none p2) pos) (tSl r te tl th):=by
  intro pins s σ H Q I h
  refine Subscript_ (thn (he pins s σ H _ I h) fun v s1 ⟨x,H1,I1,r1,q1⟩=>?_)
  refine wpAny_Slice (thn (hl pins s1 σ H1 _ I1 q1) fun vl s2 ⟨l,H2,I2,pl,q2⟩=>thn (hu pins s2 σ H2 _ I2 q2) fun vu s3 ⟨u,H3,I3,pu,q3⟩=>?_)
  rw [evalPart_none]
  refine wpAny_pure ?_
  have I4:Inv X pins σ H3 {s3 with heap:=s3.heap.push {cls:=.type "slice",data:=.fields #[vl,vu,.none]}}:=I3.kept (t':=s3.toks) fun b ob q=>Heap.get?_push_of_some _ q
  obtain ⟨T,id,hT,ht,hg⟩:=hr pins {s3 with heap:=s3.heap.push {cls:=.type "slice",data:=.fields #[vl,vu,.none]}} σ H3 x v vl vu l u s3.heap.objs.size Q I4 r1 (Heap.IsSliceOf.new ..) pl pu q3
  show wpAny (model X.prog X.w) X.A (subscriptTail e (.Slice lo hi none p2) v (.ref s3.heap.objs.size)) (EP X pins σ Q) X.xe {s3 with heap:=s3.heap.push {cls:=.type "slice",data:=.fields #[vl,vu,.none]}}
  exact tail_any (ops:=[.ref s3.heap.objs.size,v]) ht hT hg (by with_unfolding_all rfl)
noncomputable def cutV (xs:List V) (lo hi:Option Int):List V:=(xs.drop (HT.sIx xs.length 0 lo)).take (HT.sIx xs.length xs.length hi - HT.sIx xs.length 0 lo)
theorem cutV_length (xs:List V) (lo hi:Option Int):(cutV xs lo hi).length≤xs.length:=by
  unfold cutV
  rw [List.length_take,List.length_drop]
  omega
end
end L2
namespace L2
open PySem PySem.Spec PyProof.Rows
noncomputable def ixN (n:Nat) (i:Int):Option Nat:=if 0≤i then (if i < n then some i.toNat else none) else if -(n:Int)≤i then some (i + n).toNat else none
noncomputable def atI {α:Type} (xs:List α) (i:Int):Option α:=(ixN xs.length i).bind fun j=>xs[j]?
theorem ixN_seq {n:Nat}{i:Int}{j:Nat} (h:ixN n i=some j):seqIndex? i n=some j∧j < n∧-(n:Int)≤i∧i < n:=by
  unfold ixN at h
  by_cases h0:0≤i
  · rw [if_pos h0] at h
    by_cases h1:i < n
    · rw [if_pos h1] at h
      have e:i.toNat=j:=Option.some.inj h
      exact ⟨by rw [seqIndex_of h0 h1,e],by omega,by omega,h1⟩
    · rw [if_neg h1] at h;cases h
  · rw [if_neg h0] at h
    by_cases h1:-(n:Int)≤i
    · rw [if_pos h1] at h
      have e:(i + n).toNat=j:=Option.some.inj h
      exact ⟨by rw [seqIndex_neg (by omega) h1,e],by omega,h1,by omega⟩
    · rw [if_neg h1] at h;cases h
theorem atI_get {α:Type}{xs:List α}{i:Int}{v:α} (h:atI xs i=some v):∃ j,seqIndex? i xs.length=some j∧xs[j]?=some v∧j < xs.length∧-(xs.length:Int)≤i∧i < xs.length:=by
  unfold atI at h
  cases e:ixN xs.length i with
  | none=>rw [e] at h;cases h
  | some j=>
    rw [e] at h
    obtain ⟨h1,h2,h3,h4⟩:=ixN_seq e
    exact ⟨j,h1,h,h2,h3,h4⟩
theorem atI_nat {α:Type}{xs:List α}{j:Nat}{v:α} (h:xs[j]?=some v):atI xs (j:Int)=some v:=by
  have hj:j < xs.length:=(List.getElem?_eq_some_iff.mp h).1
  have e:ixN xs.length (j:Int)=some j:=by
    unfold ixN
    rw [if_pos (by omega),if_pos (by omega)];simp
  unfold atI;rw [e];exact h
noncomputable def PlainIx (b:Expr):Prop:=∀ o i,subscripted b false o i=operate [o,i] (getItem o i)
noncomputable def IxR (X:Cx) (r:R2):Prop:=
  ∀ (value slice:Expr) (pins:List (Addr×Obj)) (s:Shared) (σ:St) (H:Hp) (x y:V) (v u:Value) (Q:VK),Inv X pins σ H s→RelV x v→RelV y u→r x y H Q→
    subscripted slice false v u=operate [v,u] (getItem v u)→wpAny (model X.prog X.w) X.A (subscriptTail value slice v u) (EP X pins σ Q) X.xe s
noncomputable def MtR (X:Cx) (id:String) (r:V→List V→Hp→VK→Prop):Prop:=
  ∀ (pins:List (Addr×Obj)) (s:Shared) (σ:St) (H:Hp) (x:V) (xs:List V) (v:Value) (us:List Value) (Q:VK),Inv X pins σ H s→RelV x v→Vals xs us→r x xs H Q→
    wpAny (model X.prog X.w) X.A (call (.builtin id) (v::us)) (EP X pins σ Q) X.xe s
section
variable {X:Cx}{a b:Expr}{ta tb:TE}{pos:Pos}
theorem pe_ix {r:R2} (hr:IxR X r) (ha:PE X a ta) (hb:PE X b tb) (hs:PlainIx b):PE X (.Subscript a b pos) (tOp r ta tb):=by
  intro pins s σ H Q I h
  exact Subscript_ (binT ha hb I h fun v u s2 x y H2 I2 rx ry q=>hr a b pins s2 σ H2 x y v u Q I2 rx ry q (hs _ _))
noncomputable def rIxL (K:PySem.W.Frag):R2:=fun x y H Q=>∃ p xs i v,x=.ref p∧y=.int i∧SqL K H p xs∧atI xs i=some v∧Q v H
noncomputable def rIxT (K:PySem.W.Frag):R2:=fun x y H Q=>∃ p xs i v,x=.ref p∧y=.int i∧SqT K H p xs∧atI xs i=some v∧Q v H
noncomputable def rIxS:R2:=fun x y H Q=>∃ z i c,x=.str z∧y=.int i∧z.length≤sizeLine∧atI z.cps.toList i=some c∧Q (.str ⟨#[c]⟩) H
theorem ix_list:IxR X (rIxL X.K):=by
  intro value slice pins s σ H x y v u Q I rx ry h hs
  obtain ⟨p,xs,i,z,rfl,rfl,hq,he,q⟩:=h
  cases rx
  obtain ⟨t,rfl⟩:=ry
  obtain ⟨its,r,pl,hz⟩:=I.list hq
  obtain ⟨j,h1,h2,h3,h4,h5⟩:=atI_get he
  obtain ⟨w,ew,rw'⟩:=r.get h2
  have hl:=r.length
  have hn:=line63
  have fin:EP X pins σ Q w s:=⟨z,H,I,rw',q⟩
  by_cases h0:0≤i
  · have hj:i.toNat=j:=by
      rw [seqIndex_of h0 h5] at h1
      exact Option.some.inj h1
    exact item_listR pl.isList h0 (by omega) (by rw [hj];simpa using ew) fin hs
  · have hj:(i + (its.toArray.size:Int)).toNat=j:=by
      rw [seqIndex_neg (by omega) h4] at h1
      rw [List.size_toArray,← hl]
      exact Option.some.inj h1
    exact subscriptTail_builtinR (x:=w) pl.isList.typeIs slot_list_getitem.lookup
      (wpAny_getItem_list_neg (Q:=fun r s'=>r=w∧EP X pins σ Q r s') pl.isList (by omega) (by rw [List.size_toArray] <;> omega) (by omega) (by rw [hj];simpa using ew) ⟨rfl,fin⟩) hs
theorem ix_tup:IxR X (rIxT X.K):=by
  intro value slice pins s σ H x y v u Q I rx ry h hs
  obtain ⟨p,xs,i,z,rfl,rfl,hq,he,q⟩:=h
  cases rx
  obtain ⟨t,rfl⟩:=ry
  obtain ⟨its,r,pl,hz⟩:=I.tuple hq
  obtain ⟨j,h1,h2,h3,h4,h5⟩:=atI_get he
  obtain ⟨w,ew,rw'⟩:=r.get h2
  have hl:=r.length
  have hn:=line63
  have fin:EP X pins σ Q w s:=⟨z,H,I,rw',q⟩
  exact subscriptTail_builtinR (x:=w) pl.typeIs slot_tuple_getitem.lookup
    (getItem_tuple (j:=j) (Q:=fun r s'=>r=w∧EP X pins σ Q r s') pl (by omega) (by omega) (by rw [List.size_toArray,← hl];exact h1) (by simpa using ew) ⟨rfl,fin⟩) hs
theorem ix_str:IxR X rIxS:=by
  intro value slice pins s σ H x y v u Q I rx ry h hs
  obtain ⟨z,i,c,rfl,rfl,hz,he,q⟩:=h
  obtain ⟨t,rfl⟩:=rx
  obtain ⟨t',rfl⟩:=ry
  obtain ⟨j,h1,h2,h3,h4,h5⟩:=atI_get he
  have hl:z.cps.toList.length=z.length:=by simp [Str.length]
  rw [hl] at h1 h4 h5
  have hn:=line63
  exact tail_any (typeIs_str s z t) slot_str_getitem.lookup (getItem_str (c:=c) (by
    have e1:decide (i < -(2 ^ 63:Int))=false:=decide_eq_false (by omega)
    have e2:decide (i≥2 ^ 63)=false:=decide_eq_false (by omega)
    rw [e1,e2,Bool.or_false]) (by rw [h1];simpa using h2) ⟨.str ⟨#[c]⟩,H,I.tok _,⟨_,rfl⟩,q⟩) hs
theorem mapSeq_set (its:List Value) (n j:Nat) (u:Value):Obj.mapSeq (·.setIfInBounds j u) {cls:=.type "list",data:=.seq its.toArray n}={cls:=.type "list",data:=.seq (its.set j u).toArray n}:=by
  simp [Obj.mapSeq]
theorem Inv.lst {pins:List (Addr×Obj)}{σ:St}{H:Hp}{s:Shared}{p:Addr}{xs:List V} (I:Inv X pins σ H s) (h:H p=some (.lst xs)):
    ∃ (its:List Value) (n:Nat),Vals xs its∧s.heap.get? p=some {cls:=.type "list",data:=.seq its.toArray n}∧xs.length≤sizeLine:=by
  obtain ⟨z,its,n,r,e⟩:=I.hok p _ h
  exact ⟨its,n,r,e,z⟩
theorem Inv.lstUpd {pins:List (Addr×Obj)}{σ:St}{H:Hp}{s:Shared}{p:Addr}{xs ys:List V}{its its':List Value}{n n':Nat}{f:Obj→Obj} (I:Inv X pins σ H s) (h:H p=some (.lst xs))
    (ho:s.heap.get? p=some {cls:=.type "list",data:=.seq its.toArray n}) (hf:f {cls:=.type "list",data:=.seq its.toArray n}={cls:=.type "list",data:=.seq its'.toArray n'}) (r:Vals ys its') (hz:ys.length≤sizeLine) (t:Nat):
    Inv X pins σ (upd H p (.lst ys)) {s with heap:=s.heap.update p f,toks:=t}:=by
  have e:(s.heap.update p f).get? p=some {cls:=.type "list",data:=.seq its'.toArray n'}:=by
    rw [Heap.get?_update_self f ho (by rw [hf] <;> rfl),hf]
  refine I.write (x:=p) (e:=p) (by rw [h];trivial) (.inl rfl) (fun b u hb q=>(Heap.get?_update_other _ _ (Ne.symm hb)).trans q) ⟨_,e⟩ ?_
  exact ⟨hz,its',n',r,e⟩
noncomputable def rSetL:V→V→V→Hp→(Hp→Prop)→Prop:=fun o i v H Q=>∃ p xs k j,o=.ref p∧i=.int k∧H p=some (.lst xs)∧ixN xs.length k=some j∧Q (upd H p (.lst (xs.set j v)))
theorem set_list:PSet X rSetL:=by
  intro pins s σ H o i v ov iv u Q I ro ri rv h
  obtain ⟨p,xs,k,j,rfl,rfl,hp,hj,q⟩:=h
  cases ro
  obtain ⟨t,rfl⟩:=ri
  obtain ⟨its,n,r,ho,hz⟩:=I.lst hp
  obtain ⟨h1,h2,h3,h4⟩:=ixN_seq hj
  have hl:=r.length
  have hn:=line63
  have I':Inv X pins σ (upd H p (.lst (xs.set j v))) {s with heap:=s.heap.update p (Obj.mapSeq (·.setIfInBounds j u))}:=
    I.lstUpd hp ho (mapSeq_set its n j u) (r.set rv j) (by rw [List.length_set];exact hz) s.toks
  by_cases h0:0≤k
  · have hk:k.toNat=j:=by
      rw [seqIndex_of h0 h4] at h1
      exact Option.some.inj h1
    exact PySem.W.ki_setAt ho h0 (by omega) (by rw [List.size_toArray,← hl];exact h4) (by rw [hk];exact ⟨_,I',q⟩)
  · have hk:(k + (its.toArray.size:Int)).toNat=j:=by
      rw [seqIndex_neg (by omega) h3] at h1
      rw [List.size_toArray,← hl]
      exact Option.some.inj h1
    exact PySem.W.ki_setBack ho (by omega) (by rw [List.size_toArray,← hl];exact h3) (by omega) (by rw [hk];exact ⟨_,I',q⟩)
theorem slice_bounds (lo hi:Option Int) (n:Nat):(sliceBounds lo hi none n).1=((HT.sIx n 0 lo:Nat):Int)∧(sliceBounds lo hi none n).2.1=((HT.sIx n n hi:Nat):Int)∧(sliceBounds lo hi none n).2.2=1:=by
  refine ⟨?_,?_,rfl⟩
  · cases lo with
    | none=>simp [sliceBounds,HT.sIx]
    | some i=>
      simp only [sliceBounds,HT.sIx,Option.getD_none,show (1:Int) > 0 by decide,if_true]
      by_cases h:i < 0
      · simp only [h,if_true] <;> omega
      · simp only [h,if_false] <;> omega
  · cases hi with
    | none=>simp [sliceBounds,HT.sIx]
    | some i=>
      simp only [sliceBounds,HT.sIx,Option.getD_none,show (1:Int) > 0 by decide,if_true]
      by_cases h:i < 0
      · simp only [h,if_true] <;> omega
      · simp only [h,if_false] <;> omega
theorem slicePick_cut (its:List Value) (lo hi:Option Int):slicePick its.toArray lo hi none=((its.drop (HT.sIx its.length 0 lo)).take (HT.sIx its.length its.length hi - HT.sIx its.length 0 lo)).toArray:=by
  obtain ⟨h1,h2,h3⟩:=slice_bounds lo hi its.toArray.size
  unfold slicePick
  rw [h1,h2,h3]
  simp only [sliceRange_one,pick_run,List.size_toArray] <;> rfl
noncomputable def rSlL (K:PySem.W.Frag):V→Option Int→Option Int→Hp→VK→Prop:=fun x lo hi H Q=>∃ a xs,x=.ref a∧SqL K H a xs∧∀ p,H p=none→Q (.ref p) (upd H p (.lst (cutV xs lo hi)))
theorem sl_list:SlR X (rSlL X.K):=by
  intro pins s σ H x v vl vu lo hi sl Q I rx hs pl pu h
  obtain ⟨a,xs,rfl,hx,q⟩:=h
  cases rx
  obtain ⟨its,r,ht,hz⟩:=I.list hx
  have hlen:=r.length
  refine ⟨"list",_,slot_list_getitem.lookup,ht.isList.typeIs,?_⟩
  refine wpAny_getItem_list_slice ht.isList hs pl pu .none (by simp) ?_ (by rw [List.size_toArray] <;> omega)
  rw [slicePick_cut,← hlen]
  refine ⟨.ref s.heap.objs.size,_,I.laid (t':=s.toks) (o:=.lst (cutV xs lo hi)) (fun b ob q=>Heap.get?_push_of_some _ q) (Nat.le_refl _) ?_,rfl,q _ (I.hok.fresh (Nat.le_refl _))⟩
  exact ⟨Nat.le_trans (cutV_length xs lo hi) hz,_,0,(r.drop (HT.sIx xs.length 0 lo)).take (HT.sIx xs.length xs.length hi - HT.sIx xs.length 0 lo),Heap.get?_push_size _ rfl⟩
noncomputable def flatV:V→Bool
  | .non=>true
  | .bl _=>true
  | .int _=>true
  | .str _=>true
  | _=>false
noncomputable def eqV:V→V→Bool
  | .non,.non=>true
  | .bl a,.bl b=>a==b
  | .bl a,.int b=>(if a then 1 else 0)==b
  | .int a,.bl b=>a==(if b then 1 else 0)
  | .int a,.int b=>a==b
  | .str a,.str b=>a==b
  | _,_=>false
theorem eqAt_V {A:Around}{s:Shared}{y x:V}{u v:Value} (ry:RelV y u) (rx:RelV x v) (fy:flatV y=true) (fx:flatV x=true):SeqAt.EqAt A s u v (eqV y x):=by
  cases y with
  | non=>
    cases ry
    cases x with
    | non=>cases rx;exact SeqAt.EqAt.same _
    | bl b=>cases rx;exact SeqAt.EqAt.none_bool b
    | int b=>obtain ⟨t,rfl⟩:=rx;exact SeqAt.EqAt.none_int b t
    | str b=>obtain ⟨t,rfl⟩:=rx;exact SeqAt.EqAt.none_str b t
    | _=>exact absurd (show false=true from fx) Bool.false_ne_true
  | bl a=>
    cases ry
    cases x with
    | non=>cases rx;exact SeqAt.EqAt.bool_none a
    | bl b=>cases rx;exact SeqAt.EqAt.bool_bool a b
    | int b=>obtain ⟨t,rfl⟩:=rx;exact SeqAt.EqAt.bool_int a b t
    | str b=>obtain ⟨t,rfl⟩:=rx;exact SeqAt.EqAt.bool_str a b t
    | _=>exact absurd (show false=true from fx) Bool.false_ne_true
  | int a=>
    obtain ⟨t',rfl⟩:=ry
    cases x with
    | non=>cases rx;exact SeqAt.EqAt.int_none a t'
    | bl b=>cases rx;exact SeqAt.EqAt.int_bool a t' b
    | int b=>obtain ⟨t,rfl⟩:=rx;exact SeqAt.EqAt.int_int a t' b t
    | str b=>obtain ⟨t,rfl⟩:=rx;exact SeqAt.EqAt.int_str a t' b t
    | _=>exact absurd (show false=true from fx) Bool.false_ne_true
  | str a=>
    obtain ⟨t',rfl⟩:=ry
    cases x with
    | non=>cases rx;exact SeqAt.EqAt.str_none a t'
    | bl b=>cases rx;exact SeqAt.EqAt.str_bool a t' b
    | int b=>obtain ⟨t,rfl⟩:=rx;exact SeqAt.EqAt.str_int a t' b t
    | str b=>obtain ⟨t,rfl⟩:=rx;exact SeqAt.EqAt.str_str a t' b t
    | _=>exact absurd (show false=true from fx) Bool.false_ne_true
  | _=>exact absurd (show false=true from fy) Bool.false_ne_true
noncomputable def eqU (x:V) (u:Value):Bool:=match u with
  | .none=>eqV .non x
  | .bool b=>eqV (.bl b) x
  | .int i _=>eqV (.int i) x
  | .str z _=>eqV (.str z) x
  | _=>false
theorem eqU_of {x y:V}{u:Value} (r:RelV y u) (f:flatV y=true):eqU x u=eqV y x:=by
  cases y with
  | non=>cases r;rfl
  | bl b=>cases r;rfl
  | int i=>obtain ⟨t,rfl⟩:=r;rfl
  | str z=>obtain ⟨t,rfl⟩:=r;rfl
  | _=>exact absurd (show false=true from f) Bool.false_ne_true
theorem any_eqU {x:V}:∀ {xs:List V}{us:List Value},Vals xs us→xs.all flatV=true→us.any (eqU x)=xs.any fun y=>eqV y x
  | _,_,.nil,_=>rfl
  | y::xs,u::us,.cons r t,f=>by
    rw [List.all_cons,Bool.and_eq_true] at f
    rw [List.any_cons,List.any_cons,eqU_of r f.1,any_eqU t f.2]
theorem mem_eqAt {A:Around}{s:Shared}{x:V}{v:Value} (rx:RelV x v) (fx:flatV x=true):∀ {xs:List V}{us:List Value},Vals xs us→xs.all flatV=true→∀ u∈us,SeqAt.EqAt A s u v (eqU x u)
  | _,_,.nil,_=>fun u hu=>by cases hu
  | y::xs,u::us,.cons r t,f=>fun u' hu=>by
    rw [List.all_cons,Bool.and_eq_true] at f
    rcases List.mem_cons.mp hu with rfl | hu
    · rw [eqU_of r f.1];exact eqAt_V r rx f.1 fx
    · exact mem_eqAt rx fx t f.2 u' hu
noncomputable def inV (x:V) (xs:List V):Bool:=xs.any fun y=>eqV y x
noncomputable def rIn (K:PySem.W.Frag) (neg:Bool):R2:=fun x y H Q=>∃ p xs,y=.ref p∧(SqL K H p xs∨SqT K H p xs)∧flatV x=true∧xs.all flatV=true∧Q (.bl (if neg then !inV x xs else inV x xs)) H
theorem op_in_seq:OpR X (compareOp .In) (rIn X.K false):=by
  intro pins s σ H x y v u Q I rx ry h
  obtain ⟨p,xs,rfl,hq,fx,fs,q⟩:=h
  cases ry
  rcases hq with hq | hq
  · obtain ⟨its,r,pl,hz⟩:=I.list hq
    refine SeqAt.in_listAt (eqU x) pl.isList (fun w hw=>mem_eqAt rx fx r fs w (by simpa using hw)) ⟨.bl _,H,I,rfl,?_⟩
    rw [show its.toArray.any (eqU x)=its.any (eqU x) by simp,any_eqU r fs]
    exact q
  · obtain ⟨its,r,pl,hz⟩:=I.tuple hq
    refine SeqAt.in_tupleAt (eqU x) pl (fun w hw=>mem_eqAt rx fx r fs w (by simpa using hw)) ⟨.bl _,H,I,rfl,?_⟩
    rw [show its.toArray.any (eqU x)=its.any (eqU x) by simp,any_eqU r fs]
    exact q
theorem op_notIn_seq:OpR X (compareOp .NotIn) (rIn X.K true):=by
  intro pins s σ H x y v u Q I rx ry h
  obtain ⟨p,xs,rfl,hq,fx,fs,q⟩:=h
  cases ry
  rcases hq with hq | hq
  · obtain ⟨its,r,pl,hz⟩:=I.list hq
    refine SeqAt.notIn_listAt (eqU x) pl.isList (fun w hw=>mem_eqAt rx fx r fs w (by simpa using hw)) ⟨.bl _,H,I,rfl,?_⟩
    rw [show its.toArray.any (eqU x)=its.any (eqU x) by simp,any_eqU r fs]
    exact q
  · obtain ⟨its,r,pl,hz⟩:=I.tuple hq
    refine SeqAt.notIn_tupleAt (eqU x) pl (fun w hw=>mem_eqAt rx fx r fs w (by simpa using hw)) ⟨.bl _,H,I,rfl,?_⟩
    rw [show its.toArray.any (eqU x)=its.any (eqU x) by simp,any_eqU r fs]
    exact q
theorem call_len_seq:CallR X (.builtin "len") (fun xs H Q=>∃ p ys,xs=[.ref p]∧(SqL X.K H p ys∨SqT X.K H p ys)∧Q (.int ys.length) H):=by
  intro pins s σ H xs us Q I r h
  obtain ⟨p,ys,rfl,hq,q⟩:=h
  obtain ⟨u,rfl,rx⟩:=vals1 r
  cases rx
  have hn:=line63
  rcases hq with hq | hq
  · obtain ⟨its,r',pl,hz⟩:=I.list hq
    have hlen:=r'.length
    exact Calls.call_len_list pl.isList (by simp only [List.size_toArray] <;> omega) ⟨.int ys.length,H,I.tok _,⟨s.toks + 1,by rw [List.size_toArray,hlen]⟩,q⟩
  · obtain ⟨its,r',pl,hz⟩:=I.tuple hq
    have hlen:=r'.length
    exact len_tuple pl (by simp only [List.size_toArray] <;> omega) ⟨.int ys.length,H,I.tok _,⟨s.toks + 1,by rw [List.size_toArray,hlen]⟩,q⟩
theorem call_len_str:CallR X (.builtin "len") (fun xs H Q=>∃ z,xs=[.str z]∧z.length≤sizeLine∧Q (.int z.length) H):=by
  intro pins s σ H xs us Q I r h
  obtain ⟨z,rfl,hz,q⟩:=h
  obtain ⟨u,rfl,t,rfl⟩:=vals1 r
  have hn:=line63
  exact len_str (by omega) ⟨.int z.length,H,I.tok _,⟨_,rfl⟩,q⟩
noncomputable def tyV (K:PySem.W.Frag) (T:String) (x:V) (H:Hp):Prop:=match x with
  | .str _=>T="str"
  | .int _=>T="int"
  | .ref p=>(T="list"∧∃ xs,SqL K H p xs)∨(T="tuple"∧∃ o,K.lookup p=some o∧o.cls=.type "tuple"∧o.dict=none)∨
      (T="dict"∧((∃ kvs,H p=some (.dK kvs))∨∃ kvs,H p=some (.dT kvs)))∨(T="set"∧∃ S n,H p=some (.set S n))
  | _=>False
theorem tyV_is {pins:List (Addr×Obj)}{σ:St}{H:Hp}{s:Shared}{T:String}{x:V}{v:Value} (I:Inv X pins σ H s) (r:RelV x v) (ty:tyV X.K T x H):
    s.TypeIs v T∧∀ a,v=.ref a→∃ ob,s.heap.get? a=some ob∧ob.dict=none:=by
  cases x with
  | str z=>
    obtain ⟨t,rfl⟩:=r
    cases (show T="str" from ty)
    exact ⟨typeIs_str s z t,fun _ e=>nomatch e⟩
  | int i=>
    obtain ⟨t,rfl⟩:=r
    cases (show T="int" from ty)
    exact ⟨typeIs_int s i t,fun _ e=>nomatch e⟩
  | ref p=>
    cases r
    rcases ty with ⟨rfl,xs,hq⟩ | ⟨rfl,o,hk,hc,hd⟩ | ⟨rfl,hk⟩ | ⟨rfl,S,n,hk⟩
    · obtain ⟨its,_,pl,_⟩:=I.list hq
      refine ⟨pl.isList.typeIs,fun a e=>?_⟩
      cases e
      obtain ⟨o,n,e,c,hd,_⟩:=pl
      exact ⟨o,e,hd⟩
    · refine ⟨⟨o,I.kIn p o hk,hc⟩,fun a e=>?_⟩
      cases e
      exact ⟨o,I.kIn _ o hk,hd⟩
    · have z:∃ o,s.heap.get? p=some o∧o.ExactDict:=by
        rcases hk with ⟨kvs,hk⟩ | ⟨kvs,hk⟩
        · obtain ⟨_,_,_,_,o,_,_,e,ex,_⟩:=I.hok p _ hk
          exact ⟨o,e,ex⟩
        · obtain ⟨_,_,_,_,o,_,_,e,ex,_⟩:=I.hok p _ hk
          exact ⟨o,e,ex⟩
      obtain ⟨o,e,ex⟩:=z
      refine ⟨⟨o,e,ex.1⟩,fun a e2=>?_⟩
      cases e2
      exact ⟨o,e,ex.2.1⟩
    · obtain ⟨o,_,_,_,e,ex,_⟩:=I.hok p _ hk
      refine ⟨⟨o,e,ex.1⟩,fun a e2=>?_⟩
      cases e2
      exact ⟨o,e,ex.2.1⟩
  | _=>exact False.elim ty
noncomputable def tBM0 (K:PySem.W.Frag) (T:String) (r:V→List V→Hp→VK→Prop) (to:TE):TE:=fun σ H Q=>to σ H fun x H1=>tyV K T x H1∧r x [] H1 Q
noncomputable def tBM (K:PySem.W.Frag) (T:String) (r:V→List V→Hp→VK→Prop) (to:TE) (t:TA):TE:=fun σ H Q=>to σ H fun x H1=>tyV K T x H1∧t σ H1 fun xs H2=>r x xs H2 Q
variable {o e:Expr}{es:List Expr}{to:TE}{t:TA}{name:Str}{apos cpos:Pos}{T id:String}{r:V→List V→Hp→VK→Prop}
theorem pe_bm0 (pa:PlainAttrs T) (slot:Slot T name id) (hty:typeOf (.builtin id)=pure (.type "method_descriptor")) (hm:MtR X id r) (ho:PE X o to)
    (hbase:attributeBase o name X.env (eval o X.env)=eval o X.env:=by rfl) (hline:(apos.endLine==cpos.line)=true:=by rfl):PE X (.Call (.Attribute o name apos) [] [] cpos) (tBM0 X.K T r to):=by
  intro pins s σ H Q I h
  refine wpAny_Call_method0_late hbase hline (thn (ho pins s σ H _ I h) fun v s1 ⟨x,H1,I1,r1,ty,q1⟩=>?_)
  obtain ⟨h1,h2⟩:=tyV_is I1 r1 ty
  exact ⟨T,id,pa,slot,hty,h1,h2,Calls.callWith_builtin rfl (PySem.evalArgs_none (hm pins s1 σ H1 x [] v [] Q I1 r1 .nil q1))⟩
theorem pe_bm (pa:PlainAttrs T) (slot:Slot T name id) (hty:typeOf (.builtin id)=pure (.type "method_descriptor")) (hm:MtR X id r) (ho:PE X o to) (ha:PA X (e::es) t)
    (hbase:attributeBase o name X.env (eval o X.env)=eval o X.env:=by rfl)
    (hfew:((backTo cpos (starEach (e::es) X.env)).all (fun x=>!x.1) && (backToKw cpos (keywordEach [] X.env)).all (fun x=>x.1.isSome)
      && decide ((e::es).length + ([]:List Keyword).length + (if ([]:List Keyword).isEmpty then 0 else 1) < 30))=true:=by rfl)
    (hline:(apos.endLine==cpos.line)=true:=by rfl) (hs:starEach (e::es) X.env=(false,eval e X.env)::starEach es X.env:=by rfl) (hplain:(backTo cpos (starEach es X.env)).any (·.1)=false:=by rfl):
    PE X (.Call (.Attribute o name apos) (e::es) [] cpos) (tBM X.K T r to t):=by
  intro pins s σ H Q I h
  refine wpAny_Call_method_late hbase hfew hline rfl (thn (ho pins s σ H _ I h) fun v s1 ⟨x,H1,I1,r1,ty,q1⟩=>?_)
  obtain ⟨h1,h2⟩:=tyV_is I1 r1 ty
  refine ⟨T,id,pa,slot,hty,h1,h2,?_⟩
  have hA:=ha cpos pins s1 σ H1 _ I1 q1
  rw [hs] at hA ⊢
  refine Calls.callWith_builtin (by show (false || (backTo cpos (starEach es X.env)).any (·.1))=false;rw [hplain] <;> rfl) (Calls.evalArgs_plain ?_)
  exact thn hA fun us s2 ⟨vs,H2,I2,r2,q2⟩=>hm pins s2 σ H2 x vs v us Q I2 r1 r2 q2
end
end L2
namespace L2
open PySem PySem.Spec PyProof.Rows
noncomputable def MtM (X:Cx) (id:String) (r:V→List V→Hp→VK→Prop):Prop:=
  ∀ (pins:List (Addr×Obj)) (s:Shared) (σ:St) (H:Hp) (x:V) (xs:List V) (v:Value) (us:List Value) (Q:VK),Inv X pins σ H s→RelV x v→Vals xs us→r x xs H Q→
    wpAny (model X.prog X.w) X.A (call (.builtin id) (v::us)) (EP X pins σ Q) X.xe s
theorem Vals.one:∀ {x:V}{us:List Value},Vals [x] us→∃ u,us=[u]∧RelV x u
  | _,_,.cons r .nil=>⟨_,rfl,r⟩
theorem Vals.zero:∀ {us:List Value},Vals [] us→us=[]
  | _,.nil=>rfl
theorem Vals.dropLast {xs:List V}{us:List Value} (h:Vals xs us):Vals xs.dropLast us.dropLast:=by
  induction h with
  | nil=>exact .nil
  | cons r t ih=>
    cases t with
    | nil=>exact .nil
    | cons q t'=>exact .cons r ih
theorem erase_last {α:Type} (l:List α):l.eraseIdx (l.length - 1)=l.dropLast:=by
  induction l with
  | nil=>rfl
  | cons a r ih=>
    cases r with
    | nil=>rfl
    | cons b r=>
      have e:(a::b::r).length - 1=((b::r).length - 1) + 1:=by
        have h1:(a::b::r).length=r.length + 2:=rfl
        have h2:(b::r).length=r.length + 1:=rfl
        omega
      rw [e,List.eraseIdx_cons_succ,ih]
      all_goals rfl
section
variable {X:Cx}{pins:List (Addr×Obj)}{σ:St}{H:Hp}{s:Shared}{l b:Addr}{xs ys zs:List V}
theorem Inv.lset {its its':List Value}{n:Nat}{f:Array Value→Array Value}{t':Nat} (I:Inv X pins σ H s) (hH:H l=some (.lst xs))
    (e:s.heap.get? l=some {cls:=.type "list",data:=.seq its.toArray n}) (hf:f its.toArray=its'.toArray) (hv:Vals ys its') (hz:ys.length≤sizeLine):
    Inv X pins σ (upd H l (.lst ys)) {s with heap:=s.heap.update l (Obj.mapSeq f),toks:=t'}:=by
  have q:=PySem.IsL.update e f
  rw [hf] at q
  refine I.write (x:=l) (e:=l) (by rw [hH];exact trivial) (.inl rfl) (fun b' u hb hu=>(Heap.get?_update_other s.heap (Obj.mapSeq f) (Ne.symm hb)).trans hu) ⟨_,q⟩ ?_
  exact ⟨hz,its',_,hv,q⟩
theorem Inv.lnew {its:List Value}{t':Nat} (I:Inv X pins σ H s) (hv:Vals ys its) (hz:ys.length≤sizeLine):
    Inv X pins σ (upd H s.heap.objs.size (.lst ys)) {s with heap:=s.heap.push {cls:=.type "list",data:=.seq its.toArray},toks:=t'}:=
  I.laid (fun _ _ q=>Heap.get?_push_of_some _ q) (Nat.le_refl _) ⟨hz,its,0,hv,Heap.get?_push_size _ rfl⟩
theorem Inv.fresh (I:Inv X pins σ H s):H s.heap.objs.size=none:=I.hok.fresh (Nat.le_refl _)
theorem Inv.lstM (I:Inv X pins σ H s) (hH:H l=some (.lst xs)):xs.length≤sizeLine∧∃ (its:List Value) (n:Nat),Vals xs its∧xs.length=its.length∧s.heap.get? l=some {cls:=.type "list",data:=.seq its.toArray n}:=by
  obtain ⟨z,its,n,r,e⟩:=I.hok l _ hH
  exact ⟨z,its,n,r,r.length,e⟩
theorem notLongL {n:Nat} (h:n≤sizeLine):Builtin.List.listTooLong n=false:=by
  unfold Builtin.List.listTooLong
  exact decide_eq_false (by omega)
end
section
variable {X:Cx}
noncomputable def rAppend:V→List V→Hp→VK→Prop:=fun x vs H Q=>∃ l xs y,x=.ref l∧vs=[y]∧H l=some (.lst xs)∧xs.length < sizeLine∧Q .non (upd H l (.lst (xs ++ [y])))
theorem mt_append:MtM X "list.append" rAppend:=by
  intro pins s σ H x vs v us Q I rx rv h
  obtain ⟨l,xs,y,rfl,rfl,hH,hz,q⟩:=h
  cases rx
  obtain ⟨u,rfl,ru⟩:=rv.one
  obtain ⟨z,its,n,r,hl,e⟩:=I.lstM hH
  refine call_meets F.slot_list_append ⟨_,e,rfl⟩ F.entry_list_append (F.args_list_append_2 _ _) (PySem.list_append l its.toArray n u (by rw [List.size_toArray];omega)) ⟨e,?_⟩
  refine ⟨.non,_,I.lset (its':=its ++ [u]) hH e (by simp) (r.append (.cons ru .nil)) ?_,rfl,q⟩
  rw [List.length_append,List.length_singleton]
  omega
noncomputable def rExtend:V→List V→Hp→VK→Prop:=fun x vs H Q=>∃ l b xs zs,x=.ref l∧vs=[.ref b]∧H l=some (.lst xs)∧H b=some (.lst zs)∧xs.length + zs.length≤sizeLine∧Q .non (upd H l (.lst (xs ++ zs)))
theorem mt_extend:MtM X "list.extend" rExtend:=by
  intro pins s σ H x vs v us Q I rx rv h
  obtain ⟨l,b,xs,zs,rfl,rfl,hH,hB,hz,q⟩:=h
  cases rx
  obtain ⟨u,rfl,ru⟩:=rv.one
  cases ru
  obtain ⟨z,its,n,r,hl,e⟩:=I.lstM hH
  obtain ⟨z2,its2,n2,r2,hl2,e2⟩:=I.lstM hB
  have hsz:its.toArray.size + its2.toArray.size≤sizeLine:=by rw [List.size_toArray,List.size_toArray];omega
  have hlong:¬ (!its.toArray.isEmpty && Builtin.List.listTooLong (its.toArray.size + its2.toArray.size))=true:=by
    rw [notLongL hsz,Bool.and_false]
    exact Bool.false_ne_true
  refine call_meets F.slot_list_extend ⟨_,e,rfl⟩ F.entry_list_extend (F.args_list_extend_2 _ _)
    (AutoSeq1.list_extend_list_list_0 l its.toArray n b its2.toArray n2 hlong (by rw [List.size_toArray];omega) (by omega)) ⟨e,e2,?_⟩
  refine ⟨.non,_,I.lset (its':=its ++ its2) hH e (by simp) (r.append r2) ?_,rfl,q⟩
  rw [List.length_append]
  omega
noncomputable def rPop:V→List V→Hp→VK→Prop:=fun x vs H Q=>∃ l xs y,x=.ref l∧vs=[]∧H l=some (.lst xs)∧xs[xs.length - 1]?=some y∧Q y (upd H l (.lst xs.dropLast))
theorem mt_pop:MtM X "list.pop" rPop:=by
  intro pins s σ H x vs v us Q I rx rv h
  obtain ⟨l,xs,y,rfl,rfl,hH,hy,q⟩:=h
  cases rx
  have hus:=rv.zero
  subst hus
  obtain ⟨z,its,n,r,hl,e⟩:=I.lstM hH
  obtain ⟨u,hu,ru⟩:=r.get hy
  have hy':its.toArray[its.toArray.size - 1]?=some u:=by
    show its.toArray[its.length - 1]?=some u
    rw [← Array.getElem?_toList,← hl]
    exact hu
  refine call_meets F.slot_list_pop ⟨_,e,rfl⟩ F.entry_list_pop (F.args_list_pop_1 _) (MeetsSeq.list_pop_last l its.toArray n u hy' (by rw [List.size_toArray];omega)) ⟨e,?_⟩
  refine ⟨y,_,I.lset (its':=its.dropLast) hH e ?_ r.dropLast ?_,ru,q⟩
  · show its.toArray.eraseIdxIfInBounds (its.toArray.size - 1)=its.dropLast.toArray
    rw [List.size_toArray,List.eraseIdxIfInBounds_toArray,erase_last]
  · rw [List.length_dropLast]
    omega
noncomputable def rClear:V→List V→Hp→VK→Prop:=fun x vs H Q=>∃ l xs,x=.ref l∧vs=[]∧H l=some (.lst xs)∧Q .non (upd H l (.lst []))
theorem mt_clear:MtM X "list.clear" rClear:=by
  intro pins s σ H x vs v us Q I rx rv h
  obtain ⟨l,xs,rfl,rfl,hH,q⟩:=h
  cases rx
  have hus:=rv.zero
  subst hus
  obtain ⟨z,its,n,r,hl,e⟩:=I.lstM hH
  refine call_meets F.slot_list_clear ⟨_,e,rfl⟩ F.entry_list_clear (F.args_list_clear_1 _) (AutoSeq1.list_clear_list_0 l its.toArray n (by rw [List.size_toArray];omega)) ⟨e,?_⟩
  exact ⟨.non,_,I.lset (its':=[]) (ys:=[]) hH e rfl .nil (Nat.zero_le _),rfl,q⟩
noncomputable def rCat:R2:=fun x y H Q=>∃ l b xs zs,x=.ref l∧y=.ref b∧H l=some (.lst xs)∧H b=some (.lst zs)∧xs.length + zs.length≤sizeLine∧∀ p,H p=none→Q (.ref p) (upd H p (.lst (xs ++ zs)))
theorem op_cat:OpR X (binaryOp .Add) rCat:=by
  intro pins s σ H x y v u Q I rx ry h
  obtain ⟨l,b,xs,zs,rfl,rfl,hH,hB,hz,q⟩:=h
  cases rx
  cases ry
  obtain ⟨z,its,n,r,hl,e⟩:=I.lstM hH
  obtain ⟨z2,its2,n2,r2,hl2,e2⟩:=I.lstM hB
  refine PySem.P.add_list e e2 ?_ (by rw [List.size_toArray,List.size_toArray];omega)
  have ea:its.toArray ++ its2.toArray=(its ++ its2).toArray:=by simp
  rw [ea]
  exact ⟨.ref _,_,I.lnew (t':=s.toks) (r.append r2) (by rw [List.length_append];omega),rfl,q _ I.fresh⟩
end
section
variable {prog:Program}{w:World}{A:Around}{E:Value→Shared→Prop}{s:Shared}
end
section
variable {X:Cx}
end
end L2
namespace Att
open PySem PySem.W PySem.Calls PyProof.Rows
theorem ints_of_wellAll {P:Params}{h:Heap}:∀ (ns:List Int) (vs:List Value),WellAll P h vs (ns.map WData.int)→IntsAre vs ns:=by
  intro ns
  induction ns with
  | nil=>
    intro vs w
    rw [List.map_nil] at w
    cases w
    exact .nil
  | cons n ns ih=>
    intro vs w
    rw [List.map_cons] at w
    cases w with
    | cons a b=>
      cases a
      exact .cons _ _ (ih _ b)
theorem script_of {l:OpenLaw}{n:Nat} (hn:l.most=some n) {P:Params}{h:Heap}{args:List WData}{vals:List Value}
    (hpre:l.row.toRowW.claim.pre args=true) (hwl:WellAll P h vals args):
    ∃ a vs ns,vals=[Value.ref a]∧args=[WData.list (ns.map WData.int)]∧h.get? a=some {cls:=.type "list",data:=.seq vs.toArray}∧IntsAre vs ns∧ns.length≤n:=by
  have hsh:WShape.hasAll [] args [.list .int]=true:=(pre_splitW hpre).1
  have hc:l.pre.holds [] {args:=args}=true:=(pre_splitW hpre).2
  obtain ⟨d,r,rfl,h1,h2⟩:=hasAllW_cons hsh
  obtain rfl:=hasAllW_nil h2
  obtain ⟨xs,rfl,h3⟩:=hasW_list h1
  obtain ⟨ns,rfl⟩:=items_int h3
  have hlen:ns.length≤n:=by
    unfold OpenLaw.pre at hc
    have h4:(WTm.not (.lt (.lit (.int (n:Int))) (.len (.arg 0)))).holds [] {args:=[.list (ns.map .int)]}=true:=by
      have h4:=(holds_andW hc).1
      rw [hn] at h4
      exact h4
    have h5:=condW_of h4 (w_not (w_lt w_lit (w_len_list (w_arg rfl))))
    rw [List.length_map] at h5
    refine Nat.le_of_not_lt fun q=>?_
    have q':(n:Int) < ((ns.length:Nat):Int):=by omega
    first
      | (rw [decide_eq_true q'] at h5;exact absurd h5 (by decide))
      | (simp at h5;omega)
  cases hwl with
  | cons w1 w2=>
    cases w2
    cases w1 with
    | list ho hall=>exact ⟨_,_,ns,rfl,rfl,ho,ints_of_wellAll ns _ hall,hlen⟩
theorem post_true (l:OpenLaw) (args:List WData):l.row.toRowW.claim.post args (.bool true) args=true:=
  postW_of (r:=l.row.toRowW) (X:=(true==true))
    (show WShape.has [] (.bool true) .bool=true by first | rfl | decide | simp [WShape.has,WShape.arms,WShape.armsAll])
    (show (WTm.eq .res (.lit (.bool true))).value [] {args:=args,res:=some (.bool true),after:=args}=some (.bool (true==true)) from w_eq_bool (w_res rfl) w_lit) rfl
theorem attach_call {l:OpenLaw}{n:Nat}{q:Program}{loose:List Str}{XP:(Str→Option Value)→Heap→Prop}{YP:World→Heap→Prop}{d:DefRec}
    (hn:l.most=some n) (hdf:d.params.defaults=[])
    (call:∀ (w:World) (s₀ s₁:Shared) (mg mb:Str→Option Value) (fa:Addr) (o:Obj) (pm cd doc:Value) (a:Addr) (vs:List Value) (ns:List Int),
      Ground q loose [] XP w s₀ mg mb s₁.heap→YP w s₁.heap→
      s₁.heap.get? fa=some o→o.data=.func (docDef d.name d.params d.body d.scope pm cd doc)→s₁.heap.CodeRec cd d.name→mg d.name=some (.ref fa)→
      s₁.heap.get? a=some {cls:=.type "list",data:=.seq vs.toArray}→IntsAre vs ns→ns.length≤n→s₁.gens=#[]→
      codeAny (model l.prog w) callerA (.call (.ref fa) ⟨[.ref a],[]⟩) (fun r s'=>r=.ok (.ret (.bool true))∧OldK s₁.heap s'.heap∧s'.os=s₁.os∧AllBare s'.gens) s₁):
    WalkO q loose XP YP l.row.toRowW d [] (fun f vs=>PySem.call f vs):=by
  intro w s₀ s₁ mg mb G Y fa o pm cd doc dV kV ho hd hcd hD hmg hg args vals as hpre hlay hrd hwl hlo
  obtain rfl:dV=.none:=Dflts.none hD hdf
  obtain rfl:kV=.none:=Dflts.noKw hD
  obtain ⟨a,vs,ns,rfl,rfl,hobj,hints,hlen⟩:=script_of hn hpre hwl
  refine enter_call (codeAny_mono (call w s₀ s₁ mg mb fa o pm cd doc a vs ns G Y ho (fd_plain hd) hcd hmg hobj hints hlen hg) fun r s' hq=>?_)
  obtain ⟨rfl,h2,h3,h4⟩:=hq
  exact ⟨.inl ⟨.bool true,.bool true,[],rfl,fun _=>rfl,.bool true,post_true l _,fun _=>⟨List.Pairwise.nil,fun _ hm=>(nomatch hm)⟩⟩,h2,h3,h4⟩
section
variable {prog:Program}{w:World}{A:Around}{E:Value→Shared→Prop}{s:Shared}{K:Frag}
end
end Att
namespace L2
open PySem PySem.Spec PyProof.Rows
theorem vals_ints:∀ {vs:List Value}{ns:List Int},IntsAre vs ns→Vals (ns.map V.int) vs
  | _,_,.nil=>.nil
  | _,_,.cons n t h=>.cons ⟨t,rfl⟩ (vals_ints h)
noncomputable def Only (H:Hp):Prop:=∀ b,H b=none∨∃ o xs,H b=some (.frz o (.lst xs))
theorem law_call {P:Program}{w:World}{K:PySem.W.Frag}{mg mb:Str→Option Value}{CX:CXT}{k:Nat}{fa a:Addr}{fd:FuncData}{x:Str}{sp:Sp}{s₁:Shared}{vs:List Value}{ns:List Int}
    (KX:K.In s₁.heap) (hns:s₁.heap.Ns mainGlobals mg) (hb:s₁.heap.Ns builtinsNs mb) (hbb:∀ x:Str,x≠"__name__"→mb x=bootBuiltins x) (hlim:s₁.heap.NoLimit) (hg:s₁.gens=#[])
    (ha:s₁.heap.get? a=some {cls:=.type "list",data:=.seq vs.toArray}) (hi:IntsAre vs ns) (hl:ns.length≤sizeLine) (hr:Room k callerA)
    (F:∀ base:Heap,K.In base→base.Ns mainGlobals mg→FnOk P w K mg base CX k fa fd [x] sp) (hbind:∀ (s:Shared) (u:Value),BindsTo s fd ⟨[u],[]⟩ [(x,u)])
    (hsp:∀ H:Hp,Only H→SqL K H a (ns.map V.int)→sp [.ref a] H (fun v _=>v=.bl true) fun _ _ _=>False)
    (hCX:∀ H e s',CX [] H s₁ (fun _ _ _=>False) e s'→False):
    codeAny (model P w) callerA (.call (.ref fa) ⟨[.ref a],[]⟩) (fun r s'=>r=.ok (.ret (.bool true))∧OldK s₁.heap s'.heap∧s'.os=s₁.os∧AllBare s'.gens) s₁:=by
  have rv:=vals_ints hi
  have lenV:=hi.length
  have core:∀ H:Hp,Only H→SqL K H a (ns.map V.int)→HOk P w H s₁.heap→(∀ b,H b≠none→b=a)→(H a≠none→K.lookup a=none)→
      codeAny (model P w) callerA (.call (.ref fa) ⟨[.ref a],[]⟩) (fun r s'=>r=.ok (.ret (.bool true))∧OldK s₁.heap s'.heap∧s'.os=s₁.os∧AllBare s'.gens) s₁:=by
    intro H hO hS hok hA hK
    have base_of:∀ {b:Addr}{o:Obj},s₁.heap.get? b=some o→H b=none→(hidT s₁.heap H).get? b=some o:=fun e n=>hidT_get e n
    have noA:∀ {b:Addr}{o:Obj}{es:Array DictEntry}{ep:Nat},s₁.heap.get? b=some o→o.data=.dict es ep→H b=none:=fun {b o es ep} e d=>by
      cases q:H b with
      | none=>rfl
      | some u=>
        have e':b=a:=hA b (by rw [q];simp)
        subst e'
        rw [ha] at e;cases e
        have d':Data.seq vs.toArray _=Data.dict es ep:=d
        cases d'
    have nsK:∀ {b:Addr}{m:Str→Option Value},s₁.heap.Ns b m→(hidT s₁.heap H).Ns b m:=fun {b m} ⟨o,es,ep,e,d,r⟩=>⟨o,es,ep,base_of e (noA e d),d,r⟩
    have hKb:K.In (hidT s₁.heap H):=fun b o e=>base_of (KX b o e) (by
      cases q:H b with
      | none=>rfl
      | some u=>
        have e':b=a:=hA b (by rw [q];simp)
        subst e'
        rw [hK (by rw [q];simp)] at e;cases e)
    have hM:Mod K mg (hidT s₁.heap H):=⟨hKb,nsK hns,⟨mb,nsK hb,hbb⟩,let ⟨mc,h1,h2⟩:=hlim;⟨mc,nsK h1,h2⟩⟩
    have e0:Env0 P w K mg (hidT s₁.heap H) callerA [] s₁ H:=⟨rfl,hM,fun b o e=>of_hidT e,Nat.le_of_eq (hidT_size _ _),trivial,fun b hb=>absurd (show b∈([]:List Addr) from hb) (by simp),hok,.of_eq hg⟩
    refine codeAny_mono ((F _ hKb (nsK hns)).run callerA [] s₁ H ⟨[.ref a],[]⟩ [.ref a] [.ref a] _ _ hr e0 (hbind s₁ (.ref a)) (.cons rfl .nil) (hsp H hO hS)) fun r s' h=>?_
    cases r with
    | error e=>exact (hCX H e s' h).elim
    | ok fl=>
      cases fl with
      | next=>exact False.elim h
      | brk=>exact False.elim h
      | cont=>exact False.elim h
      | ret u=>
        obtain ⟨v,H',os,bare,un,hok',r',q⟩:=h
        have q':v=.bl true:=q
        subst q'
        obtain rfl:u=Value.bool true:=r'
        refine ⟨rfl,OldK.of_keep fun b o e=>?_,os,bare⟩
        cases q:H b with
        | none=>exact un.keep b o e q (by intro z;exact absurd (show b∈([]:List Addr) from z) (by simp)) (by simp)
        | some u=>
          rcases hO b with z | ⟨ob,xs,z⟩
          · rw [q] at z;cases z
          · have z2:=un.frzs b ob _ z
            obtain ⟨e1,_⟩:=hok b _ z
            obtain ⟨e2,_⟩:=hok' b _ z2
            rw [e] at e1;cases e1
            exact e2
  cases hk:K.lookup a with
  | some o=>
    have e:=KX a o hk
    rw [ha] at e
    cases e
    refine core (fun _=>none) (fun _=>.inl rfl) (.inr ⟨_,vs.toArray,_,hk,rfl,rfl,rfl,by rw [List.size_toArray,lenV];exact hl,by simpa using rv⟩) (fun b u z=>by have z':(none:Option HO)=some u:=z;cases z') (fun b z=>absurd rfl z) fun z=>absurd rfl z
  | none=>
    refine core (fun b=>if b=a then some (.frz {cls:=.type "list",data:=.seq vs.toArray} (.lst (ns.map V.int))) else none) (fun b=>?_) (.inl (.inr ⟨{cls:=.type "list",data:=.seq vs.toArray},if_pos rfl⟩)) (fun b u z=>?_) (fun b z=>?_) fun _=>hk
    · by_cases hb:b=a
      · exact .inr ⟨_,_,if_pos hb⟩
      · exact .inl (if_neg hb)
    · by_cases hb:b=a
      · have z':=(if_pos hb).symm.trans z
        cases z'
        subst hb
        exact ⟨ha,by rw [List.length_map];exact hl,vs,_,rv,ha⟩
      · have z':=(if_neg hb).symm.trans z
        cases z'
    · by_cases hb:b=a
      · exact hb
      · exact absurd (if_neg hb) z
end L2
namespace L2
open PySem PySem.Spec PyProof.Rows
noncomputable abbrev KOf {K:PySem.W.Frag}{h:Heap} (_:K.In h):PySem.W.Frag:=K
theorem walk_of {l:PySem.W.OpenLaw}{n k:Nat}{q:Program}{loose:List Str}{XP:(Str→Option Value)→Heap→Prop}{YP:World→Heap→Prop}{d:DefRec}{K:Params→PySem.W.Frag}{CX:World→CXT}{sp:World→Sp}{x:Str}
    (hn:l.most=some n) (hn2:n≤sizeLine) (hdf:d.params.defaults=[]) (hr:Room k callerA)
    (hY:∀ (w:World) (h:Heap),YP w h→(K w.params).In h)
    (F:∀ (w:World) (mg:Str→Option Value) (fa:Addr) (h:Heap),(K w.params).In h→h.Ns mainGlobals mg→mg d.name=some (.ref fa)→
      ∃ fd:FuncData,(∀ (s:Shared) (u:Value),BindsTo s fd ⟨[u],[]⟩ [(x,u)])∧
        ∀ base:Heap,(K w.params).In base→base.Ns mainGlobals mg→FnOk l.prog w (K w.params) mg base (CX w) k fa fd [x] (sp w))
    (hsp:∀ (w:World) (H:Hp) (a:Addr) (ns:List Int),ns.length≤n→Only H→SqL (K w.params) H a (ns.map V.int)→sp w [.ref a] H (fun v _=>v=.bl true) fun _ _ _=>False)
    (hCX:∀ (w:World) (H:Hp) (s:Shared) (e:Value) (s':Shared),CX w [] H s (fun _ _ _=>False) e s'→False):
    PySem.W.WalkO q loose XP YP l.row.toRowW d [] (fun f vs=>PySem.call f vs):=by
  refine Att.attach_call hn hdf fun w s₀ s₁ mg mb fa o pm cd doc a vs ns G Y ho hd hcd hmg hobj hints hlen hg=>?_
  have KX:=hY w _ Y
  obtain ⟨fd,hb,hF⟩:=F w mg fa _ KX G.T.g hmg
  exact law_call KX G.T.g G.T.b G.T.builtins G.T.nolimit hg hobj hints (Nat.le_trans hlen hn2) hr hF hb (fun H hO hS=>hsp w H a ns hlen hO hS) fun H e s'=>hCX w H s₁ e s'
end L2
namespace L2
open PySem PySem.Spec PyProof.Rows
noncomputable def inClass (s:Stmt) (j:Nat):Stmt:=match s with
  | .ClassDef _ _ _ body _ _ _ _ _ _ _=>body.getD j (.Pass ⟨0,0,0,0⟩)
  | _=>.Pass ⟨0,0,0,0⟩
noncomputable def defArgs (s:Stmt):Arguments:=match s with
  | .FunctionDef _ a _ _ _ _ _ _ _ _=>a
  | _=>{posonlyargs:=[],args:=[],vararg:=none,kwonlyargs:=[],kw_defaults:=[],kwarg:=none,defaults:=[]}
noncomputable def defBody (s:Stmt):List Stmt:=match s with
  | .FunctionDef _ _ b _ _ _ _ _ _ _=>b
  | _=>[]
noncomputable def defScope (s:Stmt):Scope:=match s with
  | .FunctionDef _ _ _ _ _ _ sc _ _ _=>sc
  | _=>{kind:=.function,names:=[],isGenerator:=false,isCoroutine:=false}
noncomputable abbrev CX0:CXT:=fun _ _ _ _ _ _=>False
noncomputable abbrev E0:XK:=fun _ _ _=>False
theorem pass0 {X:Cx}:Passes CX0 X E0:=fun _ _ _ _ _ _ _ h=>h.elim
structure Fun (K:PySem.W.Frag) (x qual:Str) (st:Stmt) (f:Addr) (fd:FuncData):Prop where
  ex:∃ (oc:Value) (od:Option Addr) (kV doc pm:Value) (an:Option Addr) (cdv ct:Value) (osl:Array (Option Value)),
    fd=PySem.W.fnOf x qual (defArgs st) (defBody st) (defScope st) .none kV doc pm an cdv ct∧K.lookup f=some ⟨oc,od,.func fd,osl⟩∧PySem.W.codeIn K cdv qual=true
  kp:PySem.W.keepIn K (.ref f)=true
section
variable {P:Program}{w:World}{K:PySem.W.Frag}{mg:Str→Option Value}{base:Heap}
theorem Fun.ok {x qual:Str}{st:Stmt}{f:Addr}{fd:FuncData}{N ps:List Str}{k:Nat}{sp:Sp} (F:Fun K x qual st f fd) (S:FnScope N ps (defScope st)) (len:∀ vs H Q E,sp vs H Q E→vs.length=ps.length)
    (hbody:∀ (cdv:Value) (A:Around) (outer:List Env) (s:Shared) (H:Hp) (vs:List V) (Q:VK) (E:XK),Room k (A.deeper (envOfC qual (defScope st) s.heap.objs.size f cdv))→sp vs H Q E→
      ∃ t,PSs (cxOf CX0 P w K mg base N qual (defScope st) f cdv A outer s H E).nox (defBody st) t∧t {nx:=fun _ H'=>Q .non H',rt:=Q} (start N vs) H):FnOk P w K mg base CX0 (k + 1) f fd ps sp:=by
  obtain ⟨oc,od,kV,doc,pm,an,cdv,ct,osl,rfl,lk,hcd⟩:=F.ex
  refine fn_of lk hcd S len fun A outer s H vs Q E hr hsp=>?_
  obtain ⟨t,h,q⟩:=hbody cdv A outer s H vs Q E hr hsp
  exact ⟨t,h.nox,q⟩
theorem fun_mk {x qual:Str}{st:Stmt}{f:Addr}{oc:Value}{od an:Option Addr}{osl:Array (Option Value)}{kV doc pm cdv ct:Value} (l:K.lookup f=some ⟨oc,od,.func (PySem.W.fnOf x qual (defArgs st) (defBody st) (defScope st) .none kV doc pm an cdv ct),osl⟩)
    (c:PySem.W.codeIn K cdv qual=true) (k:PySem.W.keepIn K (.ref f)=true):Fun K x qual st f (PySem.W.fnOf x qual (defArgs st) (defBody st) (defScope st) .none kV doc pm an cdv ct):=⟨⟨oc,od,kV,doc,pm,an,cdv,ct,osl,rfl,l,c⟩,k⟩
end
theorem hu_of {A:Around}{k:Nat} (hr:Room k A):A.units + 1 < cLine:=Nat.lt_of_le_of_lt (Nat.add_le_add_left (by decide:1≤64) _) hr.units
theorem small1000 {n:Nat} (h:n≤1000):n < sizeLine:=Nat.lt_of_le_of_lt h (by decide)
section
variable {X:Cx}
theorem pv (i:Nat) {x:Str}{pos:Pos} (hN:X.N[i]?=some x:=by rfl) (hv:Vis X.env.scope x:=by first | exact Or.inl rfl | exact Or.inr (Or.inl rfl) | exact Or.inr (Or.inr rfl)) (hd:(x==("__debug__":Str))=false:=by decide)
    (hcd:(x==("__classdict__":Str))=false:=by decide):PE X (.Name x pos) (tVar i):=pe_var hN hv hd hcd
end
theorem iteF {A B:Prop} (h:B):if false=true then A else B:=by
  rw [if_neg Bool.false_ne_true]
  exact h
theorem iteT {A B:Prop} (h:A):if true=true then A else B:=by
  rw [if_pos rfl]
  exact h
theorem ite2 {c A B:Prop} [Decidable c] (h1:c→A) (h2:¬ c→B):if c then A else B:=by
  by_cases h:c
  · rw [if_pos h]
    exact h1 h
  · rw [if_neg h]
    exact h2 h
theorem iteNS {c A B:Prop} [Decidable c] (hc:c) (h:B):if (!decide c)=true then A else B:=by
  rw [decide_eq_true hc]
  exact iteF h
noncomputable def Same (H H':Hp):Prop:=∀ b o,H b=some o→H' b=some o
theorem Same.refl (H:Hp):Same H H:=fun _ _ h=>h
theorem Same.trans {H H1 H2:Hp} (a:Same H H1) (b:Same H1 H2):Same H H2:=fun c o h=>b c o (a c o h)
theorem Same.free {H H':Hp} (e:Same H H') {l:Addr} (h:H' l=Option.none):H l=Option.none:=by
  cases q:H l with
  | none=>rfl
  | some o=>
    rw [e l o q] at h
    cases h
theorem Same.seq {K:PySem.W.Frag}{H H':Hp}{a:Addr}{xs:List V} (e:Same H H') (h:SqL K H a xs):SqL K H' a xs:=by
  rcases h with (h | ⟨o,h⟩) | h
  · exact .inl (.inl (e _ _ h))
  · exact .inl (.inr ⟨o,e _ _ h⟩)
  · exact .inr h
end L2
namespace L2
open PySem PySem.Spec PyProof.Rows
section
variable {prog:Program}{w:World}{A:Around}{R:Result→Shared→Prop}{s:Shared}
theorem compLoop_own {elt target iter:Expr}{ifs:List Expr}{scope:Scope}{pos:Pos}{it acc:Value}{env:Env} (I:Nat→Shared→Prop)
    (turn:∀ n s,I n s→wpAny (model prog w) A (pyNext it) (fun r s₁=>match r with
      | none=>R (.ok .next) s₁
      | some v=>wpAny (model prog w) A (letOwnedTupleGo target it v) (fun _ s₀=>wpAny (model prog w) A (assign target env v) (fun _ s₂=>
          wpAny (model prog w) A (forIn ifs true fun c r=>if r=true then do let ok ← isTrue c env (eval c env);pure (ForInStep.yield ok) else pure (ForInStep.yield r)) (fun ok s₃=>
            if ok=true then wpAny (model prog w) A (eval elt env) (fun x s₄=>
              wpAny (model prog w) A (call (.builtin "list.append") [acc,x]) (fun _ s₅=>∃ m,m < n∧I m s₅) (fun _ _=>False) s₄) (fun _ _=>False) s₃
            else ∃ m,m < n∧I m s₃) (fun _ _=>False) s₂) (fun _ _=>False) s₀) (fun _ _=>False) s₁) (fun _ _=>False) s)
    (n:Nat) (h:I n s):
    codeAny (model prog w) A (.compLoop (.ListComp elt [⟨target,iter,ifs,0⟩] scope pos) 0 it acc env) R s:=by
  refine codeAny_loop rfl I (fun n s hI=>?_) n h
  show wpAny _ A ((compTurn (.ListComp elt [⟨target,iter,ifs,0⟩] scope pos) 0 it acc env).onRaise (fun x=>do noteFrame x env;theTreesLotGoes x)) _ _ s
  refine wpAny_noted ?_
  rw [compTurn_list]
  refine wpAny_bind (wpAny_standAt (wpAny_bind (wpAny_mono (turn n s hI) (fun r s₁ h₁=>?_) fun _ _ h'=>h'.elim)))
  cases r with
  | none=>exact wpAny_pure h₁
  | some v=>
    refine wpAny_bind (wpAny_mono h₁ (fun _ s₀ h₀=>?_) fun _ _ h'=>h'.elim)
    refine wpAny_bind (wpAny_mono h₀ (fun _ s₂ h₂=>wpAny_bind (wpAny_mono h₂ (fun ok s₃ h₃=>?_) fun _ _ h'=>h'.elim)) fun _ _ h'=>h'.elim)
    cases ok with
    | false=>exact wpAny_pure ⟨rfl,h₃⟩
    | true=>
      exact wpAny_bind (wpAny_bind (wpAny_mono h₃ (fun x s₄ h₄=>wpAny_bind (wpAny_mono h₄ (fun _ s₅ h₅=>wpAny_pure (wpAny_pure ⟨rfl,h₅⟩)) fun _ _ h'=>h'.elim)) fun _ _ h'=>h'.elim))
end
noncomputable def closList (env:Env):List (Str×NameKind)→List (Str×Addr)→List (Str×Addr)
  | [],acc=>acc
  | (x,k)::r,acc=>if k==.free then closList env r ((x,(env.cells.lookup x).getD 0)::acc) else closList env r acc
theorem closureFor_list {scope:Scope}{env:Env} (h:∀ x∈scope.names,x.2=.free→∃ c,env.cells.lookup x.1=some c):closureFor scope env=pure (closList env scope.names []):=by
  have all:∀ (names:List (Str×NameKind)) (acc:List (Str×Addr)),(∀ x∈names,x.2=.free→∃ c,env.cells.lookup x.1=some c)→
      (forIn names acc fun (x:Str×NameKind) (r:List (Str×Addr))=>(if (x.2==NameKind.free)=true then do let a ← cellOf env x.1;pure (ForInStep.yield ((x.1,a)::r)) else pure (ForInStep.yield r):Sem (ForInStep (List (Str×Addr)))))=pure (closList env names acc):=by
    intro names
    induction names with
    | nil=>intro acc _;rfl
    | cons x r ih=>
      intro acc hx
      obtain ⟨n,k⟩:=x
      have hr:=fun y hy=>hx y (List.mem_cons_of_mem _ hy)
      rw [List.forIn_cons]
      unfold closList
      by_cases hk:(k==NameKind.free)=true
      · obtain ⟨c,hc⟩:=hx (n,k) List.mem_cons_self (by simpa using hk)
        have hc':env.cells.lookup n=some c:=hc
        have e1:cellOf env n=pure c:=by unfold cellOf;rw [hc']
        simp only [hk,if_true,e1,pure_bind,hc',Option.getD_some]
        exact ih _ hr
      · simp only [hk,Bool.false_eq_true,if_false,pure_bind]
        exact ih _ hr
  have:=all scope.names [] h
  simp only [closureFor]
  first
    | exact this
    | (refine Eq.trans ?_ (this);rfl)
    | (rw [show (forIn scope.names ([]:List (Str×Addr)) _:Sem _)=_ from this];rfl)
theorem closList_mem {env:Env}:∀ (names:List (Str×NameKind)) (acc:List (Str×Addr)) (x:Str) (c:Addr),(x,c)∈closList env names acc→((x,NameKind.free)∈names∧c=(env.cells.lookup x).getD 0)∨(x,c)∈acc
  | [],_,_,_,h=>.inr h
  | (y,k)::r,acc,x,c,h=>by
    unfold closList at h
    split at h
    · rename_i hk
      have hk:k=.free:=by simpa using hk
      rcases closList_mem r _ x c h with ⟨h1,h2⟩ | h1
      · exact .inl ⟨List.mem_cons_of_mem _ h1,h2⟩
      · rcases List.mem_cons.mp h1 with e | h1
        · cases e;subst hk;exact .inl ⟨List.mem_cons_self,rfl⟩
        · exact .inr h1
    · rcases closList_mem r _ x c h with ⟨h1,h2⟩ | h1
      · exact .inl ⟨List.mem_cons_of_mem _ h1,h2⟩
      · exact .inr h1
theorem closList_acc {env:Env}:∀ (names:List (Str×NameKind)) (acc:List (Str×Addr)) (p:Str×Addr),p∈acc→p∈closList env names acc
  | [],_,_,h=>h
  | (y,k)::r,acc,p,h=>by
    unfold closList
    split
    · exact closList_acc r _ p (List.mem_cons_of_mem _ h)
    · exact closList_acc r _ p h
theorem closList_has {env:Env}:∀ (names:List (Str×NameKind)) (acc:List (Str×Addr)) (x:Str),(x,NameKind.free)∈names→(x,(env.cells.lookup x).getD 0)∈closList env names acc
  | [],_,_,h=>nomatch h
  | (y,k)::r,acc,x,h=>by
    unfold closList
    rcases List.mem_cons.mp h with e | h
    · cases e
      rw [if_pos (by rfl)]
      exact closList_acc r _ _ List.mem_cons_self
    · split
      · exact closList_has r _ x h
      · exact closList_has r _ x h
theorem mem_lookup {α:Type}:∀ {l:List (Str×α)}{x:Str}{c:α},(x,c)∈l→∃ d,l.lookup x=some d
  | (k,v)::r,x,c,h=>by
    rw [List.lookup_cons]
    cases hb:x==k with
    | true=>exact ⟨v,rfl⟩
    | false=>
      rcases List.mem_cons.mp h with e | h
      · cases e;simp at hb
      · exact mem_lookup h
theorem closList_lookup {env:Env}{names:List (Str×NameKind)}{x:Str}{c:Addr} (h:(closList env names []).lookup x=some c) (hh:∀ y∈names,y.2=.free→∃ c,env.cells.lookup y.1=some c):
    (x,NameKind.free)∈names∧env.cells.lookup x=some c:=by
  rcases closList_mem names [] x c (mem_of_lookup h) with ⟨h1,h2⟩ | h1
  · obtain ⟨d,hd⟩:=hh _ h1 rfl
    have hd':env.cells.lookup x=some d:=hd
    rw [hd'] at h2
    exact ⟨h1,by rw [h2];exact hd'⟩
  · exact nomatch h1
theorem closList_look {env:Env}{names:List (Str×NameKind)}{x:Str} (hx:(x,NameKind.free)∈names) (hh:∀ y∈names,y.2=.free→∃ c,env.cells.lookup y.1=some c):
    ∃ c,(closList env names []).lookup x=some c∧env.cells.lookup x=some c:=by
  obtain ⟨d,hd⟩:=mem_lookup (closList_has names [] x hx)
  exact ⟨d,hd,(closList_lookup hd hh).2⟩
theorem cf_not:∀ (names:List (Str×NameKind)) (n:Nat) (acc:List (Str×Addr)) (x:Str),(x,NameKind.cell)∉names→(cellsFrom n names acc).lookup x=acc.lookup x
  | [],_,_,_,_=>rfl
  | (y,k)::r,n,acc,x,h=>by
    unfold cellsFrom
    have hr:(x,NameKind.cell)∉r:=fun z=>h (List.mem_cons_of_mem _ z)
    split
    · rename_i hk
      have hk:k=.cell:=by simpa using hk
      rw [cf_not r _ _ x hr,List.lookup_cons]
      cases hb:x==y with
      | true=>
        have e:x=y:=by simpa using hb
        exact absurd List.mem_cons_self (by subst e;subst hk;exact h)
      | false=>rfl
    · exact cf_not r n acc x hr
theorem cf_own:∀ (names:List (Str×NameKind)) (n:Nat) (acc:List (Str×Addr)) (x:Str),(x,NameKind.cell)∈names→∃ c,n≤c∧(cellsFrom n names acc).lookup x=some c
  | [],_,_,_,h=>nomatch h
  | (y,k)::r,n,acc,x,h=>by
    unfold cellsFrom
    by_cases hr:(x,NameKind.cell)∈r
    · split
      · obtain ⟨c,h1,h2⟩:=cf_own r (n + 1) ((y,n)::acc) x hr
        exact ⟨c,by omega,h2⟩
      · exact cf_own r n acc x hr
    · have e:(x,NameKind.cell)=(y,k):=(List.mem_cons.mp h).resolve_right hr
      injection e with e1 e2
      subst e1
      subst e2
      rw [if_pos (by rfl),cf_not r _ _ x hr,List.lookup_cons]
      simp
theorem cf_lt:∀ (names:List (Str×NameKind)) (h:Heap) (acc:List (Str×Addr)) (x:Str) (c:Addr),(cellsFrom h.objs.size names acc).lookup x=some c→(pushCells h names).IsCell c none∨acc.lookup x=some c
  | [],_,_,_,_,h=>.inr h
  | (y,k)::r,h,acc,x,c,e=>by
    unfold cellsFrom at e
    unfold pushCells
    by_cases hk:(k==NameKind.cell)=true
    · rw [if_pos hk] at e ⊢
      have e':(cellsFrom (h.push {cls:=.type "cell",data:=.cell none}).objs.size r ((y,h.objs.size)::acc)).lookup x=some c:=by rw [Heap.size_push];exact e
      rcases cf_lt r _ _ x c e' with q | q
      · exact .inl q
      · rw [List.lookup_cons] at q
        cases hb:x==y with
        | true=>
          rw [hb] at q
          have q':h.objs.size=c:=Option.some.inj q
          subst q'
          exact .inl ((show (h.push {cls:=.type "cell",data:=.cell none}).IsCell h.objs.size none from ⟨_,Heap.get?_push_size _ rfl,rfl⟩).keeps (pushCells_keeps _ _))
        | false=>rw [hb] at q;exact .inr q
    · rw [if_neg hk] at e ⊢
      exact cf_lt r h acc x c e
theorem cf_inj:∀ (names:List (Str×NameKind)) (n:Nat) (acc:List (Str×Addr)),(∀ x c,acc.lookup x=some c→c < n)→(∀ x y c,acc.lookup x=some c→acc.lookup y=some c→x=y)→
    ∀ x y c,(cellsFrom n names acc).lookup x=some c→(cellsFrom n names acc).lookup y=some c→x=y
  | [],_,_,_,h=>h
  | (z,k)::r,n,acc,h1,h2=>by
    unfold cellsFrom
    split
    · refine cf_inj r (n + 1) _ (fun x c e=>?_) fun x y c e e'=>?_
      · rw [List.lookup_cons] at e
        cases hb:x==z with
        | true=>rw [hb] at e;exact (Option.some.inj e) ▸ Nat.lt_succ_self n
        | false=>rw [hb] at e;exact Nat.lt_succ_of_lt (h1 x c e)
      · rw [List.lookup_cons] at e e'
        cases hb:x==z with
        | true=>
          rw [hb] at e
          have ec:n=c:=Option.some.inj e
          cases hb':y==z with
          | true => have a : x = z := by simpa using hb
                    have b:y=z:=by simpa using hb'
                    rw [a,b]
          | false=>rw [hb'] at e';exact absurd (h1 y c e') (by rw [← ec];exact Nat.lt_irrefl n)
        | false=>
          rw [hb] at e
          cases hb':y==z with
          | true=>
            rw [hb'] at e'
            have ec:n=c:=Option.some.inj e'
            exact absurd (h1 x c e) (by rw [← ec];exact Nat.lt_irrefl n)
          | false=>rw [hb'] at e';exact h2 x y c e e'
    · exact cf_inj r n acc h1 h2
structure BlkOk (N0:List Str) (sc:Scope) (N:List Str) (scope:Scope) (mp:List (Option Nat)):Prop where
  kind:scope.kind=.function
  nd:(scope.names.map (·.1)).Nodup
  freeB:(scope.names.all fun x=>!decide (x.2=.free) || (decide (sc.names.lookup x.1=some .cell) || decide (sc.names.lookup x.1=some .free)))=true
  len:mp.length=N.length
  map:((List.range mp.length).all fun i=>match mp[i]? with
    | some (some j)=>(match N[i]?,N0[j]? with
      | some x,some y=>decide (x=y) && decide (scope.names.lookup x=some .free)
      | _,_=>false)
    | _=>true)=true
theorem BlkOk.free {N0:List Str}{sc:Scope}{N:List Str}{scope:Scope}{mp:List (Option Nat)} (S:BlkOk N0 sc N scope mp):∀ x∈scope.names,x.2=.free→sc.names.lookup x.1=some .cell∨sc.names.lookup x.1=some .free:=fun x hx e=>by
  have q:=List.all_eq_true.mp S.freeB x hx
  rw [decide_eq_true e] at q
  simpa using q
theorem BlkOk.at {N0:List Str}{sc:Scope}{N:List Str}{scope:Scope}{mp:List (Option Nat)} (S:BlkOk N0 sc N scope mp) {i j:Nat} (h:mp[i]?=some (some j)):
    ∃ x,N[i]?=some x∧N0[j]?=some x∧scope.names.lookup x=some .free:=by
  have hi:i < mp.length:=(List.getElem?_eq_some_iff.mp h).1
  have q:=List.all_eq_true.mp S.map i (List.mem_range.mpr hi)
  rw [h] at q
  simp only at q
  cases e1:N[i]? with
  | none=>rw [e1] at q;simp at q
  | some x=>
    cases e2:N0[j]? with
    | none=>rw [e1,e2] at q;simp at q
    | some y=>
      rw [e1,e2] at q
      simp only [Bool.and_eq_true,decide_eq_true_eq] at q
      obtain ⟨q1,q2⟩:=q
      subst q1
      exact ⟨x,rfl,rfl,q2⟩
theorem nodup_lookup {α:Type}:∀ {l:List (Str×α)}{x:Str}{a:α},(l.map (·.1)).Nodup→(x,a)∈l→l.lookup x=some a
  | (k,v)::r,x,a,nd,h=>by
    have nd:(k::r.map (·.1)).Nodup:=nd
    obtain ⟨n1,n2⟩:=List.nodup_cons.mp nd
    rw [List.lookup_cons]
    rcases List.mem_cons.mp h with e | h'
    · cases e;simp
    · have ne:(x==k)=false:=by
        cases hb:x==k with
        | false=>rfl
        | true=>
          have e:x=k:=by simpa using hb
          subst e
          exact (n1 (List.mem_map.mpr ⟨(x,a),h',rfl⟩)).elim
      rw [ne]
      exact nodup_lookup n2 h'
noncomputable def liftSt (mp:List (Option Nat)) (σ:St):St:=mp.map fun o=>o.bind fun j=>(σ[j]?).join
noncomputable def cxBlk (X:Cx) (N:List Str) (scope:Scope) (C:Addr) (cl:List (Str×Addr)) (s:Shared) (H:Hp) (fp:List Addr) (pins:List (Addr×Obj)):Cx where
  prog:=X.prog
  w:=X.w
  K:=X.K
  mg:=X.mg
  base:=X.base
  A:=X.A
  N:=N
  s₀:=s
  H₀:=H
  env:=compEnvC scope (cellsFrom (C + 1) scope.names cl) C X.env
  outer:=X.stack
  stack:=X.stack
  ex:=fp
  fn:=fun x=>decide (scope.names.lookup x=some .cell)
  calm:=X.calm
  pn:=X.pn ++ pins
  xe:=fun _ _=>False
theorem relabel_lookup {env:Env}:∀ {names:List (Str×NameKind)}{x:Str}{k:NameKind},(names.map fun (n,k)=>if (k==NameKind.free && env.scope.kind==.function && env.kindOf n==some .cell) then (n,NameKind.cell) else (n,k)).lookup x=some k→
    names.lookup x=some k∨(names.lookup x=some .free∧k=.cell∧env.kindOf x=some .cell)
  | [],_,_,h=>by simp at h
  | (n,k')::r,x,k,h=>by
    have ih:=@relabel_lookup env r x k
    rw [List.map_cons] at h
    rw [List.lookup_cons]
    cases hx:x==n with
    | true=>
      have e:x=n:=by simpa using hx
      subst e
      by_cases hc:(k'==NameKind.free && env.scope.kind==.function && env.kindOf x==some .cell)=true
      · simp only [hc,if_true,List.lookup_cons,beq_self_eq_true,Option.some.injEq] at h
        rw [Bool.and_eq_true,Bool.and_eq_true] at hc
        obtain ⟨⟨c1,_⟩,c3⟩:=hc
        exact .inr ⟨by rw [show k'=.free by simpa using c1],h.symm,by simpa using c3⟩
      · simp only [hc,Bool.false_eq_true,if_false,List.lookup_cons,beq_self_eq_true,Option.some.injEq] at h
        exact .inl (by rw [h])
    | false=>
      refine ih ?_
      by_cases hc:(k'==NameKind.free && env.scope.kind==.function && env.kindOf n==some .cell)=true
      · simpa only [hc,if_true,List.lookup_cons,hx] using h
      · simpa only [hc,Bool.false_eq_true,if_false,List.lookup_cons,hx] using h
theorem newBlk {M:Model}{A:Around}{E:Value→Shared→Prop}{s:Shared}{scope:Scope}{globals:Addr}{cl:List (Str×Addr)}{qual:Str}{env:Env}{Q:Env→Shared→Prop}
    (h:Q {scope:=scope,locals:=s.heap.objs.size,globals:=globals,cells:=cellsFrom (s.heap.objs.size + 1) scope.names cl,qual:=qual,func:=none,code:=env.code,frame:=env.frame,builtins:=env.builtins}
      {s with heap:=pushCells (s.heap.push {cls:=.type "dict",data:=.dict #[]}) scope.names}):
    wpAny M A (newFunctionEnv scope globals cl [] qual none .none (some env)) Q E s:=by
  simp only [newFunctionEnv,Option.isSome_some,if_true]
  refine wpAny_bind (wpAny_alloc ?_)
  refine wpAny_bind (wpAny_layCells _ (fun name kind cells=>by cases hkc:kind==NameKind.cell <;> simp [hkc]) _ _ _ _ ?_)
  rw [show ({s with heap:=s.heap.push {cls:=.type "dict",data:=.dict #[]}}:Shared).heap.objs.size=s.heap.objs.size + 1 from Heap.size_push ..]
  first
    | exact wpAny_bind (wpAny_pure (wpAny_pure h))
    | exact wpAny_pure h
    | (rw [List.forIn_nil];exact wpAny_bind (wpAny_pure (wpAny_pure h)))
section
variable {X:Cx}{pins:List (Addr×Obj)}{σ:St}{H:Hp}{s:Shared}
theorem blk_start {N:List Str}{scope:Scope}{mp:List (Option Nat)}{fp:List Addr} (S:BlkOk X.N X.env.scope N scope mp) (I:Inv X pins σ H s) (f:∀ b∈fp,FpOk X pins H b) (fo:∀ b∈fp,b < s.heap.objs.size):
    Inv (cxBlk X N scope s.heap.objs.size (closList X.env scope.names []) s H fp pins) [] (liftSt mp σ) H {s with heap:=pushCells (s.heap.push {cls:=.type "dict",data:=.dict #[]}) scope.names}:=by
  have hk:∀ b o,s.heap.get? b=some o→(pushCells (s.heap.push {cls:=.type "dict",data:=.dict #[]}) scope.names).get? b=some o:=fun b o e=>pushCells_keeps _ _ b o (Heap.get?_push_of_some _ e)
  have hfree:∀ y∈scope.names,y.2=.free→∃ c,X.env.cells.lookup y.1=some c:=fun y hy hf=>I.ok.has y.1 (S.free y hy hf)
  have clo:∀ x c,(closList X.env scope.names []).lookup x=some c→(x,NameKind.free)∈scope.names∧X.env.cells.lookup x=some c:=fun x c e=>closList_lookup e hfree
  have old:∀ x c,X.env.cells.lookup x=some c→c < s.heap.objs.size:=fun x c e=>by
    obtain ⟨v,q⟩:=I.cell x c e
    exact q.lt
  have cell_of:∀ x c,(cellsFrom (s.heap.objs.size + 1) scope.names (closList X.env scope.names [])).lookup x=some c→(s.heap.objs.size + 1≤c∧(x,NameKind.cell)∈scope.names)∨((x,NameKind.free)∈scope.names∧X.env.cells.lookup x=some c):=fun x c e=>by
    by_cases hx:(x,NameKind.cell)∈scope.names
    · obtain ⟨d,h1,h2⟩:=cf_own scope.names (s.heap.objs.size + 1) (closList X.env scope.names []) x hx
      rw [h2] at e
      cases e
      exact .inl ⟨h1,hx⟩
    · rw [cf_not _ _ _ x hx] at e
      exact .inr (clo x c e)
  have isCell:∀ x c,(cellsFrom (s.heap.objs.size + 1) scope.names (closList X.env scope.names [])).lookup x=some c→∃ v,(pushCells (s.heap.push {cls:=.type "dict",data:=.dict #[]}) scope.names).IsCell c v:=fun x c e=>by
    have e':(cellsFrom (s.heap.push {cls:=.type "dict",data:=.dict #[]}).objs.size scope.names (closList X.env scope.names [])).lookup x=some c:=by rw [Heap.size_push];exact e
    rcases cf_lt scope.names _ _ x c e' with q | q
    · exact ⟨none,q⟩
    · obtain ⟨v,z⟩:=I.cell x c (clo x c q).2
      exact ⟨v,z.keeps hk⟩
  refine ⟨⟨I.ok.mod,S.kind,I.ok.glob,I.ok.blt,Nat.le_refl _,?_,?_,?_,I.ok.hd,I.ok.frames,.inl rfl,?_,I.bs,Nat.le_trans I.ok.bsz I.sz,?_,?_,I.stack,I.stkFree⟩,
    rfl,I.bare,Un.kept hk,⟨fun _=>none,?_,?_⟩,isCell,I.hok.fresh (Nat.le_refl _),?_,?_,I.hok.kept hk,?_⟩
  ·
    refine cf_inj scope.names _ _ (fun x c e=>?_) fun x y c e e'=>I.ok.inj x y c (clo x c e).2 (clo y c e').2
    exact Nat.lt_succ_of_lt (old x c (clo x c e).2)
  ·
    intro x hx
    have key:(x,NameKind.cell)∈scope.names∨(x,NameKind.free)∈scope.names:=by
      have hx':(relabel scope X.env).names.lookup x=some .cell∨(relabel scope X.env).names.lookup x=some .free:=hx
      rcases hx' with q | q
      · rcases relabel_lookup q with z | ⟨z,_,_⟩
        · exact .inl (mem_of_lookup z)
        · exact .inr (mem_of_lookup z)
      · rcases relabel_lookup q with z | ⟨z,_,_⟩
        · exact .inr (mem_of_lookup z)
        · exact .inr (mem_of_lookup z)
    by_cases hc:(x,NameKind.cell)∈scope.names
    · obtain ⟨d,_,h2⟩:=cf_own scope.names (s.heap.objs.size + 1) (closList X.env scope.names []) x hc
      exact ⟨d,h2⟩
    · obtain ⟨d,h2,_⟩:=closList_look (key.resolve_left hc) hfree
      exact ⟨d,by show (cellsFrom (s.heap.objs.size + 1) scope.names (closList X.env scope.names [])).lookup x=some d;rw [cf_not _ _ _ x hc];exact h2⟩
  ·
    intro x c hf e
    have hc:(x,NameKind.cell)∈scope.names:=mem_of_lookup (of_decide_eq_true hf)
    rcases cell_of x c e with ⟨h1,_⟩ | ⟨h1,_⟩
    · exact Nat.le_of_succ_le h1
    · have q1:=nodup_lookup S.nd hc
      have q2:=nodup_lookup S.nd h1
      rw [q1] at q2;cases q2
  ·
    intro b hb
    refine ⟨Nat.ne_of_lt (fo b hb),fun x c e z=>?_⟩
    subst z
    rcases cell_of x c e with ⟨h1,_⟩ | ⟨_,h1⟩
    · exact absurd (Nat.lt_of_lt_of_le (fo c hb) (Nat.le_of_succ_le h1)) (Nat.lt_irrefl _)
    · exact (f c hb).2.2.2.2.1 x c h1 rfl
  ·
    intro b o e hb
    rcases (f b hb).2.2.2.1 with z | z
    · exact I.ok.noex b o e z
    · exact absurd (Nat.lt_of_lt_of_le (Nat.lt_of_lt_of_le (Heap.lt_size e) I.ok.bsz) z) (Nat.lt_irrefl _)
  ·
    intro b hb hs
    rcases List.mem_cons.mp (I.stkSub b hs) with z | z
    · exact (f b hb).2.1 z
    · exact (f b hb).2.2.1 z
  ·
    exact (Heap.Ns.new s.heap (.type "dict")).keeps (pushCells_keeps _ _)
  ·
    intro i x v e1 e2 _
    have e2':(mp.map fun o=>o.bind fun j=>(σ[j]?).join)[i]?=some (some v):=e2
    rw [List.getElem?_map] at e2'
    cases em:mp[i]? with
    | none=>rw [em] at e2';cases e2'
    | some o=>
      rw [em] at e2'
      cases o with
      | none=>cases e2'
      | some j=>
        have e3:(σ[j]?).join=some v:=Option.some.inj e2'
        have e4:σ[j]?=some (some v):=by
          cases q:σ[j]? with
          | none=>rw [q] at e3;cases e3
          | some z=>rw [q] at e3;exact congrArg some e3
        obtain ⟨y,h1,h2,h3⟩:=S.at em
        have h1':some x=some y:=e1.symm.trans h1
        cases h1'
        have hm:=mem_of_lookup h3
        have vis:Vis X.env.scope x:=(S.free _ hm rfl).elim (fun z=>.inr (.inl z)) fun z=>.inr (.inr z)
        obtain ⟨m,hn,hl⟩:=I.loc
        obtain ⟨u,r,l⟩:=hl j x v h2 e4 vis
        refine ⟨u,r,.inr ?_⟩
        have nc:(x,NameKind.cell)∉scope.names:=fun z=>by
          have q2:=nodup_lookup S.nd z
          rw [h3] at q2;cases q2
        obtain ⟨c,hc1,hc2⟩:=closList_look hm hfree
        have hc3:(cellsFrom (s.heap.objs.size + 1) scope.names (closList X.env scope.names [])).lookup x=some c:=by rw [cf_not _ _ _ x nc];exact hc1
        have hcell:s.heap.IsCell c (some u):=by
          rcases l with ⟨hk',_⟩ | ⟨_,c',e5,e6⟩
          · exfalso
            have hk':X.env.scope.names.lookup x=some .local:=hk'
            rcases S.free _ hm rfl with z | z
            · have z:X.env.scope.names.lookup x=some .cell:=z
              rw [hk'] at z;cases z
            · have z:X.env.scope.names.lookup x=some .free:=z
              rw [hk'] at z;cases z
          · rw [hc2] at e5;cases e5;exact e6
        refine ⟨?_,c,hc3,hcell.keeps hk⟩
        rename_i hv
        have hv:Vis (relabel scope X.env) x:=hv
        rcases hv with z | z | z
        · exfalso
          rcases relabel_lookup (show (relabel scope X.env).names.lookup x=some .local from z) with q | ⟨_,q,_⟩
          · rw [h3] at q;cases q
          · cases q
        · exact .inl z
        · exact .inr z
  ·
    intro x c e
    rcases cell_of x c e with ⟨h1,_⟩ | ⟨_,h1⟩
    · exact I.hok.fresh (Nat.le_of_succ_le h1)
    · exact I.freeC x c h1
  ·
    intro p hp
    have hp':p∈X.pn ++ pins:=by simpa [cxBlk] using hp
    obtain ⟨e,n,ne,nf,d⟩:=I.pin p hp'
    refine ⟨hk _ _ e,n,Nat.ne_of_lt (Heap.lt_size e),fun z=>?_,d⟩
    rcases List.mem_cons.mp (I.stkSub _ z) with q | q
    · exact ne q
    · exact nf q
  · show (mp.map _).length=N.length
    rw [List.length_map]
    exact S.len
end
noncomputable def PIfs (X:Cx) (ifs:List Expr) (t:TT):Prop:=
  ∀ (pins:List (Addr×Obj)) (s:Shared) (σ:St) (H:Hp) (Q:Bool→Hp→Prop),Inv X pins σ H s→t σ H Q→
    wpAny (model X.prog X.w) X.A (forIn ifs true fun c r=>if r=true then do let ok ← isTrue c X.env (eval c X.env);pure (ForInStep.yield ok) else pure (ForInStep.yield r)) (TP X pins σ Q) X.xe s
noncomputable def tYes:TT:=fun _ H Q=>Q true H
theorem pifs_nil {X:Cx}:PIfs X [] tYes:=fun _ _ _ H _ I h=>wpAny_tests_nil ⟨H,I,h⟩
theorem pifs_one {X:Cx}{c:Expr}{t:TT} (h:PT X c t):PIfs X [c] t:=fun pins s σ H Q I q=>wpAny_tests_one (h pins s σ H Q I q)
noncomputable def tCompK (mp:List (Option Nat)) (g:TG) (tt:TT) (te:TE) (J:It) (σ:St) (H:Hp) (Q:VK):Prop:=
  ∀ l,H l=none→∃ W:Nat→Nat→List V→St→Hp→Prop,(∃ m,W 0 m [] (liftSt mp σ) (upd H l (.lst [])))∧∀ i m acc σ' H',W i m acc σ' H'→
    (J.stop i H'∧Q (.ref l) H')∨(J.go i H'∧acc.length < sizeLine∧∃ Nx:List V→St→Hp→Prop,(∀ acc' σ2 H2,Nx acc' σ2 H2→∃ m',m' < m∧W (i + 1) m' acc' σ2 H2)∧
      ∀ x H2,J.yld i H' x H2→g x σ' H2 fun σ2 H3=>tt σ2 H3 fun b H4=>if b=true then te σ2 H4 fun v H5=>H5 l=some (.lst acc)∧Nx (acc ++ [v]) σ2 (upd H5 l (.lst (acc ++ [v]))) else Nx acc σ2 H4)
noncomputable def tComp (mp:List (Option Nat)) (wi:TI) (g:TG) (tt:TT) (te:TE):TE:=fun σ H Q=>wi σ H fun J H1=>tCompK mp g tt te J σ H1 Q
section
variable {X:Cx}{elt iter tg:Expr}{ifs:List Expr}{scope:Scope}{pos:Pos}{N:List Str}{mp:List (Option Nat)}{wi:TI}{g:TG}{tt:TT}{te:TE}
theorem comp_block {pins:List (Addr×Obj)}{σ:St}{H2:Hp}{s2:Shared}{it:Addr}{fp:List Addr}{tn:Nat→Heap→Prop}{J:It}{Q:VK}{RR:Value→Addr→Result→Shared→Prop}{E:Value→Shared→Prop}
    (hc:X.calm=true) (S:BlkOk X.N X.env.scope N scope mp) (I2:Inv X pins σ H2 s2) (T:Turn X.prog X.w X.K tg J fp it tn) (st2:tn 0 s2.heap) (f2:∀ b∈fp,FpOk X pins H2 b)
    (hg:∀ C cl s H fp pins,PG (cxBlk X N scope C cl s H fp pins) tg g) (ht:∀ C cl s H fp pins,PIfs (cxBlk X N scope C cl s H fp pins) ifs tt) (he:∀ C cl s H fp pins,PE (cxBlk X N scope C cl s H fp pins) elt te)
    (k:tCompK mp g tt te J σ H2 Q)
    (fin:∀ (l C:Addr) (m:Str→Option Value) (s':Shared) (H':Hp),Inv X pins σ H' s'→s'.heap.Ns C m→H' C=none→C≠X.env.locals→X.s₀.heap.objs.size≤C→(∀ x c,X.env.cells.lookup x=some c→c≠C)→(∀ p∈X.pn ++ pins,p.1≠C)→
      Q (.ref l) H'→RR (.ref l) C (.ok .next) s'):
    wpAny (model X.prog X.w) X.A (newList []) (fun acc s₃=>wpAny (model X.prog X.w) X.A (newFunctionEnv scope X.env.globals (closList X.env scope.names []) [] X.env.qual none .none (some X.env)) (fun cenv s₄=>
      codeAny (model X.prog X.w) X.A (.compStart (.ListComp elt [⟨tg,iter,ifs,0⟩] scope pos) 0 (.ref it) acc {cenv with scope:=relabel scope X.env}) (RR acc cenv.locals) s₄) E s₃) E s2:=by
  refine wpAny_newList ?_ (Nat.zero_le _)
  have I3:Inv X pins σ (upd H2 s2.heap.objs.size (.lst [])) {s2 with heap:=s2.heap.push {cls:=.type "list",data:=.seq ([]:List Value).toArray}}:=I2.lnew (t':=s2.toks) (its:=[]) .nil (Nat.zero_le _)
  have fl:H2 s2.heap.objs.size=none:=I2.fresh
  have nfl:s2.heap.objs.size∉fp:=fun z=>by
    obtain ⟨o,e,_⟩:=T.obj 0 _ st2 _ z
    exact absurd (Heap.lt_size e) (Nat.lt_irrefl _)
  have fo2:∀ b∈fp,b < s2.heap.objs.size:=fun b hb=>by
    obtain ⟨o,e,_⟩:=T.obj 0 _ st2 b hb
    exact Heap.lt_size e
  have f3:∀ b∈fp,FpOk X pins (upd H2 s2.heap.objs.size (.lst [])) b:=fun b hb=>by
    obtain ⟨h0,hr⟩:=f2 b hb
    exact ⟨by rw [upd_ne (Nat.ne_of_lt (fo2 b hb))];exact h0,hr⟩
  have k3:=k s2.heap.objs.size fl
  clear k
  have st3:tn 0 (s2.heap.push {cls:=.type "list",data:=.seq ([]:List Value).toArray}):=T.keep 0 _ _ st2 fun b _ o e=>Heap.get?_push_of_some _ e
  have fo3:∀ b∈fp,b < (s2.heap.push {cls:=.type "list",data:=.seq ([]:List Value).toArray}).objs.size:=fun b hb=>by rw [Heap.size_push];exact Nat.lt_succ_of_lt (fo2 b hb)
  generalize hs3:({s2 with heap:=s2.heap.push {cls:=.type "list",data:=.seq ([]:List Value).toArray}}:Shared)=s3 at I3 ⊢
  have st3:tn 0 s3.heap:=by rw [← hs3];exact st3
  have fo3:∀ b∈fp,b < s3.heap.objs.size:=by rw [← hs3];exact fo3
  generalize s2.heap.objs.size=l at *
  generalize upd H2 l (.lst [])=H3 at *
  refine newBlk ?_
  have I4:=blk_start S I3 f3 fo3
  obtain ⟨W,⟨m0,w0⟩,turn⟩:=k3
  have st4:tn 0 (pushCells (s3.heap.push {cls:=.type "dict",data:=.dict #[]}) scope.names):=T.keep 0 _ _ st3 fun b _ o e=>pushCells_keeps _ _ b o (Heap.get?_push_of_some _ e)
  generalize hs4:({s3 with heap:=pushCells (s3.heap.push {cls:=.type "dict",data:=.dict #[]}) scope.names}:Shared)=s4 at I4 ⊢
  have st4:tn 0 s4.heap:=by rw [← hs4];exact st4
  have stat:∀ {H':Hp},(∀ b∈fp,H' b=none)→∀ b∈fp,FpOk (cxBlk X N scope s3.heap.objs.size (closList X.env scope.names []) s3 H3 fp pins) [] H' b:=fun {H'} hn b hb=>by
    refine ⟨hn b hb,(I4.ok.exf b hb).1,I4.ok.exfs b hb,.inl hb,(I4.ok.exf b hb).2,fun p hp=>?_⟩
    exact (f3 b hb).2.2.2.2.2 p (by simpa [cxBlk] using hp)
  have back:∀ {σ':St}{H':Hp}{s':Shared}{ps:List (Addr×Obj)},Inv (cxBlk X N scope s3.heap.objs.size (closList X.env scope.names []) s3 H3 fp pins) ps σ' H' s'→Inv X pins σ H' s':=fun {σ' H' s' ps} I'=>
    I3.call' (ch:=fp) I'.os I'.base I'.hok I'.bare fun b hb=>⟨(f3 b hb).2.2.2.1,(f3 b hb).2.1,(f3 b hb).2.2.2.2.1,(f3 b hb).2.2.2.2.2⟩
  have loop:codeAny (model X.prog X.w) X.A (.compLoop (.ListComp elt [⟨tg,iter,ifs,0⟩] scope pos) 0 (.ref it) (.ref l) (compEnvC scope (cellsFrom (s3.heap.objs.size + 1) scope.names (closList X.env scope.names [])) s3.heap.objs.size X.env)) (RR (.ref l) s3.heap.objs.size) s4:=by
    refine compLoop_own (fun n s'=>∃ i acc σ' H',Inv (cxBlk X N scope s3.heap.objs.size (closList X.env scope.names []) s3 H3 fp pins) [] σ' H' s'∧tn i s'.heap∧(∀ b∈fp,H' b=none)∧W i n acc σ' H') ?_ m0
      ⟨0,[],liftSt mp σ,H3,I4,st4,fun b hb=>(f3 b hb).1,w0⟩
    rintro n s5 ⟨i,acc,σ5,H5,I5,st5,fr5,w5⟩
    rcases turn i n acc σ5 H5 w5 with ⟨stop,q⟩ | ⟨go,hz,Nx,hN,step⟩
    · refine thn (T.done (cxBlk X N scope s3.heap.objs.size (closList X.env scope.names []) s3 H3 fp pins) rfl rfl rfl hc i [] s5 σ5 H5 _ I5 (stat fr5) st5 stop) fun r s6 ⟨hr,I6⟩=>?_
      subst hr
      obtain ⟨m,hn,_⟩:=I6.loc
      refine fin l _ m s6 H5 (back I6) hn I6.free ?_ I3.sz (fun x c e z=>?_) (fun p hp z=>?_) q
      · exact Nat.ne_of_gt I3.lt
      · obtain ⟨v,y⟩:=I3.cell x c e
        exact absurd y.lt (by rw [z];exact Nat.lt_irrefl _)
      · exact absurd (Heap.lt_size (I3.pin p hp).1) (by rw [z];exact Nat.lt_irrefl _)
    · refine thn (T.item (cxBlk X N scope s3.heap.objs.size (closList X.env scope.names []) s3 H3 fp pins) rfl rfl rfl hc i [] s5 σ5 H5 _ I5 (stat fr5) st5 go) fun r s6 ⟨u,hr,h6⟩=>?_
      subst hr
      refine thn h6 fun _ s7 ⟨x,H7,I7,r7,y7,st7,fr7⟩=>?_
      have I7':=I7.pinned (stat fr7) (T.obj _ _ st7)
      have again:∀ {s8:Shared}{acc':List V}{σ8:St}{H8:Hp},Inv (cxBlk X N scope s3.heap.objs.size (closList X.env scope.names []) s3 H3 fp pins) ([] ++ pinsAt fp s7.heap) σ8 H8 s8→Nx acc' σ8 H8→
          ∃ m,m < n∧∃ i acc σ' H',Inv (cxBlk X N scope s3.heap.objs.size (closList X.env scope.names []) s3 H3 fp pins) [] σ' H' s8∧tn i s8.heap∧(∀ b∈fp,H' b=none)∧W i m acc σ' H':=fun {s8 acc' σ8 H8} I8 n8=>by
        obtain ⟨m',hm,w8⟩:=hN acc' σ8 H8 n8
        refine ⟨m',hm,i + 1,acc',σ8,H8,I8.unpinned,T.keep _ _ _ st7 fun b hb o e=>(I8.pin (b,o) (List.mem_append_right _ (List.mem_append_right _ (mem_pinsAt hb e)))).1,fun b hb=>?_,w8⟩
        obtain ⟨o,e,d⟩:=T.obj _ _ st7 b hb
        exact (I8.pin (b,o) (List.mem_append_right _ (List.mem_append_right _ (mem_pinsAt hb e)))).2.1
      refine thn (hg _ _ _ _ _ _ _ s7 σ5 H7 x u _ I7' r7 (step x H7 y7)) fun _ s8 ⟨σ8,H8,I8,q8⟩=>?_
      refine thn (ht _ _ _ _ _ _ _ s8 σ8 H8 _ I8 q8) fun b s9 ⟨H9,I9,q9⟩=>?_
      cases b with
      | false=>
        rw [if_neg Bool.false_ne_true] at q9 ⊢
        exact again I9 q9
      | true=>
        rw [if_pos rfl] at q9 ⊢
        refine thn (he _ _ _ _ _ _ _ s9 σ8 H9 _ I9 q9) fun v s10 ⟨y,H10,I10,r10,q10,n10⟩=>?_
        refine thn (mt_append _ s10 σ8 H10 (.ref l) [y] (.ref l) [v] (fun _ H'=>Nx (acc ++ [y]) σ8 H') I10 rfl (.cons r10 .nil) ⟨l,acc,y,rfl,rfl,q10,hz,n10⟩) fun _ s11 ⟨_,H11,I11,_,q11⟩=>?_
        exact again I11 q11
  exact codeAny_compStart_list loop (T.self _ 0 _ _ _ st4 loop)
theorem pe_comp (hc:X.calm=true) (S:BlkOk X.N X.env.scope N scope mp) (hi:PI X tg iter wi)
    (hg:∀ C cl s H fp pins,PG (cxBlk X N scope C cl s H fp pins) tg g) (ht:∀ C cl s H fp pins,PIfs (cxBlk X N scope C cl s H fp pins) ifs tt) (he:∀ C cl s H fp pins,PE (cxBlk X N scope C cl s H fp pins) elt te)
    (hs:∀ x,foldedSetIterable iter X.env x=pure x:=by intro _;rfl):PE X (.ListComp elt [⟨tg,iter,ifs,0⟩] scope pos) (tComp mp wi g tt te):=by
  intro pins s σ H Q I h
  rw [eval_ListComp]
  have hfree:∀ y∈scope.names,y.2=.free→∃ c,X.env.cells.lookup y.1=some c:=fun y hy hf=>I.ok.has y.1 (S.free y hy hf)
  refine wpAny_comprehension_free (use:=none) rfl hs (closureFor_list hfree) S.kind (fun x hx e=>nodup_lookup S.nd (by rw [← e];exact hx)) ?_
  show wpAny _ _ (eval iter X.env) _ _ _
  refine thn (hi pins s σ H _ I h) fun v s1 h1=>thn h1 fun itv s2 h2=>?_
  obtain ⟨it,fp,tn,J,H2,e,I2,T,st2,f2,k⟩:=h2
  subst e
  refine comp_block (RR:=fun acc C=>compPost (model X.prog X.w) X.A X.xe none (EP X pins σ Q) acc C) hc S I2 T st2 f2 hg ht he k ?_
  intro l C m s' H' I' hn hC h1 h2 h3 h4 q
  exact ⟨m,hn,fun h' hb=>⟨.ref l,H',I'.turned (t':=s'.toks) (it:=C) (fun b o hbC e=>hb.extBut b o hbC e) hC (Ne.symm (Ne.symm h1)) (.inr h2) h3 h4,rfl,q⟩⟩
theorem ps_setC {i:Nat}{x:Str}{pos' spos:Pos} (hN:X.N.Nodup) (hxi:X.N[i]?=some x) (hx:Loc X.env.scope x) (hc:X.calm=true) (S:BlkOk X.N X.env.scope N scope mp) (hi:PI X tg iter wi)
    (hg:∀ C cl s H fp pins,PG (cxBlk X N scope C cl s H fp pins) tg g) (ht:∀ C cl s H fp pins,PIfs (cxBlk X N scope C cl s H fp pins) ifs tt) (he:∀ C cl s H fp pins,PE (cxBlk X N scope C cl s H fp pins) elt te)
    (hsw:swapsWith (.ListComp elt [⟨tg,iter,ifs,0⟩] scope pos) (some (.Name x pos')) spos.line X.env=pure true)
    (hf:X.fn x=true∨X.env.scope.names.lookup x=some .local:=by first | exact .inl rfl | exact .inr rfl | assumption)
    (hs:∀ x,foldedSetIterable iter X.env x=pure x:=by intro _;rfl):PS X (.Assign [.Name x pos'] (.ListComp elt [⟨tg,iter,ifs,0⟩] scope pos) spos) (tAsg (tComp mp wi g tt te) (gName i)):=by
  intro pins s σ H D I h
  have hfree:∀ y∈scope.names,y.2=.free→∃ c,X.env.cells.lookup y.1=some c:=fun y hy hf=>I.ok.has y.1 (S.free y hy hf)
  rw [exec_Assign_Name_used _ _ _ _ hsw]
  refine wpAny_bind (wpAny_standAt (wpAny_bind ?_))
  show wpAny _ _ (do let _ ← comprehension (.ListComp elt [⟨tg,iter,ifs,0⟩] scope pos) scope X.env _ (newList []) false (eval iter X.env) (some (assign (.Name x pos') X.env))) _ _ s
  refine wpAny_bind (wpAny_mono (wpAny_comprehension_free (use:=some (assign (.Name x pos') X.env)) (Q:=fun _ s'=>SP X pins D .next s') rfl hs (closureFor_list hfree) S.kind (fun x hx e=>nodup_lookup S.nd (by rw [← e];exact hx)) ?_) (fun _ s' hq=>wpAny_pure (wpAny_pure hq)) fun _ _ e=>e)
  refine thn (hi pins s σ H _ I h) fun v s1 h1=>thn h1 fun itv s2 h2=>?_
  obtain ⟨it,fp,tn,J,H2,e,I2,T,st2,f2,k⟩:=h2
  subst e
  refine comp_block (Q:=fun y H1=>gName i y σ H1 D.nx) (RR:=fun acc C=>compPost (model X.prog X.w) X.A X.xe (some (assign (.Name x pos') X.env)) (fun _ s'=>SP X pins D .next s') acc C) hc S I2 T st2 f2 hg ht he k ?_
  intro l C m s' H' I' hn hC h1 h2 h3 h4 q
  show wpAny _ _ (assign (.Name x pos') X.env (.ref l)) _ _ _
  refine wpAny_assign_Name (store_ok2 I' hN hxi hx (v:=.ref l) rfl (fun s'' I'' ⟨a,hsb,ha⟩=>?_) hf)
  have hCa:C≠a:=by
    rcases ha with z | z
    · rw [z];exact h1
    · exact fun y=>h3 x a z y.symm
  exact ⟨m,hn.sameBut hsb hCa,fun h' hb=>⟨_,H',I''.turned (t':=s''.toks) (it:=C) (fun b o hbC e=>hb.extBut b o hbC e) hC (Ne.symm (Ne.symm h1)) (.inr h2) h3 h4,q⟩⟩
end
section
variable {mp:List (Option Nat)}{g:TG}{tt:TT}{te:TE}{σ:St}{H:Hp}{Q:VK}
theorem comp_list {K:PySem.W.Frag}{a:Addr}{xs:List V} (Pv:Addr→Nat→List V→St→Hp→Prop) (h0:∀ l,H l=none→Pv l 0 [] (liftSt mp σ) (upd H l (.lst [])))
    (hl:∀ l i acc σ' H',H l=none→Pv l i acc σ' H'→SqL K H' a xs∧acc.length≤i)
    (hs:∀ l i x acc σ' H',H l=none→xs[i]?=some x→Pv l i acc σ' H'→g x σ' H' fun σ2 H3=>tt σ2 H3 fun b H4=>if b=true then te σ2 H4 fun v H5=>H5 l=some (.lst acc)∧Pv l (i + 1) (acc ++ [v]) σ2 (upd H5 l (.lst (acc ++ [v]))) else Pv l (i + 1) acc σ2 H4)
    (hd:∀ l acc σ' H',H l=none→Pv l xs.length acc σ' H'→Q (.ref l) H') (hz:xs.length≤sizeLine):tCompK mp g tt te (Itl K a) σ H Q:=by
  intro l hn
  refine ⟨fun i m acc σ H=>m=xs.length - i∧i≤xs.length∧Pv l i acc σ H,⟨xs.length,by simp,Nat.zero_le _,h0 l hn⟩,?_⟩
  rintro i m acc σ' H' ⟨rfl,hi,p⟩
  obtain ⟨q,ha⟩:=hl l i acc σ' H' hn p
  by_cases hlt:i < xs.length
  · refine .inr ⟨⟨xs,xs[i],q,by simp [hlt]⟩,by omega,Pv l (i + 1),fun acc' σ2 H2 p'=>⟨xs.length - (i + 1),by omega,rfl,hlt,p'⟩,fun x H2 y=>?_⟩
    obtain ⟨e,y⟩:=y
    subst e
    exact hs l i x acc σ' _ hn (y xs q) p
  · have e:i=xs.length:=by omega
    subst e
    exact .inl ⟨⟨xs,q,Nat.le_refl _⟩,hd l acc σ' H' hn p⟩
theorem comp_range {lo:Int}{n:Nat} (Pv:Addr→Nat→List V→St→Hp→Prop) (h0:∀ l,H l=none→Pv l 0 [] (liftSt mp σ) (upd H l (.lst [])))
    (hl:∀ l i acc σ' H',H l=none→Pv l i acc σ' H'→acc.length≤i)
    (hs:∀ l i acc σ' H',H l=none→i < n→Pv l i acc σ' H'→g (.int (lo + i)) σ' H' fun σ2 H3=>tt σ2 H3 fun b H4=>if b=true then te σ2 H4 fun v H5=>H5 l=some (.lst acc)∧Pv l (i + 1) (acc ++ [v]) σ2 (upd H5 l (.lst (acc ++ [v]))) else Pv l (i + 1) acc σ2 H4)
    (hd:∀ l acc σ' H',H l=none→Pv l n acc σ' H'→Q (.ref l) H') (hz:n≤sizeLine):tCompK mp g tt te (Itr lo n) σ H Q:=by
  intro l hn
  refine ⟨fun i m acc σ H=>m=n - i∧i≤n∧Pv l i acc σ H,⟨n,by simp,Nat.zero_le _,h0 l hn⟩,?_⟩
  rintro i m acc σ' H' ⟨rfl,hi,p⟩
  have ha:=hl l i acc σ' H' hn p
  by_cases hlt:i < n
  · refine .inr ⟨hlt,by omega,Pv l (i + 1),fun acc' σ2 H2 p'=>⟨n - (i + 1),by omega,rfl,hlt,p'⟩,fun x H2 y=>?_⟩
    obtain ⟨e,y⟩:=y
    subst e y
    exact hs l i acc σ' _ hn hlt p
  · have e:i=n:=by omega
    subst e
    exact .inl ⟨Nat.le_refl _,hd l acc σ' H' hn p⟩
end
end L2
namespace L2
open PySem PySem.Spec PyProof.Rows
section
variable {X:Cx}
theorem call_isinst:CallR X (.builtin "isinstance") (fun xs H Q=>∃ x n t b,xs=[x,V.ty n]∧TyOf X.K H x t∧PySem.W.kitOne X.K t (.type n)=some b∧Q (.bl b) H):=by
  intro pins s σ H xs us Q I r h
  obtain ⟨x,n,t,b,rfl,ty,e,q⟩:=h
  obtain ⟨u,w',rfl,rx,ry⟩:=vals2 r
  have ry:w'=Value.type n:=ry
  subst ry
  exact isinst_ok I rx ty e fun tk=>⟨.bl b,H,I.tok tk,rfl,q⟩
theorem call_sum (hc:X.calm=true):CallR X (.builtin "sum") (fun xs H Q=>∃ (p:Addr) (ns:List Int),xs=[.ref p]∧SqL X.K H p (ns.map V.int)∧Q (.int ns.sum) H):=by
  intro pins s σ H xs us Q I r h
  obtain ⟨p,ns,rfl,hS,q⟩:=h
  obtain ⟨u,rfl,ru⟩:=vals1 r
  cases ru
  obtain ⟨its,rv,pl,hz⟩:=I.list hS
  have hi:IntsAre its ns:=intsAre_of rv
  have hall:AllInts its.toArray:=hi.allInts
  obtain ⟨zs,ez⟩:=hall.items
  have hl:s.heap.IsList p (intItems zs):=by rw [← ez];exact pl.isList
  refine sum_intListG (I.ok.hd hc) hl fun h' tk t' k=>⟨.int ns.sum,H,I.kept k,⟨t',?_⟩,q⟩
  have e1:ns=numsOf (intItems zs).toList:=by rw [← ez];exact hi.numsOf.symm
  rw [e1,nums_intItems,preSum_eq,List.take_of_length_le (by simp)]
theorem call_sorted:CallR X (.builtin "sorted") (fun xs H Q=>∃ (p:Addr) (ns:List Int),xs=[.ref p]∧SqL X.K H p (ns.map V.int)∧ns.length < 64∧∀ (l:Addr) (ms:List Int),H l=none→ms.Perm ns→ms.Pairwise (·≤·)→Q (.ref l) (upd H l (.lst (ms.map V.int)))):=by
  intro pins s σ H xs us Q I r h
  obtain ⟨p,ns,rfl,hS,h64,q⟩:=h
  obtain ⟨u,rfl,ru⟩:=vals1 r
  cases ru
  obtain ⟨its,rv,pl,hz⟩:=I.list hS
  have hi:IntsAre its ns:=intsAre_of rv
  have hl:=hi.length
  refine sorted_ints pl.isList hi (by omega) fun out ms a1 a2 a3=>?_
  obtain ⟨e,he⟩:=sortedAll_at s.heap its out
  have hf:H (s.heap.objs.size + 1)=none:=I.hok.fresh (Nat.le_succ _)
  refine ⟨.ref (s.heap.objs.size + 1),_,I.laid (t':=s.toks) (a:=s.heap.objs.size + 1) (o:=.lst (ms.map V.int)) (fun b u e=>sortedAll_old e) (Nat.le_succ _) ⟨?_,out.toList,e,vals_ints a1,?_⟩,rfl,q _ ms hf a2 a3⟩
  · rw [List.length_map,a2.length_eq]
    exact Nat.le_trans (Nat.le_of_lt h64) (by decide)
  · rw [Array.toArray_toList]
    exact he
theorem call_all (hc:X.calm=true):CallR X (.builtin "all") (fun xs H Q=>∃ (p:Addr) (bs:List Bool),xs=[.ref p]∧SqL X.K H p (bs.map V.bl)∧Q (.bl (bs.all id)) H):=by
  intro pins s σ H xs us Q I r h
  obtain ⟨p,bs,rfl,hS,q⟩:=h
  obtain ⟨u,rfl,ru⟩:=vals1 r
  cases ru
  obtain ⟨its,rv,pl,hz⟩:=I.list hS
  have hlt:p < s.heap.objs.size:=by obtain ⟨_,e,_⟩:=pl.isList;exact Heap.lt_size e
  have hlen:its.length=bs.length:=by rw [← rv.length,List.length_map]
  refine call_all_walk (wpAny_pyIter_list pl.isList ?_)
  refine ⟨s.heap.objs.size,_,_,_,_,_,fun i=>(bs[i]?).getD true,rfl,Walks.list (A:=X.A.in1) (I.ok.hd hc) _ p (Nat.ne_of_lt hlt) its.toArray,⟨⟨_,Heap.get?_push_size _ rfl,rfl,rfl⟩,pl.isList.push _⟩,?_,fun h' tk hk=>?_⟩
  · intro i v s' Q' E' hv hq
    have hv':its[i]?=some v:=by simpa using hv
    have hi:i < bs.length:=by rw [← hlen];exact (List.getElem?_eq_some_iff.mp hv').1
    have e1:(bs.map V.bl)[i]?=some (V.bl bs[i]):=by simp [hi]
    obtain ⟨w',h1,h2⟩:=rv.get e1
    rw [hv'] at h1
    cases h1
    have h2:v=Value.bool bs[i]:=h2
    subst h2
    have e2:(bs[i]?).getD true=bs[i]:=by simp [hi]
    have hq:Q' ((bs[i]?).getD true) s':=hq
    rw [e2] at hq
    exact wpAny_truthy_bool hq
  · have e3:((List.range its.toArray.size).all fun i=>(bs[i]?).getD true)=bs.all id:=by
      rw [List.size_toArray,hlen]
      apply Bool.eq_iff_iff.mpr
      rw [List.all_eq_true,List.all_eq_true]
      constructor
      · intro hh b hb
        obtain ⟨i,hi,e⟩:=List.getElem_of_mem hb
        have:=hh i (List.mem_range.mpr hi)
        simp [hi] at this
        rw [← e]
        simpa using this
      · intro hh i hi
        have hi':=List.mem_range.mp hi
        have:=hh bs[i] (List.getElem_mem hi')
        simpa [hi'] using this
    rw [e3]
    exact ⟨.bl (bs.all id),H,I.kept fun b o e=>hk b o (by simp;exact Nat.ne_of_lt (Heap.lt_size e)) (Heap.get?_push_of_some _ e),rfl,q⟩
noncomputable def CPowB (i j:Int):Prop:=0≤j∧(Builtin.Int.intBits i:Int) * j≤2 ^ 27
end
end L2
namespace L2
open PySem PySem.Spec PyProof.Rows
noncomputable def oAdd:R2:=rI0 fun i j=>.int (i + j)
noncomputable def oSub:R2:=rI0 fun i j=>.int (i - j)
noncomputable def HUGE:Int:=10 ^ 1000
theorem huge_log {i:Int} (h1:-HUGE < i) (h2:i < HUGE):i.natAbs.log2 < 4000:=by
  have e:HUGE≤2 ^ 4000:=by decide +kernel
  rcases Nat.eq_zero_or_pos i.natAbs with h0 | hp
  · rw [h0];decide +kernel
  · refine (Nat.log2_lt (Nat.ne_of_gt hp)).mpr ?_
    have:(i.natAbs:Int) < 2 ^ 4000:=by omega
    exact_mod_cast this
theorem huge_bits {i:Int} (h1:-HUGE < i) (h2:i < HUGE):Builtin.Int.intBits i≤2 ^ 20:=by
  have h:=huge_log h1 h2
  have e:(4001:Nat)≤2 ^ 20:=by decide
  unfold Builtin.Int.intBits
  split
  · exact Nat.zero_le _
  · omega
noncomputable def CMulA (i j:Int):Prop:=CMul i j∨((-HUGE < i∧i < HUGE)∧-HUGE < j∧j < HUGE)
theorem CMulA.ok {i j:Int} (h:CMulA i j):IntMulOk i j:=h.elim CMul.ok fun h=>.of_bits (huge_bits h.1.1 h.1.2) (huge_bits h.2.1 h.2.2)
noncomputable def CDivA (_ j:Int):Prop:=0 < j∧j < HUGE
theorem huge_big:(1073741824:Int) < HUGE:=by decide +kernel
noncomputable def oMul:R2:=rI CMulA fun i j=>.int (i * j)
noncomputable def oDiv:R2:=rI CDivA fun i j=>.int (i / j)
noncomputable def oMod:R2:=rI (fun _ j=>0 < j) fun i j=>.int (i % j)
noncomputable def CPowA (i j:Int):Prop:=CPow i j∨CPowB i j
noncomputable def oPow:R2:=rI CPowA fun i j=>.int (i ^ j.toNat)
noncomputable def oLt:R2:=rI0 fun i j=>.bl (decide (i < j))
noncomputable def oLe:R2:=rI0 fun i j=>.bl (decide (i≤j))
noncomputable def oGt:R2:=rI0 fun i j=>.bl (decide (j < i))
noncomputable def oGe:R2:=rI0 fun i j=>.bl (decide (j≤i))
noncomputable def oIsN:R2:=fun x y H Q=>y=.non∧Q (.bl (decide (x=.non))) H
noncomputable def oNotN:R2:=fun x y H Q=>y=.non∧Q (.bl (!decide (x=.non))) H
noncomputable def rLenL (K:PySem.W.Frag):List V→Hp→VK→Prop:=fun xs H Q=>∃ p ys,xs=[.ref p]∧(SqL K H p ys∨SqT K H p ys)∧Q (.int ys.length) H
noncomputable def rIsi (K:PySem.W.Frag):List V→Hp→VK→Prop:=fun xs H Q=>∃ x n t b,xs=[x,V.ty n]∧TyOf K H x t∧PySem.W.kitOne K t (.type n)=some b∧Q (.bl b) H
noncomputable def rSum (K:PySem.W.Frag):List V→Hp→VK→Prop:=fun xs H Q=>∃ (p:Addr) (ns:List Int),xs=[.ref p]∧SqL K H p (ns.map V.int)∧Q (.int ns.sum) H
noncomputable def rSorted (K:PySem.W.Frag):List V→Hp→VK→Prop:=fun xs H Q=>∃ (p:Addr) (ns:List Int),xs=[.ref p]∧SqL K H p (ns.map V.int)∧ns.length < 64∧∀ (l:Addr) (ms:List Int),H l=none→ms.Perm ns→ms.Pairwise (·≤·)→Q (.ref l) (upd H l (.lst (ms.map V.int)))
noncomputable def rAll (K:PySem.W.Frag):List V→Hp→VK→Prop:=fun xs H Q=>∃ (p:Addr) (bs:List Bool),xs=[.ref p]∧SqL K H p (bs.map V.bl)∧Q (.bl (bs.all id)) H
noncomputable def rMin:List V→Hp→VK→Prop:=fun xs H Q=>∃ i j,xs=[.int i,.int j]∧Q (.int (if j < i then j else i)) H
noncomputable def rListOf (K:PySem.W.Frag):List V→Hp→VK→Prop:=fun xs H Q=>∃ p ys,xs=[.ref p]∧(SqL K H p ys∨SqT K H p ys)∧∀ l,H l=none→Q (.ref l) (upd H l (.lst ys))
section
variable {X:Cx}
theorem op_addI:OpR X (binaryOp .Add) oAdd:=op_add
theorem op_subI:OpR X (binaryOp .Sub) oSub:=op_sub
theorem op_mulI:OpR X (binaryOp .Mult) oMul:=opI fun _ _ _ _ _ _ _ hc q=>mul_int q hc.ok
theorem op_divI:OpR X (binaryOp .FloorDiv) oDiv:=opI fun i j _ _ _ _ _ hc q=>by
  have h1:(0:Int) < j:=hc.1
  have h2:j < HUGE:=hc.2
  have h3:-HUGE < j:=by have:=huge_big;omega
  exact floordiv_int (by omega) (by rw [Int.fdiv_eq_ediv_of_nonneg i (by omega)];exact q) (.inl (PyProof.noPylong_of_log2 (Nat.lt_trans (huge_log h3 h2) (by decide))))
theorem op_modI:OpR X (binaryOp .Mod) oMod:=op_mod
theorem op_powI:OpR X (binaryOp .Pow) oPow:=opI fun _ _ _ _ _ _ _ hc q=>hc.elim (fun h=>pow_int_small h.1 h.2.1 h.2.2 q) fun h=>pow_int h.1 h.2 q
theorem iop_addI:OpR X (inplaceOp .Add) oAdd:=iop_add
theorem iop_subI:OpR X (inplaceOp .Sub) oSub:=iop_sub
theorem iop_mulI:OpR X (inplaceOp .Mult) oMul:=opI fun _ _ _ _ _ _ _ hc q=>imul_int q hc.ok
theorem op_ltI:OpR X (compareOp .Lt) oLt:=op_lt
theorem op_leI:OpR X (compareOp .LtE) oLe:=op_le
theorem op_gtI:OpR X (compareOp .Gt) oGt:=op_gt
theorem op_geI:OpR X (compareOp .GtE) oGe:=op_ge
end
structure KonIn (mg:Str→Option Value) (x:Str) (i:Int):Prop where
  ex:∃ t,mg x=some (.int i t)
theorem KonIn.pe {X:Cx}{x:Str}{i:Int}{pos:Pos} (k:KonIn X.mg x i) (hg:Gl X x) (hd:(x==("__debug__":Str))=false:=by decide):PE X (.Name x pos) (tC (.int i)):=by
  obtain ⟨t,e⟩:=k.ex
  exact pe_glob hg e ⟨t,rfl⟩ hd
theorem kon_in {K:PySem.W.Frag}{mg:Str→Option Value}{h:Heap}{x:Str}{i:Int}{t:Tok} (X:K.In h) (G:h.Ns mainGlobals mg) (z:PySem.W.nsIn K mainGlobals x=some (some (.int i t))):KonIn mg x i:=⟨t,PySem.W.mg_of X G z⟩
theorem Same.upd {H H':Hp} (e:Same H H') {l:Addr}{o:HO} (h:H l=none):Same H (upd H' l o):=fun b u q=>by
  rw [upd_ne (ne_of_none q h)]
  exact e b u q
theorem Same.updN {H:Hp}{l:Addr}{o:HO} (h:H l=none):Same H (L2.upd H l o):=fun b u q=>by
  rw [upd_ne (ne_of_none q h)]
  exact q
theorem Same.seqT {K:PySem.W.Frag}{H H':Hp}{a:Addr}{xs:List V} (e:Same H H') (h:SqT K H a xs):SqT K H' a xs:=by
  rcases h with (h | ⟨o,h⟩) | h
  · exact .inl (.inl (e _ _ h))
  · exact .inl (.inr ⟨o,e _ _ h⟩)
  · exact .inr h
end L2
namespace L2
open PySem PySem.Spec PyProof.Rows
section
variable {mp:List (Option Nat)}{te:TE}{tt:TT}{σ:St}{H:Hp}{Q:VK}
theorem take_snoc {α:Type}{xs:List α}{i:Nat}{x:α} (h:xs[i]?=some x):xs.take (i + 1)=xs.take i ++ [x]:=by
  rw [List.take_add_one,h]
  rfl
theorem comp_mapL {K:PySem.W.Frag}{a:Addr}{xs:List V} (R:V→V→Prop) (caps:St) (hlift:liftSt mp σ=none::caps) (hx:SqL K H a xs) (hz:xs.length≤sizeLine)
    (hel:∀ x∈xs,∀ (H':Hp) (G:VK),Same H H'→(∀ v H'',R x v→Same H' H''→G v H'')→te (some x::caps) H' G)
    (hd:∀ l ys H',H l=none→Same H H'→H' l=some (.lst ys)→Paired R xs ys→Q (.ref l) H'):tCompK mp (gName 0) tYes te (Itl K a) σ H Q:=by
  refine comp_list (xs:=xs) (fun l i acc σ' H'=>Same H H'∧H' l=some (.lst acc)∧Paired R (xs.take i) acc∧acc.length≤i∧∃ v,σ'=v::caps) (fun l hl=>⟨Same.updN hl,upd_same,by simpa using Paired.nil,Nat.le_refl _,none,hlift⟩) ?_ ?_ ?_ hz
  · rintro l i acc σ' H' _ ⟨s,_,_,h,_⟩
    exact ⟨s.seq hx,h⟩
  · rintro l i x acc σ' H' hl hi ⟨s,h1,h2,h3,v,rfl⟩
    simp only [gName,tYes,List.set_cons_zero]
    rw [if_pos trivial]
    refine hel x (List.mem_of_getElem? hi) H' _ s fun v H'' r s'=>⟨s' _ _ h1,(s.trans s').upd hl,upd_same,?_,?_,some x,rfl⟩
    · rw [take_snoc hi]
      exact h2.snoc r
    · rw [List.length_append,List.length_singleton]
      omega
  · rintro l acc σ' H' hl ⟨s,h1,h2,_⟩
    rw [List.take_length] at h2
    exact hd l acc H' hl s h1 h2
theorem comp_mapN {lo:Int}{n:Nat} (R:Nat→V→Prop) (caps:St) (hlift:liftSt mp σ=none::caps) (hz:n≤sizeLine)
    (hel:∀ i,i < n→∀ (H':Hp) (G:VK),Same H H'→(∀ v H'',R i v→Same H' H''→G v H'')→te (some (.int (lo + i))::caps) H' G)
    (hd:∀ l ys H',H l=none→Same H H'→H' l=some (.lst ys)→Paired R (List.range n) ys→Q (.ref l) H'):tCompK mp (gName 0) tYes te (Itr lo n) σ H Q:=by
  refine comp_range (fun l i acc σ' H'=>Same H H'∧H' l=some (.lst acc)∧Paired R (List.range i) acc∧acc.length≤i∧∃ v,σ'=v::caps) (fun l hl=>⟨Same.updN hl,upd_same,by simpa using Paired.nil,Nat.le_refl _,none,hlift⟩) ?_ ?_ ?_ hz
  · rintro l i acc σ' H' _ ⟨s,_,_,h,_⟩
    exact h
  · rintro l i acc σ' H' hl hi ⟨s,h1,h2,h3,v,rfl⟩
    simp only [gName,tYes,List.set_cons_zero]
    rw [if_pos trivial]
    refine hel i hi H' _ s fun v H'' r s'=>⟨s' _ _ h1,(s.trans s').upd hl,upd_same,?_,?_,some _,rfl⟩
    · rw [List.range_succ]
      exact h2.snoc r
    · rw [List.length_append,List.length_singleton]
      omega
  · rintro l acc σ' H' hl ⟨s,h1,h2,_⟩
    exact hd l acc H' hl s h1 h2
end
end L2
namespace L2
open PySem PySem.Spec PyProof.Rows
section
variable {K:PySem.W.Frag}{D:Ends}{σ:St}{H:Hp}{Q:VK}{QB:Bool→Hp→Prop}{QA:List V→Hp→Prop}{t u:TS}{te ta tb tc:TE}{c d:TT}{tl:TA}{i j:Int}{k n:Nat}{v x y:V}{r r':R2}{E:XK}
theorem r_seq (h:t {D with nx:=u D} σ H):tSeq t u D σ H:=h
theorem r_cut (P:St→Hp→Prop) (h1:∀ F:St→Hp→Prop,(∀ σ' H',P σ' H'→F σ' H')→t {D with nx:=F} σ H) (h2:∀ σ' H',P σ' H'→u D σ' H'):tSeq t u D σ H:=h1 _ h2
theorem r_asg (h:te σ H fun x H1=>D.nx (σ.set n (some x)) H1):tAsg te (gName n) D σ H:=h
theorem r_ifs (h:c σ H fun b H1=>if b=true then t D σ H1 else u D σ H1):tIfS c t u D σ H:=h
theorem r_ret (h:te σ H D.rt):tRet te D σ H:=h
theorem r_next (h:D.nx σ H):tNext D σ H:=h
theorem r_drop (h:te σ H fun _ H1=>D.nx σ H1):tDrop te D σ H:=h
theorem r_c (h:Q v H):tC v σ H Q:=h
theorem r_op (h:ta σ H fun x H1=>tb σ H1 fun y H2=>r x y H2 Q):tOp r ta tb σ H Q:=h
theorem r_add (h:Q (.int (i + j)) H):oAdd (.int i) (.int j) H Q:=⟨i,j,rfl,rfl,h⟩
theorem r_sub (h:Q (.int (i - j)) H):oSub (.int i) (.int j) H Q:=⟨i,j,rfl,rfl,h⟩
theorem r_mulL (h1:-(2 ^ 64) < i) (h2:i < 2 ^ 64) (h:Q (.int (i * j)) H):oMul (.int i) (.int j) H Q:=⟨i,j,rfl,rfl,.inl (.inl ⟨h1,h2⟩),h⟩
theorem r_mulR (h1:-(2 ^ 64) < j) (h2:j < 2 ^ 64) (h:Q (.int (i * j)) H):oMul (.int i) (.int j) H Q:=⟨i,j,rfl,rfl,.inl (.inr ⟨h1,h2⟩),h⟩
theorem r_div (h1:0 < j) (h2:j < 1073741824) (h:Q (.int (i / j)) H):oDiv (.int i) (.int j) H Q:=⟨i,j,rfl,rfl,⟨h1,Int.lt_trans h2 huge_big⟩,h⟩
theorem r_divH (h1:0 < j) (h2:j < HUGE) (h:Q (.int (i / j)) H):oDiv (.int i) (.int j) H Q:=⟨i,j,rfl,rfl,⟨h1,h2⟩,h⟩
theorem r_mod (h1:0 < j) (h:Q (.int (i % j)) H):oMod (.int i) (.int j) H Q:=⟨i,j,rfl,rfl,h1,h⟩
theorem r_pow (h1:0≤j) (h2:j≤1000000) (h3:i.natAbs < 2 ^ 64) (h:Q (.int (i ^ j.toNat)) H):oPow (.int i) (.int j) H Q:=⟨i,j,rfl,rfl,.inl ⟨h1,h2,h3⟩,h⟩
theorem r_lt (h:Q (.bl (decide (i < j))) H):oLt (.int i) (.int j) H Q:=⟨i,j,rfl,rfl,h⟩
theorem r_le (h:Q (.bl (decide (i≤j))) H):oLe (.int i) (.int j) H Q:=⟨i,j,rfl,rfl,h⟩
theorem r_gt (h:Q (.bl (decide (j < i))) H):oGt (.int i) (.int j) H Q:=⟨i,j,rfl,rfl,h⟩
theorem r_ge (h:Q (.bl (decide (j≤i))) H):oGe (.int i) (.int j) H Q:=⟨i,j,rfl,rfl,h⟩
theorem decInt:decide (V.int i=V.int j)=decide (i=j):=by
  by_cases h:i=j
  · subst h;simp
  · rw [decide_eq_false h,decide_eq_false fun z=>h (V.int.inj z)]
theorem r_eq (h:Q (.bl (decide (i=j))) H):rEq (.int i) (.int j) H Q:=⟨rfl,by rw [decInt];exact h⟩
theorem r_ne (h:Q (.bl (!decide (i=j))) H):rNe (.int i) (.int j) H Q:=⟨rfl,by rw [decInt];exact h⟩
theorem r_isN (h:Q (.bl (decide (x=.non))) H):oIsN x .non H Q:=⟨rfl,h⟩
theorem r_notN (h:Q (.bl (!decide (x=.non))) H):oNotN x .non H Q:=⟨rfl,h⟩
theorem r_test (h:te σ H fun x H'=>∃ k,x=.bl k∧QB k H'):tTest te σ H QB:=h
theorem r_tB (h:te σ H fun x H1=>∃ c,x=.bl c∧QB c H1):tB te σ H QB:=h
theorem r_bl {b:Bool}{P:Bool→Prop} (h:P b):∃ k,V.bl b=.bl k∧P k:=⟨b,rfl,h⟩
theorem r_and (h:c σ H fun b H1=>if b=true then d σ H1 QB else QB false H1):tAnd c d σ H QB:=h
theorem r_or (h:c σ H fun b H1=>if b=true then QB true H1 else d σ H1 QB):tOr c d σ H QB:=h
theorem r_not (h:c σ H fun b H1=>QB (!b) H1):tNot c σ H QB:=h
theorem r_notV (h:ta σ H fun x H1=>∃ c,x=.bl c∧Q (.bl (!c)) H1):tNotV ta σ H Q:=h
theorem r_andV (h:ta σ H fun x H1=>∃ c,x=.bl c∧if c=true then tb σ H1 Q else Q (.bl false) H1):tAndV ta tb σ H Q:=h
theorem r_if (h:c σ H fun b H1=>if b=true then ta σ H1 Q else tb σ H1 Q):tIf c ta tb σ H Q:=h
theorem r_nil (h:QA [] H):tNil σ H QA:=h
theorem r_cons (h:te σ H fun x H1=>tl σ H1 fun xs H2=>QA (x::xs) H2):tCons te tl σ H QA:=h
theorem r_call {sp:Sp} (h:tl σ H fun vs H1=>sp vs H1 Q E):tCall sp [] E tl σ H Q:=by
  show tl σ H fun vs H1=>sp (vs ++ []) H1 Q E
  simpa only [List.append_nil] using h
theorem r_cb {q:List V→Hp→VK→Prop} (h:tl σ H fun vs H1=>q vs H1 Q):tCB q tl σ H Q:=h
theorem r_min (h:Q (.int (min i j)) H):rMin [.int i,.int j] H Q:=⟨i,j,rfl,by
  have e:(if j < i then j else i)=min i j:=by omega
  rw [e];exact h⟩
theorem r_len {p:Addr}{ys:List V} (hs:SqL K H p ys) (h:Q (.int ys.length) H):rLenL K [.ref p] H Q:=⟨p,ys,rfl,.inl hs,h⟩
theorem r_sum {p:Addr}{ns:List Int} (hs:SqL K H p (ns.map V.int)) (h:Q (.int ns.sum) H):rSum K [.ref p] H Q:=⟨p,ns,rfl,hs,h⟩
theorem r_isiI {b:Bool}{nm:String} (e:PySem.W.kitOne K (.type "int") (.type nm)=some b) (h:Q (.bl b) H):rIsi K [.int i,.ty nm] H Q:=⟨_,_,_,b,rfl,.int i,e,h⟩
theorem r_isiL {b:Bool}{p:Addr}{ys:List V}{nm:String} (hs:H p=some (.lst ys)) (e:PySem.W.kitOne K (.type "list") (.type nm)=some b) (h:Q (.bl b) H):rIsi K [.ref p,.ty nm] H Q:=⟨_,_,_,b,rfl,.lst hs,e,h⟩
theorem r_ix {p:Addr}{xs:List V} (hs:SqL K H p xs) (ha:atI xs i=some v) (h:Q v H):rIxL K (.ref p) (.int i) H Q:=⟨p,xs,i,v,rfl,rfl,hs,ha,h⟩
noncomputable def forGo (g:TG) (tb:TS) (D:Ends) (J:It) (σ:St) (H:Hp):Prop:=∃ W:Nat→Nat→St→Hp→Prop,(∃ m,W 0 m σ H)∧∀ i m σ H,W i m σ H→
  (J.stop i H∧D.nx σ H)∨(J.go i H∧∃ N:St→Hp→Prop,(∀ σ' H',N σ' H'→∃ m',m' < m∧W (i + 1) m' σ' H')∧∀ x H',J.yld i H x H'→g x σ H' fun σ2 H2=>tb {D with nx:=N,ct:=N,bk:=D.nx} σ2 H2)
theorem r_for {wi:TI}{g:TG} (h:wi σ H fun J H1=>forGo g t D J σ H1):tFor wi g t D σ H:=h
theorem r_rng1 {R:It→Hp→Prop} (h:tl σ H fun vs H1=>∃ j:Int,vs=[.int j]∧-(2 ^ 62)≤j∧j < 2 ^ 62∧R (Itr 0 j.toNat) H1):iRng1 tl σ H R:=h
theorem r_rng1' {P:Int→Prop} (h1:-(2 ^ 62)≤i) (h2:i < 2 ^ 62) (h:P i):∃ j:Int,([.int i]:List V)=[.int j]∧-(2 ^ 62)≤j∧j < 2 ^ 62∧P j:=⟨i,rfl,h1,h2,h⟩
theorem r_rng2 {R:It→Hp→Prop} (h:tl σ H fun vs H1=>∃ i j:Int,vs=[.int i,.int j]∧(-(2 ^ 62)≤i∧i < 2 ^ 62∧-(2 ^ 62)≤j∧j < 2 ^ 62)∧R (Itr i (j - i).toNat) H1):iRng2 tl σ H R:=h
theorem r_rng2' {P:Int→Int→Prop} (h1:-(2 ^ 62)≤i) (h2:i < 2 ^ 62) (h3:-(2 ^ 62)≤j) (h4:j < 2 ^ 62) (h:P i j):∃ i' j':Int,([.int i,.int j]:List V)=[.int i',.int j']∧(-(2 ^ 62)≤i'∧i' < 2 ^ 62∧-(2 ^ 62)≤j'∧j' < 2 ^ 62)∧P i' j':=⟨i,j,rfl,⟨h1,h2,h3,h4⟩,h⟩
theorem r_iList {R:It→Hp→Prop} (h:te σ H fun x H1=>∃ a,x=.ref a∧(∃ xs,SqL K H1 a xs)∧R (Itl K a) H1):iList K te σ H R:=h
theorem r_iList' {P:Addr→Prop}{a:Addr}{xs:List V} (hs:SqL K H a xs) (h:P a):∃ b,V.ref a=.ref b∧(∃ xs,SqL K H b xs)∧P b:=⟨a,rfl,⟨xs,hs⟩,h⟩
theorem r_sl {q:V→Option Int→Option Int→Hp→VK→Prop}{lo hi:TO} (h:te σ H fun x H1=>lo σ H1 fun l H2=>hi σ H2 fun u H3=>q x l u H3 Q):tSl q te lo hi σ H Q:=h
theorem r_part {R:Option Int→Hp→Prop} (h:te σ H fun x H1=>∃ i,x=.int i∧R (some i) H1):tPart te σ H R:=h
theorem r_part' {P:Int→Prop} (h:P i):∃ j,V.int i=.int j∧P j:=⟨i,rfl,h⟩
theorem r_noPart {R:Option Int→Hp→Prop} (h:R none H):tNoPart σ H R:=h
theorem r_comp {mp:List (Option Nat)}{wi:TI}{g:TG} (h:wi σ H fun J H1=>tCompK mp g c te J σ H1 Q):tComp mp wi g c te σ H Q:=h
theorem r_bm {T:String}{q:V→List V→Hp→VK→Prop} (h:te σ H fun x H1=>tyV K T x H1∧tl σ H1 fun xs H2=>q x xs H2 Q):tBM K T q te tl σ H Q:=h
theorem r_bm0 {T:String}{q:V→List V→Hp→VK→Prop} (h:te σ H fun x H1=>tyV K T x H1∧q x [] H1 Q):tBM0 K T q te σ H Q:=h
theorem r_chain (h:ta σ H fun x H1=>tb σ H1 fun y H2=>r x y H2 fun z H3=>∃ k,z=.bl k∧(if k=true then tc σ H3 fun w' H4=>r' y w' H4 Q else Q (.bl false) H3)):tChain r r' ta tb tc σ H Q:=h
end
end L2
namespace L2
theorem kit_ii {K:PySem.W.Frag}:PySem.W.kitOne K (.type "int") (.type "int")=some true:=by rfl
theorem kit_ib {K:PySem.W.Frag}:PySem.W.kitOne K (.type "int") (.type "bool")=some false:=by rfl
theorem kit_ll {K:PySem.W.Frag}:PySem.W.kitOne K (.type "list") (.type "list")=some true:=by rfl
end L2
namespace L2
open PySem PySem.Spec PyProof.Rows
noncomputable def ItrS (lo step:Int) (n:Nat):It:=⟨fun i _=>i < n,fun i H x H'=>H'=H∧x=.int (lo + i * step),fun i _=>n≤i⟩
section
variable {X:Cx}{tg:Expr}
end
theorem for_rangeS {lo step:Int}{n:Nat}{g:TG}{tb:TS}{D:Ends}{σ:St}{H:Hp} (Pv:Nat→St→Hp→Prop) (h0:Pv 0 σ H)
    (hs:∀ i σ H,i < n→Pv i σ H→g (.int (lo + i * step)) σ H fun σ2 H2=>tb {D with nx:=Pv (i + 1),ct:=Pv (i + 1),bk:=D.nx} σ2 H2) (hd:∀ σ H,Pv n σ H→D.nx σ H):forGo g tb D (ItrS lo step n) σ H:=by
  refine ⟨fun i m σ H=>m=n - i∧i≤n∧Pv i σ H,⟨n,by simp,Nat.zero_le _,h0⟩,?_⟩
  rintro i m σ H ⟨rfl,hi,p⟩
  by_cases hlt:i < n
  · refine .inr ⟨hlt,Pv (i + 1),fun σ' H' p'=>⟨n - (i + 1),by omega,rfl,hlt,p'⟩,fun x H' y=>?_⟩
    obtain ⟨e,y⟩:=y
    subst e y
    exact hs i σ _ hlt p
  · have e:i=n:=by omega
    subst e
    exact .inl ⟨Nat.le_refl _,hd σ H p⟩
end L2
namespace L2
open PySem PySem.Spec PyProof.Rows
mutual
inductive DatIs (K:PySem.W.Frag) (H:Hp):V→PyData→Prop
  | non:DatIs K H .non .none
  | bl (b:Bool):DatIs K H (.bl b) (.bool b)
  | int (i:Int):DatIs K H (.int i) (.int i)
  | str (x:Str):DatIs K H (.str x) (.str x)
  | lst {a:Addr}{xs:List V}{ds:List PyData}:SqL K H a xs→DatAll K H xs ds→DatIs K H (.ref a) (.list ds)
  | tup {a:Addr}{xs:List V}{ds:List PyData}:SqT K H a xs→DatAll K H xs ds→DatIs K H (.ref a) (.tuple ds)
inductive DatAll (K:PySem.W.Frag) (H:Hp):List V→List PyData→Prop
  | nil:DatAll K H [] []
  | cons {x:V}{xs:List V}{d:PyData}{ds:List PyData}:DatIs K H x d→DatAll K H xs ds→DatAll K H (x::xs) (d::ds)
end
section
variable {X:Cx}{pins:List (Addr×Obj)}{σ:St}{H:Hp}{s:Shared}
mutual
theorem reads_of (I:Inv X pins σ H s):∀ {x:V}{d:PyData}{u:Value},DatIs X.K H x d→RelV x u→∃ as,Reads s.heap u d as
  | _,_,_,.non,r=>by cases r;exact ⟨_,.none⟩
  | _,_,_,.bl b,r=>by cases r;exact ⟨_,.bool b⟩
  | _,_,_,.int i,r=>by obtain ⟨t,rfl⟩:=r;exact ⟨_,.int i t⟩
  | _,_,_,.str x,r=>by obtain ⟨t,rfl⟩:=r;exact ⟨_,.str x t⟩
  | _,_,_,.lst hS all,r=>by
    cases r
    obtain ⟨its,rv,pl,_⟩:=I.list hS
    obtain ⟨o,ho,hc,n,hd⟩:=pl.isList
    obtain ⟨as,q⟩:=reads_all I all rv
    exact ⟨_,Reads.list ho hc hd (by simpa using q)⟩
  | _,_,_,.tup hS all,r=>by
    cases r
    obtain ⟨its,rv,pl,_⟩:=I.tuple hS
    obtain ⟨o,ho,hc,n,hd⟩:=pl
    obtain ⟨as,q⟩:=reads_all I all rv
    exact ⟨_,Reads.tuple ho hc hd (by simpa using q)⟩
theorem reads_all (I:Inv X pins σ H s):∀ {xs:List V}{ds:List PyData}{us:List Value},DatAll X.K H xs ds→Vals xs us→∃ as,ReadsAll s.heap us ds as
  | _,_,_,.nil,r=>by cases r;exact ⟨_,.nil⟩
  | _,_,_,.cons h t,r=>by
    cases r with
    | cons r1 r2=>
      obtain ⟨as,a⟩:=reads_of I h r1
      obtain ⟨bs,b⟩:=reads_all I t r2
      exact ⟨_,.cons a b⟩
end
end
noncomputable def rEqD (K:PySem.W.Frag) (neg:Bool):R2:=fun x y H Q=>∃ d e,DatIs K H x d∧DatIs K H y e∧SeqAt.shaped d=true∧SeqAt.shaped e=true∧SeqAt.noMix d e=true∧Q (.bl (same d e != neg)) H
section
variable {X:Cx}
theorem op_ne_data (hu:X.A.units + 64 < cLine):OpR X (compareOp .NotEq) (rEqD X.K true):=by
  intro pins s σ H x y v u Q I rx ry h
  obtain ⟨d,e,h1,h2,h3,h4,h5,q⟩:=h
  obtain ⟨as,a⟩:=reads_of I h1 rx
  obtain ⟨bs,b⟩:=reads_of I h2 ry
  refine ne_dataH_same a b h3 h4 hu h5 ⟨.bl (!same d e),H,I,rfl,?_⟩
  rw [Bool.bne_true] at q
  exact q
end
section
variable {K:PySem.W.Frag}{H:Hp}{Q:VK}{x y:V}
end
section
variable {X:Cx}
end
end L2
namespace L2
open PySem PySem.Spec PyProof.Rows
noncomputable def Ite (K:PySem.W.Frag) (a:Addr):It:=
  ⟨fun i H=>∃ xs x,SqL K H a xs∧xs[i]?=some x,fun i H x H'=>∃ T y,x=.ref T∧H T=none∧H'=upd H T (.tup [.int i,y])∧∀ xs,SqL K H a xs→xs[i]?=some y,fun i H=>∃ xs,SqL K H a xs∧xs.length≤i⟩
theorem turn_enum {P:Program}{w:World}{K:PySem.W.Frag}{elts:List Expr}{x1}{pos:Pos} (a e it:Addr) (hne:e≠it):
    Turn P w K (.Tuple elts x1 pos) (Ite K a) [e,it] e (fun i h=>(∃ old,IsEnum h e it ((i:Nat):Int) old)∧h.IsListIter it a i) where
  mem:=by simp
  obj:=fun i h st b hb=>by
    obtain ⟨⟨old,he⟩,o,ho,hc,hd⟩:=st
    rcases List.mem_cons.mp hb with z | hb
    · subst z
      exact ⟨_,he,fun v z=>by
        have z':Data.fields _=Data.cell v:=z
        cases z'⟩
    · have z:b=it:=by simpa using hb
      subst z
      exact ⟨o,ho,fun v z=>by rw [hd] at z;cases z⟩
  keep:=fun i h h' st k=>by
    obtain ⟨⟨old,he⟩,o,ho,r⟩:=st
    exact ⟨⟨old,k e (by simp) _ he⟩,o,k it (by simp) _ ho,r⟩
  item:=by
    intro X hP hw hK hc i pins s σ H E I hf st hg
    subst hP hw hK
    obtain ⟨⟨old,he⟩,hit⟩:=st
    obtain ⟨xs,x,hS,hx⟩:=hg
    obtain ⟨its,rv,pl,hz⟩:=I.list hS
    obtain ⟨u,hu,ru⟩:=rv.get hx
    obtain ⟨f0,f1,f2,f3,f4,f5⟩:=hf e (by simp)
    obtain ⟨g0,g1,g2,g3,g4,g5⟩:=hf it (by simp)
    have fT:H s.heap.objs.size=none:=I.fresh
    refine wpAny_pyNext_enum_item he hit pl.isList (x:=u) (by simpa using hu) hne fun h' heo hit' ht hsz hk=>⟨_,rfl,?_⟩
    refine wpAny_letOwnedTupleGo_enum heo fun h2 he2 hs2=>?_
    have hs2:Heap.SameBut e h' h2:=hs2
    have heT:e≠s.heap.objs.size:=Nat.ne_of_lt (Heap.lt_size he)
    have oldK:∀ b o,b≠e→b≠it→s.heap.get? b=some o→h2.get? b=some o:=fun b o h1 h2' q=>hs2.extBut b o h1 (hk b o h1 h2' q)
    have hT2:h2.get? s.heap.objs.size=some {cls:=.type "tuple",data:=.seq #[.int i s.toks,u]}:=hs2.extBut _ _ (Ne.symm heT) ht
    have neT:∀ b o,s.heap.get? b=some o→b≠s.heap.objs.size:=fun b o q=>Nat.ne_of_lt (Heap.lt_size q)
    have nH:∀ b w',H b=some w'→b≠e∧b≠it:=fun b w' q=>⟨fun z=>(by rw [z,f0] at q;cases q),fun z=>(by rw [z,g0] at q;cases q)⟩
    have I2:Inv X pins σ (upd H s.heap.objs.size (.tup [.int i,x])) {s with heap:=h2,toks:=s.toks + 1}:=by
      refine I.step (g':=s.gens) (d':=s.drawn) (t':=s.toks + 1) (ch:=[e,it]) (fun b hb=>?_) (fun b o _ _ hb q _=>?_) (fun b o _ _ hb q _=>?_) (fun b o _ q n=>?_) (fun b o hb q=>?_)
        (fun b ys q=>?_) (fun b o w' q=>?_) (fun b ps q=>?_) (fun m hm=>?_) (fun b w' q=>?_) I.bare
      · rcases List.mem_cons.mp hb with z | hb
        · subst z;exact ⟨f3,f1,f4,f5⟩
        · have z:b=it:=by simpa using hb
          subst z;exact ⟨g3,g1,g4,g5⟩
      · exact oldK b o (fun z=>hb (by simp [z])) (fun z=>hb (by simp [z])) q
      · exact ⟨o.slots,oldK b o (fun z=>hb (by simp [z])) (fun z=>hb (by simp [z])) q⟩
      · rw [upd_ne (neT b o q)];exact n
      · exact ⟨o,oldK b o (fun z=>hb (by simp [z])) (fun z=>hb (by simp [z])) q⟩
      · rw [upd_ne (ne_of_none q fT)];exact q
      · rw [upd_ne (ne_of_none q fT)];exact q
      · exact ⟨#[],by rw [upd_ne (ne_of_none q fT),q];simp⟩
      · obtain ⟨o,es,ep,ho,r⟩:=hm
        exact ⟨o,es,ep,oldK _ o (Ne.symm f1) (Ne.symm g1) ho,r⟩
      · by_cases hb:b=s.heap.objs.size
        · subst hb
          rw [upd_same] at q
          cases q
          exact ⟨by show 2≤sizeLine;decide,[.int i s.toks,u],.cons ⟨_,rfl⟩ (.cons ru .nil),_,hT2,rfl,_,rfl⟩
        · rw [upd_ne hb] at q
          refine (I.hok b w' q).stay (fun c v hc q'=>oldK c v ?_ ?_ q') (fun c q'=>?_) fun c ys q'=>?_
          · rcases hc with z | z
            · rw [z];exact (nH b w' q).1
            · exact (nH c _ z).1
          · rcases hc with z | z
            · rw [z];exact (nH b w' q).2
            · exact (nH c _ z).2
          · rw [upd_ne (ne_of_none q' fT)];exact q'
          · rw [upd_ne (ne_of_none q' fT)];exact q'
    refine ⟨.ref s.heap.objs.size,_,I2,rfl,⟨s.heap.objs.size,x,rfl,fT,rfl,fun ys hys=>?_⟩,⟨⟨u,?_⟩,?_⟩,fun b hb=>?_⟩
    · rw [I.list_inj hys hS];exact hx
    · have e1:((i + 1:Nat):Int)=(i:Int) + 1:=by omega
      rw [e1];exact he2
    · exact hit'.extBut hs2.extBut (Ne.symm hne)
    · have:b≠s.heap.objs.size:=by
        rcases List.mem_cons.mp hb with z | hb
        · rw [z];exact heT
        · have z:b=it:=by simpa using hb
          rw [z]
          obtain ⟨o,ho,_⟩:=hit
          exact neT it o ho
      rw [upd_ne this]
      exact (hf b hb).1
  done:=by
    intro X hP hw hK hc i pins s σ H E I hf st hg
    subst hP hw hK
    obtain ⟨⟨old,he⟩,hit⟩:=st
    obtain ⟨xs,hS,hx⟩:=hg
    obtain ⟨its,rv,pl,hz⟩:=I.list hS
    have hl:=rv.length
    obtain ⟨g0,g1,g2,g3,g4,g5⟩:=hf it (by simp)
    refine wpAny_pyNext_enum_end (I.ok.hd hc) he hit pl.isList (by simp;omega) fun h' eb=>⟨rfl,I.turned (t':=s.toks) (fun b o hb e'=>eb b o hb e') g0 g1 g3 g4 g5⟩
  self:=fun A i s Q E st h=>by
    obtain ⟨⟨old,he⟩,hit⟩:=st
    exact wpAny_pyIter_enum he h
section
variable {X:Cx}
noncomputable def iEnum (K:PySem.W.Frag) (tl:TE):TI:=fun σ H R=>tl σ H fun x H1=>∃ a,x=.ref a∧(∃ xs,SqL K H1 a xs)∧R (Ite K a) H1
theorem pi_enum {l:Expr}{tl:TE}{elts:List Expr}{x1}{p pos pt:Pos} (hg:Gl X "enumerate") (hm:X.mg "enumerate"=none) (hl:PE X l tl) (hs:starEach [l] X.env=[(false,eval l X.env)]:=by rfl):
    PI X (.Tuple elts x1 pt) (.Call (.Name "enumerate" p) [l] [] pos) (iEnum X.K tl):=by
  intro pins s σ H R I h
  refine Call_ (ld_blt I hg hm boot_enumerate (PyProof.Rows.callWith_type1 (thn (pa_cons hl pa_nil hs pos pins s σ H (fun vs H1=>∃ x,vs=[x]∧∃ a,x=.ref a∧(∃ xs,SqL X.K H1 a xs)∧R (Ite X.K a) H1) I ?_) fun us s1 ⟨vs,H1,I1,r1,q1⟩=>?_) hs rfl))
  · have mono:tl σ H (fun x H1=>∃ y,[x]=[y]∧∃ a,y=.ref a∧(∃ xs,SqL X.K H1 a xs)∧R (Ite X.K a) H1):=by
      have e:(fun (x:V) (H1:Hp)=>∃ y,[x]=[y]∧∃ a,y=V.ref a∧(∃ xs,SqL X.K H1 a xs)∧R (Ite X.K a) H1)=fun x H1=>∃ a,x=V.ref a∧(∃ xs,SqL X.K H1 a xs)∧R (Ite X.K a) H1:=by
        funext x H1
        simp
      rw [e]
      exact h
    exact mono
  · obtain ⟨x,rfl,a,rfl,⟨xs,hS⟩,q⟩:=q1
    obtain ⟨u,rfl,ru⟩:=vals1 r1
    cases ru
    obtain ⟨its,rv,pl,hz⟩:=I1.list hS
    refine call_enumerate_list pl.isList fun h' he hit hsz hk=>?_
    have I2:Inv X pins σ H1 {s1 with heap:=h'}:=I1.kept (t':=s1.toks) hk
    refine wpAny_pyIter_enum he ?_
    refine ⟨s1.heap.objs.size + 1,[s1.heap.objs.size + 1,s1.heap.objs.size],_,_,H1,rfl,I2,turn_enum a _ _ (Nat.succ_ne_self _),⟨⟨.none,he⟩,hit⟩,fun b hb=>?_,q⟩
    have hb':s1.heap.objs.size≤b:=by
      rcases List.mem_cons.mp hb with z | hb
      · rw [z];exact Nat.le_succ _
      · have z:b=s1.heap.objs.size:=by simpa using hb
        rw [z];exact Nat.le_refl _
    exact I1.fpOk hb' (I1.hok.fresh hb')
end
end L2
namespace L2
open PySem PySem.Spec PyProof.Rows
theorem Inv.turnedL {X:Cx}{pins:List (Addr×Obj)}{σ:St}{H:Hp}{s:Shared}{h':Heap}{t':Nat}{ch:List Addr} (I:Inv X pins σ H s) (hf:∀ b∈ch,FpOk X pins H b) (k:∀ b o,b∉ch→s.heap.get? b=some o→h'.get? b=some o):
    Inv X pins σ H {s with heap:=h',toks:=t'}:=by
  have nit:∀ b u,H b=some u→b∉ch:=fun b u e z=>by rw [(hf b z).1] at e;cases e
  refine I.step (g':=s.gens) (d':=s.drawn) (ch:=ch) (fun b hb=>?_) (fun b o _ _ hc e _=>k b o hc e) (fun b o _ _ hc e _=>⟨o.slots,k b o hc e⟩) (fun _ _ _ _ n=>n)
    (fun b o hc e=>⟨o,k b o hc e⟩) (fun _ _ e=>e) (fun _ _ _ e=>e) (fun b ps e=>⟨#[],by rw [e];simp⟩) (fun m hm=>?_) (fun b u e=>?_) I.bare
  · obtain ⟨_,h1,_,h3,h4,h5⟩:=hf b hb
    exact ⟨h3,h1,h4,h5⟩
  · obtain ⟨o,es,ep,ho,r⟩:=hm
    exact ⟨o,es,ep,k _ o (fun z=>(hf _ z).2.1 rfl) ho,r⟩
  · refine (I.hok b u e).stay (fun c v hc q=>k c v ?_ q) (fun _ q=>q) fun _ _ q=>q
    rcases hc with z | z
    · rw [z];exact nit b u e
    · exact nit c _ z
section
variable {X:Cx}
end
structure Ys (J:It) (g:TG) (P:Hp→Prop) (n:Nat) (f:Nat→St→St):Prop where
  go:∀ i H,i < n→P H→J.go i H
  stop:∀ H,P H→J.stop n H
  yld:∀ i H x H' σ (Q:St→Hp→Prop),i < n→P H→J.yld i H x H'→(∀ H'',Same H H''→Q (f i σ) H'')→g x σ H' Q
theorem ys_list {K:PySem.W.Frag}{a:Addr}{xs:List V} (p:Nat):Ys (Itl K a) (gName p) (fun H=>SqL K H a xs) xs.length (fun i σ=>σ.set p (some (xs.getD i .non))) where
  go:=fun i H hi h=>⟨xs,xs[i],h,by simp [hi]⟩
  stop:=fun H h=>⟨xs,h,Nat.le_refl _⟩
  yld:=fun i H x H' σ Q hi h y q=>by
    obtain ⟨e,y⟩:=y
    subst e
    have e:xs.getD i .non=x:=by simp [List.getD,y xs h]
    have:=q _ (Same.refl _)
    rw [e] at this
    exact this
theorem ys_range {lo:Int}{n:Nat} (p:Nat):Ys (Itr lo n) (gName p) (fun _=>True) n (fun i σ=>σ.set p (some (.int (lo + i)))) where
  go:=fun i H hi _=>hi
  stop:=fun H _=>Nat.le_refl _
  yld:=fun i H x H' σ Q hi _ y q=>by
    obtain ⟨e,y⟩:=y
    subst e y
    exact q _ (Same.refl _)
theorem ys_enum {K:PySem.W.Frag}{a:Addr}{xs:List V} (p r:Nat):Ys (Ite K a) (gTup K 2 (gCons (gName p) (gCons (gName r) gNil))) (fun H=>SqL K H a xs) xs.length (fun i σ=>(σ.set p (some (.int i))).set r (some (xs.getD i .non))) where
  go:=fun i H hi h=>⟨xs,xs[i],h,by simp [hi]⟩
  stop:=fun H h=>⟨xs,h,Nat.le_refl _⟩
  yld:=fun i H x H' σ Q hi h y q=>by
    obtain ⟨T,v,rfl,hT,rfl,hv⟩:=y
    have e:xs.getD i .non=v:=by simp [List.getD,hv xs h]
    refine ⟨T,_,rfl,SqT.of upd_same,rfl,_,_,rfl,_,_,rfl,rfl,?_⟩
    have:=q _ (Same.updN hT (o:=.tup [.int i,v]))
    rw [e] at this
    exact this
theorem ys_list3 {K:PySem.W.Frag}{a:Addr}{ts:List Addr}{u v w:Nat→V} (p r t:Nat):
    Ys (Itl K a) (gTup K 3 (gCons (gName p) (gCons (gName r) (gCons (gName t) gNil)))) (fun H=>SqL K H a (ts.map V.ref)∧∀ i b,ts[i]?=some b→SqT K H b [u i,v i,w i]) ts.length (fun i σ=>((σ.set p (some (u i))).set r (some (v i))).set t (some (w i))) where
  go:=fun i H hi h=>⟨_,.ref ts[i],h.1,by simp [hi]⟩
  stop:=fun H h=>⟨_,h.1,by simp⟩
  yld:=fun i H x H' σ Q hi h y q=>by
    obtain ⟨e,y⟩:=y
    subst e
    have e:x=.ref ts[i]:=by
      have:=y _ h.1
      simp [hi] at this
      exact this.symm
    subst e
    exact ⟨ts[i],_,rfl,h.2 i _ (by simp [hi]),rfl,_,_,rfl,_,_,rfl,_,_,rfl,rfl,q _ (Same.refl _)⟩
theorem ys_list2 {K:PySem.W.Frag}{a:Addr}{ts:List Addr}{u v:Nat→V} (p r:Nat):
    Ys (Itl K a) (gTup K 2 (gCons (gName p) (gCons (gName r) gNil))) (fun H=>SqL K H a (ts.map V.ref)∧∀ i b,ts[i]?=some b→SqT K H b [u i,v i]) ts.length (fun i σ=>(σ.set p (some (u i))).set r (some (v i))) where
  go:=fun i H hi h=>⟨_,.ref ts[i],h.1,by simp [hi]⟩
  stop:=fun H h=>⟨_,h.1,by simp⟩
  yld:=fun i H x H' σ Q hi h y q=>by
    obtain ⟨e,y⟩:=y
    subst e
    have e:x=.ref ts[i]:=by
      have:=y _ h.1
      simp [hi] at this
      exact this.symm
    subst e
    exact ⟨ts[i],_,rfl,h.2 i _ (by simp [hi]),rfl,_,_,rfl,_,_,rfl,rfl,q _ (Same.refl _)⟩
theorem for_ys {J:It}{g:TG}{P:Hp→Prop}{n:Nat}{f:Nat→St→St}{tb:TS}{D:Ends}{σ:St}{H:Hp} (Y:Ys J g P n f) (Pv:Nat→St→Hp→Prop) (h0:Pv 0 σ H) (hP:∀ i σ H,Pv i σ H→P H)
    (hs:∀ i σ H H',i < n→Pv i σ H→Same H H'→tb {D with nx:=Pv (i + 1),ct:=Pv (i + 1),bk:=D.nx} (f i σ) H') (hd:∀ σ H,Pv n σ H→D.nx σ H):forGo g tb D J σ H:=by
  refine ⟨fun i m σ H=>m=n - i∧i≤n∧Pv i σ H,⟨n,by simp,Nat.zero_le _,h0⟩,?_⟩
  rintro i m σ H ⟨rfl,hi,p⟩
  by_cases hlt:i < n
  · exact .inr ⟨Y.go i H hlt (hP _ _ _ p),Pv (i + 1),fun σ' H' p'=>⟨n - (i + 1),by omega,rfl,hlt,p'⟩,fun x H' y=>Y.yld i H x H' σ _ hlt (hP _ _ _ p) y fun H'' s=>hs i σ H H'' hlt p s⟩
  · have e:i=n:=by omega
    subst e
    exact .inl ⟨Y.stop H (hP _ _ _ p),hd σ H p⟩
section
variable {mp:List (Option Nat)}{g:TG}{tt:TT}{te:TE}{J:It}{P:Hp→Prop}{n:Nat}{f:Nat→St→St}{σ:St}{H:Hp}{Q:VK}
noncomputable def SameX (l:Addr) (H H':Hp):Prop:=∀ b o,b≠l→H b=some o→H' b=some o
theorem Same.x {H H':Hp} (s:Same H H') (l:Addr):SameX l H H':=fun b o _ h=>s b o h
theorem sameX_upd {H:Hp}{l:Addr}{o:HO}:SameX l H (upd H l o):=fun b u hb h=>by rw [upd_ne hb];exact h
theorem comp_genY (Y:Ys J g P n f) (st:Nat→St) (hf:∀ i σ',(σ'=liftSt mp σ∨∃ j,σ'=st j)→f i σ'=st i) (hP:∀ H',Same H H'→P H') (hz:n≤sizeLine) (b:Nat→Bool) (R:Addr→Nat→V→Hp→Prop)
    (hR:∀ l i v H1 H2,SameX l H1 H2→R l i v H1→R l i v H2)
    (ht:∀ i,i < n→∀ (H':Hp) (G:Bool→Hp→Prop),Same H H'→(∀ H'',Same H' H''→G (b i) H'')→tt (st i) H' G)
    (he:∀ l i,i < n→b i=true→∀ (H':Hp) (G:VK),H l=none→(∃ o,H' l=some o)→Same H H'→(∀ v H'',R l i v H''→Same H' H''→G v H'')→te (st i) H' G)
    (hd:∀ l ys H',H l=none→Same H H'→H' l=some (.lst ys)→Paired (fun i v=>R l i v H') ((List.range n).filter b) ys→Q (.ref l) H'):tCompK mp g tt te J σ H Q:=by
  intro l hl
  refine ⟨fun i m acc σ' H'=>m=n - i∧i≤n∧acc.length≤i∧Same H H'∧H' l=some (.lst acc)∧Paired (fun i v=>R l i v H') ((List.range i).filter b) acc∧(σ'=liftSt mp σ∨∃ j,σ'=st j),
    ⟨n,by simp,Nat.zero_le _,Nat.le_refl _,Same.updN hl,upd_same,.nil,.inl rfl⟩,?_⟩
  rintro i m acc σ' H' ⟨rfl,hi,ha,s,h1,h2,hσ⟩
  by_cases hlt:i < n
  · refine .inr ⟨Y.go i H' hlt (hP _ s),by omega,fun acc' σ2 H2=>i + 1≤n∧acc'.length≤i + 1∧Same H H2∧H2 l=some (.lst acc')∧Paired (fun i v=>R l i v H2) ((List.range (i + 1)).filter b) acc'∧(σ2=liftSt mp σ∨∃ j,σ2=st j),fun acc' σ2 H2 p'=>⟨n - (i + 1),by omega,rfl,p'⟩,fun x H2 y=>?_⟩
    refine Y.yld i H' x H2 σ' _ hlt (hP _ s) y fun H3 s3=>?_
    rw [hf i σ' hσ]
    refine ht i hlt H3 _ (s.trans s3) fun H4 s4=>?_
    have s34:=s3.trans s4
    cases hb:b i with
    | false=>
      refine iteF ⟨hlt,by omega,s.trans s34,s34 _ _ h1,?_,.inr ⟨i,rfl⟩⟩
      rw [List.range_succ,List.filter_append,List.filter_cons,hb]
      simp only [Bool.false_eq_true,if_false,List.filter_nil,List.append_nil]
      exact Paired.mapP h2 fun j v r=>hR l j v _ _ (s34.x l) r
    | true=>
      refine iteT ?_
      refine he l i hlt hb H4 _ hl ⟨_,s34 _ _ h1⟩ (s.trans s34) fun v H5 r s5=>?_
      have s35:=s34.trans s5
      refine ⟨s35 _ _ h1,hlt,?_,(s.trans s35).upd hl,upd_same,?_,.inr ⟨i,rfl⟩⟩
      · rw [List.length_append,List.length_singleton];omega
      · rw [List.range_succ,List.filter_append,List.filter_cons,hb]
        simp only [if_true,List.filter_nil]
        exact (Paired.mapP h2 fun j v r=>hR l j v _ _ sameX_upd (hR l j v _ _ (s35.x l) r)).snoc (hR l i v _ _ sameX_upd r)
  · have e:i=n:=by omega
    subst e
    exact .inl ⟨Y.stop H' (hP _ s),hd l acc H' hl s h1 h2⟩
theorem paired_map {α:Type}{F:α→V}:∀ {xs:List α}{ys:List V},Paired (fun x v=>v=F x) xs ys→ys=xs.map F
  | _,_,.nil=>rfl
  | _,_,.cons e t=>by rw [e,paired_map t];rfl
theorem comp_mapY (Y:Ys J g P n f) (st:Nat→St) (hf:∀ i σ',(σ'=liftSt mp σ∨∃ j,σ'=st j)→f i σ'=st i) (hP:∀ H',Same H H'→P H') (hz:n≤sizeLine) (F:Nat→V)
    (he:∀ i,i < n→∀ (H':Hp) (G:VK),Same H H'→(∀ H'',Same H' H''→G (F i) H'')→te (st i) H' G)
    (hd:∀ l H',H l=none→Same H H'→H' l=some (.lst ((List.range n).map F))→Q (.ref l) H'):tCompK mp g tYes te J σ H Q:=by
  refine comp_genY Y st hf hP hz (fun _=>true) (fun _ i v _=>v=F i) (fun _ _ _ _ _ _ h=>h) (fun i hi H' G s k=>k H' (Same.refl _)) (fun l i hi _ H' G _ _ s k=>he i hi H' G s fun H'' s'=>k _ H'' rfl s') fun l ys H' h0 s h1 pr=>?_
  have e:=paired_map pr
  rw [List.filter_eq_self.mpr (fun _ _=>rfl)] at e
  subst e
  exact hd l H' h0 s h1
theorem comp_filtY (Y:Ys J g P n f) (st:Nat→St) (hf:∀ i σ',(σ'=liftSt mp σ∨∃ j,σ'=st j)→f i σ'=st i) (hP:∀ H',Same H H'→P H') (hz:n≤sizeLine) (b:Nat→Bool) (F:Nat→V)
    (ht:∀ i,i < n→∀ (H':Hp) (G:Bool→Hp→Prop),Same H H'→(∀ H'',Same H' H''→G (b i) H'')→tt (st i) H' G)
    (he:∀ i,i < n→b i=true→∀ (H':Hp) (G:VK),Same H H'→(∀ H'',Same H' H''→G (F i) H'')→te (st i) H' G)
    (hd:∀ l H',H l=none→Same H H'→H' l=some (.lst (((List.range n).filter b).map F))→Q (.ref l) H'):tCompK mp g tt te J σ H Q:=by
  refine comp_genY Y st hf hP hz b (fun _ i v _=>v=F i) (fun _ _ _ _ _ _ h=>h) ht (fun l i hi hb H' G _ _ s k=>he i hi hb H' G s fun H'' s'=>k _ H'' rfl s') fun l ys H' h0 s h1 pr=>?_
  have e:=paired_map pr
  subst e
  exact hd l H' h0 s h1
theorem paired_refs {T:Addr→Nat→Prop}:∀ {is:List Nat}{ys:List V},Paired (fun i v=>∃ b,v=.ref b∧T b i) is ys→∃ bs:List Addr,ys=bs.map V.ref∧Paired (fun i b=>T b i) is bs
  | _,_,.nil=>⟨[],rfl,.nil⟩
  | _,_,.cons ⟨b,e,h⟩ t=>by
    obtain ⟨bs,e',p⟩:=paired_refs t
    exact ⟨b::bs,by rw [e,e'];rfl,.cons h p⟩
theorem comp_rowsY (Y:Ys J g P n f) (st:Nat→St) (hf:∀ i σ',(σ'=liftSt mp σ∨∃ j,σ'=st j)→f i σ'=st i) (hP:∀ H',Same H H'→P H') (hz:n≤sizeLine) (row:Nat→List V)
    (he:∀ i,i < n→∀ (H':Hp) (G:VK),Same H H'→(∀ b H'',H' b=none→Same H' H''→H'' b=some (.lst (row i))→G (.ref b) H'')→te (st i) H' G)
    (hd:∀ l bs H',H l=none→Same H H'→H' l=some (.lst (bs.map V.ref))→Paired (fun i b=>H b=none∧b≠l∧H' b=some (.lst (row i))) (List.range n) bs→Q (.ref l) H'):tCompK mp g tYes te J σ H Q:=by
  refine comp_genY Y st hf hP hz (fun _=>true) (fun l i v H'=>∃ b,v=.ref b∧H b=none∧b≠l∧H' b=some (.lst (row i))) (fun l i v H1 H2 s ⟨b,e,h0,hl,h1⟩=>⟨b,e,h0,hl,s b _ hl h1⟩) (fun i hi H' G s k=>k H' (Same.refl _))
    (fun l i hi _ H' G hl ⟨o,ho⟩ s k=>he i hi H' G s fun b H'' h0 s' h1=>k _ H'' ⟨b,rfl,s.free h0,(fun e=>by rw [e,ho] at h0;cases h0),h1⟩ s') fun l ys H' h0 s h1 pr=>?_
  rw [List.filter_eq_self.mpr (fun _ _=>rfl)] at pr
  obtain ⟨bs,rfl,pr'⟩:=paired_refs (T:=fun b i=>H b=none∧b≠l∧H' b=some (.lst (row i))) pr
  exact hd l bs H' h0 s h1 pr'
end
theorem in_ints {i:Int}{ns:List Int}:inV (.int i) (ns.map V.int)=decide (i∈ns):=by
  unfold inV
  rw [List.any_map]
  induction ns with
  | nil=>simp
  | cons n r ih=>
    rw [List.any_cons,ih]
    show ((n==i) || decide (i∈r))=_
    by_cases h:n=i
    · subst h;simp
    · have:(n==i)=false:=by simpa using h
      rw [this,Bool.false_or]
      by_cases h':i∈r
      · simp [h']
      · have:¬ i∈n::r:=fun z=>by
          rcases List.mem_cons.mp z with e | e
          · exact h e.symm
          · exact h' e
        rw [decide_eq_false h',decide_eq_false this]
theorem flat_ints (ns:List Int):(ns.map V.int).all flatV=true:=by
  rw [List.all_map]
  exact List.all_eq_true.mpr fun _ _=>rfl
section
variable {K:PySem.W.Frag}{H:Hp}{Q:VK}
theorem r_inI {p:Addr}{ns:List Int}{i:Int} (hs:SqL K H p (ns.map V.int)) (h:Q (.bl (decide (i∈ns))) H):rIn K false (.int i) (.ref p) H Q:=
  ⟨p,_,rfl,.inl hs,rfl,flat_ints ns,by rw [if_neg Bool.false_ne_true,in_ints];exact h⟩
theorem r_ninI {p:Addr}{ns:List Int}{i:Int} (hs:SqL K H p (ns.map V.int)) (h:Q (.bl (!decide (i∈ns))) H):rIn K true (.int i) (.ref p) H Q:=
  ⟨p,_,rfl,.inl hs,rfl,flat_ints ns,by rw [if_pos rfl,in_ints];exact h⟩
theorem r_all {p:Addr}{bs:List Bool} (hs:SqL K H p (bs.map V.bl)) (h:Q (.bl (bs.all id)) H):rAll K [.ref p] H Q:=⟨p,bs,rfl,hs,h⟩
theorem r_enum {te:TE}{σ:St}{R:It→Hp→Prop} (h:te σ H fun x H1=>∃ a,x=.ref a∧(∃ xs,SqL K H1 a xs)∧R (Ite K a) H1):iEnum K te σ H R:=h
end
noncomputable def RowsAt (K:PySem.W.Frag) (H:Hp) (a:Addr) (rows:List (List Int)):Prop:=∃ bs:List Addr,SqL K H a (bs.map V.ref)∧Paired (fun r b=>SqL K H b (r.map V.int)) rows bs
theorem Same.rows {K:PySem.W.Frag}{H H':Hp}{a:Addr}{rows:List (List Int)} (e:Same H H') (h:RowsAt K H a rows):RowsAt K H' a rows:=by
  obtain ⟨bs,h1,h2⟩:=h
  exact ⟨bs,e.seq h1,Paired.mapP h2 fun _ _ q=>e.seq q⟩
theorem paired_at' {α β:Type}{F:α→β→Prop}:∀ {xs:List α}{ys:List β}{i:Nat}{y:β},Paired F xs ys→ys[i]?=some y→∃ x,xs[i]?=some x∧F x y
  | _,_,_,_,.nil,e=>by simp at e
  | _,_,0,_,.cons h _,e=>by simp at e;subst e;exact ⟨_,rfl,h⟩
  | _,_,i + 1,_,.cons _ t,e=>by simpa using paired_at' t (by simpa using e)
end L2
namespace L2
open PySem PySem.Spec PyProof.Rows
section
variable {prog:Program}{w:World}{A:Around}{E:Value→Shared→Prop}{s:Shared}
end
theorem vals_of_get:∀ {xs:List V}{us:List Value},xs.length=us.length→(∀ (i:Nat) (x:V) (u:Value),xs[i]?=some x→us[i]?=some u→RelV x u)→Vals xs us
  | [],[],_,_=>.nil
  | x::r,u::q,hl,h=>.cons (h 0 x u rfl rfl) (vals_of_get (by simpa using hl) fun i y w e e'=>h (i + 1) y w (by simpa using e) (by simpa using e'))
end L2
namespace L2
open PySem PySem.Spec PyProof.Rows
section
variable {K:PySem.W.Frag}{D:Ends}{σ:St}{H:Hp}{Q:VK}{te ta tb:TE}{tl:TA}{xs:List V}{i j:Int}
noncomputable def newL (xs:List V) (H:Hp) (Q:VK):Prop:=xs.length≤sizeLine∧∀ p,H p=none→Q (.ref p) (upd H p (.lst xs))
noncomputable def newT (xs:List V) (H:Hp) (Q:VK):Prop:=xs.length≤sizeLine∧∀ p,H p=none→Q (.ref p) (upd H p (.tup xs))
theorem r_lstN (h:tl σ H fun xs H1=>newL xs H1 Q):tLst tl σ H Q:=h
theorem r_tupN (h:tl σ H fun xs H1=>newT xs H1 Q):tTup tl σ H Q:=h
theorem r_newL (hz:xs.length≤sizeLine) (h:∀ p H2,H p=none→Same H H2→H2 p=some (.lst xs)→Q (.ref p) H2):newL xs H Q:=⟨hz,fun p hp=>h p _ hp (Same.updN hp) upd_same⟩
theorem r_newT (hz:xs.length≤sizeLine) (h:∀ p H2,H p=none→Same H H2→H2 p=some (.tup xs)→Q (.ref p) H2):newT xs H Q:=⟨hz,fun p hp=>h p _ hp (Same.updN hp) upd_same⟩
theorem r_slLN {a:Addr}{lo hi:Option Int} (hs:SqL K H a xs) (h:∀ p H2,H p=none→Same H H2→H2 p=some (.lst (cutV xs lo hi))→Q (.ref p) H2):rSlL K (.ref a) lo hi H Q:=⟨a,xs,rfl,hs,fun p hp=>h p _ hp (Same.updN hp) upd_same⟩
theorem r_listOfN {p:Addr} (hs:SqL K H p xs) (h:∀ l H2,H l=none→Same H H2→H2 l=some (.lst xs)→Q (.ref l) H2):rListOf K [.ref p] H Q:=⟨p,xs,rfl,.inl hs,fun l hl=>h l _ hl (Same.updN hl) upd_same⟩
theorem r_catN {l b:Addr}{ys:List V} (h1:H l=some (.lst xs)) (h2:H b=some (.lst ys)) (hz:xs.length + ys.length≤sizeLine) (h:∀ p H2,H p=none→Same H H2→H2 p=some (.lst (xs ++ ys))→Q (.ref p) H2):rCat (.ref l) (.ref b) H Q:=
  ⟨l,b,xs,ys,rfl,rfl,h1,h2,hz,fun p hp=>h p _ hp (Same.updN hp) upd_same⟩
theorem r_asgS {r:TSet} (h:te σ H fun x H1=>ta σ H1 fun o H2=>tb σ H2 fun i H3=>r o i x H3 fun H4=>D.nx σ H4):tAsg te (gSub ta tb r) D σ H:=h
theorem r_appendN {l:Addr}{y:V} (hp:H l=some (.lst xs)) (hz:xs.length < sizeLine) (h:Q .non (upd H l (.lst (xs ++ [y])))):rAppend (.ref l) [y] H Q:=⟨l,xs,y,rfl,rfl,hp,hz,h⟩
theorem tyL {p:Addr} (hp:H p=some (.lst xs)):tyV K "list" (.ref p) H:=.inl ⟨rfl,_,SqL.of hp⟩
end
section
variable {A B:Prop}{c:Prop} [Decidable c]
theorem iteP (hc:c) (h:A):if decide c=true then A else B:=by rw [decide_eq_true hc];exact iteT h
theorem iteN (hc:¬ c) (h:B):if decide c=true then A else B:=by rw [decide_eq_false hc];exact iteF h
theorem iteNP (hc:¬ c) (h:A):if (!decide c)=true then A else B:=by rw [decide_eq_false hc];exact iteT h
theorem iteNT (h:B):if (!true)=true then A else B:=iteF h
theorem iteNF (h:A):if (!false)=true then A else B:=iteT h
theorem iteD (h1:c→A) (h2:¬ c→B):if decide c=true then A else B:=ite2 (fun h=>h1 (of_decide_eq_true h)) (fun h=>h2 fun z=>h (decide_eq_true z))
theorem iteDN (h1:¬ c→A) (h2:c→B):if (!decide c)=true then A else B:=by
  by_cases z:c
  · exact iteNS z (h2 z)
  · exact iteNP z (h1 z)
end
theorem cut_take (ns:List Int) (m:Nat):cutV (ns.map V.int) none (some (m:Int))=(ns.take m).map V.int:=by
  unfold cutV
  rw [HT.sIx_none,HT.sIx_nat,List.length_map,Nat.sub_zero,List.drop_zero,List.map_take]
  rcases Nat.le_total m ns.length with h | h
  · rw [Nat.min_eq_left h]
  · rw [Nat.min_eq_right h,List.take_of_length_le (by simp),List.take_of_length_le (by simpa using h)]
theorem line64:(1000:Nat)≤sizeLine:=Nat.le_of_lt (small1000 (Nat.le_refl _))
end L2
namespace L2
open PySem PySem.Spec PyProof.Rows
mutual
noncomputable def nice:PyData→Bool
  | .none=>true
  | .bool _=>false
  | .int _=>true
  | .str x=>PyData.strOk x
  | .list xs=>niceAll xs
  | .tuple xs=>niceAll xs
  | .dict _=>false
noncomputable def niceAll:List PyData→Bool
  | []=>true
  | x::xs=>nice x && niceAll xs
end
mutual
theorem nice_lay:∀ d:PyData,nice d=true→d.canLay0=true
  | .none,_=>by simp [PyData.canLay0]
  | .bool _,h=>by simp [nice] at h
  | .int _,_=>by simp [PyData.canLay0]
  | .str x,h=>by rw [PyData.canLay0];rw [nice] at h;exact h
  | .list xs,h=>by rw [PyData.canLay0];exact nice_layAll xs (by rw [nice] at h;exact h)
  | .tuple xs,h=>by rw [PyData.canLay0];exact nice_layAll xs (by rw [nice] at h;exact h)
  | .dict _,h=>by simp [nice] at h
theorem nice_layAll:∀ ds:List PyData,niceAll ds=true→PyData.canLayAll0 ds=true
  | [],_=>by simp [PyData.canLayAll0]
  | x::xs,h=>by
    rw [niceAll,Bool.and_eq_true] at h
    rw [PyData.canLayAll0,nice_lay x h.1,nice_layAll xs h.2]
    rfl
end
mutual
theorem nice_mix:∀ d e:PyData,nice d=true→nice e=true→SeqAt.noMix d e=true
  | .list xs,.list ys,h,h'=>by rw [SeqAt.noMix];exact nice_mixAll xs ys (by rw [nice] at h;exact h) (by rw [nice] at h';exact h')
  | .tuple xs,.tuple ys,h,h'=>by rw [SeqAt.noMix];exact nice_mixAll xs ys (by rw [nice] at h;exact h) (by rw [nice] at h';exact h')
  | .bool _,_,h,_=>by simp [nice] at h
  | .dict _,_,h,_=>by simp [nice] at h
  | .none,.none,_,_ | .none,.int _,_,_ | .none,.str _,_,_ | .none,.list _,_,_ | .none,.tuple _,_,_=>by simp [SeqAt.noMix]
  | .int _,.none,_,_ | .int _,.int _,_,_ | .int _,.str _,_,_ | .int _,.list _,_,_ | .int _,.tuple _,_,_=>by simp [SeqAt.noMix]
  | .str _,.none,_,_ | .str _,.int _,_,_ | .str _,.str _,_,_ | .str _,.list _,_,_ | .str _,.tuple _,_,_=>by simp [SeqAt.noMix]
  | .none,.bool _,_,h' | .none,.dict _,_,h' | .int _,.bool _,_,h' | .int _,.dict _,_,h' | .str _,.bool _,_,h' | .str _,.dict _,_,h'=>by simp [nice] at h'
  | .list _,.none,_,_ | .list _,.int _,_,_ | .list _,.str _,_,_ | .list _,.tuple _,_,_=>by simp [SeqAt.noMix]
  | .list _,.bool _,_,h' | .list _,.dict _,_,h'=>by simp [nice] at h'
  | .tuple _,.none,_,_ | .tuple _,.int _,_,_ | .tuple _,.str _,_,_ | .tuple _,.list _,_,_=>by simp [SeqAt.noMix]
  | .tuple _,.bool _,_,h' | .tuple _,.dict _,_,h'=>by simp [nice] at h'
theorem nice_mixAll:∀ ds es:List PyData,niceAll ds=true→niceAll es=true→SeqAt.noMixAll ds es=true
  | [],[],_,_=>by simp [SeqAt.noMixAll]
  | [],_::_,_,_=>by simp [SeqAt.noMixAll]
  | _::_,[],_,_=>by simp [SeqAt.noMixAll]
  | x::xs,y::ys,h,h'=>by
    rw [niceAll,Bool.and_eq_true] at h h'
    rw [SeqAt.noMixAll,nice_mix x y h.1 h'.1,nice_mixAll xs ys h.2 h'.2]
    rfl
end
noncomputable def niceD (n:Nat) (d:PyData):Prop:=nice d=true∧d.depth≤n
theorem niceD.shaped {n:Nat}{d:PyData} (h:niceD n d) (hn:n≤64):SeqAt.shaped d=true:=by
  unfold SeqAt.shaped
  rw [nice_lay d h.1,decide_eq_true (show d.depth≤64 by have:=h.2;omega)]
  rfl
theorem niceD.mono {n m:Nat}{d:PyData} (h:niceD n d) (hm:n≤m):niceD m d:=⟨h.1,Nat.le_trans h.2 hm⟩
theorem nd_all {n:Nat}:∀ {ds:List PyData},(∀ d∈ds,niceD n d)→niceAll ds=true∧PyData.depthAll ds≤n
  | [],_=>by simp [niceAll,PyData.depthAll]
  | x::xs,h=>by
    obtain ⟨h1,h2⟩:=h x List.mem_cons_self
    obtain ⟨h3,h4⟩:=nd_all fun y hy=>h y (List.mem_cons_of_mem _ hy)
    rw [niceAll,h1,h3,PyData.depthAll]
    exact ⟨rfl,by omega⟩
theorem nd_list {n:Nat}{ds:List PyData} (h:∀ d∈ds,niceD n d):niceD (n + 1) (.list ds):=by
  obtain ⟨h1,h2⟩:=nd_all h
  exact ⟨by rw [nice];exact h1,by rw [PyData.depth];omega⟩
theorem nd_tuple {n:Nat}{ds:List PyData} (h:∀ d∈ds,niceD n d):niceD (n + 1) (.tuple ds):=by
  obtain ⟨h1,h2⟩:=nd_all h
  exact ⟨by rw [nice];exact h1,by rw [PyData.depth];omega⟩
theorem nd_int {n:Nat} (i:Int):niceD n (.int i):=⟨by simp [nice],by simp [PyData.depth]⟩
section
variable {K:PySem.W.Frag}{H:Hp}{Q:VK}{x y:V}{d e:PyData}{n:Nat}
theorem r_neDD (h1:DatIs K H x d) (h2:DatIs K H y e) (hd:niceD n d) (he:niceD n e) (hn:n≤64) (h:Q (.bl (!same d e)) H):rEqD K true x y H Q:=
  ⟨d,e,h1,h2,hd.shaped hn,he.shaped hn,nice_mix d e hd.1 he.1,by rw [Bool.bne_true];exact h⟩
theorem r_neS (h1:DatIs K H x d) (h2:DatIs K H y d) (hd:niceD n d) (hn:n≤64) (h:Q (.bl false) H):rEqD K true x y H Q:=r_neDD h1 h2 hd hd hn (by rw [same_self];exact h)
end
section
variable {X:Cx}
end
end L2
namespace L2
open PySem PySem.Spec PyProof.Rows
section
variable {X:Cx}
end
end L2
namespace L2
open PySem PySem.Spec PyProof.Rows
section
variable {X:Cx}
noncomputable def tDead:TS:=fun _ _ _=>False
theorem ps_dead {st:Stmt}:PS X st tDead:=fun _ _ _ _ _ _ h=>h.elim
end
end L2
namespace L2
open PySem PySem.Spec PyProof.Rows
section
variable {prog:Program}{w:World}{A:Around}{E:Value→Shared→Prop}{s:Shared}
end
section
variable {prog:Program}{w:World}{A:Around}{E:Value→Shared→Prop}{s:Shared}
end
section
variable {X:Cx}
end
end L2
namespace L2
open PySem PySem.Spec PyProof.Rows
section
variable {prog:Program}{w:World}{A:Around}{R:Result→Shared→Prop}{I:Addr}{fp wr:List Addr}{n:Nat}{P:Nat→Value→Prop}{St:Nat→Heap→Prop}
end
section
variable {prog:Program}{w:World}{A:Around}{E:Value→Shared→Prop}{s:Shared}
end
section
variable {X:Cx}
end
end L2
namespace L2
open PySem PySem.Spec PyProof.Rows
structure Cal (P:Program) (w:World) (K:PySem.W.Frag) (mg:Str→Option Value) (base:Heap) (k:Nat) (x:Str) (ps:List Str) (sp:Sp):Prop where
  ex:∃ a fd,mg x=some (.ref a)∧PySem.W.keepIn K (.ref a)=true∧Binds K fd ps []∧FnOk P w K mg base CX0 k a fd ps sp
structure FunIn (K:PySem.W.Frag) (mg:Str→Option Value) (x:Str) (st:Stmt) (ps:List Str):Prop where
  ex:∃ a fd,mg x=some (.ref a)∧Fun K x x st a fd∧∀ us:List Value,us.length=ps.length→bindArgs fd ⟨us,[]⟩=pure (ps.zip us)
section
variable {P:Program}{w:World}{K:PySem.W.Frag}{mg:Str→Option Value}{base:Heap}
theorem FunIn.cal {x:Str}{st:Stmt}{ps N:List Str}{rd:TS}{k:Nat}{sp:Sp} (F:FunIn K mg x st ps) (S:FnScope N ps (defScope st)) (len:∀ vs H Q E,sp vs H Q E→vs.length=ps.length)
    (hb:∀ (f:Addr) (cdv:Value) (A:Around) (outer:List Env) (s:Shared) (H:Hp) (E:XK),Room k (A.deeper (envOfC x (defScope st) s.heap.objs.size f cdv))→PSs (cxOf CX0 P w K mg base N x (defScope st) f cdv A outer s H E).nox (defBody st) rd)
    (hr:∀ vs H Q E,sp vs H Q E→rd {nx:=fun _ H'=>Q .non H',rt:=Q} (start N vs) H):Cal P w K mg base (k + 1) x ps sp:=by
  obtain ⟨a,fd,hm,hF,hbd⟩:=F.ex
  exact ⟨a,fd,hm,hF.kp,.all hbd,hF.ok S len fun cdv A outer s H vs Q E room h=>⟨rd,hb a cdv A outer s H E room,hr vs H Q E h⟩⟩
theorem FunIn.law {x:Str}{st:Stmt}{N:List Str}{y:Str}{rd:TS}{k:Nat}{sp:Sp}{fa:Addr} (F:FunIn K mg x st [y]) (hfa:mg x=some (.ref fa)) (S:FnScope N [y] (defScope st)) (len:∀ vs H Q E,sp vs H Q E→vs.length=1)
    (hb:∀ (base:Heap) (f:Addr) (cdv:Value) (A:Around) (outer:List Env) (s:Shared) (H:Hp) (E:XK),Room k (A.deeper (envOfC x (defScope st) s.heap.objs.size f cdv))→PSs (cxOf CX0 P w K mg base N x (defScope st) f cdv A outer s H E).nox (defBody st) rd)
    (hr:∀ vs H Q E,sp vs H Q E→rd {nx:=fun _ H'=>Q .non H',rt:=Q} (start N vs) H):
    ∃ fd:FuncData,(∀ (s:Shared) (u:Value),BindsTo s fd ⟨[u],[]⟩ [(y,u)])∧∀ base:Heap,FnOk P w K mg base CX0 (k + 1) fa fd [y] sp:=by
  obtain ⟨a,fd,hm,hF,hbd⟩:=F.ex
  have e:=hfa.symm.trans hm
  cases e
  exact ⟨fd,fun s u=>.of_eq (hbd [u] rfl),fun base=>hF.ok S len fun cdv A outer s H vs Q E room h=>⟨rd,hb base fa cdv A outer s H E room,hr vs H Q E h⟩⟩
theorem fun_in {h:Heap}{x:Str}{st:Stmt}{ps:List Str}{f:Addr}{oc:Value}{od an:Option Addr}{osl:Array (Option Value)}{kV doc pm cdv ct:Value} (X:K.In h) (G:h.Ns mainGlobals mg)
    (a4:PySem.W.nsIn K mainGlobals x=some (some (.ref f))) (l4:K.lookup f=some ⟨oc,od,.func (PySem.W.fnOf x x (defArgs st) (defBody st) (defScope st) .none kV doc pm an cdv ct),osl⟩)
    (c4:PySem.W.codeIn K cdv x=true) (k4:PySem.W.keepIn K (.ref f)=true)
    (hb:∀ (kV doc pm:Value) (an:Option Addr) (cdv ct:Value) (us:List Value),us.length=ps.length→bindArgs (PySem.W.fnOf x x (defArgs st) (defBody st) (defScope st) .none kV doc pm an cdv ct) ⟨us,[]⟩=pure (ps.zip us)):FunIn K mg x st ps:=
  ⟨f,_,PySem.W.mg_of X G a4,fun_mk l4 c4 k4,hb kV doc pm an cdv ct⟩
end
section
variable {X:Cx}{k:Nat}{ps:List Str}{sp:Sp}{x:Str}{p pos:Pos}{e:Expr}{es:List Expr}{t:TA}
theorem pe_cal (C:Cal X.prog X.w X.K X.mg X.base k x ps sp) (hr:Room k X.A) (ha:PA X (e::es) t) (hg:Gl X x:=by rfl) (hdb:(x==("__debug__":Str))=false:=by decide)
    (he:starEach (e::es) X.env=(false,eval e X.env)::starEach es X.env:=by rfl) (hpl:(backTo pos (starEach es X.env)).any (·.1)=false:=by rfl):PE X (.Call (.Name x p) (e::es) [] pos) (tCall sp [] E0 t):=by
  obtain ⟨a,fd,hm,hk,hb,F⟩:=C.ex
  exact pe_call F hr hg hm hk hb .nil pass0 ha hdb he hpl
theorem ip_of {op:Operator}{r:R2} (h:OpR X (inplaceOp op) r):PIp X op r:=h
theorem mg_name {K:PySem.W.Frag}{mg:Str→Option Value}{h:Heap}{x:Str} (X:K.In h) (G:h.Ns mainGlobals mg) (z:PySem.W.nsIn K mainGlobals x=some none):mg x=none:=PySem.W.mg_none_of X G z
end
noncomputable def spOf (n:Nat) (R:List V→Hp→VK→Prop):Sp:=fun vs H Q _=>vs.length=n∧R vs H Q
theorem spOf_len {n:Nat}{R:List V→Hp→VK→Prop}{m:Nat} (e:n=m):∀ vs H Q E,spOf n R vs H Q E→vs.length=m:=fun _ _ _ _ h=>h.1.trans e
noncomputable def sp_law (K:PySem.W.Frag):Sp:=spOf 1 fun vs H Q=>∃ (a:Addr) (ns:List Int),vs=[.ref a]∧SqL K H a (ns.map V.int)∧ns.length≤63∧∀ H',Q (.bl true) H'
theorem walk_law {l:PySem.W.OpenLaw}{k:Nat}{q:Program}{loose:List Str}{XP:(Str→Option Value)→Heap→Prop}{YP:World→Heap→Prop}{d:DefRec}{K:Params→PySem.W.Frag} (hn:l.most=some 63) (hdf:d.params.defaults=[]) (hr:Room k callerA)
    (hY:∀ (w:World) (h:Heap),YP w h→(K w.params).In h)
    (F:∀ (w:World) (mg:Str→Option Value) (fa:Addr) (h:Heap),(K w.params).In h→h.Ns mainGlobals mg→mg d.name=some (.ref fa)→
      ∃ fd:FuncData,(∀ (s:Shared) (u:Value),BindsTo s fd ⟨[u],[]⟩ [("script",u)])∧∀ base:Heap,FnOk l.prog w (K w.params) mg base CX0 k fa fd ["script"] (sp_law (K w.params))):
    PySem.W.WalkO q loose XP YP l.row.toRowW d [] (fun f vs=>PySem.call f vs):=
  walk_of (n:=63) (k:=k) (x:="script") (CX:=fun _=>CX0) (sp:=fun w=>sp_law (K w.params)) hn (by decide) hdf hr hY
    (fun w mg fa h KX G e=>let ⟨fd,h1,h2⟩:=F w mg fa h KX G e;⟨fd,h1,fun base _ _=>h2 base⟩) (fun _ _ a ns hl _ hS=>⟨rfl,a,ns,rfl,hS,hl,fun _=>rfl⟩) fun _ _ _ _ _ z=>z
end L2
namespace L2
open PySem PySem.Spec PyProof.Rows
section
variable {M:Model}{A:Around}{E:Value→Shared→Prop}{s:Shared}
end
section
variable {X:Cx}{pins:List (Addr×Obj)}{σ:St}{H:Hp}{s:Shared}{h':Heap}
end
section
variable {X:Cx}{pins:List (Addr×Obj)}{σ:St}{H H':Hp}{s:Shared}{ch:List Addr}
end
section
variable {P:Program}{w:World}{K:PySem.W.Frag}{mg:Str→Option Value}{base:Heap}{N:List Str}{qual:Str}{scope:Scope}{f:Addr}{cd:Value}{A:Around}{outer:List Env}{s0 s:Shared}{H0 H:Hp}{E:XK}{pins:List (Addr×Obj)}{σ:St}
end
section
variable {M:Model}{A:Around}{E:Value→Shared→Prop}{s:Shared}
end
section
variable {X:Cx}{pins:List (Addr×Obj)}{σ:St}{H:Hp}{s:Shared}
end
section
variable {X:Cx}{k:Nat}{f:Addr}{fd:FuncData}{ps:List Str}{sp:Sp}{dvs:List V}{ds:List Value}{E:XK}{x:Str}{p pos:Pos}{e:Expr}{es:List Expr}{t:TA}
end
section
variable {X:Cx}{x n:Str}{C:Value}{i:Nat}{t:XK→TE}{tb:TS}{e:Expr}{b₀:Stmt}{suite:List Stmt}{pos epos hpos np:Pos}
end
section
open PySem.W
section
variable {prog:Program}{w:World}{A:Around}{E:Value→Shared→Prop}{h:Heap}{g:Array GenState}{d:Drawn}{t:Nat}{os:OsState}{a C:Addr}{o:Obj}{K:Frag}
end
section
variable {X:Cx}{pins:List (Addr×Obj)}{σ:St}{H:Hp}{s:Shared}{A:Around}{E:Value→Shared→Prop}{Q:Value→Shared→Prop}{c:Value}{b:Bool}
end
end
section
variable {P:Program}{w:World}{K:PySem.W.Frag}{mg:Str→Option Value}{base:Heap}{N:List Str}{qual:Str}{scope:Scope}{f C:Addr}{cd:Value}{A:Around}{outer:List Env}{s0:Shared}{H0:Hp}{E:XK}{x:Str}{np cpos pos:Pos}{e:Expr}{es:List Expr}{t:TA}{B Bn newId nid initId inN:String}{bm bmN:List Value}
end
section
variable {X:Cx}
end
section
variable {P:Program}{w:World}{K:PySem.W.Frag}{mg:Str→Option Value}{base:Heap}
end
section
variable {X:Cx}{k:Nat}{ps:List Str}{sp:Sp}{x:Str}{p pos:Pos}{e:Expr}{es:List Expr}{t:TA}
end
section
variable {P:Program}{w:World}{K:PySem.W.Frag}{mg:Str→Option Value}{base:Heap}{N:List Str}{qual:Str}{scope:Scope}{f:Addr}{cd:Value}{A:Around}{outer:List Env}{s0:Shared}{H0:Hp}{E:XK}{k:Nat}{ps:List Str}{sp:Sp}{x:Str}{p pos:Pos}{e:Expr}{es:List Expr}{t:TA}
end
section
variable {X:Cx}{k:Nat}{x:Str}{ps:List Str}{sp:Sp}{e:Expr}{es:List Expr}{t:TA}{p pos:Pos}
end
noncomputable def clsA (K:PySem.W.Frag) (x:Str):Addr:=match PySem.W.nsIn K mainGlobals x with
  | some (some (.ref C))=>C
  | _=>0
theorem clsA_of {K:PySem.W.Frag}{x:Str}{C:Addr} (e:PySem.W.nsIn K mainGlobals x=some (some (.ref C))):clsA K x=C:=by
  unfold clsA;rw [e]
section
variable {K:PySem.W.Frag}{mg:Str→Option Value}{h:Heap}{x:Str}{C N:Addr}{nm q:Str}{bs bm:List Value}{hdct:Bool}{sn:List Str}{sub:List Value}{ab:Bool}{col:Option Bool}{dd:Option Addr}{k0 k1 k2 k3 k5:Option Value}
  {c:Value}{d:Option Addr}{es:Array DictEntry}{ep:Nat}{sl:Array (Option Value)}{cdat:ClassData}
end
section
variable {K:PySem.W.Frag}{x y:Str}{C D:Addr}{cd:ClassData}{r:Bool}{T:String}
end
section
variable {P:Program}{w:World}{K:PySem.W.Frag}{mg:Str→Option Value}{base:Heap}{N:List Str}{qual:Str}{scope:Scope}{f:Addr}{cd:Value}{A:Around}{outer:List Env}{s0:Shared}{H0:Hp}{E:XK}{x:Str}{np cpos pos:Pos}{e:Expr}{es:List Expr}{t:TA}
end
end L2
namespace L2
open PySem PySem.Spec PyProof.Rows PySem.Builtin PySem.Builtin.Str
section
variable {X:Cx}
theorem strs_of:∀ {xs:List Str}{us:List Value},Vals (xs.map V.str) us→∃ l:List (Str×Tok),us=strValues l∧l.map (·.1)=xs
  | [],_,.nil=>⟨[],rfl,rfl⟩
  | x::xs,_,.cons ⟨t,e⟩ r=>by
    obtain ⟨l,h1,h2⟩:=strs_of r
    exact ⟨(x,t)::l,by rw [e,h1];rfl,by rw [List.map_cons,h2]⟩
noncomputable def rJoin (K:PySem.W.Frag):V→List V→Hp→VK→Prop:=fun x vs H Q=>∃ (sep:Str) (p:Addr) (xs:List Str),x=.str sep∧vs=[.ref p]∧SqL K H p (xs.map V.str)∧tooLong (xs.toArray.foldl (· + ·.length + sep.length) 0)=false∧(glued sep xs).length≤sizeLine∧Q (.str (glued sep xs)) H
theorem mt_join:MtM X "str.join" (rJoin X.K):=by
  intro pins s σ H x vs v us Q I rx rv h
  obtain ⟨sep,p,xs,rfl,rfl,hS,hl,hz2,q⟩:=h
  obtain ⟨t,rfl⟩:=rx
  obtain ⟨u,rfl,ru⟩:=rv.one
  cases ru
  obtain ⟨its,rvs,pl,hz⟩:=I.list hS
  obtain ⟨l,rfl,hx⟩:=strs_of rvs
  refine call_meets F.slot_str_join (typeIs_str _ _ _) F.entry_str_join (F.args_str_join_2 _ _) (meets_str_join_list sep t p l (by rw [hx];exact hl)) ⟨pl.isList,?_⟩
  have fin:∀ (t':Tok) (tk:Nat),EP X pins σ Q (.str (glued sep xs) t') {s with toks:=tk}:=fun t' tk=>⟨.str (glued sep xs),H,I.tok tk,⟨t',rfl⟩,q⟩
  rcases l with _ | ⟨p1,_ | ⟨p2,l⟩⟩
  · subst hx
    exact ⟨hz2,fin _ _⟩
  · subst hx
    have e:glued sep [p1.1]=p1.1:=by first | rfl | simp [glued]
    have:=fin p1.2 s.toks
    rw [show (List.map (·.1) [p1])=[p1.1] from rfl,e] at this
    exact this
  · subst hx
    exact ⟨hz2,fin _ _⟩
noncomputable def rSlS:V→Option Int→Option Int→Hp→VK→Prop:=fun x lo hi H Q=>∃ z:Str,x=.str z∧z.length≤sizeLine∧Q (.str (PySem.Txt.slice z lo hi)) H
theorem sl_str:SlR X rSlS:=by
  intro pins s σ H x v vl vu lo hi sl Q I rx hs pl pu h
  obtain ⟨z,rfl,hz,q⟩:=h
  obtain ⟨t,rfl⟩:=rx
  refine ⟨"str",_,F.slot_str_getitem.lookup,typeIs_str _ _ _,?_⟩
  have fin:∀ (t':Tok) (k:Nat),EP X pins σ Q (.str (PySem.Txt.slice z lo hi) t') {s with toks:=k}:=fun t' k=>⟨.str (PySem.Txt.slice z lo hi),H,I.tok k,⟨t',rfl⟩,q⟩
  have hle:=Nat.le_trans (PySem.Txt.slice_le z lo hi) hz
  cases pl with
  | none=>
    cases pu with
    | none=>exact wpAny_getItem_str_slice (l:=none) (u:=none) (st:=none) hs rfl (post_val_or_str ⟨hle,fin⟩)
    | int j uj=>exact wpAny_getItem_str_slice (l:=none) (u:=some (j,uj)) (st:=none) hs rfl (post_val_or_str ⟨hle,fin⟩)
  | int i ui=>
    cases pu with
    | none=>exact wpAny_getItem_str_slice (l:=some (i,ui)) (u:=none) (st:=none) hs rfl (post_val_or_str ⟨hle,fin⟩)
    | int j uj=>exact wpAny_getItem_str_slice (l:=some (i,ui)) (u:=some (j,uj)) (st:=none) hs rfl (post_val_or_str ⟨hle,fin⟩)
end
end L2
namespace L2
open PySem PySem.Spec PyProof.Rows
noncomputable def Itx (x:Str):It:=⟨fun i _=>i < x.cps.size,fun i H v H'=>H'=H∧v=.str ⟨#[x.cps.getD i 0]⟩,fun i _=>x.cps.size≤i⟩
theorem turn_text {P:Program}{w:World}{K:PySem.W.Frag}{tg:Expr} (it:Addr) (x:Str) (t:Tok):Turn P w K tg (Itx x) [it] it (fun i h=>h.IsStrIter it "str_ascii_iterator" x t i) where
  mem:=by simp
  obj:=fun i h st b hb=>by
    have e:b=it:=by simpa using hb
    subst e
    obtain ⟨o,e,c,d⟩:=st
    exact ⟨o,e,fun v z=>by rw [d] at z;cases z⟩
  keep:=fun i h h' st k=>by
    obtain ⟨o,e,r⟩:=st
    exact ⟨o,k it (by simp) o e,r⟩
  item:=by
    intro X hP hw hK hc i pins s σ H E I hf st hg
    subst hP hw hK
    obtain ⟨f0,f1,f2,f3,f4,f5⟩:=hf it (by simp)
    have hg:i < x.cps.size:=hg
    refine wpAny_pyNext_ascii_item st (c:=x.cps[i]) (by simp [hg]) fun h' st' sb=>?_
    have I1:Inv X pins σ H {s with heap:=h',toks:=s.toks + 1}:=I.turned (t':=s.toks + 1) (fun b o hb e=>(sb.2 b hb).trans e) f0 f1 f3 f4 f5
    obtain ⟨o,e,c,d⟩:=id st'
    have ex:x.cps.getD i 0=x.cps[i]:=by simp [Array.getD,hg]
    exact ⟨_,rfl,go_of (s:={s with heap:=h',toks:=s.toks + 1}) e c d (by decide) ⟨.str ⟨#[x.cps[i]]⟩,H,I1,⟨_,rfl⟩,⟨rfl,by rw [ex]⟩,st',fun b hb=>(hf b hb).1⟩⟩
  done:=by
    intro X hP hw hK hc i pins s σ H E I hf st hg
    subst hP hw hK
    obtain ⟨f0,f1,f2,f3,f4,f5⟩:=hf it (by simp)
    have hg:x.cps.size≤i:=hg
    exact wpAny_pyNext_ascii_end (I.ok.hd hc) st (by simp;omega) fun h' eb=>⟨rfl,I.turned (t':=s.toks) (fun b o hb e=>eb b o hb e) f0 f1 f3 f4 f5⟩
  self:=fun _ _ _ _ _ st h=>wpAny_pyIter_striter_ascii st h
section
variable {X:Cx}{tg:Expr}
noncomputable def iText (tl:TE):TI:=fun σ H R=>tl σ H fun v H1=>∃ x:Str,v=.str x∧x.cps.all (· < 128)=true∧R (Itx x) H1
theorem pi_text {l:Expr}{tl:TE} (hl:PE X l tl):PI X tg l (iText tl):=by
  intro pins s σ H R I h
  refine thn (hl pins s σ H _ I h) fun v s1 ⟨y,H1,I1,r1,q1⟩=>?_
  obtain ⟨x,e,ha,q⟩:=q1
  subst e
  obtain ⟨t,rfl⟩:=r1
  refine wpAny_pyIter_ascii ha ?_
  refine ⟨s1.heap.objs.size,[s1.heap.objs.size],_,_,H1,rfl,I1.kept (t':=s1.toks) fun b o e=>Heap.get?_push_of_some _ e,turn_text _ x t,⟨_,Heap.get?_push_size _ rfl,rfl,rfl⟩,fun b hb=>?_,q⟩
  have e:b=s1.heap.objs.size:=by simpa using hb
  subst e
  exact I1.fpOk (Nat.le_refl _) (I1.hok.fresh (Nat.le_refl _))
end
theorem ys_text {x:Str} (p:Nat):Ys (Itx x) (gName p) (fun _=>True) x.cps.size (fun i σ=>σ.set p (some (.str ⟨#[x.cps.getD i 0]⟩))) where
  go:=fun i H hi _=>hi
  stop:=fun H _=>Nat.le_refl _
  yld:=fun i H v H' σ Q hi _ y q=>by
    obtain ⟨e,y⟩:=y
    subst e y
    exact q _ (Same.refl _)
section
variable {X:Cx}
end
end L2
namespace L2
open PySem PySem.Spec PyProof.Rows
section
variable {X:Cx}{x n y:Str}{j:Nat}{py:Pos}{C:Value}{i:Nat}{t:XK→TE}{tb:TS}{e:Expr}{b₀:Stmt}{suite:List Stmt}{pos epos hpos np:Pos}
end
structure KonS (mg:Str→Option Value) (x:Str) (i:Str):Prop where
  ex:∃ t,mg x=some (.str i t)
theorem KonS.pe {X:Cx}{x:Str}{i:Str}{pos:Pos} (k:KonS X.mg x i) (hg:Gl X x) (hd:(x==("__debug__":Str))=false:=by decide):PE X (.Name x pos) (tC (.str i)):=by
  obtain ⟨t,e⟩:=k.ex
  exact pe_glob hg e ⟨t,rfl⟩ hd
theorem konS_in {K:PySem.W.Frag}{mg:Str→Option Value}{h:Heap}{x:Str}{i:Str}{t:Tok} (X:K.In h) (G:h.Ns mainGlobals mg) (z:PySem.W.nsIn K mainGlobals x=some (some (.str i t))):KonS mg x i:=⟨t,PySem.W.mg_of X G z⟩
noncomputable def rAddS:R2:=fun x y H Q=>∃ i j,x=.str i∧y=.str j∧i.length + j.length≤sizeLine∧Q (.str (i ++ j)) H
noncomputable def rInS:R2:=fun x y H Q=>∃ i j,x=.str i∧y=.str j∧Q (.bl (!(Builtin.Str.occurrences j i 0 j.length 1).isEmpty)) H
noncomputable def rLenT:List V→Hp→VK→Prop:=fun xs H Q=>∃ z:Str,xs=[.str z]∧z.length≤sizeLine∧Q (.int z.length) H
section
variable {X:Cx}
theorem op_addS:OpR X (binaryOp .Add) rAddS:=op_add_str
theorem op_inS:OpR X (compareOp .In) rInS:=op_in_str
theorem call_lenT:CallR X (.builtin "len") rLenT:=call_len_str
end
end L2
namespace L2
open PySem PySem.Spec PyProof.Rows
structure MethIn (K:PySem.W.Frag) (c m qual:Str) (st:Stmt) (ps:List Str):Prop where
  ex:∃ f fd,Meth K (clsA K c) m f∧Fun K m qual st f fd∧∀ us:List Value,us.length=ps.length→bindArgs fd ⟨us,[]⟩=pure (ps.zip us)
structure CalM (CX:CXT) (P:Program) (w:World) (K:PySem.W.Frag) (mg:Str→Option Value) (base:Heap) (k:Nat) (c m:Str) (ps:List Str) (sp:Sp):Prop where
  ex:∃ f fd,Meth K (clsA K c) m f∧Binds K fd ps []∧FnOk P w K mg base CX k f fd ps sp
structure ClsIn (K:PySem.W.Frag) (mg:Str→Option Value) (c:Str):Prop where
  bound:mg c=some (.ref (clsA K c))
  cls:Cls K (clsA K c)
  makes:PySem.W.makesIn K (clsA K c)=true
  kp:PySem.W.keepIn K (.ref (clsA K c))=true
section
variable {P:Program}{w:World}{K:PySem.W.Frag}{mg:Str→Option Value}{base:Heap}
theorem MethIn.cal {c m qual:Str}{st:Stmt}{ps N:List Str}{rd:TS}{k:Nat}{sp:Sp} (F:MethIn K c m qual st ps) (S:FnScope N ps (defScope st)) (len:∀ vs H Q E,sp vs H Q E→vs.length=ps.length)
    (hb:∀ (f:Addr) (cdv:Value) (A:Around) (outer:List Env) (s:Shared) (H:Hp) (E:XK),Room k (A.deeper (envOfC qual (defScope st) s.heap.objs.size f cdv))→PSs (cxOf CX0 P w K mg base N qual (defScope st) f cdv A outer s H E).nox (defBody st) rd)
    (hr:∀ vs H Q E,sp vs H Q E→rd {nx:=fun _ H'=>Q .non H',rt:=Q} (start N vs) H):CalM CX0 P w K mg base (k + 1) c m ps sp:=by
  obtain ⟨a,fd,hm,hF,hbd⟩:=F.ex
  exact ⟨a,fd,hm,.all hbd,hF.ok S len fun cdv A outer s H vs Q E room h=>⟨rd,hb a cdv A outer s H E room,hr vs H Q E h⟩⟩
theorem meth_in {h:Heap}{c m qual:Str}{st:Stmt}{ps:List Str}{C f:Addr}{oc:Value}{od an:Option Addr}{osl:Array (Option Value)}{kV doc pm cdv ct:Value}
    (a:PySem.W.nsIn K mainGlobals c=some (some (.ref C))) (a4:PySem.W.findIn K (.ref C) m=some (some (.ref f))) (fn:PySem.W.isFn K (.ref f)=true) (l4:K.lookup f=some ⟨oc,od,.func (PySem.W.fnOf m qual (defArgs st) (defBody st) (defScope st) .none kV doc pm an cdv ct),osl⟩)
    (c4:PySem.W.codeIn K cdv qual=true) (k4:PySem.W.keepIn K (.ref f)=true)
    (hb:∀ (kV doc pm:Value) (an:Option Addr) (cdv ct:Value) (us:List Value),us.length=ps.length→bindArgs (PySem.W.fnOf m qual (defArgs st) (defBody st) (defScope st) .none kV doc pm an cdv ct) ⟨us,[]⟩=pure (ps.zip us)):MethIn K c m qual st ps:=
  ⟨f,_,by rw [clsA_of a];exact ⟨a4,fn,k4⟩,fun_mk l4 c4 k4,hb kV doc pm an cdv ct⟩
theorem cls_in {h:Heap}{c:Str}{C:Addr} (X:K.In h) (G:h.Ns mainGlobals mg) (a:PySem.W.nsIn K mainGlobals c=some (some (.ref C))) (pg:PySem.W.plainGet K C Str.empty=true) (hd:PySem.W.hasDictIn K C=true) (po:PySem.W.plainOver K C=true)
    (sa:PySem.W.findIn K (.ref C) "__setattr__"=some (some (.builtin "object.__setattr__"))) (mk:PySem.W.makesIn K C=true) (kp:PySem.W.keepIn K (.ref C)=true):ClsIn K mg c:=by
  have e:=clsA_of a
  exact ⟨by rw [e];exact PySem.W.mg_of X G a,by rw [e];exact ⟨pg,hd,po,sa⟩,by rw [e];exact mk,by rw [e];exact kp⟩
theorem noattr_in {c f:Str}{C:Addr} (a:PySem.W.nsIn K mainGlobals c=some (some (.ref C))) (n:PySem.W.findIn K (.ref C) f=some none):NoAttr K (clsA K c) f:=by
  rw [clsA_of a];exact n
end
section
variable {X:Cx}{k:Nat}{c m:Str}{ps:List Str}{sp:Sp}{o e:Expr}{es:List Expr}{ta:TE}{t:TA}{apos pos p:Pos}{pl:Sem Bool}
theorem pe_mcal (M:CalM CX0 X.prog X.w X.K X.mg X.base k c m ps sp) (C:ClsIn X.K X.mg c) (hr:Room k X.A) (he:PE X o ta) (ha:PA X (e::es) t)
    (hst:starEach (e::es) X.env=(false,eval e X.env)::starEach es X.env:=by rfl) (hpl:(backTo pos (starEach es X.env)).any (·.1)=false:=by rfl)
    (ht:eval (.Call (.Attribute o m apos) (e::es) [] pos) X.env=(do
      let ov ← eval o X.env
      standAt apos.atName
      let (f,first) ← holding [ov] (getMethod ov m pl)
      callWith pos f first (backTo pos (starEach (e::es) X.env)) (backToKw pos (keywordEach [] X.env))):=by rfl):PE X (.Call (.Attribute o m apos) (e::es) [] pos) (tMeth (clsA X.K c) m sp [] E0 ta t):=by
  obtain ⟨f,fd,hm,hb,F⟩:=M.ex
  exact pe_meth he C.cls hm F hr hb .nil pass0 ha hst hpl ht
theorem pe_mcal0 (M:CalM CX0 X.prog X.w X.K X.mg X.base k c m ps sp) (C:ClsIn X.K X.mg c) (hr:Room k X.A) (he:PE X o ta)
    (ht:eval (.Call (.Attribute o m apos) [] [] pos) X.env=(do
      let ov ← eval o X.env
      standAt apos.atName
      let (f,first) ← holding [ov] (getMethod ov m pl)
      callWith pos f first (backTo pos (starEach [] X.env)) (backToKw pos (keywordEach [] X.env))):=by rfl):PE X (.Call (.Attribute o m apos) [] [] pos) (tMeth (clsA X.K c) m sp [] E0 ta tNil):=by
  obtain ⟨f,fd,hm,hb,F⟩:=M.ex
  exact pe_meth0 he C.cls hm F hr hb .nil pass0 ht
theorem pe_mkcal0 (M:CalM CX0 X.prog X.w X.K X.mg X.base k c "__init__" ps sp) (C:ClsIn X.K X.mg c) (hr:Room (k + 1) X.A) (hg:Gl X c:=by rfl) (hdb:(c==("__debug__":Str))=false:=by decide):PE X (.Call (.Name c p) [] [] pos) (tMake (clsA X.K c) sp [] E0 tNil):=by
  obtain ⟨f,fd,hm,hb,F⟩:=M.ex
  exact pe_make0 ⟨C.makes,hm.at_,hm.fn,C.kp⟩ F hr hg C.bound hb .nil pass0 hdb
end
section
variable {P:Program}{w:World}{K:PySem.W.Frag}{mg:Str→Option Value}{base:Heap}{N:List Str}{qual:Str}{scope:Scope}{f:Addr}{cd:Value}{A:Around}{outer:List Env}{s0:Shared}{H0:Hp}{E:XK}{k:Nat}{ps:List Str}{sp:Sp}{c m:Str}{apos pos:Pos}{o e:Expr}{es:List Expr}{ta:TE}{t:TA}{pl:Sem Bool}
end
end L2
namespace L2
open PySem PySem.Spec PyProof.Rows
section
variable {κ:Type} [DecidableEq κ]
noncomputable def valV (kvs:List (κ×V)) (k:κ):Option V:=(kvs.find? fun kv=>decide (kv.1=k)).map (·.2)
noncomputable def putK (kvs:List (κ×V)) (k:κ) (v:V):List (κ×V):=
  if (kvs.any fun kv=>decide (kv.1=k))=true then kvs.map (fun kv=>if kv.1=k then (kv.1,v) else kv) else kvs ++ [(k,v)]
noncomputable def dropK (kvs:List (κ×V)) (k:κ):List (κ×V):=kvs.filter fun kv=>decide (kv.1≠k)
theorem valV_pos {p:κ×V}{r:List (κ×V)}{k:κ} (e:p.1=k):valV (p::r) k=some p.2:=by simp [valV,List.find?_cons,e]
theorem valV_neg {p:κ×V}{r:List (κ×V)}{k:κ} (e:¬ p.1=k):valV (p::r) k=valV r k:=by simp [valV,List.find?_cons,e]
theorem valV_any (k:κ):∀ kvs:List (κ×V),(kvs.any fun kv=>decide (kv.1=k))=(valV kvs k).isSome
  | []=>rfl
  | p::r=>by
    rw [List.any_cons]
    by_cases e:p.1=k
    · simp only [valV_pos e,decide_eq_true e,Bool.true_or,Option.isSome_some]
    · rw [valV_neg e,decide_eq_false e,Bool.false_or];exact valV_any k r
theorem length_putK (kvs:List (κ×V)) (k:κ) (v:V):(putK kvs k v).length≤kvs.length + 1:=by
  unfold putK
  split
  · rw [List.length_map];omega
  · rw [List.length_append,List.length_cons,List.length_nil];omega
theorem putK_new {kvs:List (κ×V)}{k:κ} (v:V) (h:valV kvs k=none):putK kvs k v=kvs ++ [(k,v)]:=by
  unfold putK
  rw [valV_any,h]
  exact if_neg (by decide)
theorem RelO.isSome_eq {o:Option V}{u:Option Value} (r:RelO o u):o.isSome=u.isSome:=by
  cases o with
  | none=>cases u with
    | none=>rfl
    | some _=>exact (show False from r).elim
  | some _=>cases u with
    | none=>exact (show False from r).elim
    | some _=>rfl
theorem KV.val {kvs:List (κ×V)}{vs:List (κ×Value)} (r:KV kvs vs) (k:κ):RelO (valV kvs k) (valueAt vs k):=by
  unfold KV at r
  induction r with
  | nil=>exact True.intro
  | @cons p q ps qs h t ih=>
    obtain ⟨h1,h2⟩:=h
    by_cases e:p.1=k
    · have e':q.1=k:=h1.symm.trans e
      have b:valueAt (q::qs) k=some q.2:=by simp [valueAt,List.find?_cons,e']
      rw [valV_pos e,b];exact h2
    · have e':¬ q.1=k:=fun z=>e (h1.trans z)
      have b:valueAt (q::qs) k=valueAt qs k:=by simp [valueAt,List.find?_cons,e']
      rw [valV_neg e,b];exact ih
theorem KV.any {kvs:List (κ×V)}{vs:List (κ×Value)} (r:KV kvs vs) (k:κ):(kvs.any fun kv=>decide (kv.1=k))=vs.any fun kv=>decide (kv.1=k):=by
  unfold KV at r
  induction r with
  | nil=>rfl
  | cons h t ih=>rw [List.any_cons,List.any_cons,ih,h.1]
theorem KV.repl {kvs:List (κ×V)}{vs:List (κ×Value)} (r:KV kvs vs) (k:κ) {y:V}{u:Value} (ry:RelV y u):
    KV (kvs.map fun kv=>if kv.1=k then (kv.1,y) else kv) (vs.map fun kv=>if kv.1=k then (kv.1,u) else kv):=by
  unfold KV at r ⊢
  induction r with
  | nil=>exact .nil
  | @cons p q ps qs h t ih=>
    rw [List.map_cons,List.map_cons]
    refine .cons ?_ ih
    obtain ⟨h1,h2⟩:=h
    by_cases e:p.1=k
    · rw [if_pos e,if_pos (h1.symm.trans e)];exact ⟨h1,ry⟩
    · rw [if_neg e,if_neg (fun z=>e (h1.trans z))];exact ⟨h1,h2⟩
theorem KV.put {kvs:List (κ×V)}{vs:List (κ×Value)} (r:KV kvs vs) (k:κ) {y:V}{u:Value} (ry:RelV y u):KV (putK kvs k y) (stored vs k u):=by
  unfold putK stored
  rw [r.any k]
  by_cases e:(vs.any fun kv=>decide (kv.1=k))=true
  · rw [if_pos e,if_pos e];exact r.repl k ry
  · rw [if_neg e,if_neg e];exact Paired.snoc r ⟨rfl,ry⟩
theorem KV.drop {kvs:List (κ×V)}{vs:List (κ×Value)} (r:KV kvs vs) (k:κ):KV (dropK kvs k) (without vs k):=by
  unfold KV at r ⊢
  unfold dropK without
  induction r with
  | nil=>exact .nil
  | @cons p q ps qs h t ih=>
    obtain ⟨h1,h2⟩:=h
    rw [List.filter_cons,List.filter_cons]
    by_cases e:p.1=k
    · have a:¬ decide (p.1≠k)=true:=by simp [e]
      have b:¬ decide (q.1≠k)=true:=by simp [h1.symm.trans e]
      rw [if_neg a,if_neg b];exact ih
    · have e':¬ q.1=k:=fun z=>e (h1.trans z)
      have a:decide (p.1≠k)=true:=by simp [e]
      have b:decide (q.1≠k)=true:=by simp [e']
      rw [if_pos a,if_pos b];exact .cons ⟨h1,h2⟩ ih
theorem KV.length {kvs:List (κ×V)}{vs:List (κ×Value)} (r:KV kvs vs):kvs.length=vs.length:=Paired.length r
theorem dropK_le (kvs:List (κ×V)) (k:κ):(dropK kvs k).length≤kvs.length:=List.length_filter_le _ _
end
theorem kV_is {P:Program}{w:World}{k:Key}{u:Value} (r:RelV (kV k) u):(mixKind P w).is k u=true:=by
  cases k with
  | inl i=>obtain ⟨t,e⟩:=(show ∃ t,u=Value.int i t from r);subst e;exact mixKind_int P w i t
  | inr x=>obtain ⟨t,e⟩:=(show ∃ t,u=Value.str x t from r);subst e;exact mixKind_str P w x t
theorem items_are {P:Program}{w:World}:∀ {ks:List Key}{us:List Value},Vals (ks.map kV) us→ItemsAre (mixKind P w) ks us
  | [],_,r=>by rw [List.map_nil] at r;cases r;exact .nil
  | k::ks,_,r=>by
    rw [List.map_cons] at r
    cases r with
    | cons h t=>exact .cons (kV_is h) (items_are t)
noncomputable abbrev KT (H:Hp):List (List Key×V)→List (List Key×Addr×Value)→Prop:=Paired fun p q=>p.1=q.1∧H q.2.1=some (.tup (p.1.map kV))∧RelV p.2 q.2.2
theorem KT.val {H:Hp}{kvs:List (List Key×V)}{xs:List (List Key×Addr×Value)} (r:KT H kvs xs) (k:List Key):RelO (valV kvs k) ((atKey xs k).map (·.2)):=by
  induction r with
  | nil=>exact True.intro
  | @cons p q ps qs h t ih=>
    obtain ⟨h1,_,h2⟩:=h
    by_cases e:p.1=k
    · have e':q.1=k:=h1.symm.trans e
      have b:atKey (q::qs) k=some q.2:=by simp [atKey,List.find?_cons,e']
      rw [valV_pos e,b];exact h2
    · have e':¬ q.1=k:=fun z=>e (h1.trans z)
      have b:atKey (q::qs) k=atKey qs k:=by simp [atKey,List.find?_cons,e']
      rw [valV_neg e,b];exact ih
theorem KT.repl {H:Hp}{kvs:List (List Key×V)}{xs:List (List Key×Addr×Value)} (r:KT H kvs xs) (k:List Key) {y:V}{u:Value} (ry:RelV y u):
    KT H (kvs.map fun kv=>if kv.1=k then (kv.1,y) else kv) (xs.map (putAt k u)):=by
  induction r with
  | nil=>exact .nil
  | @cons p q ps qs h t ih=>
    rw [List.map_cons,List.map_cons]
    refine .cons ?_ ih
    obtain ⟨h1,h2,h3⟩:=h
    unfold putAt
    by_cases e:p.1=k
    · rw [if_pos e,if_pos (h1.symm.trans e)];exact ⟨h1,h2,ry⟩
    · rw [if_neg e,if_neg (fun z=>e (h1.trans z))];exact ⟨h1,h2,h3⟩
theorem KT.put {H:Hp}{kvs:List (List Key×V)}{xs:List (List Key×Addr×Value)} (r:KT H kvs xs) (k:List Key) {b:Addr}{y:V}{u:Value} (hb:H b=some (.tup (k.map kV))) (ry:RelV y u):
    KT H (putK kvs k y) (storedH xs k b u):=by
  have e:(kvs.any fun kv=>decide (kv.1=k))=(atKey xs k).isSome:=by
    rw [valV_any,(r.val k).isSome_eq,Option.isSome_map]
  unfold putK storedH
  rw [e]
  by_cases q:(atKey xs k).isSome=true
  · rw [if_pos q,if_pos q];exact r.repl k ry
  · rw [if_neg q,if_neg q];exact Paired.snoc r ⟨rfl,hb,ry⟩
theorem KT.keeps {H H':Hp}{kvs:List (List Key×V)}{xs:List (List Key×Addr×Value)} (r:KT H kvs xs) (ht:∀ b ys,H b=some (.tup ys)→H' b=some (.tup ys)):KT H' kvs xs:=
  Paired.mapP r fun _ _ z=>⟨z.1,ht _ _ z.2.1,z.2.2⟩
section
variable {P:Program}{w:World}{H:Hp}{h:Heap}{a:Addr}
theorem rd_of {u:HO} (ok:HOk P w H h) (e:Rd H a u):ObjOk P w H h a u:=e.ok ok
theorem dk_rd {kvs:List (Key×V)} (ok:HOk P w H h) (e:Rd H a (.dK kvs)):kvs.length≤sizeLine∧(a==sysModules)=false∧∃ vs,KV kvs vs∧h.DictOf (mixKind P w) a vs:=
  show ObjOk P w H h a (.dK kvs) from rd_of ok e
theorem dk_of {kvs:List (Key×V)} (ok:HOk P w H h) (e:H a=some (.dK kvs)):kvs.length≤sizeLine∧(a==sysModules)=false∧∃ vs,KV kvs vs∧h.DictOf (mixKind P w) a vs:=dk_rd ok (.inl e)
theorem key_of {ks:List Key} (ok:HOk P w H h) (e:H a=some (.tup (ks.map kV))):(tupleKind (mixKind P w)).is h ks a:=by
  obtain ⟨_,its,r,o,h1,h2,n,h3⟩:=(show ObjOk P w H h a (.tup (ks.map kV)) from ok a _ e)
  exact ⟨o,its.toArray,n,h1,h2,h3,by simpa using items_are r⟩
theorem dt_rd {kvs:List (List Key×V)} (ok:HOk P w H h) (e:Rd H a (.dT kvs)):kvs.length≤sizeLine∧(a==sysModules)=false∧
    ∃ xs,KT H kvs xs∧h.DictOfH (tupleKind (mixKind P w)) a xs:=by
  obtain ⟨z,y,xs,r,o,es,ep,h1,h2,h3,h4,h5⟩:=(show ObjOk P w H h a (.dT kvs) from rd_of ok e)
  refine ⟨z,y,xs,r,o,es,ep,h1,h2,h3,h4,fun x hx=>?_,h5⟩
  have all:∀ {l:List (List Key×V)}{m:List (List Key×Addr×Value)},KT H l m→∀ x∈m,(tupleKind (mixKind P w)).is h x.1 x.2.1:=by
    intro l m q
    induction q with
    | nil=>intro x hx;exact nomatch hx
    | @cons p q ps qs hq t ih=>
      intro x hx
      rcases List.mem_cons.mp hx with e | hx
      · subst e
        exact key_of ok (by rw [← hq.1];exact hq.2.1)
      · exact ih x hx
  exact all r x hx
theorem dt_of {kvs:List (List Key×V)} (ok:HOk P w H h) (e:H a=some (.dT kvs)):kvs.length≤sizeLine∧(a==sysModules)=false∧
    ∃ xs,KT H kvs xs∧h.DictOfH (tupleKind (mixKind P w)) a xs:=dt_rd ok (.inl e)
end
noncomputable def DGet (H:Hp) (a:Addr) (y:V) (r:Option V):Prop:=
  (∃ kvs k,Rd H a (.dK kvs)∧y=kV k∧r=valV kvs k)∨∃ kvs k b,Rd H a (.dT kvs)∧y=.ref b∧H b=some (.tup (k.map kV))∧r=valV kvs k
noncomputable def DPut (H:Hp) (a:Addr) (y v:V) (H':Hp):Prop:=
  (∃ kvs k,H a=some (.dK kvs)∧y=kV k∧kvs.length < sizeLine∧H'=upd H a (.dK (putK kvs k v)))∨
  ∃ kvs k b,H a=some (.dT kvs)∧y=.ref b∧H b=some (.tup (k.map kV))∧kvs.length < sizeLine∧H'=upd H a (.dT (putK kvs k v))
theorem DGet.k {H:Hp}{a:Addr}{kvs:List (Key×V)}{k:Key} (e:H a=some (.dK kvs)):DGet H a (kV k) (valV kvs k):=.inl ⟨kvs,k,.inl e,rfl,rfl⟩
theorem DPut.k {H:Hp}{a:Addr}{kvs:List (Key×V)}{k:Key}{v:V} (e:H a=some (.dK kvs)) (hl:kvs.length < sizeLine):DPut H a (kV k) v (upd H a (.dK (putK kvs k v))):=.inl ⟨kvs,k,e,rfl,hl,rfl⟩
section
variable {X:Cx}{pins:List (Addr×Obj)}{σ:St}{H:Hp}{s:Shared}{a:Addr}{y v:V}{u r:Value}{o:Option V}{A:Around}{E:Value→Shared→Prop}
theorem Inv.big (I:Inv X pins σ H s):sysModules < s.heap.objs.size:=by
  have h:mainGlobals < s.heap.objs.size:=(I.mod.glob.keeps I.bk).lt
  exact Nat.lt_trans (by decide) h
theorem d_getItem {Q:Value→Shared→Prop} (hu:A.units + 1 < cLine) (I:Inv X pins σ H s) (g:DGet H a y (some v)) (ry:RelV y u) (h:∀ w' s',Inv X pins σ H s'→RelV v w'→Q w' s'):
    wpAny (model X.prog X.w) A (getItem (.ref a) u) Q E s:=by
  rcases g with ⟨kvs,k,e,ey,l⟩ | ⟨kvs,k,b,e,ey,eb,l⟩
  · subst ey
    obtain ⟨z,hd,vs,rel,dd⟩:=dk_rd I.hok e
    obtain ⟨w',hw,rw'⟩:=RelO.some_of (v:=v) (o:=valueAt vs k) (by rw [l];exact rel.val k)
    exact wpAny_getItem_of (kV_is ry) dd.mapOf hw (h w' _ (I.tok _) rw')
  · subst ey
    cases (show u=Value.ref b from ry)
    obtain ⟨z,hd,xs,rel,dd⟩:=dt_rd I.hok e
    obtain ⟨w',hw,rw'⟩:=RelO.some_of (v:=v) (o:=(atKey xs k).map (·.2)) (by rw [l];exact rel.val k)
    obtain ⟨p,hp,hp2⟩:=Option.map_eq_some_iff.mp hw
    refine wpAny_getItem_heap (tupleKind_room_in1 hu) (key_of I.hok eb) dd hp ?_
    rw [hp2]
    exact h w' _ (I.tok _) rw'
theorem d_in {Q:Value→Shared→Prop} (hu:A.units + 1 < cLine) (I:Inv X pins σ H s) (g:DGet H a y o) (ry:RelV y u) (h:∀ s',Inv X pins σ H s'→Q (.bool o.isSome) s'):
    wpAny (model X.prog X.w) A (compareOp .In u (.ref a)) Q E s:=by
  rcases g with ⟨kvs,k,e,ey,l⟩ | ⟨kvs,k,b,e,ey,eb,l⟩
  · subst ey
    obtain ⟨z,hd,vs,rel,dd⟩:=dk_rd I.hok e
    refine wpAny_in_of (kV_is ry) hd dd.mapOf ?_
    rw [← (rel.val k).isSome_eq,← l]
    exact h _ (I.tok _)
  · subst ey
    cases (show u=Value.ref b from ry)
    obtain ⟨z,hd,xs,rel,dd⟩:=dt_rd I.hok e
    refine wpAny_in_heap (tupleKind_room_in1 hu) (key_of I.hok eb) hd dd ?_
    have q:=(rel.val k).isSome_eq
    rw [Option.isSome_map] at q
    rw [← q,← l]
    exact h _ (I.tok _)
theorem d_notIn {Q:Value→Shared→Prop} (hu:A.units + 1 < cLine) (I:Inv X pins σ H s) (g:DGet H a y o) (ry:RelV y u) (h:∀ s',Inv X pins σ H s'→Q (.bool (!o.isSome)) s'):
    wpAny (model X.prog X.w) A (compareOp .NotIn u (.ref a)) Q E s:=by
  rcases g with ⟨kvs,k,e,ey,l⟩ | ⟨kvs,k,b,e,ey,eb,l⟩
  · subst ey
    obtain ⟨z,hd,vs,rel,dd⟩:=dk_rd I.hok e
    refine wpAny_notIn_of (kV_is ry) hd dd.mapOf ?_
    rw [← (rel.val k).isSome_eq,← l]
    exact h _ (I.tok _)
  · subst ey
    cases (show u=Value.ref b from ry)
    obtain ⟨z,hd,xs,rel,dd⟩:=dt_rd I.hok e
    refine wpAny_notIn_heap (tupleKind_room_in1 hu) (key_of I.hok eb) hd dd ?_
    have q:=(rel.val k).isSome_eq
    rw [Option.isSome_map] at q
    rw [← q,← l]
    exact h _ (I.tok _)
theorem d_write {h':Heap}{t':Nat}{ob:HO} (I:Inv X pins σ H s) (mu:Mut (H a)) (hs:Heap.SameBut a s.heap h') (he:∃ q,h'.get? a=some q) (new:ObjOk X.prog X.w (upd H a ob) h' a ob):
    Inv X pins σ (upd H a ob) {s with heap:=h',toks:=t'}:=
  I.write (x:=a) (e:=a) mu (.inl rfl) (fun b q hb z=>(hs.2 b hb).trans z) he new
theorem dk_new {P:Program}{w:World}{H':Hp}{h':Heap}{kvs:List (Key×V)}{vs:List (Key×Value)} (z:kvs.length≤sizeLine) (hd:(a==sysModules)=false) (rel:KV kvs vs) (dd:h'.DictOf (mixKind P w) a vs):
    ObjOk P w H' h' a (.dK kvs):=⟨z,hd,vs,rel,dd⟩
theorem d_setItem {H':Hp}{Q:Unit→Shared→Prop} (hu:A.units + 1 < cLine) (I:Inv X pins σ H s) (g:DPut H a y v H') (ry:RelV y u) (rv:RelV v r) (h:∀ s',Inv X pins σ H' s'→Q () s'):
    wpAny (model X.prog X.w) A (setItem (.ref a) u r) Q E s:=by
  rcases g with ⟨kvs,k,e,ey,l,eH⟩ | ⟨kvs,k,b,e,ey,eb,l,eH⟩
  · subst ey eH
    obtain ⟨z,hd,vs,rel,dd⟩:=dk_of I.hok e
    have hz:vs.length≤sizeLine:=by rw [← rel.length];exact z
    have hl:(putK kvs k v).length≤sizeLine:=by have:=length_putK kvs k v;omega
    refine wpAny_setItem_pairs (hsz:=hz) (kV_is ry) dd fun h' dd' hs=>h _ ?_
    have he:∃ q,h'.get? a=some q:=let ⟨q,_,_,hq,_⟩:=dd';⟨q,hq⟩
    exact d_write I (by rw [e];exact True.intro) hs he (dk_new hl hd (rel.put k rv) dd')
  · subst ey eH
    cases (show u=Value.ref b from ry)
    obtain ⟨z,hd,xs,rel,dd⟩:=dt_of I.hok e
    have hz:xs.length≤sizeLine:=by rw [← Paired.length rel];exact z
    have hl:(putK kvs k v).length≤sizeLine:=by have:=length_putK kvs k v;omega
    refine wpAny_setItem_heap (hsz:=hz) (tupleKind_room_in1 hu) (key_of I.hok eb) dd fun h' dd' hs=>h _ ?_
    obtain ⟨q,es,ep,hq,h2,h3,h4,_,h5⟩:=dd'
    refine d_write I (by rw [e];exact True.intro) hs ⟨q,hq⟩ ⟨hl,hd,_,(rel.put k eb rv).keeps fun c ys ec=>?_,q,es,ep,hq,h2,h3,h4,h5⟩
    rw [upd_ne (ne_of ec e (fun z=>nomatch z))]
    exact ec
end
section
variable {X:Cx}{pins:List (Addr×Obj)}{σ:St}{H:Hp}{s:Shared}{a:Addr}{kvs:List (Key×V)}{k:Key}{u:Value}{A:Around}{E:Value→Shared→Prop}
theorem d_delItem {Q:Unit→Shared→Prop} (I:Inv X pins σ H s) (e:H a=some (.dK kvs)) (ry:RelV (kV k) u) (l:(valV kvs k).isSome=true) (h:∀ s',Inv X pins σ (upd H a (.dK (dropK kvs k))) s'→Q () s'):
    wpAny (model X.prog X.w) A (delItem (.ref a) u) Q E s:=by
  obtain ⟨z,hd,vs,rel,dd⟩:=dk_of I.hok e
  refine wpAny_delItem_slot dd.typeIs (by decide) PySem.F.slot_dict_delitem
    (call_meetsIn PySem.F.slot_dict_delitem dd.typeIs PySem.F.entry_dict_delitem (PySem.F.args_dict_delitem_2 _ _) (meets_dict_delitem_pairs (mixKind X.prog X.w) a (kV_is ry)) ⟨vs,dd,by rw [← rel.length];exact z,by rw [← (rel.val k).isSome_eq];exact l,fun h' dd' hs=>h _ ?_⟩)
  have he:∃ q,h'.get? a=some q:=let ⟨q,_,_,hq,_⟩:=dd';⟨q,hq⟩
  exact d_write I (by rw [e];exact True.intro) hs he (dk_new (Nat.le_trans (dropK_le kvs k) z) hd (rel.drop k) dd')
theorem d_pop {v:V}{more:List Value}{Q:Value→Shared→Prop} (I:Inv X pins σ H s) (e:H a=some (.dK kvs)) (ry:RelV (kV k) u) (l:valV kvs k=some v) (hm:more=[]∨∃ x,more=[x])
    (h:∀ w' s',Inv X pins σ (upd H a (.dK (dropK kvs k))) s'→RelV v w'→Q w' s'):wpAny (model X.prog X.w) A (call (.builtin "dict.pop") (.ref a::u::more)) Q E s:=by
  obtain ⟨z,hd,vs,rel,dd⟩:=dk_of I.hok e
  obtain ⟨w',hw,rw'⟩:=RelO.some_of (v:=v) (o:=valueAt vs k) (by rw [← l];exact rel.val k)
  have hp:(keyPart u).isSome=true:=by
    cases k with
    | inl i=>obtain ⟨t,q⟩:=(show ∃ t,u=Value.int i t from ry);subst q;rfl
    | inr x=>obtain ⟨t,q⟩:=(show ∃ t,u=Value.str x t from ry);subst q;rfl
  have ha:argsOk "dict.pop" ⟨.ref a::u::more,[]⟩:=by
    rcases hm with q | ⟨x,q⟩
    · subst q;exact PySem.F.args_dict_pop_2 _ _
    · subst q;exact PySem.F.args_dict_pop_3 _ _ _
  refine call_meetsIn PySem.F.slot_dict_pop dd.typeIs PySem.F.entry_dict_pop ha (meets_dict_pop_there (mixKind X.prog X.w) a (kV_is ry) more hm hp)
    ⟨vs,w',dd,by rw [← rel.length];exact z,hw,fun h' dd' hs=>h w' _ ?_ rw'⟩
  have he:∃ q,h'.get? a=some q:=let ⟨q,_,_,hq,_⟩:=dd';⟨q,hq⟩
  exact d_write I (by rw [e];exact True.intro) hs he (dk_new (Nat.le_trans (dropK_le kvs k) z) hd (rel.drop k) dd')
theorem d_len {Q:Value→Shared→Prop} (I:Inv X pins σ H s) (e:Rd H a (.dK kvs)) (h:∀ t s',Inv X pins σ H s'→Q (.int kvs.length t) s'):wpAny (model X.prog X.w) A (call (.builtin "len") [.ref a]) Q E s:=by
  obtain ⟨z,hd,vs,rel,dd⟩:=dk_rd I.hok e
  refine call_len_dict hd dd (by rw [← rel.length];rw [sizeLine_eq] at z;omega) ?_
  rw [← rel.length]
  exact h _ _ (I.tok _)
theorem d_truth {Q:Bool→Shared→Prop} (I:Inv X pins σ H s) (e:Rd H a (.dK kvs)) (h:∀ s',Inv X pins σ H s'→Q (!kvs.isEmpty) s'):wpAny (model X.prog X.w) A (truthy (.ref a)) Q E s:=by
  obtain ⟨z,hd,vs,rel,dd⟩:=dk_rd I.hok e
  refine wpAny_truthy_dict hd dd (by rw [← rel.length];rw [sizeLine_eq] at z;omega) ?_
  have q:kvs.isEmpty=vs.isEmpty:=by cases rel <;> rfl
  rw [← q]
  exact h _ (I.tok _)
end
noncomputable def NoSl (i:Expr):Prop:=∀ ov iv,subscripted i false ov iv=operate [ov,iv] (getItem ov iv)
theorem subD_of {prog:Program}{w:World}{A:Around}{E:Value→Shared→Prop}{s:Shared}{env:Env}{value slice:Expr}{pos:Pos}{T id:String}{Q:Value→Shared→Prop}
    (hl:typeLookup (.type T) "__getitem__"=pure (some (.builtin id))) (hs:NoSl slice)
    (h:wpAny (model prog w) A (eval value env) (fun o s₁=>wpAny (model prog w) A (eval slice env) (fun i s₂=>s₂.TypeIs o T∧wpAny (model prog w) A (getItem o i) Q E s₂) E s₁) E s):
    wpAny (model prog w) A (eval (.Subscript value slice pos) env) Q E s:=by
  refine Subscript_ (wpAny_mono h (fun o s₁ h₁=>wpAny_mono h₁ (fun i s₂ h₂=>?_) fun _ _ x=>x) fun _ _ x=>x)
  obtain ⟨hT,h₂⟩:=h₂
  unfold subscriptTail
  refine wpAny_bind ?_
  rw [getitemInPython_of_ne hT.not_modules]
  refine wpAny_bind (wpAny_specialOf hT hl ?_)
  have fin:wpAny (model prog w) A (subscripted slice false o i) (fun r s₃=>wpAny (model prog w) A (letTemporaryGo value o r >>= fun _=>pure r) Q E s₃) E s₂:=by
    rw [hs o i]
    exact wpAny_operating (wpAny_mono h₂ (fun r s₃ h₃=>wpAny_bind (wpAny_letTemporaryGo (wpAny_pure h₃))) fun _ _ x=>x)
  first
    | exact wpAny_pure (wpAny_bind fin)
    | exact wpAny_bind (wpAny_pure (wpAny_bind fin))
    | exact wpAny_bind fin
theorem dict_typeIs {X:Cx}{pins:List (Addr×Obj)}{σ:St}{H:Hp}{s:Shared}{a:Addr}{y:V}{o:Option V} (I:Inv X pins σ H s) (g:DGet H a y o):s.TypeIs (.ref a) "dict":=by
  rcases g with ⟨kvs,k,e,_,_⟩ | ⟨kvs,k,b,e,_,_,_⟩
  · obtain ⟨_,_,vs,_,dd⟩:=dk_rd I.hok e
    exact dd.typeIs
  · obtain ⟨_,_,xs,_,dd⟩:=dt_rd I.hok e
    exact dd.typeIs
noncomputable def tDGet (td ty:TE):TE:=fun σ H Q=>td σ H fun x H1=>ty σ H1 fun y H2=>∃ a v,x=.ref a∧DGet H2 a y (some v)∧Q v H2
noncomputable def tDIn (ty td:TE):TE:=fun σ H Q=>ty σ H fun y H1=>td σ H1 fun x H2=>∃ a o,x=.ref a∧DGet H2 a y o∧Q (.bl o.isSome) H2
noncomputable def tDNotIn (ty td:TE):TE:=fun σ H Q=>ty σ H fun y H1=>td σ H1 fun x H2=>∃ a o,x=.ref a∧DGet H2 a y o∧Q (.bl (!o.isSome)) H2
noncomputable def sDPut (td ty tv:TE):TS:=fun D σ H=>tv σ H fun v H1=>td σ H1 fun x H2=>ty σ H2 fun y H3=>∃ a H4,x=.ref a∧DPut H3 a y v H4∧D.nx σ H4
section
variable {X:Cx}{o i e value:Expr}{pos pos' tpos:Pos}{td ty tv:TE}
theorem pe_dget (hu:X.A.units + 1 < cLine) (ho:PE X o td) (hi:PE X i ty) (hs:NoSl i):PE X (.Subscript o i pos) (tDGet td ty):=by
  intro pins s σ H Q I h
  refine subD_of PySem.F.slot_dict_getitem.lookup hs (thn (ho pins s σ H _ I h) fun u s1 ⟨x,H1,I1,rx,q1⟩=>thn (hi pins s1 σ H1 _ I1 q1) fun iv s2 ⟨y,H2,I2,ry,a,v,ex,g,q2⟩=>?_)
  subst ex
  obtain rfl:u=Value.ref a:=rx
  exact ⟨dict_typeIs I2 g,d_getItem hu I2 g ry fun w' s3 I3 rw'=>⟨v,H2,I3,rw',q2⟩⟩
theorem pc_din (hu:X.A.units + 1 < cLine) (hi:PE X i ty) (ho:PE X o td):PC X .In i o (tDIn ty td):=by
  intro pins s σ H Q I h
  refine thn (hi pins s σ H _ I h) fun iv s1 ⟨y,H1,I1,ry,q1⟩=>thn (ho pins s1 σ H1 _ I1 q1) fun u s2 ⟨x,H2,I2,rx,a,ov,ex,g,q2⟩=>?_
  subst ex
  obtain rfl:u=Value.ref a:=rx
  exact d_in hu I2 g ry fun s3 I3=>⟨.bl ov.isSome,H2,I3,rfl,q2⟩
theorem pc_dnotin (hu:X.A.units + 1 < cLine) (hi:PE X i ty) (ho:PE X o td):PC X .NotIn i o (tDNotIn ty td):=by
  intro pins s σ H Q I h
  refine thn (hi pins s σ H _ I h) fun iv s1 ⟨y,H1,I1,ry,q1⟩=>thn (ho pins s1 σ H1 _ I1 q1) fun u s2 ⟨x,H2,I2,rx,a,ov,ex,g,q2⟩=>?_
  subst ex
  obtain rfl:u=Value.ref a:=rx
  exact d_notIn hu I2 g ry fun s3 I3=>⟨.bl (!ov.isSome),H2,I3,rfl,q2⟩
theorem ps_dput (hu:X.A.units + 1 < cLine) (ho:PE X o td) (hi:PE X i ty) (hv:PE X value tv) (hs:swapsWith value (some (.Subscript o i pos')) pos.line X.env=pure false):
    PS X (.Assign [.Subscript o i pos'] value pos) (sDPut td ty tv):=by
  intro pins s σ H D I h
  refine wpAny_Assign_Subscript (thn (hv pins s σ H _ I h) fun r s1 ⟨v,H1,I1,rv,q1⟩=>thn (ho pins s1 σ H1 _ I1 q1) fun u s2 ⟨x,H2,I2,rx,q2⟩=>thn (hi pins s2 σ H2 _ I2 q2) fun iv s3 ⟨y,H3,I3,ry,a,H4,ex,g,q3⟩=>?_) hs
  subst ex
  obtain rfl:u=Value.ref a:=rx
  exact d_setItem hu I3 g ry rv fun s4 I4=>⟨σ,H4,I4,q3⟩
end
theorem dk_empty {P:Program}{w:World}{H:Hp} (h:Heap) (hb:sysModules < h.objs.size):ObjOk P w H (h.push {cls:=.type "dict",data:=.dict #[]}) h.objs.size (.dK []):=
  ⟨Nat.zero_le _,beq_eq_false_iff_ne.mpr (Ne.symm (Nat.ne_of_lt hb)),[],.nil,Heap.DictOf.new h⟩
noncomputable def tDNewK:TE:=fun _ H Q=>∀ p,H p=none→Q (.ref p) (upd H p (.dK []))
section
variable {X:Cx}{pos:Pos}
theorem pe_dnewK:PE X (.Dict [] [] pos) tDNewK:=fun pins s σ H Q I h=>
  wpAny_Dict_empty ⟨.ref s.heap.objs.size,_,I.laid (a:=s.heap.objs.size) (o:=.dK []) (t':=s.toks) (fun _ _ q=>Heap.get?_push_of_some _ q) (Nat.le_refl _) (dk_empty s.heap I.big),rfl,h _ (I.hok.fresh (Nat.le_refl _))⟩
end
structure M1 (X:Cx) (o:Expr) (m:Str) (apos:Pos) (e:Expr) (cpos:Pos):Prop where
  base:attributeBase o m X.env (eval o X.env)=eval o X.env
  few:((backTo cpos (starEach [e] X.env)).all (fun x=>!x.1) && (backToKw cpos (keywordEach [] X.env)).all (fun x=>x.1.isSome)
    && decide (([e]:List Expr).length + ([]:List Keyword).length + (if ([]:List Keyword).isEmpty then 0 else 1) < 30))=true
  line:(apos.endLine==cpos.line)=true
  trees:backTo cpos (starEach [e] X.env)=[(false,eval e X.env)]
noncomputable def IsD (H:Hp) (a:Addr):Prop:=(∃ kvs,Rd H a (.dK kvs))∨∃ kvs,Rd H a (.dT kvs)
theorem isD_at {X:Cx}{pins:List (Addr×Obj)}{σ:St}{H:Hp}{s:Shared}{a:Addr} (I:Inv X pins σ H s) (d:IsD H a):
    s.TypeIs (.ref a) "dict"∧(∀ b,Value.ref a=.ref b→∃ ob,s.heap.get? b=some ob∧ob.dict=none)∧(a==sysModules)=false:=by
  rcases d with ⟨kvs,e⟩ | ⟨kvs,e⟩
  · obtain ⟨_,hd,vs,_,dd⟩:=dk_rd I.hok e
    refine ⟨dd.typeIs,fun b q=>?_,hd⟩
    cases q
    obtain ⟨ob,_,_,h1,h2,_⟩:=dd
    exact ⟨ob,h1,h2.2.1⟩
  · obtain ⟨_,hd,xs,_,dd⟩:=dt_rd I.hok e
    refine ⟨dd.typeIs,fun b q=>?_,hd⟩
    cases q
    obtain ⟨ob,_,_,h1,h2,_⟩:=dd
    exact ⟨ob,h1,h2.2.1⟩
section
variable {X:Cx}{pins:List (Addr×Obj)}{σ:St}{H:Hp}{s:Shared}{a:Addr}{y d:V}{u r:Value}{o:Option V}{A:Around}{E:Value→Shared→Prop}
end
noncomputable def tDPop1 (td ty:TE):TE:=fun σ H Q=>td σ H fun x H1=>∃ a,x=.ref a∧IsD H1 a∧ty σ H1 fun y H2=>∃ kvs k v,H2 a=some (.dK kvs)∧y=kV k∧valV kvs k=some v∧Q v (upd H2 a (.dK (dropK kvs k)))
section
variable {X:Cx}{o e f:Expr}{apos cpos:Pos}{td ty tx:TE}
theorem pe_dpop1 (ho:PE X o td) (he:PE X e ty) (m:M1 X o "pop" apos e cpos):PE X (.Call (.Attribute o "pop" apos) [e] [] cpos) (tDPop1 td ty):=by
  intro pins s σ H Q I h
  refine wpAny_Call_method m.base m.few m.line PySem.F.plainAttrs_dict PySem.F.slot_dict_pop PySem.F.type_dict_pop (thn (ho pins s σ H _ I h) fun u s1 ⟨x,H1,I1,rx,a,ex,d,q1⟩=>?_)
  subst ex
  obtain rfl:u=Value.ref a:=rx
  obtain ⟨t1,t2,_⟩:=isD_at I1 d
  refine ⟨t1,t2,?_⟩
  rw [m.trees]
  refine Calls.callWith_builtin rfl (Calls.evalArgs_plain (Calls.spliced_cons (thn (he pins s1 σ H1 _ I1 q1) fun iv s2 ⟨y,H2,I2,ry,kvs,k,v,ea,ey,l,q2⟩=>Calls.spliced_nil ?_)))
  subst ey
  exact d_pop I2 ea ry l (.inl rfl) fun w' s3 I3 rw'=>⟨v,_,I3,rw',q2⟩
end
section
variable {X:Cx}{pins:List (Addr×Obj)}{σ:St}{H:Hp}{s:Shared}{a:Addr}{kvs:List (Key×V)}{A:Around}{E:Value→Shared→Prop}
end
section
variable {X:Cx}{pins:List (Addr×Obj)}{σ:St}{H:Hp}{s:Shared}{a:Addr}{y:V}{u:Value}{A:Around}{E:Value→Shared→Prop}
end
section
variable {X:Cx}
theorem call_lenD:CallR X (.builtin "len") (fun xs H Q=>∃ a kvs,xs=[V.ref a]∧H a=some (.dK kvs)∧Q (.int kvs.length) H):=by
  intro pins s σ H xs us Q I r h
  obtain ⟨a,kvs,rfl,ha,q⟩:=h
  obtain ⟨u,rfl,ru⟩:=vals1 r
  cases ru
  exact d_len I (.inl ha) fun t s' I'=>⟨.int kvs.length,H,I',⟨t,rfl⟩,q⟩
end
section
variable {κ:Type} [DecidableEq κ]
theorem nd_snoc:∀ {l:List κ}{k:κ},l.Nodup→¬ k∈l→(l ++ [k]).Nodup
  | [],k,_,_=>by simp
  | a::r,k,h,hk=>by
    obtain ⟨h1,h2⟩:=List.nodup_cons.mp h
    show (a::(r ++ [k])).Nodup
    refine List.nodup_cons.mpr ⟨fun m=>?_,nd_snoc h2 fun m=>hk (List.mem_cons.mpr (Or.inr m))⟩
    rcases List.mem_append.mp m with q | q
    · exact h1 q
    · exact hk (List.mem_cons.mpr (Or.inl (List.mem_singleton.mp q).symm))
end
end L2
namespace L2
open PySem PySem.Spec PyProof.Rows PySem.W
section
variable {X:Cx}{pins:List (Addr×Obj)}{σ:List (Option V)}{H H':Hp}{s:Shared}{h':Heap}
theorem Inv.many {t':Nat} (I:Inv X pins σ H s) (k:∀ b u,s.heap.get? b=some u→h'.get? b=some u) (sub:∀ b o,H b=some o→H' b=some o) (new:∀ b o,H' b=some o→H b=some o∨(s.heap.objs.size≤b∧ObjOk X.prog X.w H' h' b o)):
    Inv X pins σ H' {s with heap:=h',toks:=t'}:=by
  refine I.un (t':=t') ⟨fun b o q _ _ _=>k b o q,fun b o q _ _ _=>⟨o.slots,k b o q⟩,fun b o q n _=>?_,fun b o q _=>⟨o,k b o q⟩,fun b xs q=>sub b _ q,fun b o u q=>sub b _ q,fun b ps q=>⟨#[],by simpa using sub b _ q⟩⟩ fun b o e=>?_
  · cases e:H' b with
    | none=>rfl
    | some u=>
      rcases new b u e with z | ⟨z,_⟩
      · rw [n] at z;cases z
      · exact absurd (Heap.lt_size q) (Nat.not_lt.mpr z)
  · rcases new b o e with z | ⟨_,z⟩
    · exact (I.hok b o z).stay (fun c u _ q=>k c u q) (fun c q=>sub c _ q) fun c xs q=>sub c _ q
    · exact z
noncomputable def ViewO (v d:Addr):HO:=.ext fun h=>h.IsItemsView v d
noncomputable def rItems:V→List V→Hp→VK→Prop:=fun x vs H Q=>∃ (d:Addr) (kvs:List (Key×V)),x=.ref d∧vs=[]∧H d=some (.dK kvs)∧∀ v,H v=none→Q (.ref v) (upd H v (ViewO v d))
theorem mt_items:MtR X "dict.items" rItems:=by
  intro pins s σ H x xs v us Q I rx r h
  obtain ⟨d,kvs,rfl,rfl,e,q⟩:=h
  cases r
  cases (show v=Value.ref d from rx)
  obtain ⟨z,hd,vs,rel,dd⟩:=dk_rd I.hok (.inl e)
  refine call_meetsIn PySem.F.slot_dict_items dd.typeIs PySem.F.entry_dict_items (PySem.F.args_dict_items_1 _) (meets_dict_items (mixKind X.prog X.w) d hd) ⟨⟨vs,dd⟩,?_⟩
  refine ⟨.ref s.heap.objs.size,upd H s.heap.objs.size (ViewO s.heap.objs.size d),I.laid (t':=s.toks) (fun b u e=>Heap.get?_push_of_some _ e) (Nat.le_refl _) ⟨⟨_,Heap.get?_push_size _ rfl,rfl,rfl⟩,⟨_,Heap.get?_push_size _ rfl⟩,fun h1 h2 x k=>?_⟩,rfl,q _ (I.hok.fresh (Nat.le_refl _))⟩
  obtain ⟨o,ho,r⟩:=x
  exact ⟨o,k o ho,r⟩
noncomputable def rListV:List V→Hp→VK→Prop:=fun xs H Q=>∃ (v d:Addr) (kvs:List (Key×V)),xs=[.ref v]∧H v=some (ViewO v d)∧H d=some (.dK kvs)∧
  ∀ (l:Addr) (ts:List Addr) (H':Hp),H l=none→Same H H'→H' l=some (.lst (ts.map V.ref))→Paired (fun (p:Key×V) t=>H t=none∧t≠l∧H' t=some (.tup [kV p.1,p.2])) kvs ts→Q (.ref l) H'
theorem kV_rel {k:Key}{u:Value}{prog:Program}{w:World} (h:(mixKind prog w).is k u=true):RelV (kV k) u:=by
  rcases keyIs_shape (show keyIs k u=true from h) with ⟨i,t,rfl,rfl⟩ | ⟨x,t,rfl,rfl⟩
  · exact ⟨t,rfl⟩
  · exact ⟨t,rfl⟩
theorem kv_get {κ:Type}:∀ {kvs:List (κ×V)}{vs:List (κ×Value)},KV kvs vs→∀ (i:Nat) (p:κ×Value),vs[i]?=some p→∃ q,kvs[i]?=some q∧q.1=p.1∧RelV q.2 p.2
  | _,_,.nil,i,p,h=>by simp at h
  | q::_,_,.cons hq _,0,p,h=>by
    simp at h
    subst h
    exact ⟨q,rfl,hq.1,hq.2⟩
  | _,_,.cons _ t,i + 1,p,h=>by
    obtain ⟨q,h1,h2⟩:=kv_get t i p (by simpa using h)
    exact ⟨q,by simpa using h1,h2⟩
noncomputable def pairsH (H:Hp) (kvs:List (Key×V)) (as:List Addr):Hp:=fun b=>match as.findIdx? (·==b) with
  | some i=>(kvs[i]?).map fun q=>.tup [kV q.1,q.2]
  | none=>H b
theorem pairsH_in {H:Hp}{kvs:List (Key×V)}{as:List Addr} (nd:as.Pairwise (· < ·)) {i:Nat}{a:Addr} (h:as[i]?=some a):pairsH H kvs as a=(kvs[i]?).map fun q=>.tup [kV q.1,q.2]:=by
  unfold pairsH
  obtain ⟨hi,e⟩:=List.getElem?_eq_some_iff.mp h
  have:as.findIdx? (·==a)=some i:=by
    rw [List.findIdx?_eq_some_iff_getElem]
    refine ⟨hi,by simpa using e,fun j hj=>?_⟩
    have:=List.pairwise_iff_getElem.mp nd j i (by omega) hi hj
    rw [e] at this
    have:as[j]≠a:=Nat.ne_of_lt this
    simpa using this
  rw [this]
theorem pairsH_out {H:Hp}{kvs:List (Key×V)}{as:List Addr}{b:Addr} (h:b∉as):pairsH H kvs as b=H b:=by
  unfold pairsH
  have:as.findIdx? (·==b)=none:=by
    rw [List.findIdx?_eq_none_iff]
    intro x hx
    have:x≠b:=fun z=>h (z ▸ hx)
    simpa using this
  rw [this]
theorem call_listV (hc:X.calm=true):CallR X (.type "list") rListV:=by
  intro pins s σ H xs us Q I r h
  obtain ⟨v,d,kvs,rfl,hv,hd,q⟩:=h
  obtain ⟨u,rfl,ru⟩:=vals1 r
  cases ru
  obtain ⟨z,hdS,vs,rel,dd⟩:=dk_rd I.hok (.inl hd)
  obtain ⟨ep,hat⟩:=dd.dictAt
  have hvw:s.heap.IsItemsView v d:=(show ObjOk X.prog X.w H s.heap v (ViewO v d) from I.hok v _ hv).1
  have hlen:kvs.length=vs.length:=Paired.length rel
  refine kdx_call (knd:=mixKind X.prog X.w) (I.ok.hd hc) hvw hat (by rw [← hlen];exact z) fun h' tk acc c as hk hS hl G hacc=>?_
  have hfr:∀ a∈as,s.heap.objs.size < a:=G.above
  let l:=s.heap.objs.size
  let Hp2:Hp:=upd (pairsH H kvs as) l (.lst (as.map V.ref))
  have hla:l∉as:=fun z=>Nat.lt_irrefl _ (hfr l z)
  have hsub:∀ b o,H b=some o→Hp2 b=some o:=fun b o e=>by
    have hb:b < s.heap.objs.size:=I.hok.lt e
    show upd (pairsH H kvs as) l _ b=_
    rw [upd_ne (Nat.ne_of_lt hb),pairsH_out fun z=>Nat.lt_asymm hb (hfr b z)]
    exact e
  have hpair:∀ (j:Nat) (a:Addr),as[j]?=some a→∃ p,kvs[j]?=some p∧Hp2 a=some (.tup [kV p.1,p.2])∧∃ key x,h'.get? a=some {cls:=.type "tuple",data:=.seq #[key,x]}∧RelV (kV p.1) key∧RelV p.2 x:=fun j a e=>by
    obtain ⟨key,k,x,e1,e2,e3⟩:=G.pairs j a e
    obtain ⟨p,p1,p2,p3⟩:=kv_get rel j (k,x) e1
    refine ⟨p,p1,?_,key,x,e3,by rw [p2];exact kV_rel e2,p3⟩
    show upd (pairsH H kvs as) l _ a=_
    rw [upd_ne (fun z=>hla (by rw [← z];exact List.mem_of_getElem? e)),pairsH_in G.rise e,p1]
    rfl
  have I2:Inv X pins σ Hp2 {s with heap:=h',toks:=tk}:=by
    refine I.many (t':=tk) hk hsub fun b o e=>?_
    by_cases hb:b=l
    · subst hb
      have e':some (HO.lst (as.map V.ref))=some o:=by rw [← e];exact upd_same.symm
      cases e'
      refine .inr ⟨Nat.le_refl _,?_,as.map Value.ref,c,?_,?_⟩
      · rw [List.length_map,hl,← hlen];exact z
      · clear hpair e hsub hla hfr G hacc hl
        induction as with
        | nil=>exact .nil
        | cons a as ih=>exact .cons rfl ih
      · have e1:(as.map Value.ref).toArray=acc:=by rw [← hacc]
        rw [e1];exact hS
    · by_cases hba:b∈as
      · obtain ⟨j,hj,ej⟩:=List.getElem_of_mem hba
        obtain ⟨p,p1,p2,key,x,p3,p4,p5⟩:=hpair j b (by rw [List.getElem?_eq_getElem hj,ej])
        rw [p2] at e
        cases e
        exact .inr ⟨Nat.le_of_lt (hfr b hba),by show 2≤sizeLine;decide,[key,x],.cons p4 (.cons p5 .nil),⟨_,p3,rfl,_,rfl⟩⟩
      · refine .inl ?_
        have e':upd (pairsH H kvs as) l (.lst (as.map V.ref)) b=some o:=e
        rw [upd_ne hb,pairsH_out hba] at e'
        exact e'
  refine ⟨.ref l,Hp2,I2,rfl,q l as Hp2 (I.hok.fresh (Nat.le_refl _)) hsub upd_same ?_⟩
  have hl':as.length=kvs.length:=by rw [hl,hlen]
  have go:∀ (ks:List (Key×V)) (bs:List Addr),bs.length=ks.length→(∀ (j:Nat) (a:Addr),bs[j]?=some a→∃ p,ks[j]?=some p∧H a=none∧a≠l∧Hp2 a=some (.tup [kV p.1,p.2]))→Paired (fun (p:Key×V) t=>H t=none∧t≠l∧Hp2 t=some (.tup [kV p.1,p.2])) ks bs:=by
    intro ks
    induction ks with
    | nil=>intro bs hb _;rw [List.eq_nil_of_length_eq_zero hb];exact .nil
    | cons p ks ih=>
      intro bs hb hj
      cases bs with
      | nil=>simp at hb
      | cons a bs=>
        obtain ⟨p',e1,e2⟩:=hj 0 a rfl
        simp at e1
        subst e1
        exact .cons e2 (ih bs (by simpa using hb) fun j a e=>by simpa using hj (j + 1) a (by simpa using e))
  refine go kvs as hl' fun j a e=>?_
  obtain ⟨p,p1,p2,_⟩:=hpair j a e
  have hm:=List.mem_of_getElem? e
  exact ⟨p,p1,I.hok.fresh (Nat.le_of_lt (hfr a hm)),fun z=>hla (z ▸ hm),p2⟩
end
end L2
namespace L2
open PySem PySem.Spec PyProof.Rows PySem.W
theorem keys_list_none:typeLookup (.type "list") "keys"=pure none:=by rw [typeLookup_type,builtinLookup_eq_fast];kernel_rfl
section
variable {prog:Program}{w:World}{A:Around}{E:Value→Shared→Prop}{s:Shared}
theorem keys_miss {a:Addr}{o:Obj}{xs:Array Value}{k:Nat}{Q:Option Value→Shared→Prop} (hx:s.heap.get? a=some o) (hc:o.cls=.type "list") (hdat:o.data=.seq xs k) (hd:o.dict=none) (hA:A.handled=none)
    (h:∀ h' tk,(∀ b o,s.heap.get? b=some o→h'.get? b=some o)→Q none {s with heap:=h',toks:=tk}):wpAny (model prog w) A (getAttr? (.ref a) "keys") Q E s:=by
  obtain ⟨c,dct,dat,sl⟩:=o
  simp only at hc hdat hd
  subst hc hdat hd
  obtain ⟨hp,g,d,tk,os⟩:=s
  have hT:∀ tk',(⟨hp,g,d,tk',os⟩:Shared).TypeIs (.ref a) "list":=fun _=>⟨_,hx,rfl⟩
  have f1:=sub_AttributeError
  have f3:=PySem.F.slot_list_getattribute.lookup
  have f4:=PySem.F.slot_list_getattribute.bind (.ref a)
  have f5:=am_list_getattr_none
  have f6:=keys_list_none
  unfold getAttr? getAttrBy? getAttrBy
  repeat (any_goals (first | assumption | exact hT _ | ((with_reducible show wpAny _ _ (call (Value.builtin "list.__getattribute__") _ _) _ _ _);refine call_meets PySem.F.slot_list_getattribute (hT _) am_entry_list_getattribute (PySem.F.args_list_getattribute_2 _ _) (meets_getattribute_miss_list a xs k sl "keys" _ keys_list_none (by decide)) ⟨hx,hA,fun h' tk' e hx'=>?_⟩) | wp_step))
  obtain ⟨t',u',he⟩:=hx'.there
  show wpAny _ _ (getattributeRaised _ _ _ _ _ _ _) _ _ _
  unfold getattributeRaised
  repeat (any_goals (first | assumption | wp_step))
  exact h _ _ hx'.keeps
end
section
variable {prog:Program}{w:World}{K:Type} [DecidableEq K] {knd:KeyKind prog w K}{A:Around}{R:Result→Shared→Prop}{I:Addr}{fp wr:List Addr}{G:Array GenState→Array GenState→Prop}{n:Nat}{P:Nat→Value→Prop}{St:Nat→Shared→Prop}
theorem entry_dul:entryFor table "dict.update.loop"=some Builtin.«dict.update.loop»:=entryFor_of_tree (by kernel_rfl)
theorem plain_dul:plainId "dict.update.loop"=true:=by decide +kernel
noncomputable def PairAtH (knd:KeyKind prog w K) (h:Heap) (T:Addr) (kv:K×Value):Prop:=∃ o key m,h.get? T=some o∧o.cls=.type "tuple"∧o.data=.seq #[key,kv.2] m∧knd.is kv.1 key=true
theorem code_dloop (W:WalksS prog w A.in1 I fp wr G n P St) (D:Addr) (hDf:D∉fp) (vs:List (K×Value)) (ts:List Addr) (res:Value) (hvn:vs.length=n) (htn:ts.length=n) (hval:∀ i v,P i v→∃ t,ts[i]?=some t∧v=.ref t) (hT:∀ t∈ts,t≠D∧t∉wr) (hn:n≤1000) (nd:(vs.map (·.1)).Nodup):
    ∀ (k i:Nat) (s:Shared),n - i=k→i≤n→St i s→(∀ (j:Nat) (t:Addr) (p:K×Value),ts[j]?=some t→vs[j]?=some p→PairAtH knd s.heap t p)→s.heap.DictOf knd D (vs.take i)→
      (∀ s',Moved (D::wr) G s s'→s'.heap.DictOf knd D vs→R (.ok (.ret res)) s')→
      codeAny (model prog w) A (.builtin "dict.update.loop" ⟨[.ref D,.ref I,.int i 0,res],[]⟩) R s:=by
  have hDw:D∉wr:=fun h=>hDf (W.sub _ h)
  have hsub:∀ b∈wr,b∈D::wr:=fun b hb=>List.mem_cons_of_mem _ hb
  have dstay:∀ {kvs:List (K×Value)}{h h':Heap},h.DictOf knd D kvs→(∀ o,h.get? D=some o→h'.get? D=some o)→h'.DictOf knd D kvs:=fun x k=>let ⟨o,es,ep,ho,r⟩:=x;⟨o,es,ep,k o ho,r⟩
  intro k
  induction k with
  | zero=>
    intro i s hk hi hst hP hD hR
    have hin:i=n:=by omega
    subst hin
    rw [List.take_of_length_le (by omega)] at hD
    refine codeAny_builtin entry_dul ?_
    rw [Around.under_plainId plain_dul _]
    show wpAny _ A.in1 (pyNext (.ref I) >>= _) _ _ s
    refine wpAny_bind (W.done s _ _ hst fun s' hm=>?_)
    show wpAny _ A.in1 (Builtin.Dict.addKeywords D [] >>= fun _=>ret res) _ _ s'
    exact wpAny_bind (wpAny_pure (wpAny_pure (hR s' (hm.mono hsub) (dstay hD fun o e=>hm.heap D _ hDw e))))
  | succ k ih=>
    intro i s hk hi hst hP hD hR
    have hlt:i < n:=by omega
    refine codeAny_builtin entry_dul ?_
    rw [Around.under_plainId plain_dul _]
    show wpAny _ A.in1 (pyNext (.ref I) >>= _) _ _ s
    refine wpAny_bind (W.item i s _ _ hlt hst fun v s' hPv hst' hm=>?_)
    obtain ⟨t,ht,rfl⟩:=hval i v hPv
    have hvi:vs[i]?=some vs[i]:=List.getElem?_eq_getElem (by omega)
    generalize vs[i]=p at hvi
    have hD':=dstay hD fun o e=>hm.heap D _ hDw e
    have hP':∀ (j:Nat) (t:Addr) (p:K×Value),ts[j]?=some t→vs[j]?=some p→PairAtH knd s'.heap t p:=fun j t p e1 e2=>by
      obtain ⟨o,key,m,h1,h2⟩:=hP j t p e1 e2
      exact ⟨o,key,m,hm.heap _ _ (hT t (List.mem_of_getElem? e1)).2 h1,h2⟩
    obtain ⟨o,key,m,h1,h2,h3,h4⟩:=hP' i t p ht hvi
    show wpAny _ A.in1 (holding [Value.ref t] _ >>= _) _ _ s'
    refine wpAny_bind (wpAny_holding ?_)
    refine wpAny_bind (wpAny_tryCatch ?_)
    unfold Builtin.Dict.pairItems
    refine wpAny_bind (wpAny_typeOf (T:="tuple") ⟨o,h1,h2⟩ ?_)
    rw [if_pos (by decide)]
    refine wpAny_bind (wpAny_seqItems h1 h3 (wpAny_pure ?_))
    show wpAny _ A.in1 (holding [key,p.2] (dictSet D key p.2)) _ _ s'
    refine wpAny_holding (wpAny_dictSet_pairs (knd:=knd) h4 hD' (fun h' hd' hsb=>?_) (by rw [List.length_take,sizeLine_eq];omega))
    have hst2:stored (vs.take i) p.1 p.2=vs.take (i + 1):=by
      unfold stored
      rw [if_neg]
      · rw [List.take_add_one,hvi];rfl
      · intro z
        obtain ⟨x,hx,e⟩:=List.any_eq_true.mp z
        obtain ⟨j,hj,ej⟩:=List.getElem_of_mem hx
        have hj':j < i∧j < vs.length:=by rw [List.length_take] at hj;omega
        rw [List.getElem_take] at ej
        have e:x.1=p.1:=by simpa using e
        obtain ⟨hi',ei⟩:=List.getElem?_eq_some_iff.mp hvi
        have:=List.pairwise_iff_getElem.mp nd j i (by simp;omega) (by simp;omega) hj'.1
        simp only [List.getElem_map] at this
        rw [ej,ei] at this
        exact this e
    rw [hst2] at hd'
    refine wpAny_pure ⟨plainId_quiet plain_dul _,?_⟩
    refine ih (i + 1) _ (by omega) hlt (W.frame _ s' _ _ hst' (Nat.le_succ _) fun b hb o e=>?_) (fun j t p e1 e2=>?_) hd' fun s'' hm'' hS''=>?_
    · rw [hsb.2 b (fun h:b=D=>hDf (by rw [← h];exact hb))];exact e
    · obtain ⟨o,key,m,h1,h2⟩:=hP' j t p e1 e2
      exact ⟨o,key,m,by rw [hsb.2 _ (hT t (List.mem_of_getElem? e1)).1];exact h1,h2⟩
    · refine hR s'' (Moved.trans W.gtrans ((hm.mono hsub).then_heap (Nat.le_succ _) fun b o hb e=>?_) hm'') hS''
      rw [hsb.2 b (fun h:b=D=>hb (by rw [h];exact List.mem_cons_self))];exact e
end
end L2
namespace L2
open PySem PySem.Spec PyProof.Rows PySem.W
section
variable {prog:Program}{w:World}{K:Type} [DecidableEq K] {knd:KeyKind prog w K}{A:Around}{E:Value→Shared→Prop}{s:Shared}
theorem call_dict_pairs {l:Addr}{ts:List Addr}{vs:List (K×Value)}{Q:Value→Shared→Prop} (hh:A.handled=none) (hl:∃ m,s.heap.get? l=some {cls:=.type "list",data:=.seq (ts.map Value.ref).toArray m}) (hlen:ts.length=vs.length)
    (hp:∀ (j:Nat) (t:Addr) (p:K×Value),ts[j]?=some t→vs[j]?=some p→PairAtH knd s.heap t p) (nd:(vs.map (·.1)).Nodup) (hn:vs.length≤1000)
    (h:∀ (h':Heap) (tk:Nat),(∀ b o,s.heap.get? b=some o→h'.get? b=some o)→h'.DictOf knd s.heap.objs.size vs→Q (.ref s.heap.objs.size) {s with heap:=h',toks:=tk}):
    wpAny (model prog w) A (call (.type "dict") [.ref l]) Q E s:=by
  obtain ⟨m,hl⟩:=hl
  refine callType_codes (Q₁:=fun obj s₁=>obj=.ref s.heap.objs.size∧s₁={s with heap:=s.heap.push {cls:=.type "dict",data:=.dict #[]}}) PySem.F.kt_called_dict (PySem.F.kt_typeCall_dict_1 _) PySem.F.entry_dict_init (kt_code_dict_new _ ⟨rfl,rfl⟩) ?_
  rintro obj s₁ ⟨rfl,rfl⟩
  have hnew:(s.heap.push {cls:=.type "dict",data:=.dict #[]}).DictOf knd s.heap.objs.size []:=Heap.DictOf.new s.heap
  have hl1:(s.heap.push {cls:=.type "dict",data:=.dict #[]}).get? l=some {cls:=.type "list",data:=.seq (ts.map Value.ref).toArray m}:=Heap.get?_push_of_some _ hl
  refine ⟨hnew.typeIs,PySem.F.args_dict_init_2 _ _,?_⟩
  unfold Builtin.«dict.__init__»
  refine wpAny_bind ?_
  unfold Builtin.Dict.selfAndRest
  refine wpAny_bind (wpAny_notOrdered_dict hnew.typeIs ?_)
  show wpAny _ _ (pure (s.heap.objs.size,[Value.ref l])) _ _ _
  refine wpAny_pure ?_
  show wpAny _ _ (Builtin.Dict.updateFrom "dict.__init__" s.heap.objs.size (.ref l) [] .none) _ _ _
  unfold Builtin.Dict.updateFrom
  refine wpAny_bind (wpAny_typeOf (T:="list") ⟨_,hl1,rfl⟩ ?_)
  rw [if_pos (by decide)]
  refine wpAny_bind (keys_miss hl1 rfl rfl rfl hh fun h2 tk2 k2=>?_)
  simp only [Option.isNone_none,if_true]
  refine wpAny_bind (wpAny_rule ?_)
  have hl2:h2.IsList l (ts.map Value.ref).toArray:=⟨_,k2 _ _ hl1,rfl,m,rfl⟩
  refine wpAny_bind (wpAny_pyIter_list hl2 ?_)
  have hdlt:s.heap.objs.size < h2.objs.size:=by
    obtain ⟨o,_,_,ho,_⟩:=hnew
    exact Heap.lt_size (k2 _ _ ho)
  have hllt:l < h2.objs.size:=Heap.lt_size (k2 _ _ hl1)
  have hls:l < s.heap.objs.size:=Heap.lt_size hl
  have keep:∀ b o,s.heap.get? b=some o→(h2.push {cls:=.type "list_iterator",data:=.fields #[.ref l,.int 0 0]}).get? b=some o:=fun b o e=>Heap.get?_push_of_some _ (k2 _ _ (Heap.get?_push_of_some _ e))
  have hsz:(ts.map Value.ref).toArray.size=vs.length:=by simp [hlen]
  have htl:∀ t∈ts,t < s.heap.objs.size:=fun t ht=>by
    obtain ⟨j,hj,e⟩:=List.getElem_of_mem ht
    obtain ⟨o,_,_,h1,_⟩:=hp j t vs[j] (by rw [List.getElem?_eq_getElem hj,e]) (List.getElem?_eq_getElem (by omega))
    exact Heap.lt_size h1
  refine wpAny_pure ⟨plainId_quiet plain_dul _,?_⟩
  refine code_dloop (knd:=knd) ((Walks.list (A:=A.in1.in1) hh h2.objs.size l (Nat.ne_of_lt hllt) (ts.map Value.ref).toArray).toS) s.heap.objs.size (by simp only [List.mem_cons,List.not_mem_nil,or_false,not_or];exact ⟨Nat.ne_of_lt hdlt,Nat.ne_of_gt hls⟩)
    vs ts .none hsz.symm (by rw [hsz,hlen]) (fun i v hv=>?_) (fun t ht=>⟨Nat.ne_of_lt (htl t ht),fun z=>?_⟩) (by rw [hsz];exact hn) nd _ 0 _ rfl (Nat.zero_le _) ⟨⟨_,Heap.get?_push_size _ rfl,rfl,rfl⟩,hl2.push _⟩ (fun j t p e1 e2=>?_) ?_ fun s' hm hD=>?_
  · have hv:(ts.map Value.ref).toArray[i]?=some v:=hv
    rw [List.getElem?_toArray,List.getElem?_map] at hv
    cases e:ts[i]? with
    | none=>rw [e] at hv;cases hv
    | some t=>rw [e] at hv;exact ⟨t,rfl,(Option.some.inj hv).symm⟩
  · rw [List.mem_singleton.mp z] at ht
    exact Nat.lt_asymm hdlt (htl _ ht)
  · obtain ⟨o,key,m',h1,h3⟩:=hp j t p e1 e2
    exact ⟨o,key,m',keep _ _ h1,h3⟩
  · obtain ⟨o,es,ep,ho,r⟩:=hnew
    exact ⟨o,es,ep,Heap.get?_push_of_some _ (k2 _ _ ho),r⟩
  · rw [Moved.eq_with hm]
    refine ⟨rfl,h s'.heap s'.toks (fun b o e=>hm.heap b o (fun z=>?_) (keep b o e)) hD⟩
    have hb:=Heap.lt_size e
    rcases List.mem_cons.mp z with z | z
    · rw [z] at hb;exact Nat.lt_irrefl _ hb
    · rw [List.mem_singleton.mp z] at hb;exact Nat.lt_asymm hdlt hb
end
noncomputable def rDictL (K:PySem.W.Frag):List V→Hp→VK→Prop:=fun xs H Q=>∃ (l:Addr) (ts:List Addr) (kvs:List (Key×V)),xs=[.ref l]∧H l=some (.lst (ts.map V.ref))∧Paired (fun (p:Key×V) t=>SqT K H t [kV p.1,p.2]) kvs ts∧(kvs.map (·.1)).Nodup∧kvs.length≤1000∧
  ∀ d,H d=none→Q (.ref d) (upd H d (.dK kvs))
section
variable {X:Cx}
theorem refs_of:∀ {ts:List Addr}{its:List Value},Vals (ts.map V.ref) its→its=ts.map Value.ref
  | [],_,.nil=>rfl
  | t::ts,_,.cons h r=>by
    cases (show _=Value.ref t from h)
    rw [refs_of r];rfl
theorem call_dictL (hc:X.calm=true):CallR X (.type "dict") (rDictL X.K):=by
  intro pins s σ H xs us Q I r h
  obtain ⟨l,ts,kvs,rfl,hl,hp,nd,hn,q⟩:=h
  obtain ⟨u,rfl,ru⟩:=vals1 r
  cases ru
  obtain ⟨z,its,m,rv,hg⟩:=(show ObjOk X.prog X.w H s.heap l (.lst (ts.map V.ref)) from I.hok l _ hl)
  have ei:=refs_of rv
  subst ei
  have hl':kvs.length=ts.length:=Paired.length hp
  have go:∀ (ks:List (Key×V)) (bs:List Addr),Paired (fun (p:Key×V) t=>SqT X.K H t [kV p.1,p.2]) ks bs→∃ vs:List (Key×Value),KV ks vs∧∀ (j:Nat) (t:Addr) (p:Key×Value),bs[j]?=some t→vs[j]?=some p→PairAtH (mixKind X.prog X.w) s.heap t p:=by
    intro ks bs hpr
    induction hpr with
    | nil=>exact ⟨[],.nil,fun j t p e=>by simp at e⟩
    | @cons p t ks bs hq _ ih=>
      obtain ⟨vs,h1,h2⟩:=ih
      obtain ⟨its,rv,⟨o,e1,e2,n,e3⟩,_⟩:=I.tuple hq
      cases rv with
      | @cons _ key _ _ rk rr=>
      cases rr with
      | @cons _ x _ _ rx rr=>
      cases rr
      refine ⟨(p.1,x)::vs,.cons ⟨rfl,rx⟩ h1,fun j t' p' f1 f2=>?_⟩
      cases j with
      | zero=>
        simp at f1 f2
        subst f1;subst f2
        exact ⟨o,key,n,e1,e2,e3,kV_is rk⟩
      | succ j=>exact h2 j t' p' (by simpa using f1) (by simpa using f2)
  obtain ⟨vs,hkv,hpa⟩:=go kvs ts hp
  have hvl:kvs.length=vs.length:=Paired.length hkv
  have ek:vs.map (·.1)=kvs.map (·.1):=by
    clear hpa hvl go hp q nd hn hl' hl
    induction hkv with
    | nil=>rfl
    | cons h _ ih=>rw [List.map_cons,List.map_cons,ih,h.1]
  refine call_dict_pairs (knd:=mixKind X.prog X.w) (I.ok.hd hc) ⟨m,hg⟩ (by omega) hpa (by rw [ek];exact nd) (by omega) fun h' tk k' dd=>?_
  refine ⟨.ref s.heap.objs.size,_,I.laid (t':=tk) (a:=s.heap.objs.size) (o:=.dK kvs) k' (Nat.le_refl _) (dk_new (Nat.le_trans hn (by decide)) (beq_eq_false_iff_ne.mpr (Ne.symm (Nat.ne_of_lt I.big))) hkv dd),rfl,q _ (I.hok.fresh (Nat.le_refl _))⟩
end
end L2
namespace L2
open PySem PySem.Spec PyProof.Rows PySem.W
section
variable {X:Cx}{pins pins0:List (Addr×Obj)}{σ σ0:List (Option V)}{H H0:Hp}{s s0:Shared}{d:Addr}{u u' u0:HO}{o:Obj}
theorem Inv.retag (I:Inv X pins σ H s) (hd:H d=some u) (h1:∀ a,u≠.own a) (h2:∀ xs,u≠.tup xs) (b1:∀ xs,X.H₀ d≠some (.tup xs)) (b2:∀ o v,X.H₀ d≠some (.frz o v)) (b3:∀ ps,X.H₀ d≠some (.tbl ps))
    (new:ObjOk X.prog X.w (upd H d u') s.heap d u'):Inv X pins σ (upd H d u') s:=by
  have ne:∀ {b:Addr},H b=none→b≠d:=fun h z=>by rw [z,hd] at h;cases h
  refine ⟨I.ok,I.os,I.bare,⟨I.base.keep,I.base.slot,fun b ob q n hx=>?_,I.base.there,fun b xs q=>?_,fun b ob w q=>?_,fun b ps q=>?_⟩,I.loc,I.cell,?_,fun x c e=>?_,fun p hp=>?_,fun b w q=>?_,I.len⟩
  · have:=I.base.free b ob q n hx
    rw [upd_ne (ne this)];exact this
  · rw [upd_ne (fun z=>b1 xs (by rw [← z];exact q))];exact I.base.tups b xs q
  · rw [upd_ne (fun z=>b2 ob w (by rw [← z];exact q))];exact I.base.frzs b ob w q
  · rw [upd_ne (fun z=>b3 ps (by rw [← z];exact q))];exact I.base.tbls b ps q
  · rw [upd_ne (ne I.free)];exact I.free
  · rw [upd_ne (ne (I.freeC x c e))];exact I.freeC x c e
  · obtain ⟨a1,a2,a3⟩:=I.pin p hp
    exact ⟨a1,by rw [upd_ne (ne a2)];exact a2,a3⟩
  · by_cases hb:b=d
    · subst hb
      rw [upd_same] at q
      cases q
      exact new
    · rw [upd_ne hb] at q
      refine (I.hok b w q).stay (fun c v _ q'=>q') (fun c q'=>?_) fun c xs q'=>?_
      · rw [upd_ne (fun z=>by rw [z,hd] at q';exact h1 b (Option.some.inj q'))];exact q'
      · rw [upd_ne (fun z=>by rw [z,hd] at q';exact h2 xs (Option.some.inj q'))];exact q'
theorem Inv.base_dK {kvs:List (Key×V)} (I:Inv X pins σ H s) (hd:H d=some (.dK kvs)):(∀ xs,X.H₀ d≠some (.tup xs))∧(∀ o v,X.H₀ d≠some (.frz o v))∧∀ ps,X.H₀ d≠some (.tbl ps):=by
  refine ⟨fun xs z=>?_,fun o v z=>?_,fun ps z=>?_⟩
  · have:=I.base.tups d xs z;rw [hd] at this;cases this
  · have:=I.base.frzs d o v z;rw [hd] at this;cases this
  · obtain ⟨m,this⟩:=I.base.tbls d ps z;rw [hd] at this;cases this
theorem Inv.freeze {kvs:List (Key×V)} (I:Inv X pins σ H s) (hd:H d=some (.dK kvs)) (ho:s.heap.get? d=some o):Inv X pins σ (upd H d (.frz o (.dK kvs))) s:=by
  obtain ⟨b1,b2,b3⟩:=I.base_dK hd
  exact I.retag hd (fun a z=>nomatch z) (fun xs z=>nomatch z) b1 b2 b3 ⟨ho,(show ObjOk X.prog X.w H s.heap d (.dK kvs) from I.hok d _ hd)⟩
theorem Inv.thaw {kvs kvs0:List (Key×V)} (I0:Inv X pins0 σ0 H0 s0) (h0:H0 d=some (.dK kvs0)) (I:Inv X pins σ H s) (hd:H d=some (.frz o (.dK kvs))):Inv X pins σ (upd H d (.dK kvs)) s:=by
  obtain ⟨b1,b2,b3⟩:=I0.base_dK h0
  exact I.retag hd (fun a z=>nomatch z) (fun xs z=>nomatch z) b1 b2 b3 (show ObjOk X.prog X.w H s.heap d (.frz o (.dK kvs)) from I.hok d _ hd).2
end
noncomputable def Itd (d:Addr) (o:Obj) (kvs:List (Key×V)):It:=
  ⟨fun i H=>H d=some (.frz o (.dK kvs))∧i < kvs.length,fun i H x H'=>∃ T p,x=.ref T∧H T=none∧kvs[i]?=some p∧H'=upd H T (.tup [kV p.1,p.2]),fun i H=>H d=some (.frz o (.dK kvs))∧kvs.length≤i⟩
theorem frz_at {X:Cx}{pins:List (Addr×Obj)}{σ:List (Option V)}{H:Hp}{s:Shared}{d:Addr}{o:Obj}{kvs:List (Key×V)}{es:Array DictEntry}{ep:Nat} (I:Inv X pins σ H s) (hd:H d=some (.frz o (.dK kvs))) (ho:o.data=.dict es ep):
    ∃ vs,KV kvs vs∧s.heap.DictAt (mixKind X.prog X.w) d vs ep:=by
  obtain ⟨hg,_,_,vs,rel,o',es',ep',h1,h2,h3,h4⟩:=(show ObjOk X.prog X.w H s.heap d (.frz o (.dK kvs)) from I.hok d _ hd)
  rw [hg] at h1
  cases h1
  rw [ho] at h3
  cases h3
  exact ⟨vs,rel,o,es,hg,h2,ho,h4⟩
theorem turn_items {P:Program}{w:World}{K:PySem.W.Frag}{elts:List Expr}{x1}{pos:Pos} (d it:Addr) (o:Obj) (es:Array DictEntry) (ep:Nat) (ho:o.data=.dict es ep) (kvs:List (Key×V)) (hne:d≠it):
    Turn P w K (.Tuple elts x1 pos) (Itd d o kvs) [it] it (fun i h=>∃ ok ov,IsItemIter h it d i kvs.length ep ok ov) where
  mem:=by simp
  obj:=fun i h st b hb=>by
    obtain ⟨ok,ov,he⟩:=st
    have z:b=it:=by simpa using hb
    subst z
    exact ⟨_,he,fun v z=>by
      have z':Data.fields _=Data.cell v:=z
      cases z'⟩
  keep:=fun i h h' st k=>by
    obtain ⟨ok,ov,he⟩:=st
    exact ⟨ok,ov,k it (by simp) _ he⟩
  item:=by
    intro X hP hw hK hc i pins s σ H E I hf st hg
    subst hP hw hK
    obtain ⟨ok,ov,he⟩:=st
    obtain ⟨hd,hi⟩:=hg
    obtain ⟨vs,rel,hat⟩:=frz_at I hd ho
    have hlen:kvs.length=vs.length:=Paired.length rel
    obtain ⟨g0,g1,g2,g3,g4,g5⟩:=hf it (by simp)
    have fT:H s.heap.objs.size=none:=I.fresh
    have hvi:vs[i]?=some vs[i]:=List.getElem?_eq_getElem (by omega)
    obtain ⟨p,hp1,hp2,hp3⟩:=kv_get rel i _ hvi
    rw [hlen] at he
    refine wpAny_pyNext_items_item (k:=(vs[i]).1) (v:=(vs[i]).2) he hat hvi fun key h' hkey heo ht hsz hk=>⟨_,rfl,?_⟩
    refine wpAny_letOwnedTupleGo_items heo fun h2 he2 hs2=>?_
    have hs2:Heap.SameBut it h' h2:=hs2
    have heT:it≠s.heap.objs.size:=Nat.ne_of_lt (Heap.lt_size he)
    have oldK:∀ b o,b≠it→s.heap.get? b=some o→h2.get? b=some o:=fun b o h1 q=>hs2.extBut b o h1 (hk b o h1 q)
    have hT2:h2.get? s.heap.objs.size=some {cls:=.type "tuple",data:=.seq #[key,(vs[i]).2]}:=hs2.extBut _ _ (Ne.symm heT) ht
    have neT:∀ b o,s.heap.get? b=some o→b≠s.heap.objs.size:=fun b o q=>Nat.ne_of_lt (Heap.lt_size q)
    have nH:∀ b w',H b=some w'→b≠it:=fun b w' q z=>by rw [z,g0] at q;cases q
    have I2:Inv X pins σ (upd H s.heap.objs.size (.tup [kV p.1,p.2])) {s with heap:=h2,toks:=s.toks}:=by
      refine I.step (g':=s.gens) (d':=s.drawn) (t':=s.toks) (ch:=[it]) (fun b hb=>?_) (fun b o _ _ hb q _=>?_) (fun b o _ _ hb q _=>?_) (fun b o _ q n=>?_) (fun b o hb q=>?_)
        (fun b ys q=>?_) (fun b o w' q=>?_) (fun b ps q=>?_) (fun m hm=>?_) (fun b w' q=>?_) I.bare
      · have z:b=it:=by simpa using hb
        subst z;exact ⟨g3,g1,g4,g5⟩
      · exact oldK b o (fun z=>hb (by simp [z])) q
      · exact ⟨o.slots,oldK b o (fun z=>hb (by simp [z])) q⟩
      · rw [upd_ne (neT b o q)];exact n
      · exact ⟨o,oldK b o (fun z=>hb (by simp [z])) q⟩
      · rw [upd_ne (ne_of_none q fT)];exact q
      · rw [upd_ne (ne_of_none q fT)];exact q
      · exact ⟨#[],by rw [upd_ne (ne_of_none q fT),q];simp⟩
      · obtain ⟨o,es,ep,ho,r⟩:=hm
        exact ⟨o,es,ep,oldK _ o (Ne.symm g1) ho,r⟩
      · by_cases hb:b=s.heap.objs.size
        · subst hb
          rw [upd_same] at q
          cases q
          exact ⟨by show 2≤sizeLine;decide,[key,(vs[i]).2],.cons (by rw [hp2];exact kV_rel hkey) (.cons hp3 .nil),_,hT2,rfl,_,rfl⟩
        · rw [upd_ne hb] at q
          refine (I.hok b w' q).stay (fun c v hc q'=>oldK c v ?_ q') (fun c q'=>?_) fun c ys q'=>?_
          · rcases hc with z | z
            · rw [z];exact nH b w' q
            · exact nH c _ z
          · rw [upd_ne (ne_of_none q' fT)];exact q'
          · rw [upd_ne (ne_of_none q' fT)];exact q'
    refine ⟨.ref s.heap.objs.size,_,I2,rfl,⟨s.heap.objs.size,p,rfl,fT,hp1,rfl⟩,⟨key,(vs[i]).2,?_⟩,fun b hb=>?_⟩
    · rw [hlen];exact he2
    · have z:b=it:=by simpa using hb
      rw [z,upd_ne heT];exact g0
  done:=by
    intro X hP hw hK hc i pins s σ H E I hf st hg
    subst hP hw hK
    obtain ⟨ok,ov,he⟩:=st
    obtain ⟨hd,hi⟩:=hg
    obtain ⟨vs,rel,hat⟩:=frz_at I hd ho
    have hlen:kvs.length=vs.length:=Paired.length rel
    obtain ⟨g0,g1,g2,g3,g4,g5⟩:=hf it (by simp)
    rw [hlen] at he
    refine wpAny_pyNext_items_end (I.ok.hd hc) he hat (List.getElem?_eq_none (by omega)) fun h' eb=>⟨rfl,I.turned (t':=s.toks) (fun b o hb e'=>eb b o hb e') g0 g1 g3 g4 g5⟩
  self:=fun A i s Q E st h=>by
    obtain ⟨ok,ov,he⟩:=st
    have hT:s.TypeIs (.ref it) "dict_itemiterator":=⟨_,he,rfl⟩
    refine wpAny_pyIter_slot hT PySem.F.slot_dict_itemiterator_iter (wpAny_call_entry PySem.F.slot_dict_itemiterator_iter hT kcp_entry ?_ (PySem.F.args_dict_itemiterator_iter_1 _))
    show wpAny _ _ (ret (.ref it)) _ _ s
    exact wpAny_pure ⟨_,rfl,"dict_itemiterator",_,hT,PySem.F.slot_dict_itemiterator_next.lookup,h⟩
section
variable {X:Cx}
noncomputable def iItems (td:TE):TI:=fun σ H R=>td σ H fun x H1=>∃ (d:Addr) (kvs:List (Key×V)),x=.ref d∧H1 d=some (.dK kvs)∧∀ (o:Obj) (v:Addr),H1 v=none→v≠d→R (Itd d o kvs) (upd (upd H1 v (ViewO v d)) d (.frz o (.dK kvs)))
theorem pi_items {e:Expr}{td:TE}{elts:List Expr}{x1}{apos cpos pt:Pos} (he:PE X e td)
    (hbase:attributeBase e "items" X.env (eval e X.env)=eval e X.env:=by rfl) (hline:(apos.endLine==cpos.line)=true:=by rfl):
    PI X (.Tuple elts x1 pt) (.Call (.Attribute e "items" apos) [] [] cpos) (iItems td):=by
  intro pins s σ H R I h
  refine wpAny_Call_method0_late hbase hline (thn (he pins s σ H _ I h) fun v s1 ⟨x,H1,I1,r1,d,kvs,ex,hd,q1⟩=>?_)
  subst ex
  cases (show v=Value.ref d from r1)
  obtain ⟨z,hdS,vs,rel,dd⟩:=dk_rd I1.hok (.inl hd)
  have hlen:kvs.length=vs.length:=Paired.length rel
  have h2:∀ a,Value.ref d=.ref a→∃ ob,s1.heap.get? a=some ob∧ob.dict=none:=fun a e=>by
    cases e
    obtain ⟨o,_,_,ho,hex,_⟩:=id dd
    exact ⟨o,ho,hex.2.1⟩
  refine ⟨"dict","dict.items",PySem.F.plainAttrs_dict,PySem.F.slot_dict_items,PySem.F.type_dict_items,dd.typeIs,h2,Calls.callWith_builtin rfl (PySem.evalArgs_none ?_)⟩
  refine call_meetsIn PySem.F.slot_dict_items dd.typeIs PySem.F.entry_dict_items (PySem.F.args_dict_items_1 _) (meets_dict_items (mixKind X.prog X.w) d hdS) ⟨⟨vs,dd⟩,?_⟩
  have fV:H1 s1.heap.objs.size=none:=I1.hok.fresh (Nat.le_refl _)
  have hdlt:d < s1.heap.objs.size:=I1.hok.lt hd
  have IV:Inv X pins σ (upd H1 s1.heap.objs.size (ViewO s1.heap.objs.size d)) {s1 with heap:=s1.heap.push {cls:=.type "dict_items",data:=.fields #[.ref d]},toks:=s1.toks}:=
    I1.laid (t':=s1.toks) (fun b u e=>Heap.get?_push_of_some _ e) (Nat.le_refl _) ⟨⟨_,Heap.get?_push_size _ rfl,rfl,rfl⟩,⟨_,Heap.get?_push_size _ rfl⟩,fun h1 h2 x k=>by
      obtain ⟨o,ho,r⟩:=x
      exact ⟨o,k o ho,r⟩⟩
  have hd':upd H1 s1.heap.objs.size (ViewO s1.heap.objs.size d) d=some (.dK kvs):=by rw [upd_ne (Nat.ne_of_lt hdlt)];exact hd
  obtain ⟨o,es,ep,ho,hex,hdat,r⟩:=id dd
  have ho1:(s1.heap.push {cls:=.type "dict_items",data:=.fields #[.ref d]}).get? d=some o:=Heap.get?_push_of_some _ ho
  have IF:=IV.freeze hd' ho1
  have hat:(s1.heap.push {cls:=.type "dict_items",data:=.fields #[.ref d]}).DictAt (mixKind X.prog X.w) d vs ep:=⟨o,es,ho1,hex,hdat,r⟩
  show wpAny _ _ (pyIter (.ref s1.heap.objs.size)) _ _ _
  refine wpAny_pyIter_items (knd:=mixKind X.prog X.w) (d:=d) ⟨_,Heap.get?_push_size _ rfl,rfl,rfl⟩ hat ?_
  have hsz:s1.heap.objs.size < (s1.heap.push {cls:=.type "dict_items",data:=.fields #[.ref d]}).objs.size:=by rw [Heap.size_push];exact Nat.lt_succ_self _
  refine ⟨_,[_],_,Itd d o kvs,_,rfl,IF.kept (t':=s1.toks) (fun b u e=>Heap.get?_push_of_some _ e),turn_items d _ o es ep hdat kvs (Nat.ne_of_lt (Nat.lt_trans hdlt hsz)),⟨.none,.none,?_⟩,fun b hb=>?_,q1 o _ fV (Nat.ne_of_gt hdlt)⟩
  · rw [hlen]
    exact Heap.get?_push_size _ rfl
  · have zb:b=(s1.heap.push {cls:=.type "dict_items",data:=.fields #[.ref d]}).objs.size:=by simpa using hb
    subst zb
    exact IF.fpOk (Nat.le_refl _) (IF.hok.fresh (Nat.le_refl _))
noncomputable def tThaw (te:TE):TE:=fun σ H Q=>∃ (d:Addr) (kvs0:List (Key×V)),H d=some (.dK kvs0)∧te σ H fun v H'=>∃ o kvs,H' d=some (.frz o (.dK kvs))∧Q v (upd H' d (.dK kvs))
theorem pe_thaw {e:Expr}{te:TE} (he:PE X e te):PE X e (tThaw te):=by
  intro pins s σ H Q I h
  obtain ⟨d,kvs0,hd,q⟩:=h
  refine thn (he pins s σ H _ I q) fun v s1 ⟨x,H1,I1,r1,o,kvs,hf,q1⟩=>?_
  exact ⟨x,_,Inv.thaw I hd I1 hf,r1,q1⟩
end
end L2
namespace L2
open PySem PySem.Spec PyProof.Rows PySem.W
section
variable {X:Cx}
noncomputable def tBD (t:TE):TT:=fun σ H Q=>t σ H fun x H1=>∃ a kvs,x=.ref a∧H1 a=some (.dK kvs)∧Q (!kvs.isEmpty) H1
theorem pt_dct {e:Expr}{t:TE} (h:PE X e t) (he:∀ whole,isTrue e X.env whole=(do let v ← whole;standAt e.pos;holding [v] (truthy v)):=by intro _;rfl):PT X e (tBD t):=by
  intro pins s σ H Q I hw
  refine isTrue_plain (thn (h pins s σ H _ I hw) fun v s1 ⟨x,H1,I1,r1,q1⟩=>?_) (he _)
  obtain ⟨a,kvs,rfl,hd,q⟩:=q1
  cases r1
  exact d_truth I1 (.inl hd) fun s' I'=>⟨H1,I',q⟩
noncomputable def rLenD:List V→Hp→VK→Prop:=fun xs H Q=>∃ a kvs,xs=[V.ref a]∧H a=some (.dK kvs)∧Q (.int kvs.length) H
theorem call_lenDk:CallR X (.builtin "len") rLenD:=call_lenD
end
section
variable {K:PySem.W.Frag}{σ:St}{H:Hp}{Q:VK}{D:Ends}{R:Hp→Prop}{ta td ty tv:TE}{t:TA}{f m n:Str}{sp:Sp}{E:XK}{C c d dx:Addr}{fs:List (Str×V)}{v y:V}{kvs:List (Key×V)}
noncomputable def fldK (K:PySem.W.Frag) (f:Str) (Q:VK):VK:=fun x H1=>∃ a C dx fs v,x=.ref a∧H1 a=some (.ins C dx fs)∧Cls K C∧NoAttr K C f∧fs.lookup f=some v∧Q v H1
theorem r_fld (h:ta σ H (fldK K f Q)):tFld K ta f σ H Q:=h
theorem k_fld (h:H c=some (.ins C dx fs)) (cl:Cls K C) (na:NoAttr K C f) (l:fs.lookup f=some v) (q:Q v H):fldK K f Q (.ref c) H:=⟨c,C,dx,fs,v,rfl,h,cl,na,l,q⟩
noncomputable def stoK (K:PySem.W.Frag) (f:Str) (y:V) (R:Hp→Prop):VK:=fun x H2=>∃ a C dx fs,x=.ref a∧H2 a=some (.ins C dx fs)∧Cls K C∧NoAttr K C f∧fs.length < 1000∧R (upd H2 a (.ins C dx (putF f y fs)))
theorem r_sfld (h:tv σ H fun y H1=>ta σ H1 (stoK K f y (D.nx σ))):sFld K ta tv f D σ H:=h
theorem k_sto (h:H c=some (.ins C dx fs)) (cl:Cls K C) (na:NoAttr K C f) (l:fs.length < 1000) (q:R (upd H c (.ins C dx (putF f y fs)))):stoK K f y R (.ref c) H:=⟨c,C,dx,fs,rfl,h,cl,na,l,q⟩
noncomputable def augK (K:PySem.W.Frag) (f:Str) (tv:TE) (rd:V→V→Hp→VK→Prop) (σ:St) (R:Hp→Prop):VK:=fun x H1=>∃ a C dx fs v,x=.ref a∧H1 a=some (.ins C dx fs)∧Cls K C∧NoAttr K C f∧fs.lookup f=some v∧
  tv σ H1 fun y H2=>rd v y H2 fun z H3=>∃ dx' fs',H3 a=some (.ins C dx' fs')∧fs'.length < 1000∧R (upd H3 a (.ins C dx' (putF f z fs')))
theorem r_faug {rd:V→V→Hp→VK→Prop} (h:ta σ H (augK K f tv rd σ (D.nx σ))):sFldAug K ta tv rd f D σ H:=h
theorem k_aug {rd:V→V→Hp→VK→Prop} (h:H c=some (.ins C dx fs)) (cl:Cls K C) (na:NoAttr K C f) (l:fs.lookup f=some v)
    (q:tv σ H fun y H2=>rd v y H2 fun z H3=>∃ dx' fs',H3 c=some (.ins C dx' fs')∧fs'.length < 1000∧R (upd H3 c (.ins C dx' (putF f z fs')))):augK K f tv rd σ R (.ref c) H:=⟨c,C,dx,fs,v,rfl,h,cl,na,l,q⟩
noncomputable def mthK (C:Addr) (m:Str) (sp:Sp) (E:XK) (t:TA) (σ:St) (Q:VK):VK:=fun x H1=>∃ a dx fs,x=.ref a∧H1 a=some (.ins C dx fs)∧fs.lookup m=none∧t σ H1 fun vs H2=>sp (x::vs) H2 Q E
theorem r_meth (h:ta σ H (mthK C m sp E t σ Q)):tMeth C m sp [] E ta t σ H Q:=by
  have e:(fun x H1=>∃ a dx fs,x=V.ref a∧H1 a=some (HO.ins C dx fs)∧fs.lookup m=none∧t σ H1 fun vs H2=>sp (x::(vs ++ [])) H2 Q E)=mthK C m sp E t σ Q:=by
    unfold mthK
    simp only [List.append_nil]
  show ta σ H (fun x H1=>∃ a dx fs,x=V.ref a∧H1 a=some (HO.ins C dx fs)∧fs.lookup m=none∧t σ H1 fun vs H2=>sp (x::(vs ++ [])) H2 Q E)
  rw [e]
  exact h
theorem k_meth (h:H c=some (.ins C dx fs)) (l:fs.lookup m=none) (q:t σ H fun vs H2=>sp (.ref c::vs) H2 Q E):mthK C m sp E t σ Q (.ref c) H:=⟨c,dx,fs,rfl,h,l,q⟩
theorem r_make (h:∀ x dx,H x=none→H dx=none→dx≠x→sp [.ref x] (upd (upd H dx (.own x)) x (.ins C dx [])) (fun v H2=>v=.non∧Q (.ref x) H2) E):tMake C sp [] E tNil σ H Q:=h
noncomputable def dgK (Q:VK) (x y:V) (H:Hp):Prop:=∃ a v,x=.ref a∧DGet H a y (some v)∧Q v H
theorem r_dget (h:td σ H fun x H1=>ty σ H1 fun y H2=>dgK Q x y H2):tDGet td ty σ H Q:=h
theorem k_dget (h:H d=some (.dK kvs)) (l:valV kvs (.inr n)=some v) (q:Q v H):dgK Q (.ref d) (.str n) H:=⟨d,v,rfl,by rw [← l];exact DGet.k (k:=.inr n) h,q⟩
noncomputable def dpK (v:V) (R:Hp→Prop) (x y:V) (H:Hp):Prop:=∃ a H4,x=.ref a∧DPut H a y v H4∧R H4
theorem r_dput (h:tv σ H fun v H1=>td σ H1 fun x H2=>ty σ H2 fun y H3=>dpK v (D.nx σ) x y H3):sDPut td ty tv D σ H:=h
theorem k_dput (h:H d=some (.dK kvs)) (l:kvs.length < sizeLine) (q:R (upd H d (.dK (putK kvs (.inr n) v)))):dpK v R (.ref d) (.str n) H:=⟨d,_,rfl,DPut.k (k:=.inr n) h l,q⟩
noncomputable def diK (Q:VK) (neg:Bool) (y x:V) (H:Hp):Prop:=∃ a o,x=.ref a∧DGet H a y o∧Q (.bl (o.isSome != neg)) H
theorem r_din (h:ty σ H fun y H1=>td σ H1 fun x H2=>diK Q false y x H2):tDIn ty td σ H Q:=by
  have e:(fun y H1=>td σ H1 fun x H2=>diK Q false y x H2)=fun y H1=>td σ H1 fun x H2=>∃ a o,x=.ref a∧DGet H2 a y o∧Q (.bl o.isSome) H2:=by
    unfold diK
    simp only [Bool.bne_false]
  rw [e] at h
  exact h
theorem r_dnin (h:ty σ H fun y H1=>td σ H1 fun x H2=>diK Q true y x H2):tDNotIn ty td σ H Q:=by
  have e:(fun y H1=>td σ H1 fun x H2=>diK Q true y x H2)=fun y H1=>td σ H1 fun x H2=>∃ a o,x=.ref a∧DGet H2 a y o∧Q (.bl (!o.isSome)) H2:=by
    unfold diK
    simp only [Bool.bne_true]
  rw [e] at h
  exact h
theorem k_din {neg:Bool} (h:H d=some (.dK kvs)) (q:Q (.bl ((valV kvs (.inr n)).isSome != neg)) H):diK Q neg (.str n) (.ref d) H:=⟨d,_,rfl,DGet.k (k:=.inr n) h,q⟩
noncomputable def popK (ty:TE) (σ:St) (Q:VK):VK:=fun x H1=>∃ a,x=.ref a∧IsD H1 a∧ty σ H1 fun y H2=>∃ kvs k v,H2 a=some (.dK kvs)∧y=kV k∧valV kvs k=some v∧Q v (upd H2 a (.dK (dropK kvs k)))
theorem r_pop (h:td σ H (popK ty σ Q)):tDPop1 td ty σ H Q:=h
theorem r_tBD {R:Bool→Hp→Prop} (h:td σ H fun x H1=>∃ a kvs,x=.ref a∧H1 a=some (.dK kvs)∧R (!kvs.isEmpty) H1):tBD td σ H R:=h
theorem k_lenD (h:H d=some (.dK kvs)) (q:Q (.int kvs.length) H):rLenD [.ref d] H Q:=⟨d,kvs,rfl,h,q⟩
theorem k_items (h:H d=some (.dK kvs)) (q:∀ v H1,H v=none→Same H H1→H1 v=some (ViewO v d)→Q (.ref v) H1):tyV K "dict" (.ref d) H∧rItems (.ref d) [] H Q:=
  ⟨.inr (.inr (.inl ⟨rfl,.inl ⟨kvs,h⟩⟩)),d,kvs,rfl,rfl,h,fun v hv=>q v _ hv (Same.updN hv) upd_same⟩
theorem r_dnew (h:∀ p H1,H p=none→Same H H1→H1 p=some (.dK [])→Q (.ref p) H1):tDNewK σ H Q:=fun p hp=>h p _ hp (Same.updN hp) upd_same
theorem r_isiT {b:Bool}{p:Addr}{ys:List V}{nm:String} (hs:H p=some (.tup ys)) (e:PySem.W.kitOne K (.type "tuple") (.type nm)=some b) (h:Q (.bl b) H):rIsi K [.ref p,.ty nm] H Q:=⟨_,_,_,b,rfl,.tup hs,e,h⟩
theorem r_isiS {b:Bool}{z:Str}{nm:String} (e:PySem.W.kitOne K (.type "str") (.type nm)=some b) (h:Q (.bl b) H):rIsi K [.str z,.ty nm] H Q:=⟨_,_,_,b,rfl,.str z,e,h⟩
end
theorem kit_tt {K:PySem.W.Frag}:PySem.W.kitOne K (.type "tuple") (.type "tuple")=some true:=by rfl
theorem kit_ss {K:PySem.W.Frag}:PySem.W.kitOne K (.type "str") (.type "str")=some true:=by rfl
theorem paired_mapR {α β γ:Type}{F:β→γ→Prop}{f:α→β}:∀ {xs:List α}{ys:List γ},Paired (fun x y=>F (f x) y) xs ys→Paired F (xs.map f) ys
  | _,_,.nil=>.nil
  | _,_,.cons h t=>.cons h (paired_mapR t)
theorem pair_get {α β:Type}{F:α→β→Prop}:∀ {l₁:List α}{l₂:List β}{i:Nat}{a:α},Paired F l₁ l₂→l₁[i]?=some a→∃ b,l₂[i]?=some b∧F a b
  | _,_,_,_,.nil,e=>by simp at e
  | _,_,0,_,.cons r _,e=>by simp at e;subst e;exact ⟨_,rfl,r⟩
  | _,_,i + 1,x,.cons _ t,e=>by
    obtain ⟨u,h1,h2⟩:=pair_get (i:=i) (a:=x) t (by simpa using e)
    exact ⟨u,by simpa using h1,h2⟩
section
variable {mp:List (Option Nat)}{g:TG}{tt:TT}{te:TE}{J:It}{P:Hp→Prop}{n:Nat}{f:Nat→St→St}{σ:St}{H:Hp}{Q:VK}
theorem comp_tupsVY (Y:Ys J g P n f) (st:Nat→St) (hf:∀ i σ',(σ'=liftSt mp σ∨∃ j,σ'=st j)→f i σ'=st i) (hP:∀ H',Same H H'→P H') (hz:n≤sizeLine) (b:Nat→Bool) (row:Nat→List V)
    (ht:∀ i,i < n→∀ (H':Hp) (G:Bool→Hp→Prop),Same H H'→(∀ H'',Same H' H''→G (b i) H'')→tt (st i) H' G)
    (he:∀ i,i < n→b i=true→∀ (H':Hp) (G:VK),Same H H'→(∀ a H'',H' a=none→Same H' H''→H'' a=some (.tup (row i))→G (.ref a) H'')→te (st i) H' G)
    (hd:∀ l bs H',H l=none→Same H H'→H' l=some (.lst (bs.map V.ref))→Paired (fun i a=>H' a=some (.tup (row i))) ((List.range n).filter b) bs→Q (.ref l) H'):tCompK mp g tt te J σ H Q:=by
  refine comp_genY Y st hf hP hz b (fun l i v H'=>∃ a,v=.ref a∧a≠l∧H' a=some (.tup (row i))) (fun l i v H1 H2 s ⟨a,e,hl,h1⟩=>⟨a,e,hl,s a _ hl h1⟩) ht
    (fun l i hi hb H' G hl ⟨o,ho⟩ s k=>he i hi hb H' G s fun a H'' h0 s' h1=>k _ H'' ⟨a,rfl,(fun e=>by rw [e,ho] at h0;cases h0),h1⟩ s') fun l ys H' h0 s h1 pr=>?_
  obtain ⟨bs,rfl,pr'⟩:=paired_refs (T:=fun a i=>a≠l∧H' a=some (.tup (row i))) pr
  exact hd l bs H' h0 s h1 (Paired.mapP pr' fun _ _ q=>q.2)
end
theorem ys_items {K:PySem.W.Frag}{d:Addr}{o:Obj}{kvs:List (Key×V)} (p r:Nat) (u v:Nat→V) (hu:∀ i q,kvs[i]?=some q→kV q.1=u i∧q.2=v i):
    Ys (Itd d o kvs) (gTup K 2 (gCons (gName p) (gCons (gName r) gNil))) (fun H=>H d=some (.frz o (.dK kvs))) kvs.length (fun i σ=>(σ.set p (some (u i))).set r (some (v i))) where
  go:=fun i H hi h=>⟨h,hi⟩
  stop:=fun H h=>⟨h,Nat.le_refl _⟩
  yld:=fun i H x H' σ Q hi h y q=>by
    obtain ⟨T,w,rfl,hT,hw,rfl⟩:=y
    obtain ⟨e1,e2⟩:=hu i w hw
    refine ⟨T,_,rfl,SqT.of upd_same,rfl,_,_,rfl,_,_,rfl,rfl,?_⟩
    have:=q _ (Same.updN hT (o:=.tup [kV w.1,w.2]))
    rw [← e1,← e2] at this
    exact this
section
variable {K:PySem.W.Frag}{mp:List (Option Nat)}{te td:TE}{σ:St}{H:Hp}{Q:VK}{d:Addr}{kvs:List (Key×V)}
theorem comp_items (htd:∀ k:VK,k (.ref d) H→td σ H k) (hd:H d=some (.dK kvs)) (hz:kvs.length≤sizeLine) (u v:Nat→V) (hu:∀ i q,kvs[i]?=some q→kV q.1=u i∧q.2=v i)
    (st:Nat→St) (hf:∀ i σ',(σ'=liftSt mp σ∨∃ j,σ'=st j)→(σ'.set 0 (some (u i))).set 1 (some (v i))=st i) (row:Nat→List V)
    (he:∀ i,i < kvs.length→∀ (H':Hp) (G:VK),(∀ a H'',H' a=none→Same H' H''→H'' a=some (.tup (row i))→G (.ref a) H'')→te (st i) H' G)
    (hq:∀ l bs H2,H l=none→Same H H2→H2 l=some (.lst (bs.map V.ref))→Paired (fun i a=>H2 a=some (.tup (row i))) (List.range kvs.length) bs→Q (.ref l) H2):
    tThaw (tComp mp (iItems td) (gTup K 2 (gCons (gName 0) (gCons (gName 1) gNil))) tYes te) σ H Q:=by
  refine ⟨d,kvs,hd,?_⟩
  refine r_comp ?_
  refine htd _ ⟨d,kvs,rfl,hd,fun o w hw hne=>?_⟩
  have hl0:∀ a,upd (upd H w (ViewO w d)) d (.frz o (.dK kvs)) a=none→H a=none:=fun a ha=>by
    by_cases h1:a=d
    · subst h1;rw [upd_same] at ha;cases ha
    · rw [upd_ne h1] at ha
      by_cases h2:a=w
      · subst h2;exact hw
      · rwa [upd_ne h2] at ha
  refine comp_tupsVY (ys_items 0 1 u v hu) st hf (fun H' s=>s _ _ upd_same) hz (fun _=>true) row (fun i hi H' G s k=>k H' (Same.refl _)) (fun i hi _ H' G _ k=>he i hi H' G k) fun l bs H' h0 s h1 pr=>?_
  rw [List.filter_eq_self.mpr (fun _ _=>rfl)] at pr
  have hfd:H' d=some (.frz o (.dK kvs)):=s _ _ upd_same
  have hld:l≠d:=fun e=>by rw [e,upd_same] at h0;cases h0
  refine ⟨o,kvs,hfd,hq l bs _ (hl0 l h0) (fun a x ha=>?_) (by rw [upd_ne hld];exact h1) (Paired.mapP pr fun i a q=>?_)⟩
  · by_cases h1:a=d
    · subst h1
      rw [upd_same,← hd];exact ha
    · rw [upd_ne h1]
      have hw2:a≠w:=fun e=>by rw [e,hw] at ha;cases ha
      exact s _ _ (by rw [upd_ne h1,upd_ne hw2];exact ha)
  · rw [upd_ne (fun e=>by rw [e,hfd] at q;cases q)];exact q
end
end L2
namespace L2
open PySem PySem.Spec PyProof.Rows PySem.W
noncomputable def Itk (d:Addr) (o:Obj) (kvs:List (Key×V)):It:=
  ⟨fun i H=>H d=some (.frz o (.dK kvs))∧i < kvs.length,fun i H x H'=>H'=H∧∃ p,kvs[i]?=some p∧x=kV p.1,fun i H=>H d=some (.frz o (.dK kvs))∧kvs.length≤i⟩
theorem turn_keys {P:Program}{w:World}{K:PySem.W.Frag}{tg:Expr} (d it:Addr) (o:Obj) (es:Array DictEntry) (ep:Nat) (ho:o.data=.dict es ep) (kvs:List (Key×V)):
    Turn P w K tg (Itk d o kvs) [it] it (fun i h=>h.IsKeyIter it d i kvs.length ep) where
  mem:=by simp
  obj:=fun i h st b hb=>by
    have z:b=it:=by simpa using hb
    subst z
    obtain ⟨io,e,c,dt⟩:=st
    exact ⟨io,e,fun v z=>by rw [dt] at z;cases z⟩
  keep:=fun i h h' st k=>by
    obtain ⟨io,e,r⟩:=st
    exact ⟨io,k it (by simp) io e,r⟩
  item:=by
    intro X hP hw hK hc i pins s σ H E I hf st hg
    subst hP hw hK
    obtain ⟨hd,hi⟩:=hg
    obtain ⟨vs,rel,hat⟩:=frz_at I hd ho
    have hlen:kvs.length=vs.length:=Paired.length rel
    obtain ⟨f0,f1,f2,f3,f4,f5⟩:=hf it (by simp)
    have hvi:vs[i]?=some vs[i]:=List.getElem?_eq_getElem (by omega)
    obtain ⟨p,hp1,hp2,hp3⟩:=kv_get rel i _ hvi
    have st':s.heap.IsKeyIter it d i vs.length ep:=by rw [← hlen];exact st
    refine wpAny_pyNext_dict_item (knd:=mixKind X.prog X.w) (k:=(vs[i]).1) (v:=(vs[i]).2) st' hat hvi fun key h' hkey hit' sb=>?_
    have I1:Inv X pins σ H {s with heap:=h',toks:=s.toks}:=I.turned (t':=s.toks) (fun b o hb e=>(sb.2 b hb).trans e) f0 f1 f3 f4 f5
    obtain ⟨io,e,c,dt⟩:=id hit'
    refine ⟨_,rfl,go_of (s:={s with heap:=h'}) e c dt (by decide) ⟨kV p.1,H,I1,by rw [hp2];exact kV_rel hkey,⟨rfl,p,hp1,rfl⟩,by rw [hlen];exact hit',fun b hb=>(hf b hb).1⟩⟩
  done:=by
    intro X hP hw hK hc i pins s σ H E I hf st hg
    subst hP hw hK
    obtain ⟨hd,hi⟩:=hg
    obtain ⟨vs,rel,hat⟩:=frz_at I hd ho
    have hlen:kvs.length=vs.length:=Paired.length rel
    obtain ⟨f0,f1,f2,f3,f4,f5⟩:=hf it (by simp)
    have st':s.heap.IsKeyIter it d i vs.length ep:=by rw [← hlen];exact st
    exact wpAny_pyNext_dict_end (knd:=mixKind X.prog X.w) (I.ok.hd hc) st' hat (List.getElem?_eq_none (by omega)) fun h' eb=>⟨rfl,I.turned (t':=s.toks) (fun b o hb e'=>eb b o hb e') f0 f1 f3 f4 f5⟩
  self:=fun _ _ _ _ _ st h=>wpAny_pyIter_keyiter st h
section
variable {X:Cx}{tg:Expr}
noncomputable def iKeys (td:TE):TI:=fun σ H R=>td σ H fun x H1=>∃ (d:Addr) (kvs:List (Key×V)),x=.ref d∧H1 d=some (.dK kvs)∧∀ (o:Obj),R (Itk d o kvs) (upd H1 d (.frz o (.dK kvs)))
theorem pi_keys {l:Expr}{tl:TE} (hl:PE X l tl):PI X tg l (iKeys tl):=by
  intro pins s σ H R I h
  refine thn (hl pins s σ H _ I h) fun v s1 ⟨x,H1,I1,r1,d,kvs,ex,hd,q1⟩=>?_
  subst ex
  cases (show v=Value.ref d from r1)
  obtain ⟨z,hdS,vs,rel,dd⟩:=dk_rd I1.hok (.inl hd)
  have hlen:kvs.length=vs.length:=Paired.length rel
  obtain ⟨o,es,ep,ho,hex,hdat,r⟩:=id dd
  have IF:=I1.freeze hd ho
  have hat:s1.heap.DictAt (mixKind X.prog X.w) d vs ep:=⟨o,es,ho,hex,hdat,r⟩
  refine wpAny_pyIter_dict (knd:=mixKind X.prog X.w) hdS hat ?_
  refine ⟨_,[_],_,Itk d o kvs,_,rfl,IF.kept (t':=s1.toks) (fun b u e=>Heap.get?_push_of_some _ e),turn_keys d _ o es ep hdat kvs,⟨_,Heap.get?_push_size _ rfl,rfl,by rw [hlen];rfl⟩,fun b hb=>?_,q1 o⟩
  have zb:b=s1.heap.objs.size:=by simpa using hb
  subst zb
  exact IF.fpOk (Nat.le_refl _) (IF.hok.fresh (Nat.le_refl _))
end
theorem ys_keys {d:Addr}{o:Obj}{kvs:List (Key×V)} (p:Nat) (u:Nat→V) (hu:∀ i q,kvs[i]?=some q→kV q.1=u i):
    Ys (Itk d o kvs) (gName p) (fun H=>H d=some (.frz o (.dK kvs))) kvs.length (fun i σ=>σ.set p (some (u i))) where
  go:=fun i H hi h=>⟨h,hi⟩
  stop:=fun H h=>⟨h,Nat.le_refl _⟩
  yld:=fun i H x H' σ Q hi h y q=>by
    obtain ⟨e,w,hw,ex⟩:=y
    subst e ex
    rw [hu i w hw]
    exact q _ (Same.refl _)
section
variable {K:PySem.W.Frag}{mp:List (Option Nat)}{tt:TT}{te td:TE}{σ:St}{H:Hp}{Q:VK}{d:Addr}{kvs:List (Key×V)}
theorem comp_keys (htd:∀ k:VK,k (.ref d) H→td σ H k) (hd:H d=some (.dK kvs)) (hz:kvs.length≤sizeLine) (u:Nat→V) (hu:∀ i q,kvs[i]?=some q→kV q.1=u i)
    (st:Nat→St) (hf:∀ i σ',(σ'=liftSt mp σ∨∃ j,σ'=st j)→σ'.set 0 (some (u i))=st i) (b:Nat→Bool) (F:Nat→V)
    (ht:∀ i,i < kvs.length→∀ (H':Hp) (G:Bool→Hp→Prop),SameX d H H'→(∀ H'',Same H' H''→G (b i) H'')→tt (st i) H' G)
    (he:∀ i,i < kvs.length→b i=true→∀ (H':Hp) (G:VK),SameX d H H'→(∀ H'',Same H' H''→G (F i) H'')→te (st i) H' G)
    (hq:∀ l H2,H l=none→Same H H2→H2 l=some (.lst (((List.range kvs.length).filter b).map F))→Q (.ref l) H2):
    tThaw (tComp mp (iKeys td) (gName 0) tt te) σ H Q:=by
  refine ⟨d,kvs,hd,?_⟩
  refine r_comp ?_
  refine htd _ ⟨d,kvs,rfl,hd,fun o=>?_⟩
  have hl0:∀ a,upd H d (.frz o (.dK kvs)) a=none→H a=none:=fun a ha=>by
    by_cases h1:a=d
    · subst h1;rw [upd_same] at ha;cases ha
    · rwa [upd_ne h1] at ha
  have hx:∀ H',Same (upd H d (.frz o (.dK kvs))) H'→SameX d H H':=fun H' s a x ha h=>s _ _ (by rw [upd_ne ha];exact h)
  refine comp_filtY (ys_keys 0 u hu) st hf (fun H' s=>s _ _ upd_same) hz b F (fun i hi H' G s k=>ht i hi H' G (hx H' s) k) (fun i hi hb H' G s k=>he i hi hb H' G (hx H' s) k) fun l H' h0 s h1=>?_
  have hfd:H' d=some (.frz o (.dK kvs)):=s _ _ upd_same
  have hld:l≠d:=fun e=>by rw [e,upd_same] at h0;cases h0
  refine ⟨o,kvs,hfd,hq l _ (hl0 l h0) (fun a x ha=>?_) (by rw [upd_ne hld];exact h1)⟩
  by_cases h1:a=d
  · subst h1
    rw [upd_same,← hd];exact ha
  · rw [upd_ne h1]
    exact hx H' s a x h1 ha
end
end L2
namespace L2
open PySem PySem.Spec PyProof.Rows PySem.W
section
variable {X:Cx}
noncomputable def rInD (K:PySem.W.Frag) (neg:Bool):R2:=fun x y H Q=>∃ (ds:List PyData) (d:PyData),DatIs K H y (.list ds)∧DatIs K H x d∧niceD 8 (.list ds)∧niceD 8 d∧Q (.bl ((ds.any fun y=>same y d) != neg)) H
theorem any_same {ds:List PyData}{d:PyData} (h1:niceAll ds=true) (h2:nice d=true):(ds.any fun y=>PyData.eqv y d)=ds.any fun y=>same y d:=by
  induction ds with
  | nil=>rfl
  | cons a r ih=>
    rw [niceAll,Bool.and_eq_true] at h1
    rw [List.any_cons,List.any_cons,ih h1.2,SeqAt.same_eq_eqv a d (nice_mix a d h1.1 h2)]
theorem nice_of {ds:List PyData} (h:niceD 8 (.list ds)):niceAll ds=true∧PyData.depthAll ds≤8:=by
  obtain ⟨h1,h2⟩:=h
  rw [nice] at h1
  rw [PyData.depth] at h2
  exact ⟨h1,by omega⟩
theorem op_inD (hu:X.A.units + 64 < cLine):OpR X (compareOp .In) (rInD X.K false):=by
  intro pins s σ H x y u v Q I rx ry h
  obtain ⟨ds,d,h1,h2,n1,n2,q⟩:=h
  obtain ⟨as,a⟩:=reads_of I h1 ry
  obtain ⟨bs,b⟩:=reads_of I h2 rx
  obtain ⟨m1,m2⟩:=nice_of n1
  refine SeqAt.in_list_reads a b (nice_layAll ds m1) (nice_lay d n2.1) (by have:=n2.2;omega) ?_
  rw [any_same m1 n2.1]
  rw [Bool.bne_false] at q
  exact ⟨.bl _,H,I,rfl,q⟩
theorem op_ninD (hu:X.A.units + 64 < cLine):OpR X (compareOp .NotIn) (rInD X.K true):=by
  intro pins s σ H x y u v Q I rx ry h
  obtain ⟨ds,d,h1,h2,n1,n2,q⟩:=h
  obtain ⟨as,a⟩:=reads_of I h1 ry
  obtain ⟨bs,b⟩:=reads_of I h2 rx
  obtain ⟨m1,m2⟩:=nice_of n1
  refine SeqAt.notIn_list_reads a b (nice_layAll ds m1) (nice_lay d n2.1) (by have:=n2.2;omega) ?_
  rw [any_same m1 n2.1]
  rw [Bool.bne_true] at q
  exact ⟨.bl _,H,I,rfl,q⟩
end
end L2
namespace L2
open PySem PySem.Spec PyProof.Rows PySem.W PySem.SeqAt PySem.MeetsSeq
open PySem.AutoSeq1 (wpAny_loadPart')
section
variable {X:Cx}
end
end L2
namespace L2
open PySem PySem.Spec PyProof.Rows PySem.W
section
variable {X:Cx}
noncomputable def rListD:List V→Hp→VK→Prop:=fun xs H Q=>∃ (d:Addr) (kvs:List (Key×V)),xs=[.ref d]∧H d=some (.dK kvs)∧∀ l,H l=none→Q (.ref l) (upd H l (.lst (kvs.map fun p=>kV p.1)))
theorem call_listD (hc:X.calm=true):CallR X (.type "list") rListD:=by
  intro pins s σ H xs us Q I r h
  obtain ⟨d,kvs,rfl,hd,q⟩:=h
  obtain ⟨u,rfl,ru⟩:=vals1 r
  cases ru
  obtain ⟨z,hdS,vs,rel,dd⟩:=dk_rd I.hok (.inl hd)
  obtain ⟨ep,hat⟩:=dd.dictAt
  have hlen:kvs.length=vs.length:=Paired.length rel
  refine kdl_call (kdl_dict (knd:=mixKind X.prog X.w) (kvs:=vs) (ep:=ep) hdS) (I.ok.hd hc) hat (by rw [← hlen];exact z) fun h' tk acc c hk hl hacc=>?_
  have hal:acc.toList.length=vs.length:=by rw [Array.length_toList];exact hacc.1
  refine ⟨.ref s.heap.objs.size,_,I.laid (t':=tk) (a:=s.heap.objs.size) (o:=.lst (kvs.map fun p=>kV p.1)) hk (Nat.le_refl _) ⟨by rw [List.length_map];exact z,acc.toList,c,?_,by rw [Array.toArray_toList];exact hl⟩,rfl,q _ (I.hok.fresh (Nat.le_refl _))⟩
  refine vals_of_get (by rw [List.length_map,hal,hlen]) fun i x u e1 e2=>?_
  obtain ⟨k,y,hx,hkey⟩:=hacc.2 i u (by rw [← Array.getElem?_toList];exact e2)
  obtain ⟨p,hp1,hp2,_⟩:=kv_get rel i _ hx
  rw [List.getElem?_map,hp1] at e1
  cases e1
  show RelV (kV p.1) u
  rw [hp2]
  exact kV_rel hkey
noncomputable def ViewVO (v d:Addr):HO:=.ext fun h=>h.IsValuesView v d
noncomputable def rVals:V→List V→Hp→VK→Prop:=fun x vs H Q=>∃ (d:Addr) (kvs:List (Key×V)),x=.ref d∧vs=[]∧H d=some (.dK kvs)∧∀ v,H v=none→Q (.ref v) (upd H v (ViewVO v d))
theorem mt_vals:MtR X "dict.values" rVals:=by
  intro pins s σ H x xs v us Q I rx r h
  obtain ⟨d,kvs,rfl,rfl,e,q⟩:=h
  cases r
  cases (show v=Value.ref d from rx)
  obtain ⟨z,hd,vs,rel,dd⟩:=dk_rd I.hok (.inl e)
  refine call_meetsIn PySem.F.slot_dict_values dd.typeIs PySem.F.entry_dict_values (PySem.F.args_dict_values_1 _) (meets_dict_values (mixKind X.prog X.w) d hd) ⟨⟨vs,dd⟩,?_⟩
  refine ⟨.ref s.heap.objs.size,upd H s.heap.objs.size (ViewVO s.heap.objs.size d),I.laid (t':=s.toks) (fun b u e=>Heap.get?_push_of_some _ e) (Nat.le_refl _) ⟨⟨_,Heap.get?_push_size _ rfl,rfl,rfl⟩,⟨_,Heap.get?_push_size _ rfl⟩,fun h1 h2 x k=>?_⟩,rfl,q _ (I.hok.fresh (Nat.le_refl _))⟩
  obtain ⟨o,ho,r⟩:=x
  exact ⟨o,k o ho,r⟩
noncomputable def rListVal:List V→Hp→VK→Prop:=fun xs H Q=>∃ (v d:Addr) (kvs:List (Key×V)),xs=[.ref v]∧H v=some (ViewVO v d)∧H d=some (.dK kvs)∧∀ l,H l=none→Q (.ref l) (upd H l (.lst (kvs.map (·.2))))
theorem call_listVal (hc:X.calm=true):CallR X (.type "list") rListVal:=by
  intro pins s σ H xs us Q I r h
  obtain ⟨v,d,kvs,rfl,hv,hd,q⟩:=h
  obtain ⟨u,rfl,ru⟩:=vals1 r
  cases ru
  obtain ⟨z,hdS,vs,rel,dd⟩:=dk_rd I.hok (.inl hd)
  obtain ⟨ep,hat⟩:=dd.dictAt
  have hlen:kvs.length=vs.length:=Paired.length rel
  have hvw:s.heap.IsValuesView v d:=(show ObjOk X.prog X.w H s.heap v (ViewVO v d) from I.hok v _ hv).1
  refine kdl_call (kdl_values (knd:=mixKind X.prog X.w) (kvs:=vs) (ep:=ep)) (I.ok.hd hc) ⟨hvw,hat⟩ (by rw [← hlen];exact z) fun h' tk acc c hk hl hacc=>?_
  have hal:acc.toList.length=vs.length:=by rw [Array.length_toList];exact hacc.1
  refine ⟨.ref s.heap.objs.size,_,I.laid (t':=tk) (a:=s.heap.objs.size) (o:=.lst (kvs.map (·.2))) hk (Nat.le_refl _) ⟨by rw [List.length_map];exact z,acc.toList,c,?_,by rw [Array.toArray_toList];exact hl⟩,rfl,q _ (I.hok.fresh (Nat.le_refl _))⟩
  refine vals_of_get (by rw [List.length_map,hal,hlen]) fun i x u e1 e2=>?_
  obtain ⟨k,hx⟩:=hacc.2 i u (by rw [← Array.getElem?_toList];exact e2)
  obtain ⟨p,hp1,hp2,hp3⟩:=kv_get rel i _ hx
  rw [List.getElem?_map,hp1] at e1
  cases e1
  exact hp3
end
noncomputable def Itv (d:Addr) (o:Obj) (kvs:List (Key×V)):It:=
  ⟨fun i H=>H d=some (.frz o (.dK kvs))∧i < kvs.length,fun i H x H'=>H'=H∧∃ p,kvs[i]?=some p∧x=p.2,fun i H=>H d=some (.frz o (.dK kvs))∧kvs.length≤i⟩
theorem turn_vals {P:Program}{w:World}{K:PySem.W.Frag}{tg:Expr} (d it:Addr) (o:Obj) (es:Array DictEntry) (ep:Nat) (ho:o.data=.dict es ep) (kvs:List (Key×V)):
    Turn P w K tg (Itv d o kvs) [it] it (fun i h=>h.IsValIter it d i kvs.length ep) where
  mem:=by simp
  obj:=fun i h st b hb=>by
    have z:b=it:=by simpa using hb
    subst z
    obtain ⟨io,e,c,dt⟩:=st
    exact ⟨io,e,fun v z=>by rw [dt] at z;cases z⟩
  keep:=fun i h h' st k=>by
    obtain ⟨io,e,r⟩:=st
    exact ⟨io,k it (by simp) io e,r⟩
  item:=by
    intro X hP hw hK hc i pins s σ H E I hf st hg
    subst hP hw hK
    obtain ⟨hd,hi⟩:=hg
    obtain ⟨vs,rel,hat⟩:=frz_at I hd ho
    have hlen:kvs.length=vs.length:=Paired.length rel
    obtain ⟨f0,f1,f2,f3,f4,f5⟩:=hf it (by simp)
    have hvi:vs[i]?=some vs[i]:=List.getElem?_eq_getElem (by omega)
    obtain ⟨p,hp1,hp2,hp3⟩:=kv_get rel i _ hvi
    have st':s.heap.IsValIter it d i vs.length ep:=by rw [← hlen];exact st
    refine wpAny_pyNext_values_item (knd:=mixKind X.prog X.w) (k:=(vs[i]).1) (v:=(vs[i]).2) st' hat hvi fun h' hit' sb=>?_
    have I1:Inv X pins σ H {s with heap:=h',toks:=s.toks}:=I.turned (t':=s.toks) (fun b o hb e=>(sb.2 b hb).trans e) f0 f1 f3 f4 f5
    obtain ⟨io,e,c,dt⟩:=id hit'
    refine ⟨_,rfl,go_of (s:={s with heap:=h'}) e c dt (by decide) ⟨p.2,H,I1,hp3,⟨rfl,p,hp1,rfl⟩,by rw [hlen];exact hit',fun b hb=>(hf b hb).1⟩⟩
  done:=by
    intro X hP hw hK hc i pins s σ H E I hf st hg
    subst hP hw hK
    obtain ⟨hd,hi⟩:=hg
    obtain ⟨vs,rel,hat⟩:=frz_at I hd ho
    have hlen:kvs.length=vs.length:=Paired.length rel
    obtain ⟨f0,f1,f2,f3,f4,f5⟩:=hf it (by simp)
    have st':s.heap.IsValIter it d i vs.length ep:=by rw [← hlen];exact st
    exact wpAny_pyNext_values_end (knd:=mixKind X.prog X.w) (I.ok.hd hc) st' hat (List.getElem?_eq_none (by omega)) fun h' eb=>⟨rfl,I.turned (t':=s.toks) (fun b o hb e'=>eb b o hb e') f0 f1 f3 f4 f5⟩
  self:=fun _ _ _ _ _ st h=>wpAny_pyIter_valiter st h
section
variable {X:Cx}{tg:Expr}
noncomputable def iVals (td:TE):TI:=fun σ H R=>td σ H fun x H1=>∃ (d:Addr) (kvs:List (Key×V)),x=.ref d∧H1 d=some (.dK kvs)∧∀ (o:Obj) (v:Addr),H1 v=none→v≠d→R (Itv d o kvs) (upd (upd H1 v (ViewVO v d)) d (.frz o (.dK kvs)))
theorem pi_vals {e:Expr}{td:TE}{apos cpos:Pos} (he:PE X e td)
    (hbase:attributeBase e "values" X.env (eval e X.env)=eval e X.env:=by rfl) (hline:(apos.endLine==cpos.line)=true:=by rfl):
    PI X tg (.Call (.Attribute e "values" apos) [] [] cpos) (iVals td):=by
  intro pins s σ H R I h
  refine wpAny_Call_method0_late hbase hline (thn (he pins s σ H _ I h) fun v s1 ⟨x,H1,I1,r1,d,kvs,ex,hd,q1⟩=>?_)
  subst ex
  cases (show v=Value.ref d from r1)
  obtain ⟨z,hdS,vs,rel,dd⟩:=dk_rd I1.hok (.inl hd)
  have hlen:kvs.length=vs.length:=Paired.length rel
  have h2:∀ a,Value.ref d=.ref a→∃ ob,s1.heap.get? a=some ob∧ob.dict=none:=fun a e=>by
    cases e
    obtain ⟨o,_,_,ho,hex,_⟩:=id dd
    exact ⟨o,ho,hex.2.1⟩
  refine ⟨"dict","dict.values",PySem.F.plainAttrs_dict,PySem.F.slot_dict_values,PySem.F.type_dict_values,dd.typeIs,h2,Calls.callWith_builtin rfl (PySem.evalArgs_none ?_)⟩
  refine call_meetsIn PySem.F.slot_dict_values dd.typeIs PySem.F.entry_dict_values (PySem.F.args_dict_values_1 _) (meets_dict_values (mixKind X.prog X.w) d hdS) ⟨⟨vs,dd⟩,?_⟩
  have fV:H1 s1.heap.objs.size=none:=I1.hok.fresh (Nat.le_refl _)
  have hdlt:d < s1.heap.objs.size:=I1.hok.lt hd
  have IV:Inv X pins σ (upd H1 s1.heap.objs.size (ViewVO s1.heap.objs.size d)) {s1 with heap:=s1.heap.push {cls:=.type "dict_values",data:=.fields #[.ref d]},toks:=s1.toks}:=
    I1.laid (t':=s1.toks) (fun b u e=>Heap.get?_push_of_some _ e) (Nat.le_refl _) ⟨⟨_,Heap.get?_push_size _ rfl,rfl,rfl⟩,⟨_,Heap.get?_push_size _ rfl⟩,fun h1 h2 x k=>by
      obtain ⟨o,ho,r⟩:=x
      exact ⟨o,k o ho,r⟩⟩
  have hd':upd H1 s1.heap.objs.size (ViewVO s1.heap.objs.size d) d=some (.dK kvs):=by rw [upd_ne (Nat.ne_of_lt hdlt)];exact hd
  obtain ⟨o,es,ep,ho,hex,hdat,r⟩:=id dd
  have ho1:(s1.heap.push {cls:=.type "dict_values",data:=.fields #[.ref d]}).get? d=some o:=Heap.get?_push_of_some _ ho
  have IF:=IV.freeze hd' ho1
  have hat:(s1.heap.push {cls:=.type "dict_values",data:=.fields #[.ref d]}).DictAt (mixKind X.prog X.w) d vs ep:=⟨o,es,ho1,hex,hdat,r⟩
  show wpAny _ _ (pyIter (.ref s1.heap.objs.size)) _ _ _
  refine wpAny_pyIter_values (knd:=mixKind X.prog X.w) (d:=d) ⟨_,Heap.get?_push_size _ rfl,rfl,rfl⟩ hat ?_
  refine ⟨_,[_],_,Itv d o kvs,_,rfl,IF.kept (t':=s1.toks) (fun b u e=>Heap.get?_push_of_some _ e),turn_vals d _ o es ep hdat kvs,⟨_,Heap.get?_push_size _ rfl,rfl,by rw [hlen];rfl⟩,fun b hb=>?_,q1 o _ fV (Nat.ne_of_gt hdlt)⟩
  have zb:b=(s1.heap.push {cls:=.type "dict_values",data:=.fields #[.ref d]}).objs.size:=by simpa using hb
  subst zb
  exact IF.fpOk (Nat.le_refl _) (IF.hok.fresh (Nat.le_refl _))
end
end L2
namespace L2
open PySem PySem.Spec PyProof.Rows PySem.W
section
variable {prog:Program}{w:World}{κ:Type} [DecidableEq κ] {knd:KeyKind prog w κ}{A:Around}{E:Value→Shared→Prop}{s:Shared}
theorem nextKey_item {it d:Addr}{i ep:Nat}{kvs:List (κ×Value)}{k:κ}{v:Value}{Q:Value→Shared→Prop} (st:s.heap.IsKeyIter it d i kvs.length ep) (hm:s.heap.DictAt knd d kvs ep) (hx:kvs[i]?=some (k,v))
    (q:∀ key h',knd.is k key=true→h'.IsKeyIter it d (i + 1) kvs.length ep→Heap.SameBut it s.heap h'→Q key {s with heap:=h'}):wpAny (model prog w) A (Builtin.SmallTypes.nextOf (.ref it)) Q E s:=by
  unfold Builtin.SmallTypes.nextOf
  exact wpAny_bind (kdk_special st hm hx fun key h' h1 h2 h3=>wpAny_pure (q key h' h1 h2 h3))
theorem nextKey_end {it d:Addr}{i ep:Nat}{kvs:List (κ×Value)}{Q:Value→Shared→Prop} (hA:A.handled=none) (st:s.heap.IsKeyIter it d i kvs.length ep) (hm:s.heap.DictAt knd d kvs ep) (none_:kvs[i]?=none)
    (q:∀ h' e,Heap.ExtBut it s.heap h'→(∃ x,h'.get? e=some x∧x.cls=.type "StopIteration")→E (.ref e) {s with heap:=h'}):wpAny (model prog w) A (Builtin.SmallTypes.nextOf (.ref it)) Q E s:=by
  obtain ⟨io,g1,g2,g3⟩:=id st
  obtain ⟨od,es,k1,k2,k3,k4,k5,k6⟩:=id hm
  have len:es.size=kvs.length:=by have:=k5.length;simpa using this
  have past:es.size≤i:=by rw [len];exact List.getElem?_eq_none_iff.mp none_
  unfold Builtin.SmallTypes.nextOf
  refine wpAny_bind (wpAny_callSpecial?_slot (name:=Str.ofString "__next__") st.typeIs PySem.F.slot_dict_keyiterator_next (wpAny_call_entry PySem.F.slot_dict_keyiterator_next st.typeIs PySem.F.entry_dict_keyiterator_next ?_ (PySem.F.args_dict_keyiterator_next_1 _)))
  refine wpAny_bind (wpAny_pure (wpAny_bind (wpAny_bind ?_)))
  first | refine wpAny_bind (wpAny_typeNameOfWhole_keyiter st.typeIs (wpAny_pure (wpAny_bind (wpAny_fieldsOf g1 g3 ?_)))) | refine wpAny_bind (wpAny_typeNameOf_keyiter st.typeIs (wpAny_pure (wpAny_bind (wpAny_fieldsOf g1 g3 ?_))))
  rw [show Builtin.Dict_items.ownsTuple "dict_keyiterator"=false from by decide]
  simp only [Bool.false_eq_true,if_false]
  show wpAny _ _ (if (Value.ref d==Value.none)=true then _ else _) _ _ s
  refine wpAny_ite_split (fun z=>absurd z Bool.false_ne_true) fun _=>wpAny_bind (wpAny_pure (wpAny_bind (wpAny_dictEntries k1 k3 ?_)))
  rw [if_neg (by rw [len];simp)]
  refine wpAny_bind (wpAny_pure (wpAny_bind (wpAny_dictEpoch k1 k3 ?_)))
  rw [if_neg (by simp)]
  refine wpAny_pure ?_
  simp only [show ¬ (((i:Nat):Int) < 0) from by omega,if_false,Int.toNat_natCast,Array.getElem?_eq_none past]
  refine wpAny_bind ?_
  first | refine wpAny_bind (wpAny_typeNameOfWhole_keyiter st.typeIs (wpAny_pure ?_)) | refine wpAny_bind (wpAny_typeNameOf_keyiter st.typeIs (wpAny_pure ?_))
  show wpAny _ _ (setField (.ref it) 0 .none >>= _) _ _ s
  refine wpAny_bind (wpAny_setField g1 g3 (by simp) ?_)
  show wpAny _ _ (newExc (.type "StopIteration") [] >>= _) _ _ _
  refine wpAny_bind ?_
  simp only [newExc,newTuple]
  refine wpAny_bind (wpAny_newObj_type (wpAny_bind (m:=firstArgMember _ _) (wpAny_of_eq (a:=Value.none) (by first | rfl | (simp only [firstArgMember];rfl)) (wpAny_newObj_type ?_ (by size_fits)))) (by size_fits))
  simp only [raiseNew]
  refine wpAny_bind (wpAny_handled ?_)
  first | rw [show A.in1.handled=none from hA] | rw [hA]
  exact wpAny_bind (wpAny_pure (wpAny_throw (q _ _ (((Heap.SameBut.update ..).extBut.push _).push _) ⟨_,Heap.get?_push_size _ rfl,rfl⟩)))
theorem draws_keys (hA:A.handled=none) (it d:Addr) (hne:d≠it) (kvs:List (κ×Value)) (ep:Nat):
    Draws prog w A it [it,d] kvs.length (fun i v=>∃ k x,kvs[i]?=some (k,x)∧knd.is k v=true) (fun i h=>h.IsKeyIter it d i kvs.length ep∧h.DictAt knd d kvs ep) where
  live:=fun _ _ st=>let ⟨o,ho,_⟩:=st.1;⟨o,ho⟩
  frame:=fun _ _ _ st hk=>⟨st.1.at fun o e=>hk it (by simp) o e,st.2.at' fun o e=>hk d (by simp) o e⟩
  item:=fun i s Q E hi st hQ=>by
    obtain ⟨⟨k,x⟩,hx⟩:∃ p,kvs[i]?=some p:=⟨kvs[i],by simp [hi]⟩
    exact nextKey_item st.1 st.2 hx fun key h' h1 h2 h3=>hQ key h' s.toks ⟨k,x,hx,h1⟩ ⟨h2,st.2.extBut h3.extBut hne⟩ h3
  done:=fun s Q E st hE=>nextKey_end hA st.1 st.2 (by simp) hE
noncomputable def keyIt (d:Addr) (n ep:Nat):Obj:={cls:=.type "dict_keyiterator",data:=.fields #[.ref d,.int 0 0,.int n 0,.int ep 0]}
noncomputable def enumOf (it:Addr):Obj:={cls:=.type "enumerate",data:=.fields #[.none,.bool false,.ref it,rawInt 0,.none,.none]}
theorem enum_keys_new (d:Addr) (lo:(d==sysModules)=false) (kvs:List (κ×Value)) (ep:Nat):
    MeetsIn prog w (Builtin.«enumerate.__new__» ⟨[.type "enumerate",.ref d],[]⟩) (fun _ R s=>s.heap.DictAt knd d kvs ep∧R (.ok (.ret (.ref (s.heap.push (keyIt d kvs.length ep)).objs.size))) {s with heap:=(s.heap.push (keyIt d kvs.length ep)).push (enumOf s.heap.objs.size)}):=by
  refine MeetsIn.of_wp fun A R s h=>?_
  obtain ⟨hp,g,dr,tk,os⟩:=s
  obtain ⟨hm,h⟩:=h
  have hsub:=sub_enumerate
  wp_walk
  refine wpAny_stack_any fun st=>wpAny_pure ?_
  split
  · rename_i c _ _ _ _ _
    cases (c==Value.type "enumerate")
    · wp_walk using (wpAny_pyIter_dict (knd:=knd) lo hm)
      exact ⟨_,rfl,h⟩
    · wp_walk using (wpAny_pyIter_dict (knd:=knd) lo hm)
      exact ⟨_,rfl,h⟩
  · wp_walk using (wpAny_pyIter_dict (knd:=knd) lo hm)
    exact ⟨_,rfl,h⟩
end
end L2
namespace L2
open PySem PySem.Spec PyProof.Rows PySem.W
noncomputable def Iek (d:Addr) (o:Obj) (kvs:List (Key×V)):It:=
  ⟨fun i H=>H d=some (.frz o (.dK kvs))∧i < kvs.length,fun i H x H'=>∃ T p,x=.ref T∧H T=none∧kvs[i]?=some p∧H'=upd H T (.tup [.int i,kV p.1]),fun i H=>H d=some (.frz o (.dK kvs))∧kvs.length=i⟩
theorem turn_enumK {P:Program}{w:World}{K:PySem.W.Frag}{elts:List Expr}{x1}{pos:Pos} (d e it:Addr) (o:Obj) (es:Array DictEntry) (ep:Nat) (ho:o.data=.dict es ep) (kvs:List (Key×V)) (hne:e≠it) (hdi:d≠it) (hde:d≠e):
    Turn P w K (.Tuple elts x1 pos) (Iek d o kvs) [e,it] e (fun i h=>(∃ old,IsEnum h e it ((i:Nat):Int) old)∧h.IsKeyIter it d i kvs.length ep) where
  mem:=by simp
  obj:=fun i h st b hb=>by
    obtain ⟨⟨old,he⟩,o,ho,hc,hd⟩:=st
    rcases List.mem_cons.mp hb with z | hb
    · subst z
      exact ⟨_,he,fun v z=>by
        have z':Data.fields _=Data.cell v:=z
        cases z'⟩
    · have z:b=it:=by simpa using hb
      subst z
      exact ⟨o,ho,fun v z=>by rw [hd] at z;cases z⟩
  keep:=fun i h h' st k=>by
    obtain ⟨⟨old,he⟩,o,ho,r⟩:=st
    exact ⟨⟨old,k e (by simp) _ he⟩,o,k it (by simp) _ ho,r⟩
  item:=by
    intro X hP hw hK hc i pins s σ H E I hf st hg
    subst hP hw hK
    obtain ⟨⟨old,he⟩,hit⟩:=st
    obtain ⟨hd,hi⟩:=hg
    obtain ⟨vs,rel,hat⟩:=frz_at I hd ho
    have hlen:kvs.length=vs.length:=Paired.length rel
    have hit0:s.heap.IsKeyIter it d i vs.length ep:=by rw [← hlen];exact hit
    obtain ⟨f0,f1,f2,f3,f4,f5⟩:=hf e (by simp)
    obtain ⟨g0,g1,g2,g3,g4,g5⟩:=hf it (by simp)
    have fT:H s.heap.objs.size=none:=I.fresh
    refine wpAny_pyNext_enum_itemD (draws_keys (knd:=mixKind X.prog X.w) (A:=X.A.in1) (I.ok.hd hc) it d hdi vs ep) he ⟨hit0,hat⟩ (by omega) hne (by simp [hne,Ne.symm hde]) fun u h' tk hP heo hit' ht hsz hk=>⟨_,rfl,?_⟩
    obtain ⟨k,y,hxy,hkey⟩:=hP
    obtain ⟨p,hp1,hp2,_⟩:=kv_get rel i _ hxy
    have ru:RelV (kV p.1) u:=by rw [hp2];exact kV_rel hkey
    refine wpAny_letOwnedTupleGo_enum heo fun h2 he2 hs2=>?_
    have hs2:Heap.SameBut e h' h2:=hs2
    have heT:e≠s.heap.objs.size:=Nat.ne_of_lt (Heap.lt_size he)
    have oldK:∀ b o,b≠e→b≠it→s.heap.get? b=some o→h2.get? b=some o:=fun b o h1 h2' q=>hs2.extBut b o h1 (hk b o h1 h2' q)
    have hT2:h2.get? s.heap.objs.size=some {cls:=.type "tuple",data:=.seq #[.int i tk,u]}:=hs2.extBut _ _ (Ne.symm heT) ht
    have neT:∀ b o,s.heap.get? b=some o→b≠s.heap.objs.size:=fun b o q=>Nat.ne_of_lt (Heap.lt_size q)
    have nH:∀ b w',H b=some w'→b≠e∧b≠it:=fun b w' q=>⟨fun z=>(by rw [z,f0] at q;cases q),fun z=>(by rw [z,g0] at q;cases q)⟩
    have I2:Inv X pins σ (upd H s.heap.objs.size (.tup [.int i,kV p.1])) {s with heap:=h2,toks:=tk + 1}:=by
      refine I.step (g':=s.gens) (d':=s.drawn) (t':=tk + 1) (ch:=[e,it]) (fun b hb=>?_) (fun b o _ _ hb q _=>?_) (fun b o _ _ hb q _=>?_) (fun b o _ q n=>?_) (fun b o hb q=>?_)
        (fun b ys q=>?_) (fun b o w' q=>?_) (fun b ps q=>?_) (fun m hm=>?_) (fun b w' q=>?_) I.bare
      · rcases List.mem_cons.mp hb with z | hb
        · subst z;exact ⟨f3,f1,f4,f5⟩
        · have z:b=it:=by simpa using hb
          subst z;exact ⟨g3,g1,g4,g5⟩
      · exact oldK b o (fun z=>hb (by simp [z])) (fun z=>hb (by simp [z])) q
      · exact ⟨o.slots,oldK b o (fun z=>hb (by simp [z])) (fun z=>hb (by simp [z])) q⟩
      · rw [upd_ne (neT b o q)];exact n
      · exact ⟨o,oldK b o (fun z=>hb (by simp [z])) (fun z=>hb (by simp [z])) q⟩
      · rw [upd_ne (ne_of_none q fT)];exact q
      · rw [upd_ne (ne_of_none q fT)];exact q
      · exact ⟨#[],by rw [upd_ne (ne_of_none q fT),q];simp⟩
      · obtain ⟨o,es,ep,ho,r⟩:=hm
        exact ⟨o,es,ep,oldK _ o (Ne.symm f1) (Ne.symm g1) ho,r⟩
      · by_cases hb:b=s.heap.objs.size
        · subst hb
          rw [upd_same] at q
          cases q
          exact ⟨by show 2≤sizeLine;decide,[.int i tk,u],.cons ⟨_,rfl⟩ (.cons ru .nil),_,hT2,rfl,_,rfl⟩
        · rw [upd_ne hb] at q
          refine (I.hok b w' q).stay (fun c v hc q'=>oldK c v ?_ ?_ q') (fun c q'=>?_) fun c ys q'=>?_
          · rcases hc with z | z
            · rw [z];exact (nH b w' q).1
            · exact (nH c _ z).1
          · rcases hc with z | z
            · rw [z];exact (nH b w' q).2
            · exact (nH c _ z).2
          · rw [upd_ne (ne_of_none q' fT)];exact q'
          · rw [upd_ne (ne_of_none q' fT)];exact q'
    refine ⟨.ref s.heap.objs.size,_,I2,rfl,⟨s.heap.objs.size,p,rfl,fT,hp1,rfl⟩,⟨⟨u,?_⟩,?_⟩,fun b hb=>?_⟩
    · have e1:((i + 1:Nat):Int)=(i:Int) + 1:=by omega
      rw [e1];exact he2
    · rw [hlen]
      exact hit'.1.at fun o e=>hs2.extBut _ _ (Ne.symm hne) e
    · have:b≠s.heap.objs.size:=by
        rcases List.mem_cons.mp hb with z | hb
        · rw [z];exact heT
        · have z:b=it:=by simpa using hb
          rw [z]
          obtain ⟨o,ho,_⟩:=hit
          exact neT it o ho
      rw [upd_ne this]
      exact (hf b hb).1
  done:=by
    intro X hP hw hK hc i pins s σ H E I hf st hg
    subst hP hw hK
    obtain ⟨⟨old,he⟩,hit⟩:=st
    obtain ⟨hd,hi⟩:=hg
    obtain ⟨vs,rel,hat⟩:=frz_at I hd ho
    have hlen:kvs.length=vs.length:=Paired.length rel
    obtain ⟨g0,g1,g2,g3,g4,g5⟩:=hf it (by simp)
    have hit0:s.heap.IsKeyIter it d i vs.length ep:=by rw [← hlen];exact hit
    have en:i=vs.length:=by omega
    subst en
    exact wpAny_pyNext_enum_endD (draws_keys (knd:=mixKind X.prog X.w) (A:=X.A.in1) (I.ok.hd hc) it d hdi vs ep) he ⟨hit0,hat⟩ fun h' eb=>⟨rfl,I.turned (t':=s.toks) (fun b o hb e'=>eb b o hb e') g0 g1 g3 g4 g5⟩
  self:=fun A i s Q E st h=>by
    obtain ⟨⟨old,he⟩,_⟩:=st
    exact wpAny_pyIter_enum he h
section
variable {X:Cx}
noncomputable def iEnumK (td:TE):TI:=fun σ H R=>td σ H fun x H1=>∃ (d:Addr) (kvs:List (Key×V)),x=.ref d∧H1 d=some (.dK kvs)∧∀ (o:Obj),R (Iek d o kvs) (upd H1 d (.frz o (.dK kvs)))
theorem pi_enumK {l:Expr}{tl:TE}{elts:List Expr}{x1}{p pos pt:Pos} (hg:Gl X "enumerate") (hm:X.mg "enumerate"=none) (hl:PE X l tl) (hs:starEach [l] X.env=[(false,eval l X.env)]:=by rfl):
    PI X (.Tuple elts x1 pt) (.Call (.Name "enumerate" p) [l] [] pos) (iEnumK tl):=by
  intro pins s σ H R I h
  refine Call_ (ld_blt I hg hm boot_enumerate (PyProof.Rows.callWith_type1 (thn (pa_cons hl pa_nil hs pos pins s σ H (fun vs H1=>∃ x,vs=[x]∧∃ (d:Addr) (kvs:List (Key×V)),x=.ref d∧H1 d=some (.dK kvs)∧∀ (o:Obj),R (Iek d o kvs) (upd H1 d (.frz o (.dK kvs)))) I ?_) fun us s1 ⟨vs,H1,I1,r1,q1⟩=>?_) hs rfl))
  · have e:(fun (x:V) (H1:Hp)=>∃ y,[x]=[y]∧∃ (d:Addr) (kvs:List (Key×V)),y=V.ref d∧H1 d=some (HO.dK kvs)∧∀ (o:Obj),R (Iek d o kvs) (upd H1 d (.frz o (.dK kvs))))=fun x H1=>∃ (d:Addr) (kvs:List (Key×V)),x=.ref d∧H1 d=some (.dK kvs)∧∀ (o:Obj),R (Iek d o kvs) (upd H1 d (.frz o (.dK kvs))):=by
      funext x H1
      simp
    show tl σ H (fun (x:V) (H1:Hp)=>∃ y,[x]=[y]∧∃ (d:Addr) (kvs:List (Key×V)),y=V.ref d∧H1 d=some (HO.dK kvs)∧∀ (o:Obj),R (Iek d o kvs) (upd H1 d (.frz o (.dK kvs))))
    rw [e]
    exact h
  · obtain ⟨x,rfl,d,kvs,rfl,hd,q⟩:=q1
    obtain ⟨u,rfl,ru⟩:=vals1 r1
    cases ru
    obtain ⟨z,hdS,vs,rel,dd⟩:=dk_rd I1.hok (.inl hd)
    have hlen:kvs.length=vs.length:=Paired.length rel
    obtain ⟨o,es,ep,ho,hex,hdat,r⟩:=id dd
    have IF:=I1.freeze hd ho
    have hat:s1.heap.DictAt (mixKind X.prog X.w) d vs ep:=⟨o,es,ho,hex,hdat,r⟩
    have hdlt:d < s1.heap.objs.size:=I1.hok.lt hd
    refine callType_newIn PySem.F.called_enumerate (by decide) (PySem.F.typeCall_enumerate_1 _) (PySem.F.newCall_enumerate_1 _) (fun obj=>PySem.F.args_object_init_2 obj _) PySem.F.entry_enumerate_new (enum_keys_new (knd:=mixKind X.prog X.w) d hdS vs ep) ⟨hat,?_⟩
    have hz1:(s1.heap.push (keyIt d vs.length ep)).objs.size=s1.heap.objs.size + 1:=Heap.size_push ..
    show _∧_
    rw [hz1]
    have he:IsEnum ((s1.heap.push (keyIt d vs.length ep)).push (enumOf s1.heap.objs.size)) (s1.heap.objs.size + 1) s1.heap.objs.size 0 .none:=by
      have:=Heap.get?_push_size (s1.heap.push (keyIt d vs.length ep)) (o:=enumOf s1.heap.objs.size) rfl
      rw [hz1] at this;exact this
    refine ⟨⟨_,he,rfl⟩,wpAny_pyIter_enum he ?_⟩
    have hk:∀ b u,s1.heap.get? b=some u→((s1.heap.push (keyIt d vs.length ep)).push (enumOf s1.heap.objs.size)).get? b=some u:=fun b u e=>Heap.get?_push_of_some _ (Heap.get?_push_of_some _ e)
    refine ⟨s1.heap.objs.size + 1,[s1.heap.objs.size + 1,s1.heap.objs.size],_,Iek d o kvs,_,rfl,IF.kept (t':=s1.toks) hk,turn_enumK d _ _ o es ep hdat kvs (Nat.succ_ne_self _) (Nat.ne_of_lt hdlt) (Nat.ne_of_lt (Nat.lt_succ_of_lt hdlt)),⟨⟨.none,he⟩,⟨_,Heap.get?_push_of_some _ (Heap.get?_push_size _ rfl),rfl,by rw [hlen];rfl⟩⟩,fun b hb=>?_,q o⟩
    have hb':s1.heap.objs.size≤b:=by
      rcases List.mem_cons.mp hb with z | hb
      · rw [z];exact Nat.le_succ _
      · have z:b=s1.heap.objs.size:=by simpa using hb
        rw [z];exact Nat.le_refl _
    exact IF.fpOk hb' (IF.hok.fresh hb')
end
theorem ys_enumK {K:PySem.W.Frag}{d:Addr}{o:Obj}{kvs:List (Key×V)} (p r:Nat) (u:Nat→V) (hu:∀ i q,kvs[i]?=some q→kV q.1=u i):
    Ys (Iek d o kvs) (gTup K 2 (gCons (gName p) (gCons (gName r) gNil))) (fun H=>H d=some (.frz o (.dK kvs))) kvs.length (fun i σ=>(σ.set p (some (.int i))).set r (some (u i))) where
  go:=fun i H hi h=>⟨h,hi⟩
  stop:=fun H h=>⟨h,rfl⟩
  yld:=fun i H x H' σ Q hi h y q=>by
    obtain ⟨T,w,rfl,hT,hw,rfl⟩:=y
    refine ⟨T,_,rfl,SqT.of upd_same,rfl,_,_,rfl,_,_,rfl,rfl,?_⟩
    have:=q _ (Same.updN hT (o:=.tup [.int i,kV w.1]))
    rw [← hu i w hw] at this
    exact this
end L2
namespace L2
open PySem PySem.Spec PyProof.Rows PySem.W
section
variable {prog:Program}{w:World}{κ:Type} [DecidableEq κ] {knd:KeyKind prog w κ}{A:Around}{E:Value→Shared→Prop}{s:Shared}
variable {z TI TO i1 i2 d l:Addr}{n ep:Nat}{kvs:List (κ×Value)}{ys:Array Value}{a b:Value}
noncomputable abbrev ZipKeeps (s:Shared) (z TO i1 i2:Addr) (h':Heap):Prop:=∀ c o,c≠z→c≠TO→c≠i1→c≠i2→s.heap.get? c=some o→h'.get? c=some o
theorem zipK_item {k:κ}{v y:Value}{Q:Value→Shared→Prop} (D:ZipApart z TI TO i1 i2 d l) (hz:IsZip s.heap z TI TO .none) (hTI:IsPair s.heap TI (.ref i1) (.ref i2)) (hTO:IsPair s.heap TO a b)
    (h1:s.heap.IsKeyIter i1 d n kvs.length ep) (hd:s.heap.DictAt knd d kvs ep) (h2:s.heap.IsListIter i2 l n) (hl:s.heap.IsList l ys) (hx:kvs[n]?=some (k,v)) (hy:ys[n]?=some y)
    (q:∀ x h',knd.is k x=true→IsZip h' z TI TO (rawInt s.heap.objs.size)→IsPair h' TO x y→h'.IsKeyIter i1 d (n + 1) kvs.length ep→h'.IsListIter i2 l (n + 1)→IsPair h' s.heap.objs.size x y→h'.objs.size=s.heap.objs.size + 1→ZipKeeps s z TO i1 i2 h'→Q (.ref s.heap.objs.size) {s with heap:=h'}):
    wpAny (model prog w) A (Builtin.«zip.__next__» ⟨[.ref z],[]⟩) (fun fin s'=>∃ v,fin=.done (.ret v)∧Q v s') E s:=by
  show wpAny _ _ (field (.ref z) 2 >>= _) _ _ _
  refine wpAny_bind (wpAny_field hz rfl (x:=.bool false) rfl (wpAny_bind (wpAny_field hz rfl (x:=.ref TI) rfl (wpAny_bind (wpAny_seqItems hTI rfl (wpAny_bind ?_))))))
  unfold Builtin.SmallTypes.ownedTupleIsFree
  refine wpAny_bind (wpAny_field hz rfl (x:=.none) rfl (wpAny_pure ?_))
  simp only [if_true]
  refine wpAny_bind (wpAny_rule (wpAny_bind (wpAny_field hz rfl (x:=.ref TO) rfl (wpAny_bind (wpAny_setField_rec hz (by simp) fun m1 z1 e1=>wpAny_bind ?_)))))
  have z1:IsZip m1 z TI TO .ellipsis:=z1
  simp only [List.zipIdx_cons,List.zipIdx_nil,List.forIn_cons,List.forIn_nil]
  refine wpAny_bind (wpAny_bind (wpAny_onRaise ?_))
  show wpAny _ _ (Builtin.SmallTypes.nextOf (.ref i1) >>= _) _ _ _
  refine wpAny_bind (nextKey_item (knd:=knd) (h1.at fun o e=>e1.extBut _ _ D.i1z e) (hd.extBut e1.extBut D.l1z) hx fun x m2 hkey g1 e2=>wpAny_pure ?_)
  have t2:IsPair m2 TO a b:=e2.extBut _ _ D.TOi1 (e1.extBut _ _ D.TOz hTO)
  refine wpAny_bind (wpAny_seqItems t2 rfl (wpAny_bind (wpAny_updateSeq_pair t2 fun m3 t3 e3=>wpAny_bind (wpAny_letGo (wpAny_pure (wpAny_bind (wpAny_bind (wpAny_onRaise ?_))))))))
  have t3:IsPair m3 TO x b:=t3
  show wpAny _ _ (Builtin.SmallTypes.nextOf (.ref i2) >>= _) _ _ _
  refine wpAny_bind (wpAny_nextOf_list_item (h2.at fun o e=>e3.extBut _ _ D.TOi2.symm (e2.extBut _ _ D.i12.symm (e1.extBut _ _ D.i2z e))) (hl.at fun o e=>e3.extBut _ _ D.l2TO (e2.extBut _ _ D.l2i1 (e1.extBut _ _ D.l2z e))) hy fun m4 g2 e4=>wpAny_pure ?_)
  have t4:IsPair m4 TO x b:=e4.extBut _ _ D.TOi2 t3
  refine wpAny_bind (wpAny_seqItems t4 rfl (wpAny_bind (wpAny_updateSeq_pair t4 fun m5 t5 e5=>wpAny_bind (wpAny_letGo (wpAny_pure (wpAny_pure ?_))))))
  have t5:IsPair m5 TO x y:=t5
  refine wpAny_bind (wpAny_seqItems t5 rfl (wpAny_bind (wpAny_newTuple ?_)))
  have sz:m5.objs.size=s.heap.objs.size:=by rw [e5.1,e4.1,e3.1,e2.1,e1.1]
  have z5:IsZip m5 z TI TO .ellipsis:=e5.extBut _ _ D.TOz.symm (e4.extBut _ _ D.i2z.symm (e3.extBut _ _ D.TOz.symm (e2.extBut _ _ D.i1z.symm z1)))
  have old:∀ c o,c≠z→c≠TO→c≠i1→c≠i2→s.heap.get? c=some o→m5.get? c=some o:=fun c o c1 c2 c3 c4 e=>e5.extBut _ _ c2 (e4.extBut _ _ c4 (e3.extBut _ _ c2 (e2.extBut _ _ c3 (e1.extBut _ _ c1 e))))
  have g1':m5.IsKeyIter i1 d (n + 1) kvs.length ep:=g1.at fun o e=>e5.extBut _ _ D.TOi1.symm (e4.extBut _ _ D.i12 (e3.extBut _ _ D.TOi1.symm e))
  have g2':m5.IsListIter i2 l (n + 1):=g2.at fun o e=>e5.extBut _ _ D.TOi2.symm e
  have zlt:z < m5.objs.size:=Heap.lt_size z5
  show wpAny _ _ (Builtin.SmallTypes.ownedTupleHandOut (.ref z) (.ref m5.objs.size) >>= _) _ _ _
  refine wpAny_bind ?_
  unfold Builtin.SmallTypes.ownedTupleHandOut
  have z6:IsZip (m5.push {cls:=.type "tuple",data:=.seq #[x,y]}) z TI TO .ellipsis:=Heap.get?_push_of_some _ z5
  refine wpAny_bind (wpAny_setField_rec z6 (by simp) fun m7 z7 e7=>?_)
  have z7:IsZip m7 z TI TO (rawInt m5.objs.size):=z7
  refine wpAny_setField_rec z7 (by simp) fun m8 z8 e8=>?_
  have z8:IsZip m8 z TI TO (rawInt m5.objs.size):=z8
  have lift:∀ c o,c≠z→m5.get? c=some o→m8.get? c=some o:=fun c o c1 e=>e8.extBut _ _ c1 (e7.extBut _ _ c1 (Heap.get?_push_of_some _ e))
  have t8:IsPair m8 m5.objs.size x y:=e8.extBut _ _ (Nat.ne_of_gt zlt) (e7.extBut _ _ (Nat.ne_of_gt zlt) (Heap.get?_push_size _ rfl))
  have s8:m8.objs.size=m5.objs.size + 1:=by rw [e8.1,e7.1,Heap.size_push]
  rw [sz] at z8 t8 s8
  refine wpAny_pure ⟨_,rfl,?_⟩
  show Q (.ref m5.objs.size) _
  rw [sz]
  exact q x m8 hkey z8 (lift _ _ D.TOz t5) (g1'.at fun o e=>lift _ o D.i1z e) (g2'.at fun o e=>lift _ o D.i2z e) t8 s8 fun c o c1 c2 c3 c4 e=>lift c o c1 (old c o c1 c2 c3 c4 e)
theorem zipK_end {Q:Fin→Shared→Prop} (hA:A.handled=none) (D:ZipApart z TI TO i1 i2 d l) (hz:IsZip s.heap z TI TO .none) (hTI:IsPair s.heap TI (.ref i1) (.ref i2))
    (h1:s.heap.IsKeyIter i1 d n kvs.length ep) (hd:s.heap.DictAt knd d kvs ep) (hx:kvs[n]?=none)
    (q:∀ h' e,ZipKeeps s z TO i1 i2 h'→(∃ o,h'.get? e=some o∧o.cls=.type "StopIteration")→E (.ref e) {s with heap:=h'}):wpAny (model prog w) A (Builtin.«zip.__next__» ⟨[.ref z],[]⟩) Q E s:=by
  show wpAny _ _ (field (.ref z) 2 >>= _) _ _ _
  refine wpAny_bind (wpAny_field hz rfl (x:=.bool false) rfl (wpAny_bind (wpAny_field hz rfl (x:=.ref TI) rfl (wpAny_bind (wpAny_seqItems hTI rfl (wpAny_bind ?_))))))
  unfold Builtin.SmallTypes.ownedTupleIsFree
  refine wpAny_bind (wpAny_field hz rfl (x:=.none) rfl (wpAny_pure ?_))
  simp only [if_true]
  refine wpAny_bind (wpAny_rule (wpAny_bind (wpAny_field hz rfl (x:=.ref TO) rfl (wpAny_bind (wpAny_setField_rec hz (by simp) fun m1 z1 e1=>wpAny_bind ?_)))))
  have z1:IsZip m1 z TI TO .ellipsis:=z1
  simp only [List.zipIdx_cons,List.zipIdx_nil,List.forIn_cons,List.forIn_nil]
  refine wpAny_bind (wpAny_bind (wpAny_onRaise ?_))
  show wpAny _ _ (Builtin.SmallTypes.nextOf (.ref i1) >>= _) _ _ _
  refine wpAny_bind (nextKey_end (knd:=knd) hA (h1.at fun o e=>e1.extBut _ _ D.i1z e) (hd.extBut e1.extBut D.l1z) hx fun m2 e e2 ⟨oe,he,hc⟩=>?_)
  have z2:IsZip m2 z TI TO .ellipsis:=e2 _ _ D.i1z.symm z1
  have ez:e≠z:=fun x=>by subst x;rw [z2] at he;cases he;simp at hc
  exact wpAny_setField_rec z2 (by simp) fun m3 _ e3=>q m3 e (fun c o c1 _ c3 _ x=>e3.extBut _ _ c1 (e2 _ _ c3 (e1.extBut _ _ c1 x))) ⟨oe,e3.extBut _ _ ez he,hc⟩
theorem nextZipK_item {k:κ}{v y:Value}{Q:Option Value→Shared→Prop} (D:ZipApart z TI TO i1 i2 d l) (hz:IsZip s.heap z TI TO .none) (hTI:IsPair s.heap TI (.ref i1) (.ref i2)) (hTO:IsPair s.heap TO a b)
    (h1:s.heap.IsKeyIter i1 d n kvs.length ep) (hd:s.heap.DictAt knd d kvs ep) (h2:s.heap.IsListIter i2 l n) (hl:s.heap.IsList l ys) (hx:kvs[n]?=some (k,v)) (hy:ys[n]?=some y)
    (q:∀ x h',knd.is k x=true→IsZip h' z TI TO (rawInt s.heap.objs.size)→IsPair h' TO x y→h'.IsKeyIter i1 d (n + 1) kvs.length ep→h'.IsListIter i2 l (n + 1)→IsPair h' s.heap.objs.size x y→h'.objs.size=s.heap.objs.size + 1→ZipKeeps s z TO i1 i2 h'→Q (some (.ref s.heap.objs.size)) {s with heap:=h'}):
    wpAny (model prog w) A (pyNext (.ref z)) Q E s:=by
  have hT:s.TypeIs (.ref z) "zip":=⟨_,hz,rfl⟩
  unfold pyNext
  exact wpAny_bind (wpAny_attempt (wpAny_callSpecial?_slot (name:=Str.ofString "__next__") hT PySem.F.slot_zip_next (wpAny_call_entry PySem.F.slot_zip_next hT PySem.F.entry_zip_next (zipK_item D hz hTI hTO h1 hd h2 hl hx hy fun x h' a0 a1 a2 a3 a4 a5 a6 a7=>wpAny_pure (q x h' a0 a1 a2 a3 a4 a5 a6 a7)) (PySem.F.args_zip_next_1 _))))
theorem nextZipK_end {Q:Option Value→Shared→Prop} (hA:A.handled=none) (D:ZipApart z TI TO i1 i2 d l) (hz:IsZip s.heap z TI TO .none) (hTI:IsPair s.heap TI (.ref i1) (.ref i2))
    (h1:s.heap.IsKeyIter i1 d n kvs.length ep) (hd:s.heap.DictAt knd d kvs ep) (hx:kvs[n]?=none) (q:∀ h',ZipKeeps s z TO i1 i2 h'→Q none {s with heap:=h'}):wpAny (model prog w) A (pyNext (.ref z)) Q E s:=by
  have hT:s.TypeIs (.ref z) "zip":=⟨_,hz,rfl⟩
  unfold pyNext
  refine wpAny_bind (wpAny_attempt (wpAny_callSpecial?_slot (name:=Str.ofString "__next__") hT PySem.F.slot_zip_next (wpAny_call_entry PySem.F.slot_zip_next hT PySem.F.entry_zip_next (zipK_end (knd:=knd) (by first | exact hA | exact (show A.in1.handled=none from hA)) D hz hTI h1 hd hx fun h' e hk ⟨o,ho,hc⟩=>?_) (PySem.F.args_zip_next_1 _))))
  exact wpAny_bind (wpAny_isInstance (T:="StopIteration") (b:=true) ⟨o,ho,hc⟩ isSubtype_stop (wpAny_pure (q _ hk)))
end
end L2
namespace L2
open PySem PySem.Spec PyProof.Rows PySem.W
noncomputable def Izk (K:PySem.W.Frag) (d l:Addr) (o:Obj) (kvs:List (Key×V)):It:=
  ⟨fun i H=>H d=some (.frz o (.dK kvs))∧∃ ys y p,SqL K H l ys∧ys[i]?=some y∧kvs[i]?=some p,
   fun i H x H'=>∃ T p v,x=.ref T∧H T=none∧H'=upd H T (.tup [kV p.1,v])∧kvs[i]?=some p∧∀ ys,SqL K H l ys→ys[i]?=some v,
   fun i H=>H d=some (.frz o (.dK kvs))∧kvs.length=i⟩
theorem turn_zipK {P:Program}{w:World}{K:PySem.W.Frag}{elts:List Expr}{x1}{pos:Pos} (d l z TI TO i1 i2:Addr) (o:Obj) (es:Array DictEntry) (ep:Nat) (ho:o.data=.dict es ep) (kvs:List (Key×V)) (D:ZipApart z TI TO i1 i2 d l):
    Turn P w K (.Tuple elts x1 pos) (Izk K d l o kvs) [z,TO,i1,i2,TI] z (fun i h=>IsZip h z TI TO .none∧IsPair h TI (.ref i1) (.ref i2)∧(∃ u v,IsPair h TO u v)∧h.IsKeyIter i1 d i kvs.length ep∧h.IsListIter i2 l i) where
  mem:=by simp
  obj:=fun i h st c hb=>by
    obtain ⟨hz,hTI,⟨u,v,hTO⟩,⟨o1,ho1,hc1,hd1⟩,o2,ho2,hc2,hd2⟩:=st
    have hb':c=z∨c=TO∨c=i1∨c=i2∨c=TI:=by simpa using hb
    rcases hb' with rfl | rfl | rfl | rfl | rfl
    · exact ⟨_,hz,fun v q=>by have q':Data.fields _=Data.cell v:=q;cases q'⟩
    · exact ⟨_,hTO,fun v q=>by have q':Data.seq _ _=Data.cell v:=q;cases q'⟩
    · exact ⟨o1,ho1,fun v q=>by rw [hd1] at q;cases q⟩
    · exact ⟨o2,ho2,fun v q=>by rw [hd2] at q;cases q⟩
    · exact ⟨_,hTI,fun v q=>by have q':Data.seq _ _=Data.cell v:=q;cases q'⟩
  keep:=fun i h h' st k=>by
    obtain ⟨hz,hTI,⟨u,v,hTO⟩,⟨o1,ho1,r1⟩,o2,ho2,r2⟩:=st
    exact ⟨k z (by simp) _ hz,k TI (by simp) _ hTI,⟨u,v,k TO (by simp) _ hTO⟩,⟨o1,k i1 (by simp) _ ho1,r1⟩,o2,k i2 (by simp) _ ho2,r2⟩
  item:=by
    intro X hP hw hK hc i pins s σ H E I hf st hg
    subst hP hw hK
    obtain ⟨hz,hTI,⟨u0,v0,hTO⟩,hi1,hi2⟩:=st
    obtain ⟨hd,ys,y,p,hS2,hy,hp⟩:=hg
    obtain ⟨vs,rel,hat⟩:=frz_at I hd ho
    have hlen:kvs.length=vs.length:=Paired.length rel
    have hi10:s.heap.IsKeyIter i1 d i vs.length ep:=by rw [← hlen];exact hi1
    obtain ⟨its2,rv2,pl2,hz2⟩:=I.list hS2
    obtain ⟨v,hv,rv⟩:=rv2.get hy
    have hik:i < vs.length:=by rw [← hlen];exact (List.getElem?_eq_some_iff.mp hp).1
    have hvi:vs[i]?=some ((vs[i]).1,(vs[i]).2):=List.getElem?_eq_getElem hik
    obtain ⟨p',hp1,hp2,_⟩:=kv_get rel i _ hvi
    rw [hp] at hp1
    cases hp1
    have fT:H s.heap.objs.size=none:=I.fresh
    refine nextZipK_item (knd:=mixKind X.prog X.w) D hz hTI hTO hi10 hat hi2 pl2.isList (y:=v) hvi (by simpa using hv) fun u h' hkey kz kTO k1 k2 hT hsz hk=>⟨_,rfl,?_⟩
    have ru:RelV (kV p.1) u:=by rw [hp2];exact kV_rel hkey
    refine wpAny_letOwnedTupleGo_zip kz fun h2 kz2 hs2=>?_
    have hs2:Heap.SameBut z h' h2:=hs2
    have zT:z≠s.heap.objs.size:=Nat.ne_of_lt (Heap.lt_size hz)
    have oldK:∀ c o,c∉[z,TO,i1,i2,TI]→s.heap.get? c=some o→h2.get? c=some o:=fun c o hc q=>by
      have hc':¬ (c=z∨c=TO∨c=i1∨c=i2∨c=TI):=by simpa using hc
      exact hs2.extBut c o (fun e=>hc' (.inl e)) (hk c o (fun e=>hc' (.inl e)) (fun e=>hc' (.inr (.inl e))) (fun e=>hc' (.inr (.inr (.inl e)))) (fun e=>hc' (.inr (.inr (.inr (.inl e))))) q)
    have hT2:h2.get? s.heap.objs.size=some {cls:=.type "tuple",data:=.seq #[u,v]}:=hs2.extBut _ _ (Ne.symm zT) hT
    have neT:∀ b o,s.heap.get? b=some o→b≠s.heap.objs.size:=fun b o q=>Nat.ne_of_lt (Heap.lt_size q)
    have nH:∀ b w',H b=some w'→b∉[z,TO,i1,i2,TI]:=fun b w' q hb=>by rw [(hf b hb).1] at q;cases q
    have I2:Inv X pins σ (upd H s.heap.objs.size (.tup [kV p.1,y])) {s with heap:=h2}:=by
      refine I.step (g':=s.gens) (d':=s.drawn) (t':=s.toks) (ch:=[z,TO,i1,i2,TI]) (fun b hb=>?_) (fun b o _ _ hb q _=>oldK b o hb q) (fun b o _ _ hb q _=>⟨o.slots,oldK b o hb q⟩) (fun b o _ q n=>?_) (fun b o hb q=>⟨o,oldK b o hb q⟩)
        (fun b ys' q=>?_) (fun b o w' q=>?_) (fun b ps q=>?_) (fun m hm=>?_) (fun b w' q=>?_) I.bare
      · obtain ⟨_,f1,_,f3,f4,f5⟩:=hf b hb
        exact ⟨f3,f1,f4,f5⟩
      · rw [upd_ne (neT b o q)];exact n
      · rw [upd_ne (ne_of_none q fT)];exact q
      · rw [upd_ne (ne_of_none q fT)];exact q
      · exact ⟨#[],by rw [upd_ne (ne_of_none q fT),q];simp⟩
      · obtain ⟨o,es,ep,ho,r⟩:=hm
        exact ⟨o,es,ep,oldK _ o (fun q=>(hf _ q).2.1 rfl) ho,r⟩
      · by_cases hb:b=s.heap.objs.size
        · subst hb
          rw [upd_same] at q
          cases q
          exact ⟨by show 2≤sizeLine;decide,[u,v],.cons ru (.cons rv .nil),_,hT2,rfl,_,rfl⟩
        · rw [upd_ne hb] at q
          refine (I.hok b w' q).stay (fun c v' hc q'=>oldK c v' ?_ q') (fun c q'=>?_) fun c ys' q'=>?_
          · rcases hc with e | e
            · rw [e];exact nH b w' q
            · exact nH c _ e
          · rw [upd_ne (ne_of_none q' fT)];exact q'
          · rw [upd_ne (ne_of_none q' fT)];exact q'
    refine ⟨.ref s.heap.objs.size,_,I2,rfl,⟨s.heap.objs.size,p,y,rfl,fT,rfl,hp,fun ys' hys=>?_⟩,⟨kz2,?_,⟨u,v,?_⟩,?_,?_⟩,fun b hb=>?_⟩
    · rw [I.list_inj hys hS2];exact hy
    · exact hs2.extBut _ _ D.TIz (hk _ _ D.TIz D.TITO D.TIi1 D.TIi2 hTI)
    · exact hs2.extBut _ _ D.TOz kTO
    · rw [hlen];exact k1.at fun o e=>hs2.extBut _ _ D.i1z e
    · exact k2.extBut hs2.extBut D.i2z
    · have:b≠s.heap.objs.size:=by
        have hb':b=z∨b=TO∨b=i1∨b=i2∨b=TI:=by simpa using hb
        obtain ⟨o1,ho1,_⟩:=hi1
        obtain ⟨o2,ho2,_⟩:=hi2
        rcases hb' with rfl | rfl | rfl | rfl | rfl
        · exact zT
        · exact neT _ _ hTO
        · exact neT _ _ ho1
        · exact neT _ _ ho2
        · exact neT _ _ hTI
      rw [upd_ne this]
      exact (hf b hb).1
  done:=by
    intro X hP hw hK hc i pins s σ H E I hf st hg
    subst hP hw hK
    obtain ⟨hz,hTI,⟨u0,v0,hTO⟩,hi1,hi2⟩:=st
    obtain ⟨hd,hi⟩:=hg
    obtain ⟨vs,rel,hat⟩:=frz_at I hd ho
    have hlen:kvs.length=vs.length:=Paired.length rel
    have hi10:s.heap.IsKeyIter i1 d i vs.length ep:=by rw [← hlen];exact hi1
    refine nextZipK_end (knd:=mixKind X.prog X.w) (I.ok.hd hc) D hz hTI hi10 hat (List.getElem?_eq_none (by omega)) fun h' hk=>⟨rfl,I.turnedL (t':=s.toks) (ch:=[z,TO,i1,i2,TI]) hf fun c o hc q=>?_⟩
    have hc':¬ (c=z∨c=TO∨c=i1∨c=i2∨c=TI):=by simpa using hc
    exact hk c o (fun e=>hc' (.inl e)) (fun e=>hc' (.inr (.inl e))) (fun e=>hc' (.inr (.inr (.inl e)))) (fun e=>hc' (.inr (.inr (.inr (.inl e))))) q
  self:=fun A i s Q E st h=>wpAny_pyIter_zip st.1 h
end L2
namespace L2
open PySem PySem.Spec PyProof.Rows PySem.W
noncomputable def listIt (l:Addr):Obj:={cls:=.type "list_iterator",data:=.fields #[.ref l,.int 0 0]}
noncomputable def zk1 (h:Heap) (d n ep:Nat):Heap:=h.push (keyIt d n ep)
noncomputable def zk2 (h:Heap) (d n ep l:Nat):Heap:=(zk1 h d n ep).push (listIt l)
noncomputable def zk3 (h:Heap) (d n ep l:Nat):Heap:=(zk2 h d n ep l).push {cls:=.type "tuple",data:=.seq #[.ref h.objs.size,.ref (zk1 h d n ep).objs.size]}
noncomputable def zk4 (h:Heap) (d n ep l:Nat):Heap:=(zk3 h d n ep l).push {cls:=.type "tuple",data:=.seq #[.none,.none]}
noncomputable def zk5 (h:Heap) (d n ep l:Nat):Heap:=(zk4 h d n ep l).push {cls:=.type "zip",data:=.fields #[.none,.bool false,.bool false,.ref (zk2 h d n ep l).objs.size,.ref (zk3 h d n ep l).objs.size]}
section
variable {prog:Program}{w:World}{κ:Type} [DecidableEq κ] {knd:KeyKind prog w κ}{A:Around}{E:Value→Shared→Prop}{s:Shared}
theorem zipK_new (d l:Addr) (lo:(d==sysModules)=false) (kvs:List (κ×Value)) (ep:Nat) (ys:Array Value):
    MeetsIn prog w (Builtin.«zip.__new__» ⟨[.type "zip",.ref d,.ref l],[]⟩) (fun _ R s=>s.heap.DictAt knd d kvs ep∧s.heap.IsList l ys∧R (.ok (.ret (.ref (zk4 s.heap d kvs.length ep l).objs.size))) {s with heap:=zk5 s.heap d kvs.length ep l}):=by
  refine MeetsIn.of_wp fun A R s h=>?_
  obtain ⟨hp,g,dr,tk,os⟩:=s
  obtain ⟨hm,hl,h⟩:=h
  have hsub:=sub_zip
  have hL:Heap.IsList (Shared.heap ⟨hp.push (keyIt d kvs.length ep),g,dr,tk,os⟩) l ys:=Heap.IsList.push hl _
  unfold keyIt at hL
  wp_walk using (wpAny_pyIter_dict (knd:=knd) lo hm),(wpAny_pyIter_list hL)
  exact ⟨_,rfl,h⟩
theorem call_zipK {d l:Addr} (lo:(d==sysModules)=false) {kvs:List (κ×Value)}{ep:Nat}{ys:Array Value}{Q:Value→Shared→Prop} (hm:s.heap.DictAt knd d kvs ep) (hl:s.heap.IsList l ys)
    (q:∀ h',IsZip h' (s.heap.objs.size + 4) (s.heap.objs.size + 2) (s.heap.objs.size + 3) .none→IsPair h' (s.heap.objs.size + 2) (.ref s.heap.objs.size) (.ref (s.heap.objs.size + 1))→IsPair h' (s.heap.objs.size + 3) .none .none→h'.IsKeyIter s.heap.objs.size d 0 kvs.length ep→h'.IsListIter (s.heap.objs.size + 1) l 0→
      (∀ c o,s.heap.get? c=some o→h'.get? c=some o)→Q (.ref (s.heap.objs.size + 4)) {s with heap:=h'}):wpAny (model prog w) A (call (.type "zip") [.ref d,.ref l]) Q E s:=by
  refine callType_newIn PySem.F.called_zip (by decide) (PySem.F.typeCall_zip_2 _ _) (PySem.F.newCall_zip_2 _ _) (fun obj=>PySem.F.args_object_init_3 obj _ _) PySem.F.entry_zip_new (zipK_new (knd:=knd) d l lo kvs ep ys) ⟨hm,hl,?_⟩
  have a1:(zk1 s.heap d kvs.length ep).objs.size=s.heap.objs.size + 1:=Heap.size_push ..
  have a2:(zk2 s.heap d kvs.length ep l).objs.size=s.heap.objs.size + 2:=by unfold zk2;rw [Heap.size_push,a1]
  have a3:(zk3 s.heap d kvs.length ep l).objs.size=s.heap.objs.size + 3:=by unfold zk3;rw [Heap.size_push,a2]
  have a4:(zk4 s.heap d kvs.length ep l).objs.size=s.heap.objs.size + 4:=by unfold zk4;rw [Heap.size_push,a3]
  have b1:∀ c o,s.heap.get? c=some o→(zk1 s.heap d kvs.length ep).get? c=some o:=fun c o e=>Heap.get?_push_of_some _ e
  have b2:∀ c o,(zk1 s.heap d kvs.length ep).get? c=some o→(zk2 s.heap d kvs.length ep l).get? c=some o:=fun c o e=>Heap.get?_push_of_some _ e
  have b3:∀ c o,(zk2 s.heap d kvs.length ep l).get? c=some o→(zk3 s.heap d kvs.length ep l).get? c=some o:=fun c o e=>Heap.get?_push_of_some _ e
  have b4:∀ c o,(zk3 s.heap d kvs.length ep l).get? c=some o→(zk4 s.heap d kvs.length ep l).get? c=some o:=fun c o e=>Heap.get?_push_of_some _ e
  have b5:∀ c o,(zk4 s.heap d kvs.length ep l).get? c=some o→(zk5 s.heap d kvs.length ep l).get? c=some o:=fun c o e=>Heap.get?_push_of_some _ e
  have g1:=b5 _ _ (b4 _ _ (b3 _ _ (b2 _ _ (Heap.get?_push_size s.heap (o:=keyIt d kvs.length ep) rfl))))
  have g2:=b5 _ _ (b4 _ _ (b3 _ _ (Heap.get?_push_size (zk1 s.heap d kvs.length ep) (o:=listIt l) rfl)))
  have g3:=b5 _ _ (b4 _ _ (Heap.get?_push_size (zk2 s.heap d kvs.length ep l) (o:={cls:=.type "tuple",data:=.seq #[.ref s.heap.objs.size,.ref (zk1 s.heap d kvs.length ep).objs.size]}) rfl))
  have g4:=b5 _ _ (Heap.get?_push_size (zk3 s.heap d kvs.length ep l) (o:={cls:=.type "tuple",data:=.seq #[.none,.none]}) rfl)
  have g5:(zk5 s.heap d kvs.length ep l).get? (zk4 s.heap d kvs.length ep l).objs.size=some _:=Heap.get?_push_size _ rfl
  rw [a1] at g2
  rw [a2,a1] at g3
  rw [a3] at g4
  rw [a4,a2,a3] at g5
  show _∧_
  rw [a4]
  exact ⟨⟨_,g5,rfl⟩,q _ g5 g3 g4 ⟨_,g1,rfl,rfl⟩ ⟨_,g2,rfl,rfl⟩ fun c o e=>b5 _ _ (b4 _ _ (b3 _ _ (b2 _ _ (b1 _ _ e))))⟩
end
section
variable {X:Cx}
noncomputable def iZipK (K:PySem.W.Frag) (ta:TA):TI:=fun σ H R=>ta σ H fun vs H1=>∃ (d l:Addr) (kvs:List (Key×V)),vs=[.ref d,.ref l]∧H1 d=some (.dK kvs)∧(∃ ys,SqL K H1 l ys)∧d≠l∧∀ (o:Obj),R (Izk K d l o kvs) (upd H1 d (.frz o (.dK kvs)))
theorem pi_zipK {a b:Expr}{ta:TA}{elts:List Expr}{x1}{p pos pt:Pos} (hg:Gl X "zip") (hm:X.mg "zip"=none) (ha:PA X [a,b] ta) (hs:starEach [a,b] X.env=(false,eval a X.env)::starEach [b] X.env:=by rfl) (hs2:(backTo pos (starEach [b] X.env)).any (·.1)=false:=by rfl):
    PI X (.Tuple elts x1 pt) (.Call (.Name "zip" p) [a,b] [] pos) (iZipK X.K ta):=by
  intro pins s σ H R I h
  refine Call_ (ld_blt I hg hm boot_zip (PyProof.Rows.callWith_type1 (thn (ha pos pins s σ H _ I h) fun us s1 ⟨vs,H1,I1,r1,q1⟩=>?_) hs hs2))
  obtain ⟨d,l,kvs,e,hd,⟨ys,hS2⟩,hdl,q⟩:=q1
  subst e
  cases r1 with
  | cons r rr=>
    cases rr with
    | cons r' rr=>
      cases rr
      cases r
      cases r'
      obtain ⟨z,hdS,vs,rel,dd⟩:=dk_rd I1.hok (.inl hd)
      have hlen:kvs.length=vs.length:=Paired.length rel
      obtain ⟨o,es,ep,ho,hex,hdat,r⟩:=id dd
      have IF:=I1.freeze hd ho
      have hat:s1.heap.DictAt (mixKind X.prog X.w) d vs ep:=⟨o,es,ho,hex,hdat,r⟩
      obtain ⟨its2,rv2,pl2,hz2⟩:=I1.list hS2
      have lt1:d < s1.heap.objs.size:=I1.hok.lt hd
      have lt2:l < s1.heap.objs.size:=by obtain ⟨o,e,_⟩:=pl2.isList;exact Heap.lt_size e
      refine call_zipK (knd:=mixKind X.prog X.w) hdS hat pl2.isList fun h' kz kTI kTO k1 k2 hk=>?_
      refine wpAny_pyIter_zip kz ?_
      refine ⟨s1.heap.objs.size + 4,[s1.heap.objs.size + 4,s1.heap.objs.size + 3,s1.heap.objs.size,s1.heap.objs.size + 1,s1.heap.objs.size + 2],_,_,_,rfl,IF.kept (t':=s1.toks) hk,turn_zipK d l _ _ _ _ _ o es ep hdat kvs (PySem.W.ktu_apart _ _ _ lt1 lt2),⟨kz,kTI,⟨_,_,kTO⟩,by rw [hlen];exact k1,k2⟩,fun c hc=>?_,q o⟩
      have hc':s1.heap.objs.size≤c:=by
        have hc':c=s1.heap.objs.size + 4∨c=s1.heap.objs.size + 3∨c=s1.heap.objs.size∨c=s1.heap.objs.size + 1∨c=s1.heap.objs.size + 2:=by simpa using hc
        rcases hc' with e | e | e | e | e
        · rw [e];exact Nat.le_add_right _ _
        · rw [e];exact Nat.le_add_right _ _
        · rw [e];exact Nat.le_refl _
        · rw [e];exact Nat.le_add_right _ _
        · rw [e];exact Nat.le_add_right _ _
      exact IF.fpOk hc' (IF.hok.fresh hc')
end
theorem ys_zipK {K:PySem.W.Frag}{d l:Addr}{o:Obj}{kvs:List (Key×V)}{ys:List V} (p r:Nat) (u:Nat→V) (hu:∀ i q,kvs[i]?=some q→kV q.1=u i) (hl:kvs.length≤ys.length):
    Ys (Izk K d l o kvs) (gTup K 2 (gCons (gName p) (gCons (gName r) gNil))) (fun H=>H d=some (.frz o (.dK kvs))∧SqL K H l ys) kvs.length (fun i σ=>(σ.set p (some (u i))).set r (some (ys.getD i .non))) where
  go:=fun i H hi h=>⟨h.1,ys,ys[i]'(by omega),kvs[i],h.2,List.getElem?_eq_getElem (by omega),List.getElem?_eq_getElem hi⟩
  stop:=fun H h=>⟨h.1,rfl⟩
  yld:=fun i H x H' σ Q hi h y q=>by
    obtain ⟨T,w,v,rfl,hT,rfl,hw,hv⟩:=y
    have e:ys.getD i .non=v:=by simp [List.getD,hv ys h.2]
    refine ⟨T,_,rfl,SqT.of upd_same,rfl,_,_,rfl,_,_,rfl,rfl,?_⟩
    have:=q _ (Same.updN hT (o:=.tup [kV w.1,v]))
    rw [← hu i w hw,e] at this
    exact this
end L2
namespace L2
open PySem PySem.Spec PyProof.Rows PySem.W
theorem keys_zip_none:typeLookup (.type "zip") "keys"=pure none:=by rw [typeLookup_type,builtinLookup_eq_fast];kernel_rfl
theorem zip_getattr_none:typeLookup (.type "zip") "__getattr__"=pure none:=by rw [typeLookup_type,builtinLookup_eq_fast];kernel_rfl
theorem entry_zip_getattribute:entryFor table "zip.__getattribute__"=some Builtin.«object.__getattribute__»:=
  entryFor_alias (id':="object.__getattribute__") (by kernel_rfl) (by decide +kernel) (by decide +kernel) (by kernel_rfl)
theorem meets_miss_zip (a:Addr) (xs:Array Value) (sl:Array (Option Value)) (u:Tok):
    Meets (Builtin.«object.__getattribute__» ⟨[.ref a,.str "keys" u],[]⟩) (fun A R s=>s.heap.get? a=some {cls:=.type "zip",dict:=none,data:=.fields xs,slots:=sl}∧raisesAttr (.ref a) "keys" A R s):=
  Meets.of_wp fun prog w A R s hs=>by
    obtain ⟨hp,g,d,tk,os⟩:=s
    obtain ⟨hx,hs⟩:=hs
    have hT:(⟨hp,g,d,tk,os⟩:Shared).TypeIs (.ref a) "zip":=⟨_,hx,rfl⟩
    have hmiss:=keys_zip_none
    have hname:(["__module__","__name__","__qualname__","__doc__","__annotations__"]:List Str).contains "keys"=false:=by decide +kernel
    unfold Builtin.«object.__getattribute__»
    repeat (any_goals (first | assumption | wp_step))
    exact wpAny_raiseAttrError hs.1 hs.2 (attrMsg_fits (by decide +kernel) (by size_fits))
section
variable {prog:Program}{w:World}{A:Around}{E:Value→Shared→Prop}{s:Shared}
theorem keys_missZ {a:Addr}{o:Obj}{xs:Array Value}{Q:Option Value→Shared→Prop} (hx:s.heap.get? a=some o) (hc:o.cls=.type "zip") (hdat:o.data=.fields xs) (hd:o.dict=none) (hA:A.handled=none)
    (h:∀ h' tk,(∀ b o,s.heap.get? b=some o→h'.get? b=some o)→Q none {s with heap:=h',toks:=tk}):wpAny (model prog w) A (getAttr? (.ref a) "keys") Q E s:=by
  obtain ⟨c,dct,dat,sl⟩:=o
  simp only at hc hdat hd
  subst hc hdat hd
  obtain ⟨hp,g,d,tk,os⟩:=s
  have hT:∀ tk',(⟨hp,g,d,tk',os⟩:Shared).TypeIs (.ref a) "zip":=fun _=>⟨_,hx,rfl⟩
  have f1:=sub_AttributeError
  have f3:=PySem.F.slot_zip_getattribute.lookup
  have f4:=PySem.F.slot_zip_getattribute.bind (.ref a)
  have f5:=zip_getattr_none
  have f6:=keys_zip_none
  unfold getAttr? getAttrBy? getAttrBy
  repeat (any_goals (first | assumption | exact hT _ | ((with_reducible show wpAny _ _ (call (Value.builtin "zip.__getattribute__") _ _) _ _ _);refine call_meets PySem.F.slot_zip_getattribute (hT _) entry_zip_getattribute (PySem.F.args_zip_getattribute_2 _ _) (meets_miss_zip a xs sl _) ⟨hx,hA,fun h' tk' e hx'=>?_⟩) | wp_step))
  obtain ⟨t',u',he⟩:=hx'.there
  show wpAny _ _ (getattributeRaised _ _ _ _ _ _ _) _ _ _
  unfold getattributeRaised
  repeat (any_goals (first | assumption | wp_step))
  exact h _ _ hx'.keeps
end
noncomputable abbrev IsZipS (h:Heap) (z TI TO:Addr) (f0:Value) (f:Bool):Prop:=h.get? z=some {cls:=.type "zip",data:=.fields #[f0,.bool f,.bool false,.ref TI,.ref TO]}
section
variable {prog:Program}{w:World}{κ:Type} [DecidableEq κ] {knd:KeyKind prog w κ}{A:Around}{E:Value→Shared→Prop}{s:Shared}
variable {z TI TO i1 i2 d l T:Addr}{n ep:Nat}{kvs:List (κ×Value)}{ys:Array Value}{f:Bool}{oT:Obj}
theorem zipS_free {Q:Bool→Shared→Prop} (hz:IsZipS s.heap z TI TO (rawInt T) f) (hT:s.heap.get? T=some oT) (q:∀ h',IsZipS h' z TI TO (rawInt T) true→Heap.SameBut z s.heap h'→Q false {s with heap:=h'}):
    wpAny (model prog w) A (Builtin.SmallTypes.ownedTupleIsFree (.ref z)) Q E s:=by
  unfold Builtin.SmallTypes.ownedTupleIsFree
  refine wpAny_bind (wpAny_field hz rfl (x:=rawInt T) rfl ?_)
  show wpAny _ _ (loadIfAlive ((T:Int).toNat) >>= _) _ _ _
  rw [Int.toNat_natCast]
  refine wpAny_bind (kdx_alive hT ?_)
  simp only [Option.isNone_some,Bool.false_eq_true,if_false]
  refine wpAny_bind (wpAny_field hz rfl (x:=.bool f) rfl ?_)
  cases f with
  | true=>
    rw [if_neg (show ¬ ((Value.bool true != Value.bool true)=true) from Bool.false_ne_true)]
    exact wpAny_pure (q _ hz (Heap.SameBut.refl _ _))
  | false=>
    rw [if_pos (show (Value.bool false != Value.bool true)=true from rfl)]
    exact wpAny_bind (wpAny_setField_rec hz (by simp) fun h₃ he₃ hs₃=>wpAny_pure (q h₃ he₃ hs₃))
theorem zipS_item {k:κ}{v y:Value}{Q:Value→Shared→Prop} (D:ZipApart z TI TO i1 i2 d l) (hz:IsZipS s.heap z TI TO (rawInt T) f) (hT:s.heap.get? T=some oT) (hTI:IsPair s.heap TI (.ref i1) (.ref i2))
    (h1:s.heap.IsKeyIter i1 d n kvs.length ep) (hd:s.heap.DictAt knd d kvs ep) (h2:s.heap.IsListIter i2 l n) (hl:s.heap.IsList l ys) (hx:kvs[n]?=some (k,v)) (hy:ys[n]?=some y)
    (q:∀ x h',knd.is k x=true→IsZipS h' z TI TO (rawInt T) true→h'.IsKeyIter i1 d (n + 1) kvs.length ep→h'.IsListIter i2 l (n + 1)→IsPair h' s.heap.objs.size x y→h'.objs.size=s.heap.objs.size + 1→ZipKeeps s z TO i1 i2 h'→Q (.ref s.heap.objs.size) {s with heap:=h'}):
    wpAny (model prog w) A (Builtin.«zip.__next__» ⟨[.ref z],[]⟩) (fun fin s'=>∃ v,fin=.done (.ret v)∧Q v s') E s:=by
  show wpAny _ _ (field (.ref z) 2 >>= _) _ _ _
  refine wpAny_bind (wpAny_field hz rfl (x:=.bool false) rfl (wpAny_bind (wpAny_field hz rfl (x:=.ref TI) rfl (wpAny_bind (wpAny_seqItems hTI rfl (wpAny_bind ?_))))))
  refine zipS_free hz hT fun m1 z1 e1=>?_
  simp only [Bool.false_eq_true,if_false]
  refine wpAny_bind ?_
  simp only [← Array.forIn_toList,List.forIn_cons,List.forIn_nil]
  refine wpAny_bind (wpAny_bind (wpAny_holding ?_))
  show wpAny _ _ (Builtin.SmallTypes.nextOf (.ref i1) >>= _) _ _ _
  refine wpAny_bind (nextKey_item (knd:=knd) (h1.at fun o e=>e1.extBut _ _ D.i1z e) (hd.extBut e1.extBut D.l1z) hx fun x m2 hkey g1 e2=>wpAny_pure (wpAny_pure ?_))
  refine wpAny_bind (wpAny_bind (wpAny_holding ?_))
  show wpAny _ _ (Builtin.SmallTypes.nextOf (.ref i2) >>= _) _ _ _
  refine wpAny_bind (wpAny_nextOf_list_item (h2.at fun o e=>e2.extBut _ _ D.i12.symm (e1.extBut _ _ D.i2z e)) (hl.at fun o e=>e2.extBut _ _ D.l2i1 (e1.extBut _ _ D.l2z e)) hy fun m3 g2 e3=>wpAny_pure (wpAny_pure (wpAny_pure ?_)))
  show wpAny _ _ (newTuple [x,y] >>= _) _ _ _
  refine wpAny_bind (wpAny_newTuple (wpAny_pure ⟨_,rfl,?_⟩))
  have sz:m3.objs.size=s.heap.objs.size:=by rw [e3.1,e2.1,e1.1]
  have old:∀ c o,c≠z→c≠i1→c≠i2→s.heap.get? c=some o→m3.get? c=some o:=fun c o c1 c3 c4 e=>e3.extBut _ _ c4 (e2.extBut _ _ c3 (e1.extBut _ _ c1 e))
  have z3:IsZipS m3 z TI TO (rawInt T) true:=e3.extBut _ _ D.i2z.symm (e2.extBut _ _ D.i1z.symm z1)
  have t8:IsPair (m3.push {cls:=.type "tuple",data:=.seq #[x,y]}) m3.objs.size x y:=Heap.get?_push_size _ rfl
  show Q (.ref m3.objs.size) _
  rw [sz]
  rw [sz] at t8
  exact q x (m3.push {cls:=.type "tuple",data:=.seq #[x,y]}) hkey (Heap.get?_push_of_some _ z3) (g1.at fun o e=>Heap.get?_push_of_some _ (e3.extBut _ _ D.i12 e)) (g2.at fun o e=>Heap.get?_push_of_some _ e) t8 (by rw [Heap.size_push,sz]) fun c o c1 _ c3 c4 e=>Heap.get?_push_of_some _ (old c o c1 c3 c4 e)
theorem zipS_end {Q:Fin→Shared→Prop} (hA:A.handled=none) (D:ZipApart z TI TO i1 i2 d l) (hz:IsZipS s.heap z TI TO (rawInt T) f) (hT:s.heap.get? T=some oT) (hTI:IsPair s.heap TI (.ref i1) (.ref i2))
    (h1:s.heap.IsKeyIter i1 d n kvs.length ep) (hd:s.heap.DictAt knd d kvs ep) (hx:kvs[n]?=none)
    (q:∀ h' e,ZipKeeps s z TO i1 i2 h'→(∃ o,h'.get? e=some o∧o.cls=.type "StopIteration")→E (.ref e) {s with heap:=h'}):wpAny (model prog w) A (Builtin.«zip.__next__» ⟨[.ref z],[]⟩) Q E s:=by
  show wpAny _ _ (field (.ref z) 2 >>= _) _ _ _
  refine wpAny_bind (wpAny_field hz rfl (x:=.bool false) rfl (wpAny_bind (wpAny_field hz rfl (x:=.ref TI) rfl (wpAny_bind (wpAny_seqItems hTI rfl (wpAny_bind ?_))))))
  refine zipS_free hz hT fun m1 z1 e1=>?_
  simp only [Bool.false_eq_true,if_false]
  refine wpAny_bind ?_
  simp only [← Array.forIn_toList,List.forIn_cons,List.forIn_nil]
  refine wpAny_bind (wpAny_bind (wpAny_holding ?_))
  show wpAny _ _ (Builtin.SmallTypes.nextOf (.ref i1) >>= _) _ _ _
  exact wpAny_bind (nextKey_end (knd:=knd) hA (h1.at fun o e=>e1.extBut _ _ D.i1z e) (hd.extBut e1.extBut D.l1z) hx fun m2 e e2 he=>q m2 e (fun c o c1 _ c3 _ x=>e2 _ _ c3 (e1.extBut _ _ c1 x)) he)
theorem nextZipS_item {k:κ}{v y:Value}{Q:Option Value→Shared→Prop} (D:ZipApart z TI TO i1 i2 d l) (hz:IsZipS s.heap z TI TO (rawInt T) f) (hT:s.heap.get? T=some oT) (hTI:IsPair s.heap TI (.ref i1) (.ref i2))
    (h1:s.heap.IsKeyIter i1 d n kvs.length ep) (hd:s.heap.DictAt knd d kvs ep) (h2:s.heap.IsListIter i2 l n) (hl:s.heap.IsList l ys) (hx:kvs[n]?=some (k,v)) (hy:ys[n]?=some y)
    (q:∀ x h',knd.is k x=true→IsZipS h' z TI TO (rawInt T) true→h'.IsKeyIter i1 d (n + 1) kvs.length ep→h'.IsListIter i2 l (n + 1)→IsPair h' s.heap.objs.size x y→h'.objs.size=s.heap.objs.size + 1→ZipKeeps s z TO i1 i2 h'→Q (some (.ref s.heap.objs.size)) {s with heap:=h'}):
    wpAny (model prog w) A (pyNext (.ref z)) Q E s:=by
  have hTy:s.TypeIs (.ref z) "zip":=⟨_,hz,rfl⟩
  unfold pyNext
  exact wpAny_bind (wpAny_attempt (wpAny_callSpecial?_slot (name:=Str.ofString "__next__") hTy PySem.F.slot_zip_next (wpAny_call_entry PySem.F.slot_zip_next hTy PySem.F.entry_zip_next (zipS_item D hz hT hTI h1 hd h2 hl hx hy fun x h' a0 a1 a3 a4 a5 a6 a7=>wpAny_pure (q x h' a0 a1 a3 a4 a5 a6 a7)) (PySem.F.args_zip_next_1 _))))
theorem nextZipS_end {Q:Option Value→Shared→Prop} (hA:A.handled=none) (D:ZipApart z TI TO i1 i2 d l) (hz:IsZipS s.heap z TI TO (rawInt T) f) (hT:s.heap.get? T=some oT) (hTI:IsPair s.heap TI (.ref i1) (.ref i2))
    (h1:s.heap.IsKeyIter i1 d n kvs.length ep) (hd:s.heap.DictAt knd d kvs ep) (hx:kvs[n]?=none) (q:∀ h',ZipKeeps s z TO i1 i2 h'→Q none {s with heap:=h'}):wpAny (model prog w) A (pyNext (.ref z)) Q E s:=by
  have hTy:s.TypeIs (.ref z) "zip":=⟨_,hz,rfl⟩
  unfold pyNext
  refine wpAny_bind (wpAny_attempt (wpAny_callSpecial?_slot (name:=Str.ofString "__next__") hTy PySem.F.slot_zip_next (wpAny_call_entry PySem.F.slot_zip_next hTy PySem.F.entry_zip_next (zipS_end (knd:=knd) (by first | exact hA | exact (show A.in1.handled=none from hA)) D hz hT hTI h1 hd hx fun h' e hk ⟨o,ho,hc⟩=>?_) (PySem.F.args_zip_next_1 _))))
  exact wpAny_bind (wpAny_isInstance (T:="StopIteration") (b:=true) ⟨o,ho,hc⟩ isSubtype_stop (wpAny_pure (q _ hk)))
noncomputable def ZipSt (h:Heap) (z TI TO i1 i2 d l D:Addr) (i n ep:Nat):Prop:=
  ((IsZip h z TI TO .none∧∃ u v,IsPair h TO u v)∨∃ (T:Addr) (oT:Obj) (f:Bool),IsZipS h z TI TO (rawInt T) f∧h.get? T=some oT∧T≠z∧T≠TO∧T≠i1∧T≠i2∧T≠D)∧IsPair h TI (.ref i1) (.ref i2)∧h.IsKeyIter i1 d i n ep∧h.IsListIter i2 l i
theorem ZipSt.at {h h':Heap}{Dn:Addr}{i:Nat} (x:ZipSt h z TI TO i1 i2 d l Dn i n ep) (k:∀ b o,b≠Dn→h.get? b=some o→h'.get? b=some o) (a1:z≠Dn) (a2:TI≠Dn) (a3:TO≠Dn) (a4:i1≠Dn) (a5:i2≠Dn):ZipSt h' z TI TO i1 i2 d l Dn i n ep:=by
  obtain ⟨x1,x2,x3,x4⟩:=x
  refine ⟨?_,k _ _ a2 x2,x3.at fun o e=>k _ _ a4 e,x4.at fun o e=>k _ _ a5 e⟩
  rcases x1 with ⟨p,u,v,r⟩ | ⟨T,oT,f,p,r,t1,t2,t3,t4,t5⟩
  · exact .inl ⟨k _ _ a1 p,u,v,k _ _ a3 r⟩
  · exact .inr ⟨T,oT,f,k _ _ a1 p,k _ _ t5 r,t1,t2,t3,t4,t5⟩
theorem zipSt_item {k:κ}{v y:Value}{Dn:Addr}{Q:Option Value→Shared→Prop} (D:ZipApart z TI TO i1 i2 d l) (hs:ZipSt s.heap z TI TO i1 i2 d l Dn n kvs.length ep) (hDn:Dn < s.heap.objs.size) (hd:s.heap.DictAt knd d kvs ep) (hl:s.heap.IsList l ys) (hx:kvs[n]?=some (k,v)) (hy:ys[n]?=some y)
    (q:∀ x h',knd.is k x=true→ZipSt h' z TI TO i1 i2 d l Dn (n + 1) kvs.length ep→IsPair h' s.heap.objs.size x y→h'.objs.size=s.heap.objs.size + 1→ZipKeeps s z TO i1 i2 h'→Q (some (.ref s.heap.objs.size)) {s with heap:=h'}):wpAny (model prog w) A (pyNext (.ref z)) Q E s:=by
  obtain ⟨x1,hTI,h1,h2⟩:=hs
  have kTI:∀ h',ZipKeeps s z TO i1 i2 h'→IsPair h' TI (.ref i1) (.ref i2):=fun h' hk=>hk _ _ D.TIz D.TITO D.TIi1 D.TIi2 hTI
  have l1:i1 < s.heap.objs.size:=by obtain ⟨o,e,_⟩:=h1;exact Heap.lt_size e
  have l2:i2 < s.heap.objs.size:=by obtain ⟨o,e,_⟩:=h2;exact Heap.lt_size e
  rcases x1 with ⟨hz,u,v',hTO⟩ | ⟨T,oT,f,hz,hT,t1,t2,t3,t4,t5⟩
  · refine nextZipK_item (knd:=knd) D hz hTI hTO h1 hd h2 hl hx hy fun x h' a0 a1 a2 a3 a4 a5 a6 a7=>q x h' a0 ⟨.inr ⟨_,_,false,a1,a5,?_,?_,?_,?_,?_⟩,kTI _ a7,a3,a4⟩ a5 a6 a7
    · exact Nat.ne_of_gt (Heap.lt_size hz)
    · exact Nat.ne_of_gt (Heap.lt_size hTO)
    · exact Nat.ne_of_gt l1
    · exact Nat.ne_of_gt l2
    · exact Nat.ne_of_gt hDn
  · exact nextZipS_item (knd:=knd) D hz hT hTI h1 hd h2 hl hx hy fun x h' a0 a1 a3 a4 a5 a6 a7=>q x h' a0 ⟨.inr ⟨T,oT,true,a1,a7 _ _ t1 t2 t3 t4 hT,t1,t2,t3,t4,t5⟩,kTI _ a7,a3,a4⟩ a5 a6 a7
theorem zipSt_end {Dn:Addr}{Q:Option Value→Shared→Prop} (hA:A.handled=none) (D:ZipApart z TI TO i1 i2 d l) (hs:ZipSt s.heap z TI TO i1 i2 d l Dn n kvs.length ep) (hd:s.heap.DictAt knd d kvs ep) (hx:kvs[n]?=none)
    (q:∀ h',ZipKeeps s z TO i1 i2 h'→Q none {s with heap:=h'}):wpAny (model prog w) A (pyNext (.ref z)) Q E s:=by
  obtain ⟨x1,hTI,h1,h2⟩:=hs
  rcases x1 with ⟨hz,u,v',hTO⟩ | ⟨T,oT,f,hz,hT,t1,t2,t3,t4,t5⟩
  · exact nextZipK_end (knd:=knd) hA D hz hTI h1 hd hx q
  · exact nextZipS_end (knd:=knd) hA D hz hT hTI h1 hd hx q
end
end L2
namespace L2
open PySem PySem.Spec PyProof.Rows PySem.W
section
variable {prog:Program}{w:World}{κ:Type} [DecidableEq κ] {knd:KeyKind prog w κ}{A:Around}{R:Result→Shared→Prop}{E:Value→Shared→Prop}
variable {z TI TO i1 i2 d l Dn:Addr}{ep:Nat}{kvs:List (κ×Value)}{ys:Array Value}
theorem code_dzip (hA:A.handled=none) (Dz:ZipApart z TI TO i1 i2 d l) (a1:z≠Dn) (a2:TI≠Dn) (a3:TO≠Dn) (a4:i1≠Dn) (a5:i2≠Dn) (a6:d≠Dn) (a7:l≠Dn) (vs:List (κ×Value)) (res:Value)
    (hlen:vs.length=kvs.length) (hvs:∀ (i:Nat) (p:κ×Value),vs[i]?=some p→∃ v,kvs[i]?=some (p.1,v)∧ys[i]?=some p.2) (hn:vs.length≤1000) (nd:(vs.map (·.1)).Nodup):
    ∀ (k i:Nat) (s:Shared),kvs.length - i=k→i≤kvs.length→ZipSt s.heap z TI TO i1 i2 d l Dn i kvs.length ep→s.heap.DictAt knd d kvs ep→s.heap.IsList l ys→s.heap.DictOf knd Dn (vs.take i)→
      (∀ h' tk,(∀ b o,b≠z→b≠TO→b≠i1→b≠i2→b≠Dn→s.heap.get? b=some o→h'.get? b=some o)→h'.DictOf knd Dn vs→R (.ok (.ret res)) {s with heap:=h',toks:=tk})→
      codeAny (model prog w) A (.builtin "dict.update.loop" ⟨[.ref Dn,.ref z,.int i 0,res],[]⟩) R s:=by
  have dstay:∀ {kvs:List (κ×Value)}{h h':Heap},h.DictOf knd Dn kvs→(∀ o,h.get? Dn=some o→h'.get? Dn=some o)→h'.DictOf knd Dn kvs:=fun x k=>let ⟨o,es,ep,ho,r⟩:=x;⟨o,es,ep,k o ho,r⟩
  intro k
  induction k with
  | zero=>
    intro i s hk hi hst hd hl hD hR
    have hin:i=kvs.length:=by omega
    rw [List.take_of_length_le (by omega)] at hD
    refine codeAny_builtin entry_dul ?_
    rw [Around.under_plainId plain_dul _]
    show wpAny _ A.in1 (pyNext (.ref z) >>= _) _ _ s
    refine wpAny_bind (zipSt_end (knd:=knd) hA Dz hst hd (List.getElem?_eq_none (by omega)) fun h' hk=>?_)
    show wpAny _ A.in1 (Builtin.Dict.addKeywords Dn [] >>= fun _=>ret res) _ _ _
    exact wpAny_bind (wpAny_pure (wpAny_pure (hR h' s.toks (fun b o b1 b2 b3 b4 _ e=>hk b o b1 b2 b3 b4 e) (dstay hD fun o e=>hk Dn o a1.symm a3.symm a4.symm a5.symm e))))
  | succ k ih=>
    intro i s hk hi hst hd hl hD hR
    have hlt:i < kvs.length:=by omega
    have hvi:vs[i]?=some vs[i]:=List.getElem?_eq_getElem (by omega)
    generalize vs[i]=p at hvi
    obtain ⟨x0,hx,hy⟩:=hvs i p hvi
    have hDlt:Dn < s.heap.objs.size:=by obtain ⟨o,_,_,ho,_⟩:=id hD;exact Heap.lt_size ho
    refine codeAny_builtin entry_dul ?_
    rw [Around.under_plainId plain_dul _]
    show wpAny _ A.in1 (pyNext (.ref z) >>= _) _ _ s
    refine wpAny_bind (zipSt_item (knd:=knd) Dz hst hDlt hd hl hx hy fun key h1 hkey hst1 hp1 hsz1 hk1=>?_)
    have hD1:=dstay hD fun o e=>hk1 Dn o a1.symm a3.symm a4.symm a5.symm e
    show wpAny _ A.in1 (holding [Value.ref s.heap.objs.size] _ >>= _) _ _ _
    refine wpAny_bind (wpAny_holding ?_)
    refine wpAny_bind (wpAny_tryCatch ?_)
    unfold Builtin.Dict.pairItems
    refine wpAny_bind (wpAny_typeOf (T:="tuple") ⟨_,hp1,rfl⟩ ?_)
    rw [if_pos (by decide)]
    refine wpAny_bind (wpAny_seqItems hp1 rfl (wpAny_pure ?_))
    show wpAny _ A.in1 (holding [key,p.2] (dictSet Dn key p.2)) _ _ _
    refine wpAny_holding (wpAny_dictSet_pairs (knd:=knd) hkey hD1 (fun h2 hd2 hsb=>?_) (by rw [List.length_take,sizeLine_eq];omega))
    have hst2:stored (vs.take i) p.1 p.2=vs.take (i + 1):=by
      unfold stored
      rw [if_neg]
      · rw [List.take_add_one,hvi];rfl
      · intro z
        obtain ⟨x,hx,e⟩:=List.any_eq_true.mp z
        obtain ⟨j,hj,ej⟩:=List.getElem_of_mem hx
        have hj':j < i∧j < vs.length:=by rw [List.length_take] at hj;omega
        rw [List.getElem_take] at ej
        have e:x.1=p.1:=by simpa using e
        obtain ⟨hi',ei⟩:=List.getElem?_eq_some_iff.mp hvi
        have:=List.pairwise_iff_getElem.mp nd j i (by simp;omega) (by simp;omega) hj'.1
        simp only [List.getElem_map] at this
        rw [ej,ei] at this
        exact this e
    rw [hst2] at hd2
    have k2:∀ b o,b≠Dn→h1.get? b=some o→h2.get? b=some o:=fun b o hb e=>by rw [hsb.2 b hb];exact e
    refine wpAny_pure ⟨plainId_quiet plain_dul _,?_⟩
    refine ih (i + 1) {s with heap:=h2,toks:=s.toks + 1} (by omega) hlt (hst1.at k2 a1 a2 a3 a4 a5) ?_ ?_ hd2 fun h' tk' hk' hS'=>?_
    · exact hd.at' fun o e=>k2 _ _ a6 (hk1 _ _ Dz.l1z Dz.l1TO Dz.l1i1 Dz.l1i2 e)
    · exact hl.at fun o e=>k2 _ _ a7 (hk1 _ _ Dz.l2z Dz.l2TO Dz.l2i1 Dz.l2i2 e)
    · exact hR h' tk' (fun b o b1 b2 b3 b4 b5 e=>hk' b o b1 b2 b3 b4 b5 (k2 _ _ b5 (hk1 b o b1 b2 b3 b4 e))) hS'
theorem call_dict_zip {s:Shared}{Q:Value→Shared→Prop} (hh:A.handled=none) (Dz:ZipApart z TI TO i1 i2 d l) (hz:IsZip s.heap z TI TO .none) (hTI:IsPair s.heap TI (.ref i1) (.ref i2)) (hTO:∃ u v,IsPair s.heap TO u v) (h1:s.heap.IsKeyIter i1 d 0 kvs.length ep) (h2:s.heap.IsListIter i2 l 0)
    (hd:s.heap.DictAt knd d kvs ep) (hl:s.heap.IsList l ys) (vs:List (κ×Value)) (hlen:vs.length=kvs.length) (hvs:∀ (i:Nat) (p:κ×Value),vs[i]?=some p→∃ v,kvs[i]?=some (p.1,v)∧ys[i]?=some p.2) (hn:vs.length≤1000) (nd:(vs.map (·.1)).Nodup)
    (h:∀ (h':Heap) (tk:Nat),(∀ b o,b≠z→b≠TO→b≠i1→b≠i2→s.heap.get? b=some o→h'.get? b=some o)→h'.DictOf knd s.heap.objs.size vs→Q (.ref s.heap.objs.size) {s with heap:=h',toks:=tk}):
    wpAny (model prog w) A (call (.type "dict") [.ref z]) Q E s:=by
  refine callType_codes (Q₁:=fun obj s₁=>obj=.ref s.heap.objs.size∧s₁={s with heap:=s.heap.push {cls:=.type "dict",data:=.dict #[]}}) PySem.F.kt_called_dict (PySem.F.kt_typeCall_dict_1 _) PySem.F.entry_dict_init (kt_code_dict_new _ ⟨rfl,rfl⟩) ?_
  rintro obj s₁ ⟨rfl,rfl⟩
  have hnew:(s.heap.push {cls:=.type "dict",data:=.dict #[]}).DictOf knd s.heap.objs.size []:=Heap.DictOf.new s.heap
  have up:∀ b o,s.heap.get? b=some o→(s.heap.push {cls:=.type "dict",data:=.dict #[]}).get? b=some o:=fun b o e=>Heap.get?_push_of_some _ e
  refine ⟨hnew.typeIs,PySem.F.args_dict_init_2 _ _,?_⟩
  unfold Builtin.«dict.__init__»
  refine wpAny_bind ?_
  unfold Builtin.Dict.selfAndRest
  refine wpAny_bind (wpAny_notOrdered_dict hnew.typeIs ?_)
  show wpAny _ _ (pure (s.heap.objs.size,[Value.ref z])) _ _ _
  refine wpAny_pure ?_
  show wpAny _ _ (Builtin.Dict.updateFrom "dict.__init__" s.heap.objs.size (.ref z) [] .none) _ _ _
  unfold Builtin.Dict.updateFrom
  refine wpAny_bind (wpAny_typeOf (T:="zip") ⟨_,up _ _ hz,rfl⟩ ?_)
  rw [if_pos (by decide)]
  refine wpAny_bind (keys_missZ (up _ _ hz) rfl rfl rfl hh fun m2 tk2 k2=>?_)
  have up2:∀ b o,s.heap.get? b=some o→m2.get? b=some o:=fun b o e=>k2 _ _ (up _ _ e)
  simp only [Option.isNone_none,if_true]
  refine wpAny_bind (wpAny_rule ?_)
  refine wpAny_bind (wpAny_pyIter_zip (up2 _ _ hz) ?_)
  refine wpAny_pure ⟨plainId_quiet plain_dul _,?_⟩
  have lt:∀ {b:Addr}{o:Obj},s.heap.get? b=some o→b≠s.heap.objs.size:=fun e=>Nat.ne_of_lt (Heap.lt_size e)
  obtain ⟨u,v,hTO⟩:=hTO
  have n4:i1≠s.heap.objs.size:=by obtain ⟨o,e,_⟩:=h1;exact lt e
  have n5:i2≠s.heap.objs.size:=by obtain ⟨o,e,_⟩:=h2;exact lt e
  have n6:d≠s.heap.objs.size:=by obtain ⟨o,es,e,_⟩:=hd;exact lt e
  have n7:l≠s.heap.objs.size:=by obtain ⟨o,e,_⟩:=hl;exact lt e
  refine code_dzip (knd:=knd) (A:=A.in1) hh Dz (lt hz) (lt hTI) (lt hTO) n4 n5 n6 n7 vs .none hlen hvs hn nd _ 0 {s with heap:=m2,toks:=tk2} rfl (Nat.zero_le _) ⟨.inl ⟨up2 _ _ hz,u,v,up2 _ _ hTO⟩,up2 _ _ hTI,h1.at fun o e=>up2 _ _ e,h2.at fun o e=>up2 _ _ e⟩ (hd.at' fun o e=>up2 _ _ e) (hl.at fun o e=>up2 _ _ e) ?_ fun h' tk' hk hS=>?_
  · obtain ⟨o,es,ep,ho,r⟩:=hnew
    exact ⟨o,es,ep,k2 _ _ ho,r⟩
  · exact ⟨rfl,h h' tk' (fun b o b1 b2 b3 b4 e=>hk b o b1 b2 b3 b4 (lt e) (up2 _ _ e)) hS⟩
end
noncomputable def zipD (kvs:List (Key×V)) (ys:List V):List (Key×V):=kvs.zipWith (fun p y=>(p.1,y)) ys
noncomputable def tDictZ (K:PySem.W.Frag) (ta:TA):TE:=fun σ H Q=>ta σ H fun vs H1=>∃ (d l:Addr) (kvs:List (Key×V)) (ys:List V),vs=[.ref d,.ref l]∧H1 d=some (.dK kvs)∧SqL K H1 l ys∧kvs.length≤ys.length∧kvs.length≤1000∧(kvs.map (·.1)).Nodup∧∀ e,H1 e=none→Q (.ref e) (upd H1 e (.dK (zipD kvs ys)))
section
variable {X:Cx}
theorem pe_dictZ (hc:X.calm=true) {a b:Expr}{ta:TA}{p p2 pos pos2:Pos} (hgd:Gl X "dict") (hmd:X.mg "dict"=none) (hg:Gl X "zip") (hm:X.mg "zip"=none) (ha:PA X [a,b] ta) (hs:starEach [a,b] X.env=(false,eval a X.env)::starEach [b] X.env:=by rfl) (hs2:(backTo pos (starEach [b] X.env)).any (·.1)=false:=by rfl)
    (hs3:starEach [.Call (.Name "zip" p) [a,b] [] pos] X.env=[(false,eval (.Call (.Name "zip" p) [a,b] [] pos) X.env)]:=by rfl):
    PE X (.Call (.Name "dict" p2) [.Call (.Name "zip" p) [a,b] [] pos] [] pos2) (tDictZ X.K ta):=by
  intro pins s σ H Q I h
  refine Call_ (ld_blt I hgd hmd boot_dict (PyProof.Rows.callWith_type1 ?_ hs3 rfl))
  rw [hs3]
  show wpAny _ _ (spliced ((false,eval (.Call (.Name "zip" p) [a,b] [] pos) X.env)::backTo pos2 [])) _ _ s
  refine Calls.spliced_cons ?_
  refine Call_ (ld_blt I hg hm boot_zip (PyProof.Rows.callWith_type1 (thn (ha pos pins s σ H _ I h) fun us s1 ⟨vs,H1,I1,r1,q1⟩=>?_) hs hs2))
  obtain ⟨d,l,kvs,ys,e,hd,hS2,hkl,hk1,nd,q⟩:=q1
  subst e
  cases r1 with
  | cons r rr=>
    cases rr with
    | cons r' rr=>
      cases rr
      cases r
      cases r'
      obtain ⟨zz,hdS,vs,rel,dd⟩:=dk_rd I1.hok (.inl hd)
      have hlen:kvs.length=vs.length:=Paired.length rel
      obtain ⟨o,es,ep,ho,hex,hdat,r⟩:=id dd
      have hat:s1.heap.DictAt (mixKind X.prog X.w) d vs ep:=⟨o,es,ho,hex,hdat,r⟩
      obtain ⟨its2,rv2,pl2,hz2⟩:=I1.list hS2
      have lt1:d < s1.heap.objs.size:=I1.hok.lt hd
      have lt2:l < s1.heap.objs.size:=by obtain ⟨o,e,_⟩:=pl2.isList;exact Heap.lt_size e
      have hil:ys.length=its2.length:=rv2.length
      refine call_zipK (knd:=mixKind X.prog X.w) hdS hat pl2.isList fun h' kz kTI kTO k1 k2 hk=>Calls.spliced_nil ?_
      have hkv:KV (zipD kvs ys) (vs.zipWith (fun (p:Key×Value) y=>(p.1,y)) its2):=by
        unfold zipD
        clear q nd hk1 hkl hat r hdat hex ho dd hlen zz hd hS2 pl2 k1 hz2 hil
        induction rel generalizing ys its2 with
        | nil=>exact .nil
        | cons h _ ih=>
          cases rv2 with
          | nil=>exact .nil
          | cons h2 r2=>exact .cons ⟨h.1,h2⟩ (ih _ _ r2)
      have ek:(vs.map (·.1))=kvs.map (·.1):=by
        clear hkv q nd hk1 hkl hat r hdat hex ho dd hlen zz hd k1
        induction rel with
        | nil=>rfl
        | cons h _ ih=>rw [List.map_cons,List.map_cons,ih,h.1]
      have hzl:(vs.zipWith (fun (p:Key×Value) y=>(p.1,y)) its2).length=vs.length:=by rw [List.length_zipWith];omega
      have ekz:((vs.zipWith (fun (p:Key×Value) y=>(p.1,y)) its2).map (·.1))=vs.map (·.1):=by
        apply List.ext_getElem (by simp;omega)
        intro i h1 h2
        simp
      refine call_dict_zip (knd:=mixKind X.prog X.w) (I.ok.hd hc) (PySem.W.ktu_apart _ _ _ lt1 lt2) kz kTI ⟨_,_,kTO⟩ k1 k2 (hat.at' fun o e=>hk _ _ e) (pl2.isList.at fun o e=>hk _ _ e) (vs.zipWith (fun (p:Key×Value) y=>(p.1,y)) its2) hzl ?_ (by omega) (by rw [ekz,ek];exact nd) fun h2 tk hk2 hD=>?_
      · intro i p hp
        rw [List.getElem?_zipWith] at hp
        cases e1:vs[i]? with
        | none=>rw [e1] at hp;simp at hp
        | some p1=>
          cases e2:its2[i]? with
          | none=>rw [e1,e2] at hp;simp at hp
          | some y=>
            rw [e1,e2] at hp
            simp at hp
            subst hp
            exact ⟨p1.2,rfl,by simpa using e2⟩
      · have hlt:s1.heap.objs.size≤h'.objs.size:=by
          exact Nat.le_of_lt (Nat.lt_of_le_of_lt (Nat.le_add_right _ 4) (Heap.lt_size kz))
        have kk:∀ b u,s1.heap.get? b=some u→h2.get? b=some u:=fun b u e=>by
          have hb:=Heap.lt_size e
          exact hk2 b u (Nat.ne_of_lt (Nat.lt_of_lt_of_le hb (Nat.le_add_right _ _))) (Nat.ne_of_lt (Nat.lt_of_lt_of_le hb (Nat.le_add_right _ _))) (Nat.ne_of_lt hb) (Nat.ne_of_lt (Nat.lt_of_lt_of_le hb (Nat.le_add_right _ _))) (hk b u e)
        refine ⟨.ref h'.objs.size,_,I1.laid (t':=tk) (a:=h'.objs.size) (o:=.dK (zipD kvs ys)) kk hlt (dk_new ?_ ?_ hkv hD),rfl,q _ (I1.hok.fresh hlt)⟩
        · rw [zipD,List.length_zipWith]
          exact Nat.le_trans (Nat.le_trans (Nat.min_le_left _ _) hk1) (by decide)
        · exact beq_eq_false_iff_ne.mpr (Ne.symm (Nat.ne_of_lt (Nat.lt_of_lt_of_le I1.big hlt)))
end
end L2
namespace L2
open PySem PySem.Spec PyProof.Rows PySem.W
structure Frz (d:Addr) (kvs:List (Key×V)) (o:Obj) (H Hf:Hp):Prop where
  fd:Hf d=some (.frz o (.dK kvs))
  low:∀ a,Hf a=none→H a=none
  keep:∀ a x,a≠d→H a=some x→Hf a=some x
section
variable {K:PySem.W.Frag}{mp:List (Option Nat)}{tt:TT}{te td:TE}{ta:TA}{σ:St}{H Hf:Hp}{Q:VK}{d l:Addr}{kvs:List (Key×V)}{o:Obj}
theorem frz_upd:Frz d kvs o H (upd H d (.frz o (.dK kvs))):=
  ⟨upd_same,fun a ha=>by
    by_cases h1:a=d
    · subst h1;rw [upd_same] at ha;cases ha
    · rwa [upd_ne h1] at ha,fun a x ha h=>by rw [upd_ne ha];exact h⟩
theorem frz_view {w:Addr}{x:HO} (hw:H w=none):Frz d kvs o H (upd (upd H w x) d (.frz o (.dK kvs))):=
  ⟨upd_same,fun a ha=>by
    by_cases h1:a=d
    · subst h1;rw [upd_same] at ha;cases ha
    · rw [upd_ne h1] at ha
      by_cases h2:a=w
      · subst h2;exact hw
      · rwa [upd_ne h2] at ha,fun a y ha h=>by
    have hw2:a≠w:=fun e=>by rw [e,hw] at h;cases h
    rw [upd_ne ha,upd_ne hw2];exact h⟩
noncomputable def Qth (d:Addr) (Q:VK):VK:=fun v H'=>∃ o kvs,H' d=some (.frz o (.dK kvs))∧Q v (upd H' d (.dK kvs))
theorem open_keys {g:TG} (htd:∀ k:VK,k (.ref d) H→td σ H k) (hd:H d=some (.dK kvs)) (h:∀ o Hf,Frz d kvs o H Hf→tCompK mp g tt te (Itk d o kvs) σ Hf (Qth d Q)):tThaw (tComp mp (iKeys td) g tt te) σ H Q:=
  ⟨d,kvs,hd,r_comp (htd _ ⟨d,kvs,rfl,hd,fun o=>h o _ frz_upd⟩)⟩
theorem open_vals {g:TG} (htd:∀ k:VK,k (.ref d) H→td σ H k) (hd:H d=some (.dK kvs)) (h:∀ o Hf,Frz d kvs o H Hf→tCompK mp g tt te (Itv d o kvs) σ Hf (Qth d Q)):tThaw (tComp mp (iVals td) g tt te) σ H Q:=
  ⟨d,kvs,hd,r_comp (htd _ ⟨d,kvs,rfl,hd,fun o v hv hne=>h o _ (frz_view hv)⟩)⟩
theorem open_enumK {g:TG} (htd:∀ k:VK,k (.ref d) H→td σ H k) (hd:H d=some (.dK kvs)) (h:∀ o Hf,Frz d kvs o H Hf→tCompK mp g tt te (Iek d o kvs) σ Hf (Qth d Q)):tThaw (tComp mp (iEnumK td) g tt te) σ H Q:=
  ⟨d,kvs,hd,r_comp (htd _ ⟨d,kvs,rfl,hd,fun o=>h o _ frz_upd⟩)⟩
theorem open_zipK {g:TG}{ys:List V} (hta:∀ k:List V→Hp→Prop,k [.ref d,.ref l] H→ta σ H k) (hd:H d=some (.dK kvs)) (hl:SqL K H l ys) (hne:d≠l) (h:∀ o Hf,Frz d kvs o H Hf→tCompK mp g tt te (Izk K d l o kvs) σ Hf (Qth d Q)):tThaw (tComp mp (iZipK K ta) g tt te) σ H Q:=
  ⟨d,kvs,hd,r_comp (hta _ ⟨d,l,kvs,rfl,hd,⟨ys,hl⟩,hne,fun o=>h o _ frz_upd⟩)⟩
variable {J:It}{g:TG}{P:Hp→Prop}{n:Nat}{f:Nat→St→St}
theorem thaw_gen (F:Frz d kvs o H Hf) (hd:H d=some (.dK kvs)) (Y:Ys J g P n f) (st:Nat→St) (hf:∀ i σ',(σ'=liftSt mp σ∨∃ j,σ'=st j)→f i σ'=st i) (hP:∀ H',H' d=some (.frz o (.dK kvs))→SameX d H H'→P H') (hz:n≤sizeLine) (b:Nat→Bool) (R:Addr→Nat→V→Hp→Prop)
    (hR:∀ l i v H1 H2,SameX l H1 H2→R l i v H1→R l i v H2) (hRd:∀ l i v H1,H1 d=some (.frz o (.dK kvs))→R l i v H1→R l i v (upd H1 d (.dK kvs)))
    (ht:∀ i,i < n→∀ (H':Hp) (G:Bool→Hp→Prop),SameX d H H'→(∀ H'',Same H' H''→G (b i) H'')→tt (st i) H' G)
    (he:∀ l i,i < n→b i=true→∀ (H':Hp) (G:VK),H l=none→(∃ o,H' l=some o)→(∃ o,H' d=some o)→SameX d H H'→(∀ v H'',R l i v H''→Same H' H''→G v H'')→te (st i) H' G)
    (hq:∀ l ys H2,H l=none→Same H H2→H2 l=some (.lst ys)→Paired (fun i v=>R l i v H2) ((List.range n).filter b) ys→Q (.ref l) H2):tCompK mp g tt te J σ Hf (Qth d Q):=by
  have hx:∀ H',Same Hf H'→SameX d H H':=fun H' s a x ha h=>s _ _ (F.keep a x ha h)
  refine comp_genY Y st hf (fun H' s=>hP H' (s _ _ F.fd) (hx H' s)) hz b R hR (fun i hi H' G s k=>ht i hi H' G (hx H' s) k) (fun l i hi hb H' G h0 h1 s k=>he l i hi hb H' G (F.low l h0) h1 ⟨_,s _ _ F.fd⟩ (hx H' s) k) fun l ys H' h0 s h1 pr=>?_
  have hfd:H' d=some (.frz o (.dK kvs)):=s _ _ F.fd
  have hld:l≠d:=fun e=>by rw [e,F.fd] at h0;cases h0
  refine ⟨o,kvs,hfd,hq l ys _ (F.low l h0) (fun a x ha=>?_) (by rw [upd_ne hld];exact h1) (Paired.mapP pr fun i v q=>hRd l i v H' hfd q)⟩
  by_cases h1:a=d
  · subst h1
    rw [upd_same,← hd];exact ha
  · rw [upd_ne h1]
    exact hx H' s a x h1 ha
theorem thaw_vals (F:Frz d kvs o H Hf) (hd:H d=some (.dK kvs)) (Y:Ys J g P n f) (st:Nat→St) (hf:∀ i σ',(σ'=liftSt mp σ∨∃ j,σ'=st j)→f i σ'=st i) (hP:∀ H',H' d=some (.frz o (.dK kvs))→SameX d H H'→P H') (hz:n≤sizeLine) (b:Nat→Bool) (U:Nat→V)
    (ht:∀ i,i < n→∀ (H':Hp) (G:Bool→Hp→Prop),SameX d H H'→(∀ H'',Same H' H''→G (b i) H'')→tt (st i) H' G)
    (he:∀ i,i < n→b i=true→∀ (H':Hp) (G:VK),SameX d H H'→(∀ H'',Same H' H''→G (U i) H'')→te (st i) H' G)
    (hq:∀ l H2,H l=none→Same H H2→H2 l=some (.lst (((List.range n).filter b).map U))→Q (.ref l) H2):tCompK mp g tt te J σ Hf (Qth d Q):=by
  refine thaw_gen F hd Y st hf hP hz b (fun _ i v _=>v=U i) (fun _ _ _ _ _ _ h=>h) (fun _ _ _ _ _ h=>h) ht (fun l i hi hb H' G _ _ _ s k=>he i hi hb H' G s fun H'' s'=>k _ H'' rfl s') fun l ys H' h0 s h1 pr=>?_
  have e:=paired_map pr
  subst e
  exact hq l H' h0 s h1
theorem thaw_objs (F:Frz d kvs o H Hf) (hd:H d=some (.dK kvs)) (Y:Ys J g P n f) (st:Nat→St) (hf:∀ i σ',(σ'=liftSt mp σ∨∃ j,σ'=st j)→f i σ'=st i) (hP:∀ H',H' d=some (.frz o (.dK kvs))→SameX d H H'→P H') (hz:n≤sizeLine) (b:Nat→Bool) (U:Nat→HO)
    (ht:∀ i,i < n→∀ (H':Hp) (G:Bool→Hp→Prop),SameX d H H'→(∀ H'',Same H' H''→G (b i) H'')→tt (st i) H' G)
    (he:∀ i,i < n→b i=true→∀ (H':Hp) (G:VK),SameX d H H'→(∀ a H'',H' a=none→Same H' H''→H'' a=some (U i)→G (.ref a) H'')→te (st i) H' G)
    (hq:∀ l bs H2,H l=none→Same H H2→H2 l=some (.lst (bs.map V.ref))→Paired (fun i a=>H a=none∧a≠l∧H2 a=some (U i)) ((List.range n).filter b) bs→Q (.ref l) H2):tCompK mp g tt te J σ Hf (Qth d Q):=by
  refine thaw_gen F hd Y st hf hP hz b (fun l i v H'=>∃ a,v=.ref a∧H a=none∧a≠l∧H' a=some (U i)) (fun l i v H1 H2 s ⟨a,e,g0,hl,h1⟩=>⟨a,e,g0,hl,s a _ hl h1⟩) (fun l i v H1 hfr ⟨a,e,g0,hl,h1⟩=>⟨a,e,g0,hl,by
    have:a≠d:=fun z=>by rw [z,hd] at g0;cases g0
    rw [upd_ne this];exact h1⟩) ht
    (fun l i hi hb H' G hl ⟨o,ho⟩ ⟨o2,ho2⟩ s k=>he i hi hb H' G s fun a H'' h0 s' h1=>k _ H'' ⟨a,rfl,?_,(fun e=>by rw [e,ho] at h0;cases h0),h1⟩ s') fun l ys H' h0 s h1 pr=>?_
  · cases e:H a with
    | none=>rfl
    | some x=>
      have:a≠d:=fun z=>by rw [z,ho2] at h0;cases h0
      rw [s a x this e] at h0;cases h0
  · obtain ⟨bs,rfl,pr'⟩:=paired_refs (T:=fun a i=>H a=none∧a≠l∧H' a=some (U i)) pr
    exact hq l bs H' h0 s h1 pr'
end
theorem ys_vals {d:Addr}{o:Obj}{kvs:List (Key×V)} (p:Nat) (u:Nat→V) (hu:∀ i q,kvs[i]?=some q→q.2=u i):
    Ys (Itv d o kvs) (gName p) (fun H=>H d=some (.frz o (.dK kvs))) kvs.length (fun i σ=>σ.set p (some (u i))) where
  go:=fun i H hi h=>⟨h,hi⟩
  stop:=fun H h=>⟨h,Nat.le_refl _⟩
  yld:=fun i H x H' σ Q hi h y q=>by
    obtain ⟨e,w,hw,ex⟩:=y
    subst e ex
    rw [hu i w hw]
    exact q _ (Same.refl _)
theorem ps_thawA {X:Cx}{st:Stmt}{te:TE}{i:Nat} (h:PS X st (tAsg te (gName i))):PS X st (tAsg (tThaw te) (gName i)):=by
  intro pins s σ H D I q
  obtain ⟨d,kvs0,hd,q⟩:=q
  refine thn (h pins s σ H {nx:=fun σ' H'=>∃ o kvs,H' d=some (.frz o (.dK kvs))∧D.nx σ' (upd H' d (.dK kvs)),rt:=fun _ _=>False} I q) fun f s1 q1=>?_
  match f,q1 with
  | .next,⟨σ',H',I',o,kvs,hf,q2⟩=>exact ⟨σ',_,Inv.thaw I hd I' hf,q2⟩
  | .brk,⟨σ',H',I',q2⟩=>exact q2.elim
  | .cont,⟨σ',H',I',q2⟩=>exact q2.elim
  | .ret u,⟨v,σ',H',I',r,q2⟩=>exact q2.elim
end L2
set_option maxHeartbeats 4000000
namespace My
open PySem L2
local macro_rules | `(tactic| walk_at "q") => `(tactic| with_reducible refine r_seq ?_)
local macro_rules | `(tactic| walk_at "u1") => `(tactic| first
 | with_reducible refine r_asg ?_
 | with_reducible refine r_ifs ?_
 | with_reducible refine r_ret ?_
 | with_reducible refine r_next ?_
 | with_reducible refine r_drop ?_
 | ((with_reducible show tAug _ _ _ _ _ _);refine ⟨_,rfl,?_⟩)
 | ((with_reducible show tVar _ _ _ _);refine ⟨_,rfl,?_⟩)
 | with_reducible refine r_c ?_
 | with_reducible refine r_op ?_
 | with_reducible refine r_un ?_
 | with_reducible refine r_neg ?_
 | with_reducible refine r_add ?_
 | with_reducible refine r_sub ?_
 | ((with_reducible show oMul _ _ _ _);first | refine r_mulL (by first | omega | decide) (by first | omega | decide) ?_ | refine r_mulR (by first | omega | decide) (by first | omega | decide) ?_)
 | ((with_reducible show oDiv _ _ _ _);refine r_div (by first | omega | decide) (by first | omega | decide) ?_)
 | ((with_reducible show oMod _ _ _ _);refine r_mod (by first | omega | decide) ?_)
 | ((with_reducible show oPow _ _ _ _);refine r_pow (by decide) (by decide) (by decide) ?_)
 | with_reducible refine r_lt ?_
 | with_reducible refine r_le ?_
 | with_reducible refine r_gt ?_
 | with_reducible refine r_ge ?_
 | with_reducible refine r_eq ?_
 | with_reducible refine r_ne ?_
 | with_reducible refine r_isN ?_
 | with_reducible refine r_notN ?_
 | with_reducible refine r_test ?_
 | with_reducible refine r_tB ?_
 | with_reducible refine r_bl ?_
 | with_reducible refine r_and ?_
 | with_reducible refine r_or ?_
 | with_reducible refine r_not ?_
 | with_reducible refine r_notV ?_
 | with_reducible refine r_andV ?_
 | with_reducible refine r_orV ?_
 | with_reducible refine r_if ?_
 | with_reducible refine r_nil ?_
 | with_reducible refine r_cons ?_
 | with_reducible refine r_call ?_
 | with_reducible refine r_cb ?_
 | with_reducible refine r_min ?_
 | with_reducible refine r_max ?_
 | with_reducible refine r_for ?_
 | with_reducible refine r_rng1 ?_
 | with_reducible refine r_rng3 ?_
 | with_reducible refine r_rng2 ?_
 | ((with_reducible show ∃ i j:Int,_=_∧_);refine r_rng2' (by first | omega | decide) (by first | omega | decide) (by first | omega | decide) (by first | omega | decide) ?_)
 | ((with_reducible show ∃ j:Int,[V.int _]=[V.int _]∧_);refine r_rng1' (by first | omega | decide) (by first | omega | decide) ?_)
 | with_reducible refine r_iList ?_
 | with_reducible refine r_sl ?_
 | with_reducible refine r_part ?_
 | with_reducible refine r_part' ?_
 | with_reducible refine r_noPart ?_
 | with_reducible refine r_comp ?_
 | with_reducible refine r_bm ?_
 | with_reducible refine r_bm0 ?_
 | with_reducible refine r_chain ?_)
local macro_rules | `(tactic| walk_at "o1") => `(tactic| first
 | walk_at "u1"
 | ((with_reducible show rLenL _ _ _ _);refine r_len (by assumption) ?_)
 | ((with_reducible show rSum _ _ _ _);refine r_sum (by assumption) ?_)
 | with_reducible refine r_lst ?_
 | with_reducible refine r_tup ?_
 | ((with_reducible show ∃ b:Addr,V.ref _=V.ref _∧_);refine r_iList' (by assumption) ?_)
 | ((with_reducible show rSlL _ _ _ _ _ _);refine r_slL (by assumption) ?_))
local macro_rules | `(tactic| walk_at "w") => `(tactic| repeat (first | with_reducible refine r_seq ?_ | walk_at "o1"))
local macro_rules | `(tactic| walk_at "sq") => `(tactic| first | assumption | exact SqL.of (by assumption) | exact Same.seq (by assumption) (by walk_at "sq"))
local macro_rules | `(tactic| walk_at "rows") => `(tactic| first | assumption | exact Same.rows (by assumption) (by walk_at "rows"))
local macro_rules | `(tactic| walk_at "fits") => `(tactic| first | exact Nat.le_of_ble_eq_true rfl | (refine Nat.le_trans ?_ line64; simp; done) | (refine Nat.le_trans ?_ line64; simp; omega) | (refine Nat.le_trans ?_ line64; omega))
local macro_rules | `(tactic| walk_at "call") => `(tactic| fail)
local macro_rules | `(tactic| walk_at "early") => `(tactic| fail)
local macro_rules | `(tactic| walk_at "v1") => `(tactic| first
 | walk_at "early"
 | walk_at "u1"
 | with_reducible refine r_asgS ?_
 | with_reducible refine r_asgT ?_
 | ((with_reducible show rLenL _ _ _ _);refine r_len (by walk_at "sq") ?_)
 | ((with_reducible show rSum _ _ _ _);refine r_sum (by walk_at "sq") ?_)
 | with_reducible refine r_lstN ?_
 | with_reducible refine r_tupN ?_
 | ((with_reducible show newL _ _ _);refine r_newL (by walk_at "fits") ?_;intro _ _ _ _ _)
 | ((with_reducible show newT _ _ _);refine r_newT (by walk_at "fits") ?_;intro _ _ _ _ _)
 | ((with_reducible show rListOf _ _ _ _);refine r_listOfN (by walk_at "sq") ?_;intro _ _ _ _ _)
 | ((with_reducible show rIn _ false (V.int _) _ _ _);refine r_inI (by walk_at "sq") ?_)
 | ((with_reducible show rIn _ true (V.int _) _ _ _);refine r_ninI (by walk_at "sq") ?_)
 | ((with_reducible show rEqI _ false _ _ _ _);first | refine r_eqIs (by walk_at "sq") (by walk_at "sq") ?_ | refine r_eqIs (ms:=[]) (by walk_at "sq") (by walk_at "sq") ?_)
 | ((with_reducible show rEqI _ true _ _ _ _);first | refine r_neIs (by walk_at "sq") (by walk_at "sq") ?_ | refine r_neIs (ms:=[]) (by walk_at "sq") (by walk_at "sq") ?_)
 | ((with_reducible show rAll _ _ _ _);refine r_all (by walk_at "sq") ?_)
 | ((with_reducible show ∃ b:Addr,V.ref _=V.ref _∧_);refine r_iList' (by walk_at "sq") ?_)
 | with_reducible refine r_par ?_
 | with_reducible refine r_par' ?_
 | with_reducible refine r_intB ?_
 | with_reducible refine r_enum ?_
 | with_reducible refine r_zip ?_
 | ((with_reducible show ∃ a b:Addr,[V.ref _,V.ref _]=[V.ref _,V.ref _]∧_);refine r_zip' (by walk_at "sq") (by walk_at "sq") ?_)
 | ((with_reducible show rSlL _ _ _ _ _ _);refine r_slLN (by walk_at "sq") ?_;intro _ _ _ _ _)
 | with_reducible refine iteT ?_
 | with_reducible refine iteF ?_
 | with_reducible refine iteNT ?_
 | with_reducible refine iteNF ?_
 | walk_at "call")
local macro_rules | `(tactic| walk_at "s1") => `(tactic| repeat walk_at "v1")
local macro_rules | `(tactic| walk_at "v") => `(tactic| repeat (first | with_reducible refine r_seq ?_ | walk_at "v1"))
theorem paired_fun {α:Type}{f:α→V}:∀ {xs:List α}{g:α→V}{ys:List V},Paired (fun x v=>∃ p,x=g p∧v=f p) (xs.map g) ys→(∀ p q,g p=g q→p=q)→ys=xs.map f
 | [],_,_,.nil,_=>rfl
 | x::r,g,_,.cons ⟨p,e,e'⟩ t,inj=>by
  have:=inj _ _ e
  subst this
  rw [e',paired_fun t inj]
  rfl
theorem int_inj:∀ p q:Int,V.int p=V.int q→p=q:=fun _ _ e=>V.int.inj e
theorem mem_ints {ns:List Int}{x:V} (h:x∈ns.map V.int):∃ i∈ns,x=V.int i:=by
 obtain ⟨i,hi,e⟩:=List.mem_map.mp h
 exact ⟨i,hi,e.symm⟩
theorem cut_ints (ns:List Int) (lo hi:Option Int):∃ ms:List Int,cutV (ns.map V.int) lo hi=ms.map V.int∧ms.length≤ns.length∧∀ m∈ms,m∈ns:=by
 refine ⟨(ns.drop (HT.sIx (ns.map V.int).length 0 lo)).take (HT.sIx (ns.map V.int).length (ns.map V.int).length hi - HT.sIx (ns.map V.int).length 0 lo),?_,?_,?_⟩
 ·unfold cutV
  rw [List.map_take,List.map_drop]
 ·rw [List.length_take,List.length_drop]
  omega
 ·intro m hm
  exact List.mem_of_mem_drop (List.mem_of_mem_take hm)
theorem cut_le (xs:List V) (lo hi:Nat):(cutV xs (some (lo:Int)) (some (hi:Int))).length≤hi - lo:=by
 unfold cutV
 rw [HT.sIx_nat,HT.sIx_nat,List.length_take]
 omega
noncomputable def gat (ps:List Int) (L:Int):Int:=(ps.map (min · L)).sum
noncomputable def IsLev (ps:List Int) (price L:Int):Prop:=1≤L∧price≤gat ps L∧gat ps (L - 1) < price
theorem sum_perm:∀ {a b:List Int},a.Perm b→a.sum=b.sum:=by
 intro a b h
 induction h with
 | nil=>rfl
 | cons x _ ih=>simp only [List.sum_cons,ih]
 | swap x y l=>simp only [List.sum_cons];omega
 | trans _ _ i1 i2=>exact i1.trans i2
theorem gat_perm {a b:List Int} (h:a.Perm b) (L:Int):gat a L=gat b L:=sum_perm (h.map _)
theorem gat_append (a b:List Int) (L:Int):gat (a ++ b) L=gat a L + gat b L:=by
 unfold gat
 rw [List.map_append,List.sum_append]
theorem gat_cons (x:Int) (b:List Int) (L:Int):gat (x::b) L=min x L + gat b L:=by
 unfold gat
 rw [List.map_cons,List.sum_cons]
theorem gat_small {L:Int}:∀ {l:List Int},(∀ y∈l,y≤L)→gat l L=l.sum
 | [],_=>rfl
 | x::r,h=>by
  have hx:=h x List.mem_cons_self
  rw [gat_cons,gat_small fun y hy=>h y (List.mem_cons_of_mem _ hy),List.sum_cons]
  omega
theorem gat_big {L:Int}:∀ {l:List Int},(∀ y∈l,L≤y)→gat l L=(l.length:Int) * L
 | [],_=>by simp [gat]
 | x::r,h=>by
  have hx:=h x List.mem_cons_self
  rw [gat_cons,gat_big fun y hy=>h y (List.mem_cons_of_mem _ hy),List.length_cons]
  have e:((r.length + 1:Nat):Int) * L=(r.length:Int) * L + L:=by
   rw [Int.natCast_add,Int.add_mul]
   simp
  rw [e]
  omega
theorem lev_found {pre post:List Int}{x m p price:Int} (hp:p=(post.length:Int) + 1) (hm:m=price - pre.sum) (hm0:0 < m) (hA:∀ y∈pre,y * p < m) (hx:m≤x * p) (hpost:∀ y∈post,x≤y):
  IsLev (pre ++ x::post) price ((m + p - 1) / p):=by
 have p0:0 < p:=by omega
 have e:=Int.mul_ediv_add_emod (m + p - 1) p
 have r0:=Int.emod_nonneg (m + p - 1) (show p≠0 by omega)
 have r1:=Int.emod_lt_of_pos (m + p - 1) p0
 generalize (m + p - 1) / p=L at *
 generalize (m + p - 1) % p=r at *
 have e1:p * (L - 1)=p * L - p:=by rw [Int.mul_sub,Int.mul_one]
 have hL:L≤x:=by
  rcases Int.lt_or_le x L with h | h
  ·exfalso
   have:x * p≤(L - 1) * p:=Int.mul_le_mul_of_nonneg_right (by omega) (by omega)
   rw [Int.mul_comm (L - 1) p] at this
   omega
  ·exact h
 have hpre:∀ y∈pre,y≤L - 1:=fun y hy=>by
  rcases Int.lt_or_le y L with h | h
  ·omega
  ·exfalso
   have h1:L * p≤y * p:=Int.mul_le_mul_of_nonneg_right h (by omega)
   rw [Int.mul_comm L p] at h1
   have h2:=hA y hy
   omega
 have hL1:1≤L:=by
  rcases Int.lt_or_le 0 L with h | h
  ·omega
  ·exfalso
   have:p * L≤p * 0:=Int.mul_le_mul_of_nonneg_left h (by omega)
   rw [Int.mul_zero] at this
   omega
 have g:∀ M,M≤L→(∀ y∈pre,y≤M)→gat (pre ++ x::post) M=pre.sum + p * M:=fun M hM hpre=>by
  rw [gat_append,gat_small hpre,gat_big (l:=x::post) fun y hy=>by
   rcases List.mem_cons.mp hy with rfl | hy
   ·omega
   ·have:=hpost y hy;omega]
  rw [List.length_cons,hp]
  rfl
 refine ⟨hL1,?_,?_⟩
 ·rw [g L (Int.le_refl _) fun y hy=>by have:=hpre y hy;omega]
  omega
 ·rw [g (L - 1) (by omega) hpre]
  omega
theorem lev_step {pre:List Int}{x m p:Int} (hp:1≤p) (hx0:0≤x) (hpre:∀ y∈pre,y≤x) (hn:¬ m≤x * p):0 < m - x∧∀ y∈pre ++ [x],y * (p - 1) < m - x:=by
 have e:x * (p - 1)=x * p - x:=by rw [Int.mul_sub,Int.mul_one]
 have z:0≤x * (p - 1):=Int.mul_nonneg hx0 (by omega)
 refine ⟨by omega,fun y hy=>?_⟩
 rcases List.mem_append.mp hy with h | h
 ·have:y * (p - 1)≤x * (p - 1):=Int.mul_le_mul_of_nonneg_right (hpre y h) (by omega)
  omega
 ·have:y=x:=by simpa using h
  subst this
  omega
theorem sum_snoc (l:List Int) (x:Int):(l ++ [x]).sum=l.sum + x:=by
 rw [List.sum_append]
 simp
theorem range_getD' {α β:Type} (f:α→β) (d:α) (xs:List α):(List.range xs.length).map (fun i=>f (xs.getD i d))=xs.map f:=by
 apply List.ext_getElem
 ·simp
 ·intro k h1 h2
  have hk:k < xs.length:=by simpa using h1
  simp [List.getD,hk]
theorem paired_app {α β:Type}{F:α→β→Prop}:∀ {a c:List α}{b d:List β},Paired F a b→Paired F c d→Paired F (a ++ c) (b ++ d)
 | _,_,_,_,.nil,h=>h
 | _,_,_,_,.cons r t,h=>.cons r (paired_app t h)
noncomputable def tog:Nat→Nat
 | 0=>1
 | n + 1=>Nat.lcm (tog n) (n + 1)
theorem tog_pos:∀ n,0 < tog n
 | 0=>Nat.one_pos
 | n + 1=>Nat.lcm_pos (tog_pos n) (Nat.succ_pos n)
theorem tog_small:∀ n,n < 21→tog n≤232792560:=by decide +kernel
theorem tog_dvd:∀ n,n < 21→∀ k,k < 21→(1≤k∧k≤n)→k ∣ tog n:=by decide +kernel
theorem lcm_step {s n m:Nat} (hs:0 < s) (hn:0 < n) (hm:s ∣ m) (hle:m≤Nat.lcm s n) (hne:m % n≠0):m + s≤Nat.lcm s n:=by
 obtain ⟨a,rfl⟩:=hm
 obtain ⟨b,hb⟩:=Nat.dvd_lcm_left s n
 have h1:n ∣ Nat.lcm s n:=Nat.dvd_lcm_right s n
 have h2:s * a≠Nat.lcm s n:=fun e=>hne (Nat.mod_eq_zero_of_dvd (e ▸ h1))
 rw [hb] at hle h2 ⊢
 have h3:a < b:=by
  rcases Nat.lt_or_ge a b with h | h
  ·exact h
  ·exact absurd (Nat.le_antisymm hle (Nat.mul_le_mul_left s h)) h2
 calc s * a + s=s * (a + 1):=by rw [Nat.mul_add,Nat.mul_one]
  _≤s * b:=Nat.mul_le_mul_left s h3
theorem lcm_end {s n m:Nat} (hm0:0 < m) (hm:s ∣ m) (hle:m≤Nat.lcm s n) (h0:m % n=0):m=Nat.lcm s n:=
 Nat.le_antisymm hle (Nat.le_of_dvd hm0 (Nat.lcm_dvd hm (Nat.dvd_of_mod_eq_zero h0)))
noncomputable def wantF (w:Nat) (b:Nat→Bool):List Int:=((List.range w).filter b).map fun k:Nat=>(k:Int)
theorem mem_wantF {w:Nat}{b:Nat→Bool}{k:Nat}:((k:Int)∈wantF w b)↔(k < w∧b k=true):=by
 unfold wantF
 constructor
 ·intro h
  obtain ⟨j,hj,e⟩:=List.mem_map.mp h
  have:j=k:=by omega
  subst this
  exact ⟨List.mem_range.mp (List.mem_filter.mp hj).1,(List.mem_filter.mp hj).2⟩
 ·rintro ⟨h1,h2⟩
  exact List.mem_map.mpr ⟨k,List.mem_filter.mpr ⟨List.mem_range.mpr h1,h2⟩,rfl⟩
theorem togpow_le {v w:Nat} (hv:v≤20) (hw:w≤13):tog v ^ w≤232792560 ^ 13:=
 Nat.le_trans (Nat.pow_le_pow_left (tog_small v (by omega)) w) (Nat.pow_le_pow_right (by decide) hw)
theorem togpow_pos (v w:Nat):0 < tog v ^ w:=Nat.pow_pos (tog_pos v)
theorem huge_tog:(232792560:Int) ^ 13 * 1000000000000 * 1000000000000 < HUGE:=by decide +kernel
theorem togpow_int {v w:Nat} (hv:v≤20) (hw:w≤13):((tog v ^ w:Nat):Int)≤232792560 ^ 13:=by
 have h:=Int.ofNat_le.mpr (togpow_le hv hw)
 have e:((232792560 ^ 13:Nat):Int)=232792560 ^ 13:=by decide +kernel
 rw [e] at h
 exact h
noncomputable def sumTo (v:Nat) (f:Nat→Int):Int:=((List.range v).map f).sum
theorem sumTo_succ (v:Nat) (f:Nat→Int):sumTo (v + 1) f=sumTo v f + f v:=by
 unfold sumTo
 rw [List.range_succ,List.map_append,List.sum_append]
 simp
theorem sumTo_le:∀ {v:Nat}{f g:Nat→Int},(∀ i,i < v→f i≤g i)→sumTo v f≤sumTo v g
 | 0,_,_,_=>Int.le_refl 0
 | v + 1,f,g,h=>by
  have h1:=sumTo_le (v:=v) fun i hi=>h i (by omega)
  have h2:=h v (by omega)
  rw [sumTo_succ,sumTo_succ]
  omega
theorem sumTo_sub (f g:Nat→Int):∀ v,sumTo v (fun i=>f i - g i)=sumTo v f - sumTo v g
 | 0=>rfl
 | v + 1=>by
  rw [sumTo_succ,sumTo_succ,sumTo_succ,sumTo_sub f g v]
  omega
noncomputable def pay (W:Nat→Nat→Bool) (p:Nat→Int) (k:Nat) (L:Int) (i:Nat):Int:=if W i k=true then min (p i) L else 0
noncomputable def gth (v:Nat) (W:Nat→Nat→Bool) (p:Nat→Int) (k:Nat) (L:Int):Int:=sumTo v (pay W p k L)
noncomputable def hav (v:Nat) (W:Nat→Nat→Bool) (p:Nat→Int) (k:Nat):Int:=sumTo v fun i=>if W i k=true then p i else 0
theorem gth_mono {v:Nat}{W:Nat→Nat→Bool}{p:Nat→Int}{k:Nat}{L M:Int} (h:L≤M):gth v W p k L≤gth v W p k M:=
 sumTo_le fun i _=>by
  unfold pay
  split <;> omega
theorem gth_le_hav (v:Nat) (W:Nat→Nat→Bool) (p:Nat→Int) (k:Nat) (L:Int):gth v W p k L≤hav v W p k:=
 sumTo_le fun i _=>by
  unfold pay
  split <;> omega
theorem pay_le {W:Nat→Nat→Bool}{p:Nat→Int}{k:Nat}{L:Int}{i:Nat} (h:0≤p i):pay W p k L i≤p i:=by
 unfold pay
 split <;> omega
structure Town where
 v:Nat
 n:Nat
 W:Nat→Nat→Bool
 c:Nat→Int
structure Nx (T:Town) (p:Nat→Int) (done:List Nat) (k:Nat) (L:Int):Prop where
 lt:k < T.n
 new:k∉done
 pos:1≤L
 enough:T.c k≤gth T.v T.W p k L
 least:∀ j,j < T.n→j∉done→gth T.v T.W p j (L - 1) < T.c j
 first:∀ j,j < k→j∉done→gth T.v T.W p j L < T.c j
noncomputable def lft (W:Nat→Nat→Bool) (p:Nat→Int) (k:Nat) (L:Int):Nat→Int:=fun i=>p i - pay W p k L i
inductive Run (T:Town):(Nat→Int)→List Nat→List (Nat×Int)→Prop
 | stop {p:Nat→Int}{done:List Nat}:(∀ k,k < T.n→k∉done→hav T.v T.W p k < T.c k)→Run T p done []
 | step {p:Nat→Int}{done:List Nat}{k:Nat}{L:Int}{rest:List (Nat×Int)}:Nx T p done k L→Run T (lft T.W p k L) (k::done) rest→Run T p done ((k,L)::rest)
theorem lft_nn {W:Nat→Nat→Bool}{p:Nat→Int}{k:Nat}{L:Int}{i:Nat} (h:0≤p i):0≤lft W p k L i:=by
 have:=pay_le (W:=W) (k:=k) (L:=L) h
 unfold lft
 omega
theorem nx_unique {T:Town}{p:Nat→Int}{done:List Nat}{k k':Nat}{L L':Int} (h:Nx T p done k L) (h':Nx T p done k' L'):k=k'∧L=L':=by
 have a:∀ {k k':Nat}{L L':Int},Nx T p done k L→Nx T p done k' L'→¬ L < L':=by
  intro k k' L L' h h' hlt
  have h1:=h'.least k h.lt h.new
  have h2:=gth_mono (v:=T.v) (W:=T.W) (p:=p) (k:=k) (show L≤L' - 1 by omega)
  have h3:=h.enough
  omega
 have e:L=L':=by
  have:=a h h'
  have:=a h' h
  omega
 subst e
 have b:∀ {k k':Nat},Nx T p done k L→Nx T p done k' L→¬ k < k':=by
  intro k k' h h' hlt
  have h1:=h'.first k hlt h.new
  have h3:=h.enough
  omega
 have:=b h h'
 have:=b h' h
 exact ⟨by omega,rfl⟩
theorem nx_has {T:Town}{p:Nat→Int}{done:List Nat}{k:Nat}{L:Int} (h:Nx T p done k L):T.c k≤hav T.v T.W p k:=Int.le_trans h.enough (gth_le_hav _ _ _ _ _)
theorem run_unique {T:Town}:∀ {p:Nat→Int}{done:List Nat}{s s':List (Nat×Int)},Run T p done s→Run T p done s'→s=s':=by
 intro p done s s' h
 induction h generalizing s' with
 | stop h0=>
  intro h'
  cases h' with
  | stop _=>rfl
  | step n _=>
   have h1:=h0 _ n.lt n.new
   have h2:=nx_has n
   omega
 | step n _ ih=>
  intro h'
  cases h' with
  | stop h0=>
   have h1:=h0 _ n.lt n.new
   have h2:=nx_has n
   omega
  | step n' r'=>
   obtain ⟨e1,e2⟩:=nx_unique n n'
   subst e1
   subst e2
   rw [ih r']
theorem run_works {T:Town}{p:Nat→Int}{done:List Nat}{s:List (Nat×Int)} (h:Run T p done s):(∀ x∈s,x.1 < T.n∧x.1∉done∧1≤x.2)∧(s.map (·.1)).Nodup:=by
 induction h with
 | stop _=>exact ⟨fun _ h=>(by simp at h),List.nodup_nil⟩
 | step n _ ih=>
  obtain ⟨i1,i2⟩:=ih
  refine ⟨fun x hx=>?_,?_⟩
  ·rcases List.mem_cons.mp hx with e | hx
   ·subst e
    exact ⟨n.lt,n.new,n.pos⟩
   ·obtain ⟨a,b,c⟩:=i1 x hx
    exact ⟨a,fun z=>b (List.mem_cons_of_mem _ z),c⟩
  ·rw [List.map_cons]
   refine List.nodup_cons.mpr ⟨fun z=>?_,i2⟩
   obtain ⟨x,hx,e⟩:=List.mem_map.mp z
   have:=(i1 x hx).2.1
   rw [e] at this
   exact this List.mem_cons_self
theorem nodup_len:∀ (n:Nat) (l:List Nat),l.Nodup→(∀ x∈l,x < n)→l.length≤n
 | 0,l,_,h=>by
  cases l with
  | nil=>exact Nat.le_refl _
  | cons x r=>exact absurd (h x List.mem_cons_self) (Nat.not_lt_zero _)
 | n + 1,l,nd,h=>by
  by_cases hn:n∈l
  ·have h1:=nodup_len n (l.erase n) (nd.erase n) fun x hx=>by
    have h2:=(nd.mem_erase_iff).mp hx
    have h3:=h x h2.2
    omega
   rw [List.length_erase_of_mem hn] at h1
   omega
  ·have h1:=nodup_len n l nd fun x hx=>by
    have h3:=h x hx
    have h4:x≠n:=fun e=>hn (e ▸ hx)
    omega
   omega
theorem nodup_sub {α:Type} [BEq α] [LawfulBEq α]:∀ {l m:List α},l.Nodup→(∀ x∈l,x∈m)→l.length≤m.length
 | [],_,_,_=>Nat.zero_le _
 | x::r,m,nd,h=>by
  have hx:=h x List.mem_cons_self
  obtain ⟨n1,n2⟩:=List.nodup_cons.mp nd
  have h1:=nodup_sub (l:=r) (m:=m.erase x) n2 fun y hy=>by
   have hne:y≠x:=fun e=>n1 (e ▸ hy)
   exact (List.mem_erase_of_ne hne).mpr (h y (List.mem_cons_of_mem _ hy))
  rw [List.length_erase_of_mem hx] at h1
  have:=List.length_pos_of_mem hx
  rw [List.length_cons]
  omega
theorem split_gth (u:Int) (W:Nat→Nat→Bool) (p:Nat→Int) (k:Nat) (L:Int):∀ v:Nat,(∀ i,i < v→u ∣ p i)→∃ s q:Int,u ∣ s∧0≤q∧q≤v∧gth v W p k L=s + q * L∧gth v W p k (L - 1)=s + q * (L - 1)
 | 0,_=>⟨0,0,Int.dvd_zero u,Int.le_refl 0,by simp,by simp [gth,sumTo],by simp [gth,sumTo]⟩
 | v + 1,h=>by
  obtain ⟨s,q,h1,h2,h3,h4,h5⟩:=split_gth u W p k L v fun i hi=>h i (by omega)
  have hx:=h v (by omega)
  have e1:∀ M,gth (v + 1) W p k M=gth v W p k M + pay W p k M v:=fun M=>sumTo_succ v _
  rw [e1,e1,h4,h5]
  unfold pay
  by_cases hw:W v k=true
  ·rw [if_pos hw,if_pos hw]
   rcases Int.lt_or_le (p v) L with c | c
   ·refine ⟨s + p v,q,Int.dvd_add h1 hx,h2,by omega,?_,?_⟩
    ·rw [Int.min_eq_left (by omega)];omega
    ·rw [Int.min_eq_left (by omega)];omega
   ·refine ⟨s,q + 1,h1,by omega,by omega,?_,?_⟩
    ·rw [Int.min_eq_right (by omega),Int.add_mul];omega
    ·rw [Int.min_eq_right (by omega),Int.add_mul];omega
  ·rw [if_neg hw,if_neg hw]
   exact ⟨s,q,h1,h2,by omega,by omega,by omega⟩
theorem gth_exact {v:Nat}{W:Nat→Nat→Bool}{p:Nat→Int}{k:Nat}{price L rest:Int} (hv:v≤20) (hd:∀ i,i < v→rest * (tog v:Nat) ∣ p i) (hp:rest * (tog v:Nat) ∣ price) (a2:price≤gth v W p k L) (a3:gth v W p k (L - 1) < price):gth v W p k L=price∧rest ∣ L:=by
 obtain ⟨s,q,h1,h2,h3,h4,h5⟩:=split_gth _ W p k L v hd
 have hp0:1≤q:=by
  rcases Int.lt_or_le 0 q with c | c
  ·exact c
  ·have:q=0:=by omega
   subst this
   rw [Int.zero_mul] at h4 h5
   omega
 obtain ⟨q,rfl⟩:∃ q':Nat,q=q':=⟨q.toNat,by omega⟩
 obtain ⟨b,hb⟩:=tog_dvd v (by omega) q (by omega) ⟨by omega,by omega⟩
 obtain ⟨m,hm⟩:=Int.dvd_sub hp h1
 have e:price - s=(q:Int) * (rest * ((b:Int) * m)):=by
  rw [hm,hb,Int.natCast_mul]
  simp only [Int.mul_assoc,Int.mul_comm,Int.mul_left_comm]
 have c1:rest * ((b:Int) * m)≤L:=Int.le_of_mul_le_mul_left (a:=(q:Int)) (by omega) (by omega)
 have c2:L - 1 < rest * ((b:Int) * m):=Int.lt_of_mul_lt_mul_left (a:=(q:Int)) (by omega) (by omega)
 have c3:L=rest * ((b:Int) * m):=by omega
 rw [← c3] at e
 exact ⟨by omega,⟨_,c3⟩⟩
inductive RunX (T:Town):(Nat→Int)→List Nat→List (Nat×Int)→Prop
 | stop {p:Nat→Int}{done:List Nat}:(∀ k,k < T.n→k∉done→hav T.v T.W p k < T.c k)→RunX T p done []
 | step {p:Nat→Int}{done:List Nat}{k:Nat}{L:Int}{rest:List (Nat×Int)}:Nx T p done k L→gth T.v T.W p k L=T.c k→RunX T (lft T.W p k L) (k::done) rest→RunX T p done ((k,L)::rest)
theorem RunX.run {T:Town}{p:Nat→Int}{done:List Nat}{s:List (Nat×Int)} (h:RunX T p done s):Run T p done s:=by
 induction h with
 | stop h0=>exact .stop h0
 | step n _ _ ih=>exact .step n ih
theorem dvd_lft {W:Nat→Nat→Bool}{p:Nat→Int}{k:Nat}{L r:Int}{i:Nat} (h:r ∣ p i) (hL:r ∣ L):r ∣ lft W p k L i:=by
 unfold lft pay
 split
 ·rcases Int.le_total (p i) L with c | c
  ·rw [Int.min_eq_left c,Int.sub_self]
   exact Int.dvd_zero r
  ·rw [Int.min_eq_right c]
   exact Int.dvd_sub h hL
 ·rw [Int.sub_zero]
  exact h
theorem pow_dvd_int {t a b:Nat} (h:a≤b):((t ^ a:Nat):Int) ∣ ((t ^ b:Nat):Int):=by
 have:=Nat.pow_dvd_pow t h
 exact_mod_cast this
theorem run_exact {T:Town} (hv:T.v≤20) (hc:∀ k,k < T.n→((tog T.v ^ T.n:Nat):Int) ∣ T.c k) {p:Nat→Int}{done:List Nat}{s:List (Nat×Int)} (h:Run T p done s):
  done.Nodup→(∀ k∈done,k < T.n)→(∀ i,i < T.v→((tog T.v ^ (T.n - done.length):Nat):Int) ∣ p i)→RunX T p done s:=by
 induction h with
 | stop h0=>exact fun _ _ _=>.stop h0
 | @step p done k L rest n r ih=>
  intro nd hn hp
  have nd':(k::done).Nodup:=List.nodup_cons.mpr ⟨n.new,nd⟩
  have hn':∀ j∈k::done,j < T.n:=fun j hj=>by
   rcases List.mem_cons.mp hj with e | e
   ·subst e;exact n.lt
   ·exact hn j e
  have hl:=nodup_len T.n _ nd' hn'
  rw [List.length_cons] at hl
  have e:T.n - done.length=(T.n - (done.length + 1)) + 1:=by omega
  have ep:((tog T.v ^ (T.n - done.length):Nat):Int)=((tog T.v ^ (T.n - (done.length + 1)):Nat):Int) * ((tog T.v:Nat):Int):=by
   rw [e,Nat.pow_succ]
   push_cast
   rfl
  have a3:=n.least k n.lt n.new
  obtain ⟨x1,x2⟩:=gth_exact (rest:=((tog T.v ^ (T.n - (done.length + 1)):Nat):Int)) hv (fun i hi=>by rw [← ep];exact hp i hi) (by rw [← ep];exact Int.dvd_trans (pow_dvd_int (by omega)) (hc k n.lt)) n.enough a3
  refine .step n x1 (ih nd' hn' fun i hi=>?_)
  rw [List.length_cons]
  refine dvd_lft (Int.dvd_trans ?_ (hp i hi)) x2
  exact pow_dvd_int (by omega)
noncomputable def commonF (rows:List (List Int)) (ks:List Int):List Int:=((List.range rows.length).filter fun i=>ks.all fun k=>decide (k∈rows.getD i [])).map fun i:Nat=>(i:Int)
noncomputable def WR (rows:List (List Int)) (i k:Nat):Bool:=decide ((k:Int)∈rows.getD i [])
noncomputable def PF (ps:List Int) (i:Nat):Int:=ps.getD i 0
theorem sum_filter {p:Nat→Bool}{f:Nat→Int}:∀ n:Nat,(((List.range n).filter p).map f).sum=sumTo n fun i=>if p i=true then f i else 0
 | 0=>rfl
 | n + 1=>by
  rw [sumTo_succ,List.range_succ,List.filter_append,List.map_append,List.sum_append,sum_filter n,List.filter_cons]
  by_cases h:p n=true
  ·rw [if_pos h,if_pos h]
   simp
  ·rw [if_neg h,if_neg h]
   simp
noncomputable def oV:Option Int→V
 | none=>.non
 | some i=>.int i
theorem mem_nats {k:Nat}{done:List Nat}:((k:Int)∈done.map fun k:Nat=>(k:Int))↔k∈done:=by
 constructor
 ·intro h
  obtain ⟨j,hj,e⟩:=List.mem_map.mp h
  have:j=k:=by omega
  exact this ▸ hj
 ·exact fun h=>List.mem_map.mpr ⟨k,h,rfl⟩
noncomputable def OffOk (T:Town) (p:Nat→Int) (done:List Nat) (k:Nat):Option Int→Prop
 | none=>k∈done∨hav T.v T.W p k < T.c k
 | some L=>k∉done∧1≤L∧T.c k≤gth T.v T.W p k L∧gth T.v T.W p k (L - 1) < T.c k
noncomputable def NextOk (os:List (Option Int)):Option Nat→Prop
 | none=>∀ o∈os,o=none
 | some k=>∃ L,os[k]?=some (some L)∧∀ j M,os[j]?=some (some M)→L≤M∧(j < k→L < M)
theorem nx_of_offers {T:Town}{p:Nat→Int}{done:List Nat}{os:List (Option Int)}{k:Nat}{L:Int} (hl:os.length=T.n) (ho:∀ j o,os[j]?=some o→OffOk T p done j o) (hp:∀ i,i < T.v→0≤p i) (hc:∀ j,j < T.n→1≤T.c j) (hk:os[k]?=some (some L)) (hn:NextOk os (some k)):Nx T p done k L:=by
 obtain ⟨L',e,hmin⟩:=hn
 rw [hk] at e
 have e:L=L':=Option.some.inj (Option.some.inj e)
 subst e
 have hkl:k < T.n:=by rw [← hl];exact (List.getElem?_eq_some_iff.mp hk).1
 obtain ⟨a1,a2,a3,a4⟩:=ho k _ hk
 have key:∀ j,j < T.n→j∉done→∀ M:Int,0≤M→T.c j≤gth T.v T.W p j M→∃ N,os[j]?=some (some N)∧N≤M:=by
  intro j hj hjn M hM hle
  have hjl:j < os.length:=by omega
  have hoj:=ho j os[j] (by simp [hjl])
  cases e:os[j] with
  | none=>
   rw [e] at hoj
   rcases hoj with z | z
   ·exact absurd z hjn
   ·have:=gth_le_hav T.v T.W p j M
    omega
  | some N=>
   rw [e] at hoj
   obtain ⟨_,_,_,b4⟩:=hoj
   refine ⟨N,by rw [List.getElem?_eq_getElem hjl,e],?_⟩
   rcases Int.lt_or_le M N with c | c
   ·have:=gth_mono (v:=T.v) (W:=T.W) (p:=p) (k:=j) (show M≤N - 1 by omega)
    omega
   ·exact c
 refine ⟨hkl,a1,a2,a3,fun j hj hjn=>?_,fun j hj hjn=>?_⟩
 ·rcases Int.lt_or_le (gth T.v T.W p j (L - 1)) (T.c j) with c | c
  ·exact c
  ·obtain ⟨N,h1,h2⟩:=key j hj hjn (L - 1) (by omega) c
   have:=(hmin j N h1).1
   omega
 ·rcases Int.lt_or_le (gth T.v T.W p j L) (T.c j) with c | c
  ·exact c
  ·obtain ⟨N,h1,h2⟩:=key j (by omega) hjn L (by omega) c
   have:=(hmin j N h1).2 hj
   omega
noncomputable def townT (cs:List Int) (rows:List (List Int)):Town:=⟨rows.length,cs.length,WR rows,fun k=>cs.getD k 0 * ((tog rows.length ^ (cs.length + 1):Nat):Int)⟩
noncomputable def paidF (rows:List (List Int)) (ps:List Int) (k:Nat) (L:Int):List Int:=(List.range ps.length).map (pay (WR rows) (PF ps) k L)
noncomputable def leftF (rows:List (List Int)) (ps:List Int) (k:Nat) (L:Int):List Int:=(List.range ps.length).map (lft (WR rows) (PF ps) k L)
noncomputable def stepsF (rows:List (List Int)):List Int→List (Nat×Int)→List (Nat×Int×List Int)
 | _,[]=>[]
 | ps,(k,L)::r=>(k,L,paidF rows ps k L)::stepsF rows (leftF rows ps k L) r
noncomputable def leftS (rows:List (List Int)):List Int→List (Nat×Int)→List Int
 | ps,[]=>ps
 | ps,(k,L)::r=>leftS rows (leftF rows ps k L) r
theorem leftF_len (rows:List (List Int)) (ps:List Int) (k:Nat) (L:Int):(leftF rows ps k L).length=ps.length:=by simp [leftF]
theorem paidF_len (rows:List (List Int)) (ps:List Int) (k:Nat) (L:Int):(paidF rows ps k L).length=ps.length:=by simp [paidF]
theorem PF_map (n:Nat) (f:Nat→Int) (h:∀ i,n≤i→f i=0):PF ((List.range n).map f)=f:=by
 funext i
 unfold PF
 by_cases hi:i < n
 ·simp [List.getD,hi]
 ·rw [h i (by omega)]
  simp [List.getD,hi]
theorem WR_out {rows:List (List Int)}{i k:Nat} (h:rows.length≤i):WR rows i k=false:=by
 unfold WR
 have:rows.getD i []=[]:=by simp [List.getD,List.getElem?_eq_none h]
 rw [this]
 simp
theorem PF_out {ps:List Int}{i:Nat} (h:ps.length≤i):PF ps i=0:=by
 unfold PF
 simp [List.getD,List.getElem?_eq_none h]
theorem PF_leftF {rows:List (List Int)}{ps:List Int}{k:Nat}{L:Int} (h:ps.length=rows.length):PF (leftF rows ps k L)=lft (WR rows) (PF ps) k L:=by
 refine PF_map _ _ fun i hi=>?_
 unfold lft pay
 rw [WR_out (by omega),PF_out hi]
 simp
theorem stepsF_len (rows:List (List Int)):∀ (ps:List Int) (r:List (Nat×Int)),(stepsF rows ps r).length=r.length
 | _,[]=>rfl
 | ps,(k,L)::r=>by rw [stepsF,List.length_cons,List.length_cons,stepsF_len]
theorem stepsF_paid (rows:List (List Int)):∀ (ps:List Int) (r:List (Nat×Int)),∀ x∈stepsF rows ps r,x.2.2.length=ps.length
 | _,[],x,h=>by simp [stepsF] at h
 | ps,(k,L)::r,x,h=>by
  rw [stepsF] at h
  rcases List.mem_cons.mp h with e | h
  ·subst e
   exact paidF_len rows ps k L
  ·rw [stepsF_paid rows (leftF rows ps k L) r x h,leftF_len]
theorem leftS_len (rows:List (List Int)):∀ (ps:List Int) (r:List (Nat×Int)),(leftS rows ps r).length=ps.length
 | _,[]=>rfl
 | ps,(k,L)::r=>by rw [leftS,leftS_len rows _ r,leftF_len]
theorem leftS_snoc (rows:List (List Int)):∀ (ps:List Int) (r:List (Nat×Int)) (k:Nat) (L:Int),leftS rows ps (r ++ [(k,L)])=leftF rows (leftS rows ps r) k L
 | _,[],_,_=>rfl
 | ps,(j,M)::r,k,L=>by
  rw [List.cons_append,leftS,leftS_snoc rows (leftF rows ps j M) r k L,leftS]
theorem stepsF_app (rows:List (List Int)):∀ (ps:List Int) (r r':List (Nat×Int)),stepsF rows ps (r ++ r')=stepsF rows ps r ++ stepsF rows (leftS rows ps r) r'
 | _,[],_=>rfl
 | ps,(k,L)::r,r'=>by
  rw [List.cons_append,stepsF,stepsF,leftS,stepsF_app rows (leftF rows ps k L) r r']
  rfl
theorem stepsF_works (rows:List (List Int)):∀ (ps:List Int) (r:List (Nat×Int)),(stepsF rows ps r).map (fun x=>(x.1,x.2.1))=r
 | _,[]=>rfl
 | ps,(k,L)::r=>by
  rw [stepsF,List.map_cons,stepsF_works rows _ r]
structure GoodT (cs:List Int) (rows:List (List Int)) (ps:List Int):Prop where
 c12:cs.length≤12
 cb:∀ x∈cs,1≤x∧x≤1000000000000
 v1:1≤rows.length
 v20:rows.length≤20
 pl:ps.length=rows.length
 p0:∀ p∈ps,0≤p
 pd:∀ p∈ps,((tog rows.length ^ cs.length:Nat):Int) ∣ p
theorem PF_nn {ps:List Int} (h:∀ p∈ps,0≤p) (i:Nat):0≤PF ps i:=by
 unfold PF
 by_cases hi:i < ps.length
 ·have e:ps.getD i 0=ps[i]:=by simp [List.getD,hi]
  rw [e]
  exact h _ (List.getElem_mem hi)
 ·simp [List.getD,List.getElem?_eq_none (Nat.le_of_not_lt hi)]
theorem c_pos {cs:List Int}{rows:List (List Int)} (h:∀ x∈cs,1≤x∧x≤1000000000000):∀ k,k < cs.length→1≤(townT cs rows).c k:=by
 intro k hk
 have h1:=h (cs.getD k 0) (by simp [List.getD,hk])
 have h2:=togpow_pos rows.length (cs.length + 1)
 have:1 * 1≤cs.getD k 0 * ((tog rows.length ^ (cs.length + 1):Nat):Int):=Int.mul_le_mul h1.1 (by omega) (by decide) (by omega)
 show 1≤cs.getD k 0 * ((tog rows.length ^ (cs.length + 1):Nat):Int)
 omega
theorem c_dvd (cs:List Int) (rows:List (List Int)):∀ k,((tog rows.length ^ cs.length:Nat):Int) ∣ (townT cs rows).c k:=by
 intro k
 exact Int.dvd_trans (pow_dvd_int (Nat.le_succ _)) ⟨cs.getD k 0,Int.mul_comm _ _⟩
noncomputable def StepAt (H:Hp) (x:Nat×Int×List Int) (t:Addr):Prop:=∃ b:Addr,H t=some (.tup [.int x.1,.int x.2.1,.ref b])∧H b=some (.lst (x.2.2.map V.int))
noncomputable def StepsAt (H:Hp) (a:Addr) (sts:List (Nat×Int×List Int)):Prop:=∃ ts:List Addr,H a=some (.lst (ts.map V.ref))∧Paired (StepAt H) sts ts
theorem stepAt_same {H H':Hp} (e:Same H H') {x:Nat×Int×List Int}{t:Addr} (h:StepAt H x t):StepAt H' x t:=by
 obtain ⟨b,h1,h2⟩:=h
 exact ⟨b,e _ _ h1,e _ _ h2⟩
theorem stepsAt_same {H H':Hp} (e:Same H H') {a:Addr}{sts:List (Nat×Int×List Int)} (h:StepsAt H a sts):StepsAt H' a sts:=by
 obtain ⟨ts,h1,h2⟩:=h
 exact ⟨ts,e _ _ h1,Paired.mapP h2 fun _ _ q=>stepAt_same e q⟩
noncomputable def StepNew (H0 H:Hp) (l:Addr) (x:Nat×Int×List Int) (t:Addr):Prop:=∃ b:Addr,H0 t=none∧H0 b=none∧b≠l∧H t=some (.tup [.int x.1,.int x.2.1,.ref b])∧H b=some (.lst (x.2.2.map V.int))
noncomputable def StepsNew (H0 H:Hp) (l:Addr) (sts:List (Nat×Int×List Int)):Prop:=∃ ts:List Addr,H l=some (.lst (ts.map V.ref))∧Paired (StepNew H0 H l) sts ts
theorem StepsNew.at {H0 H:Hp}{l:Addr}{sts:List (Nat×Int×List Int)} (h:StepsNew H0 H l sts):StepsAt H l sts:=by
 obtain ⟨ts,h1,h2⟩:=h
 exact ⟨ts,h1,Paired.mapP h2 fun _ _ ⟨b,_,_,_,h3,h4⟩=>⟨b,h3,h4⟩⟩
theorem nx_congr {T:Town}{p:Nat→Int}{d d':List Nat}{k:Nat}{L:Int} (h:∀ j,j∈d'↔j∈d) (n:Nx T p d k L):Nx T p d' k L:=
 ⟨n.lt,fun z=>n.new ((h k).mp z),n.pos,n.enough,fun j hj hn=>n.least j hj fun z=>hn ((h j).mpr z),fun j hj hn=>n.first j hj fun z=>hn ((h j).mpr z)⟩
theorem leftF_nn {rows:List (List Int)}{ps:List Int}{k:Nat}{L:Int} (h:∀ p∈ps,0≤p):∀ p∈leftF rows ps k L,0≤p:=by
 intro p hp
 obtain ⟨i,_,e⟩:=List.mem_map.mp hp
 rw [← e]
 exact lft_nn (PF_nn h i)
theorem leftS_nn {rows:List (List Int)}:∀ {ps:List Int}{r:List (Nat×Int)},(∀ p∈ps,0≤p)→∀ p∈leftS rows ps r,0≤p
 | _,[],h=>h
 | ps,(k,L)::r,h=>by
  rw [leftS]
  exact leftS_nn (leftF_nn h)
theorem runx_town {cs:List Int}{rows:List (List Int)}{ps:List Int} (g:GoodT cs rows ps) {s:List (Nat×Int)} (h:Run (townT cs rows) (PF ps) [] s):RunX (townT cs rows) (PF ps) [] s:=by
 refine run_exact g.v20 (fun k _=>c_dvd cs rows k) h List.nodup_nil (fun k hk=>by simp at hk) fun i hi=>?_
 have hi':i < ps.length:=by rw [g.pl];exact hi
 have:PF ps i∈ps:=by unfold PF;simp [List.getD,hi']
 exact g.pd _ this
theorem paired_of_get {α β:Type}{F:α→β→Prop}:∀ {xs:List α}{ts:List β},xs.length=ts.length→(∀ (i:Nat) (x:α) (t:β),xs[i]?=some x→ts[i]?=some t→F x t)→Paired F xs ts
 | [],[],_,_=>.nil
 | [],_::_,h,_=>by simp at h
 | _::_,[],h,_=>by simp at h
 | x::r,u::q,hl,h=>.cons (h 0 x u rfl rfl) (paired_of_get (by simpa using hl) fun i y w e e'=>h (i + 1) y w (by simpa using e) (by simpa using e'))
theorem paired_range {α:Type}{F:α→Addr→Prop}{T:Addr→Prop}{xs:List α}{ts:List Addr} (h:Paired (fun i t=>T t∧∀ x,xs[i]?=some x→F x t) (List.range xs.length) ts):Paired F xs ts:=by
 have hl:=Paired.length h
 rw [List.length_range] at hl
 refine paired_of_get hl fun i x t hx ht=>?_
 obtain ⟨j,hj,hF⟩:=paired_at' h ht
 have hi:i < xs.length:=(List.getElem?_eq_some_iff.mp hx).1
 have e:j=i:=by
  rw [List.getElem?_range hi] at hj
  exact (Option.some.inj hj).symm
 subst e
 exact hF.2 x hx
noncomputable def RowsN (H0 H:Hp) (l:Addr) (rows:List (List Int)):Prop:=∃ bs:List Addr,H l=some (.lst (bs.map V.ref))∧Paired (fun r b=>(H0 b=none∧b≠l)∧H b=some (.lst (r.map V.int))) rows bs
theorem comp_copyR {K:W.Frag}{H:Hp}{a:Addr}{rows:List (List Int)}{σ:St}{Q:VK} (h:RowsAt K H a rows) (hz:rows.length≤1000) (hd:∀ l H',H l=none→Same H H'→RowsN H H' l rows→Q (.ref l) H'):
  tCompK [none] (gName 0) tYes (tCB (rListOf K) (tCons (tVar 0) tNil)) (Itl K a) σ H Q:=by
 obtain ⟨bs,hB,hP⟩:=h
 have hbl:bs.length=rows.length:=(Paired.length hP).symm
 have hlm:(bs.map V.ref).length=bs.length:=List.length_map _
 refine comp_genY (ys_list (xs:=bs.map V.ref) 0) (fun j=>[some ((bs.map V.ref).getD j .non)]) (by rintro j σ' (rfl | ⟨k,rfl⟩) <;> rfl) (fun H' s=>s.seq hB) (by rw [hlm,hbl];exact Nat.le_trans hz line64) (fun _=>true)
  (fun l i v H'=>∃ b,v=.ref b∧(b≠l∧H b=none∧∀ r,rows[i]?=some r→H' b=some (.lst (r.map V.int)))) (fun l i v H1 H2 s ⟨b,e,hl,h0,h⟩=>⟨b,e,hl,h0,fun r hr=>s _ _ hl (h r hr)⟩) (fun i hi H' G s k=>k H' (Same.refl _)) ?_ ?_
 ·intro l j hj _ H' G hl ⟨o,ho⟩ s k
  rw [hlm] at hj
  have e:(bs.map V.ref).getD j .non=.ref bs[j]:=by simp [List.getD,hj]
  rw [e]
  obtain ⟨r,hr,hq⟩:=paired_at' hP (show bs[j]?=some bs[j] by simp [hj])
  have hq':=s.seq hq
  walk_at "v"
  rename_i b J g t h
  exact k _ _ ⟨b,rfl,(fun z=>by rw [z,ho] at g;cases g),s.free g,fun r' hr'=>by rw [hr] at hr';cases hr';exact h⟩ t
 ·intro l ys H' f s h pr
  rw [List.filter_eq_self.mpr (fun _ _=>rfl)] at pr
  obtain ⟨tk,rfl,pk⟩:=paired_refs (T:=fun b i=>b≠l∧H b=none∧∀ r,rows[i]?=some r→H' b=some (.lst (r.map V.int))) pr
  refine hd l H' f s ⟨tk,h,?_⟩
  rw [hlm,hbl] at pk
  refine paired_range (T:=fun b=>b≠l∧H b=none) (Paired.mapP pk fun i b q=>⟨⟨q.1,q.2.1⟩,fun r hr=>⟨⟨q.2.1,q.1⟩,q.2.2 r hr⟩⟩)
noncomputable def leftOf (ps:List Int) (sts:List (Nat×Int×List Int)):List Int:=(List.range ps.length).map fun i=>ps.getD i 0 - (sts.map fun x=>x.2.2.getD i 0).sum
theorem steps_bs {H:Hp}:∀ {sts:List (Nat×Int×List Int)}{ts:List Addr},Paired (StepAt H) sts ts→∃ bs:List Addr,bs.length=sts.length∧∀ (i:Nat) (x:Nat×Int×List Int),sts[i]?=some x→∃ t b,ts[i]?=some t∧bs[i]?=some b∧H t=some (.tup [.int x.1,.int x.2.1,.ref b])∧H b=some (.lst (x.2.2.map V.int))
 | _,_,.nil=>⟨[],rfl,fun i x h=>by simp at h⟩
 | _,t::_,.cons ⟨b,h1,h2⟩ r=>by
  obtain ⟨bs,e,h⟩:=steps_bs r
  refine ⟨b::bs,by simp [e],fun i x hx=>?_⟩
  cases i with
  | zero=>
   simp at hx
   subst hx
   exact ⟨t,b,rfl,rfl,h1,h2⟩
  | succ i=>exact h i x (by simpa using hx)
structure StepsB (H:Hp) (l:Addr) (sts:List (Nat×Int×List Int)) (ts bs:List Addr):Prop where
 lst:H l=some (.lst (ts.map V.ref))
 tl:ts.length=sts.length
 bl:bs.length=sts.length
 ats:∀ (i:Nat) (x:Nat×Int×List Int),sts[i]?=some x→∃ t b,ts[i]?=some t∧bs[i]?=some b∧H t=some (.tup [.int x.1,.int x.2.1,.ref b])∧H b=some (.lst (x.2.2.map V.int))
theorem StepsAt.b {H:Hp}{l:Addr}{sts:List (Nat×Int×List Int)} (h:StepsAt H l sts):∃ ts bs,StepsB H l sts ts bs:=by
 obtain ⟨ts,h1,h2⟩:=h
 obtain ⟨bs,e,h3⟩:=steps_bs h2
 exact ⟨ts,bs,h1,(Paired.length h2).symm,e,h3⟩
noncomputable def stN:Nat×Int×List Int:=(0,0,[])
theorem StepsB.ys {K:W.Frag}{H H':Hp}{l:Addr}{sts:List (Nat×Int×List Int)}{ts bs:List Addr} (B:StepsB H l sts ts bs) (s:Same H H'):
  SqL K H' l (ts.map V.ref)∧∀ i t,ts[i]?=some t→SqT K H' t [.int ((sts.getD i stN).1:Nat),.int (sts.getD i stN).2.1,.ref (bs.getD i 0)]:=by
 refine ⟨SqL.of (s _ _ B.lst),fun i t ht=>?_⟩
 have hi:i < sts.length:=by rw [← B.tl];exact (List.getElem?_eq_some_iff.mp ht).1
 obtain ⟨t',b,a1,a2,a3,_⟩:=B.ats i sts[i] (by simp [hi])
 rw [ht] at a1
 cases a1
 have e1:sts.getD i stN=sts[i]:=by simp [List.getD,hi]
 have e2:bs.getD i 0=b:=by rw [List.getD,a2];rfl
 rw [e1,e2]
 exact SqT.of (s _ _ a3)
theorem StepsB.paid {K:W.Frag}{H H':Hp}{l:Addr}{sts:List (Nat×Int×List Int)}{ts bs:List Addr} (B:StepsB H l sts ts bs) (s:Same H H') {i:Nat} (hi:i < sts.length):SqL K H' (bs.getD i 0) ((sts.getD i stN).2.2.map V.int):=by
 obtain ⟨t',b,a1,a2,_,a4⟩:=B.ats i sts[i] (by simp [hi])
 have e1:sts.getD i stN=sts[i]:=by simp [List.getD,hi]
 have e2:bs.getD i 0=b:=by rw [List.getD,a2];rfl
 rw [e1,e2]
 exact SqL.of (s _ _ a4)
theorem next_nil:NextOk [] none:=fun o h=>by simp at h
theorem next_none {os:List (Option Int)}{k:Option Nat} (h:NextOk os k):NextOk (os ++ [none]) k:=by
 cases k with
 | none=>
  intro o ho
  rcases List.mem_append.mp ho with h1 | h1
  ·exact h o h1
  ·simpa using h1
 | some k=>
  obtain ⟨L,h1,h2⟩:=h
  have hk:=(List.getElem?_eq_some_iff.mp h1).1
  refine ⟨L,by rw [List.getElem?_append_left hk];exact h1,fun j M hj=>?_⟩
  by_cases hjl:j < os.length
  ·rw [List.getElem?_append_left hjl] at hj
   exact h2 j M hj
  ·rw [List.getElem?_append_right (by omega)] at hj
   cases e:j - os.length with
   | zero=>rw [e] at hj;simp at hj
   | succ n=>rw [e] at hj;simp at hj
theorem next_first {os:List (Option Int)}{M:Int} (h:NextOk os none):NextOk (os ++ [some M]) (some os.length):=by
 refine ⟨M,by simp,fun j N hj=>?_⟩
 by_cases hjl:j < os.length
 ·rw [List.getElem?_append_left hjl] at hj
  have:=h _ (List.mem_of_getElem? hj)
  cases this
 ·rw [List.getElem?_append_right (by omega)] at hj
  cases e:j - os.length with
  | zero=>
   rw [e] at hj
   have:M=N:=by simpa using hj
   subst this
   exact ⟨Int.le_refl _,fun z=>by omega⟩
  | succ n=>rw [e] at hj;simp at hj
theorem next_less {os:List (Option Int)}{k:Nat}{L M:Int} (h:NextOk os (some k)) (hk:os[k]?=some (some L)) (hM:M < L):NextOk (os ++ [some M]) (some os.length):=by
 obtain ⟨L',h1,h2⟩:=h
 rw [hk] at h1
 cases h1
 refine ⟨M,by simp,fun j N hj=>?_⟩
 by_cases hjl:j < os.length
 ·rw [List.getElem?_append_left hjl] at hj
  have:=(h2 j N hj).1
  exact ⟨by omega,fun _=>by omega⟩
 ·rw [List.getElem?_append_right (by omega)] at hj
  cases e:j - os.length with
  | zero=>
   rw [e] at hj
   have:M=N:=by simpa using hj
   subst this
   exact ⟨Int.le_refl _,fun z=>by omega⟩
  | succ n=>rw [e] at hj;simp at hj
theorem next_stay {os:List (Option Int)}{k:Nat}{L M:Int} (h:NextOk os (some k)) (hk:os[k]?=some (some L)) (hM:¬ M < L):NextOk (os ++ [some M]) (some k):=by
 have hkl:=(List.getElem?_eq_some_iff.mp hk).1
 obtain ⟨L',h1,h2⟩:=h
 rw [hk] at h1
 cases h1
 refine ⟨L,by rw [List.getElem?_append_left hkl];exact hk,fun j N hj=>?_⟩
 by_cases hjl:j < os.length
 ·rw [List.getElem?_append_left hjl] at hj
  exact h2 j N hj
 ·rw [List.getElem?_append_right (by omega)] at hj
  cases e:j - os.length with
  | zero=>
   rw [e] at hj
   have:M=N:=by simpa using hj
   subst this
   exact ⟨by omega,fun z=>by omega⟩
  | succ n=>rw [e] at hj;simp at hj
noncomputable def wantN (rows:List (List Int)) (k:Nat):List Nat:=(List.range rows.length).filter fun i=>WR rows i k
theorem common_one (rows:List (List Int)) (k:Nat):commonF rows [(k:Int)]=(wantN rows k).map fun i:Nat=>(i:Int):=by
 unfold commonF wantN WR
 congr 2
 funext i
 simp
theorem mem_common {rows:List (List Int)}{k i:Nat}:((i:Int)∈commonF rows [(k:Int)])↔WR rows i k=true:=by
 rw [common_one,mem_nats]
 unfold wantN
 rw [List.mem_filter]
 constructor
 ·exact fun h=>h.2
 ·intro h
  refine ⟨List.mem_range.mpr ?_,h⟩
  rcases Nat.lt_or_ge i rows.length with c | c
  ·exact c
  ·rw [WR_out c] at h
   cases h
theorem want_sum (rows:List (List Int)) (ps:List Int) (k:Nat):((wantN rows k).map (PF ps)).sum=hav rows.length (WR rows) (PF ps) k:=by
 unfold wantN
 rw [sum_filter]
 rfl
theorem want_gat (rows:List (List Int)) (ps:List Int) (k:Nat) (L:Int):gat ((wantN rows k).map (PF ps)) L=gth rows.length (WR rows) (PF ps) k L:=by
 unfold gat wantN
 rw [List.map_map,sum_filter]
 rfl
theorem wantN_len (rows:List (List Int)) (k:Nat):(wantN rows k).length≤rows.length:=by
 unfold wantN
 have:=List.length_filter_le (fun i=>WR rows i k) (List.range rows.length)
 rwa [List.length_range] at this
theorem wantN_lt {rows:List (List Int)}{k i:Nat} (h:i∈wantN rows k):i < rows.length:=List.mem_range.mp (List.mem_filter.mp h).1
theorem leftS_get (rows:List (List Int)):∀ (r:List (Nat×Int)) (ps:List Int) (i:Nat),i < ps.length→(leftS rows ps r).getD i 0=ps.getD i 0 - ((stepsF rows ps r).map fun x=>x.2.2.getD i 0).sum
 | [],ps,i,_=>by simp [leftS,stepsF]
 | (k,L)::r,ps,i,hi=>by
  rw [leftS,leftS_get rows r (leftF rows ps k L) i (by rw [leftF_len];exact hi),stepsF,List.map_cons,List.sum_cons]
  have e1:(leftF rows ps k L).getD i 0=ps.getD i 0 - pay (WR rows) (PF ps) k L i:=by
   unfold leftF
   simp [List.getD,hi,lft,PF]
  have e2:(paidF rows ps k L).getD i 0=pay (WR rows) (PF ps) k L i:=by
   unfold paidF
   simp [List.getD,hi]
  rw [e1,e2]
  omega
theorem leftOf_steps (rows:List (List Int)) (ps:List Int) (r:List (Nat×Int)):leftOf ps (stepsF rows ps r)=leftS rows ps r:=by
 apply List.ext_getElem
 ·unfold leftOf
  rw [List.length_map,List.length_range,leftS_len]
 ·intro i h1 h2
  have hi:i < ps.length:=by rw [leftS_len] at h2;exact h2
  have:=leftS_get rows r ps i hi
  have e:(leftS rows ps r).getD i 0=(leftS rows ps r)[i]:=by simp [List.getD,h2]
  rw [e] at this
  rw [this]
  unfold leftOf
  simp
theorem stepsF_1 (rows:List (List Int)) (ps:List Int) (r:List (Nat×Int)):(stepsF rows ps r).map (·.1)=r.map (·.1):=by
 have:=congrArg (List.map (·.1)) (stepsF_works rows ps r)
 rw [List.map_map] at this
 exact this
structure Pre (cs:List Int) (rows:List (List Int)) (ps:List Int) (r:List (Nat×Int)):Prop where
 nd:(r.map (·.1)).Nodup
 lt:∀ x∈r,x.1 < cs.length
 on:∀ rest,Run (townT cs rows) (PF (leftS rows ps r)) (r.map (·.1)).reverse rest→Run (townT cs rows) (PF ps) [] (r ++ rest)
theorem pre_nil (cs:List Int) (rows:List (List Int)) (ps:List Int):Pre cs rows ps []:=⟨List.nodup_nil,fun _ h=>by simp at h,fun _ h=>h⟩
theorem Pre.len {cs:List Int}{rows:List (List Int)}{ps:List Int}{r:List (Nat×Int)} (h:Pre cs rows ps r):r.length≤cs.length:=by
 have:=nodup_len cs.length _ h.nd fun x hx=>by
  obtain ⟨y,hy,e⟩:=List.mem_map.mp hx
  rw [← e]
  exact h.lt y hy
 rwa [List.length_map] at this
theorem Pre.snoc {cs:List Int}{rows:List (List Int)}{ps:List Int}{r:List (Nat×Int)}{k:Nat}{L:Int} (h:Pre cs rows ps r) (hl:ps.length=rows.length) (n:Nx (townT cs rows) (PF (leftS rows ps r)) (r.map (·.1)) k L):Pre cs rows ps (r ++ [(k,L)]):=by
 refine ⟨?_,?_,?_⟩
 ·rw [List.map_append]
  refine List.nodup_append.mpr ⟨h.nd,by simp,?_⟩
  intro a ha b hb e
  have:b=k:=by simpa using hb
  subst this
  subst e
  exact n.new ha
 ·intro x hx
  rcases List.mem_append.mp hx with z | z
  ·exact h.lt x z
  ·have:x=(k,L):=by simpa using z
   subst this
   exact n.lt
 ·intro rest hr
  rw [leftS_snoc,PF_leftF (by rw [leftS_len];exact hl),List.map_append,List.reverse_append] at hr
  have hr:Run (townT cs rows) (lft (WR rows) (PF (leftS rows ps r)) k L) (k::(r.map (·.1)).reverse) rest:=hr
  have:=h.on ((k,L)::rest) (.step (nx_congr (fun j=>by simp) n) hr)
  rwa [List.append_assoc]
theorem Pre.stop {cs:List Int}{rows:List (List Int)}{ps:List Int}{r:List (Nat×Int)} (h:Pre cs rows ps r) (n:∀ k,k < cs.length→k∉r.map (·.1)→hav rows.length (WR rows) (PF (leftS rows ps r)) k < (townT cs rows).c k):Run (townT cs rows) (PF ps) [] r:=by
 have:=h.on [] (.stop fun k hk hn=>n k hk fun z=>hn (by simpa using z))
 rwa [List.append_nil] at this
theorem PF_of_getD {ps:List Int}{i:Nat} (h:i < ps.length):(ps.map V.int)[i]?=some (V.int (PF ps i)):=by
 unfold PF
 simp [List.getD,h]
theorem paired_mapne {H0 H:Hp}{ls:Addr}{o:HO}{xs:List V}{sts:List (Nat×Int×List Int)}{ts:List Addr} (h:Paired (StepNew H0 H ls) sts ts) (hl:H ls=some (.lst xs)):Paired (StepNew H0 (upd H ls o) ls) sts ts:=by
 refine Paired.mapP h fun x t ⟨b,z1,z2,z3,z4,z5⟩=>⟨b,z1,z2,z3,?_,?_⟩
 ·rw [upd_ne fun e=>by rw [e,hl] at z4;cases z4]
  exact z4
 ·rw [upd_ne z3]
  exact z5
noncomputable def Ascii (z:Str):Prop:=z.cps.all (· < 128)=true
noncomputable def joinL:List (List Nat)→List Nat
 | []=>[]
 | [p]=>p
 | p::q::r=>p ++ 32::joinL (q::r)
theorem none_eq:("":Str)=⟨#[]⟩:=by decide +kernel
theorem str_toList {a b:Str}:a=b↔a.cps.toList=b.cps.toList:=⟨fun h=>by rw [h],fun h=>PySem.Str.ext' (Array.ext' h)⟩
theorem len_toList (z:Str):z.cps.toList.length=z.length:=by simp [Str.length]
section
variable {H:Hp}{Q:VK}{z a b:Str}
theorem size_eq:PySem.sizeLine=16777216:=by decide
theorem r_addS (h:a.length + b.length≤16777216) (q:Q (.str (a ++ b)) H):rAddS (.str a) (.str b) H Q:=⟨a,b,rfl,rfl,by rw [size_eq];exact h,q⟩
theorem r_lenT (h:z.length≤16777216) (q:Q (.int z.length) H):rLenT [.str z] H Q:=⟨z,rfl,by rw [size_eq];exact h,q⟩
theorem r_inS (q:Q (.bl (!(Builtin.Str.occurrences b a 0 b.length 1).isEmpty)) H):rInS (.str a) (.str b) H Q:=⟨a,b,rfl,rfl,q⟩
theorem r_slS {lo hi:Option Int} (h:z.length≤16777216) (q:Q (.str (PySem.Txt.slice z lo hi)) H):rSlS (.str z) lo hi H Q:=⟨z,rfl,by rw [size_eq];exact h,q⟩
theorem r_neS (q:Q (.bl (!decide (a=b))) H):rNe (.str a) (.str b) H Q:=⟨rfl,by
 have e:decide (V.str a=V.str b)=decide (a=b):=by rw [Bool.eq_iff_iff];simp
 rw [e];exact q⟩
theorem r_iText {tl:TE}{σ:St}{R:It→Hp→Prop} (h:tl σ H fun v H1=>∃ x:Str,v=.str x∧x.cps.all (· < 128)=true∧R (Itx x) H1):iText tl σ H R:=h
end
local macro_rules | `(tactic| walk_at "early") => `(tactic| first
 | ((with_reducible show tyV _ "str" (V.str _) _∧_);refine ⟨rfl,?_⟩)
 | ((with_reducible show rLenT _ _ _);refine r_lenT (by omega) ?_)
 | ((with_reducible show rAddS _ _ _ _);refine r_addS (by omega) ?_)
 | ((with_reducible show rInS _ _ _ _);refine r_inS ?_)
 | ((with_reducible show rNotInS _ _ _ _);refine r_ninS ?_)
 | ((with_reducible show rSlS _ _ _ _ _);refine r_slS (by omega) ?_)
 | with_reducible refine r_iText ?_
 | ((with_reducible show rStarts _ _ _ _);refine r_starts ?_)
 | ((with_reducible show rEq (V.str _) (V.str _) _ _);refine r_eqS ?_)
 | ((with_reducible show rNe (V.str _) (V.str _) _ _);refine r_neS ?_))
theorem ascii_iff {z:Str}:Ascii z↔∀ c∈z.cps.toList,c < 128:=by
 unfold Ascii
 rw [← Array.all_toList,List.all_eq_true]
 exact ⟨fun h c hc=>of_decide_eq_true (h c hc),fun h c hc=>decide_eq_true (h c hc)⟩
theorem app_toList (a b:Str):(a ++ b).cps.toList=a.cps.toList ++ b.cps.toList:=by rw [PySem.Str.cps_append];simp
theorem fold_len (sep:Str) (m:Nat):∀ (xs:List Str) (a:Nat),(∀ x∈xs,x.length≤m)→xs.foldl (fun n x=>n + x.length + sep.length) a≤a + xs.length * (m + sep.length)
 | [],a,_=>by simp
 | x::xs,a,h=>by
  have h1:=h x (by simp)
  have ih:=fold_len sep m xs (a + x.length + sep.length) fun y hy=>h y (List.mem_cons_of_mem _ hy)
  have e:(x::xs).length * (m + sep.length)=xs.length * (m + sep.length) + (m + sep.length):=by rw [List.length_cons,Nat.add_mul,Nat.one_mul]
  rw [e]
  simp only [List.foldl_cons]
  omega
theorem join_len {sep:Str}{m:Nat}:∀ {xs:List Str},(∀ x∈xs,x.length≤m)→(Str.join sep xs).length≤xs.length * (m + sep.length)
 | [],_=>by show (Str.empty:Str).length≤_;exact Nat.zero_le _
 | [x],h=>by
  have:=h x (by simp)
  show x.length≤1 * _
  omega
 | x::y::r,h=>by
  have h1:=h x (by simp)
  have ih:=join_len (sep:=sep) (xs:=y::r) fun z hz=>h z (List.mem_cons_of_mem _ hz)
  show (x ++ sep ++ Str.join sep (y::r)).length≤_
  rw [PySem.Str.length_append,PySem.Str.length_append,show (x::y::r).length=(y::r).length + 1 from rfl,Nat.add_mul,Nat.one_mul]
  omega
theorem r_join {K:W.Frag}{H:Hp}{Q:VK}{sep:Str}{p:Addr}{xs:List Str} (m:Nat) (hS:SqL K H p (xs.map V.str)) (hx:∀ x∈xs,x.length≤m) (hb:xs.length * (m + sep.length)≤16777216) (q:Q (.str (Str.join sep xs)) H):rJoin K (.str sep) [.ref p] H Q:=by
 have e:=PySem.StrLaws.glued_eq_join sep xs
 refine ⟨sep,p,xs,rfl,rfl,hS,?_,?_,?_⟩
 ·have h:=fold_len sep m xs 0 hx
  refine decide_eq_false ?_
  rw [size_eq]
  simp only [List.foldl_toArray',List.size_toArray]
  omega
 ·rw [e,size_eq]
  exact Nat.le_trans (join_len hx) hb
 ·rw [e]
  exact q
theorem one_len (c:Nat):(⟨#[c]⟩:Str).length=1:=rfl
theorem atI_pos {l:List Nat}{w:Int} (h0:0≤w) (h1:w.toNat < l.length):atI l w=some (l.getD w.toNat 0):=by
 have h:l[w.toNat]?=some (l.getD w.toNat 0):=by rw [List.getD_eq_getElem?_getD,List.getElem?_eq_getElem h1];rfl
 have:=atI_nat h
 rw [Int.toNat_of_nonneg h0] at this
 exact this
theorem joinL_part:∀ {ps:List (List Nat)}{p:List Nat},p∈ps→p.length≤(joinL ps).length
 | [],_,h=>nomatch h
 | [p],q,h=>by
  have:q=p:=by simpa using h
  subst this
  exact Nat.le_refl _
 | p::q::r,x,h=>by
  rcases List.mem_cons.mp h with rfl | h
  ·simp only [joinL,List.length_append];omega
  ·have:=joinL_part h
   simp only [joinL,List.length_append,List.length_cons]
   omega
theorem dat_strs {K:W.Frag}{H:Hp}:∀ xs:List Str,DatAll K H (xs.map V.str) (xs.map PyData.str)
 | []=>.nil
 | x::xs=>.cons (.str x) (dat_strs xs)
theorem joinL_mem:∀ {ps:List (List Nat)}{p:List Nat}{c:Nat},p∈ps→c∈p→c∈joinL ps
 | [],_,_,h,_=>nomatch h
 | [p],q,c,h,hc=>by
  have:q=p:=by simpa using h
  subst this
  exact hc
 | p::q::r,x,c,h,hc=>by
  rcases List.mem_cons.mp h with rfl | h
  ·simp only [joinL,List.mem_append];exact .inl hc
  ·have:=joinL_mem h hc
   simp only [joinL,List.mem_append,List.mem_cons]
   exact .inr (.inr this)
theorem strOk_ascii {x:Str} (h:Ascii x):PyData.strOk x=true:=by
 unfold PyData.strOk
 rw [← Array.all_toList,List.all_eq_true]
 intro c hc
 have:=ascii_iff.mp h c hc
 exact decide_eq_true (by omega)
theorem nd_strs (xs:List Str) (h:∀ x∈xs,Ascii x):niceD 1 (.list (xs.map PyData.str)):=nd_list fun d hd=>by
 obtain ⟨x,hx,rfl⟩:=List.mem_map.mp hd
 exact ⟨by simp only [nice];exact strOk_ascii (h x hx),by simp [PyData.depth]⟩
theorem sl_zero (h:Option Int) (n:Nat):PySem.Builtin.Str.strSliceIndices none h 1 n=PySem.Builtin.Str.strSliceIndices (some ((0:Nat):Int)) h 1 n:=by
 have e:max (0:Int) (min 0 (n:Int))=0:=by omega
 simp [PySem.Builtin.Str.strSliceIndices,e]
noncomputable def But (l:List Addr) (H H':Hp):Prop:=(∀ a o,a∉l→H a=some o→H' a=some o)∧(∀ a xs,H a=some (.tup xs)→H' a=some (.tup xs))∧∀ a,H' a=none→H a=none
section
variable {H H1 H2:Hp}{l l':List Addr}
theorem But.of (s:Same H H1):But l H H1:=⟨fun a o _ h=>s a o h,fun a xs h=>s a _ h,fun _ h=>s.free h⟩
theorem But.trans (a:But l H H1) (b:But l H1 H2):But l H H2:=⟨fun c o n h=>b.1 c o n (a.1 c o n h),fun c xs h=>b.2.1 c xs (a.2.1 c xs h),fun c h=>a.2.2 c (b.2.2 c h)⟩
theorem But.upd {a:Addr}{o o':HO} (h:H a=some o) (ht:∀ xs,o≠.tup xs) (m:a∈l):But l H (L2.upd H a o'):=by
 refine ⟨fun c u n q=>?_,fun c xs q=>?_,fun c q=>?_⟩
 ·rw [upd_ne (fun z=>n (by rw [z];exact m))];exact q
 ·rw [upd_ne (fun z=>by rw [z,h] at q;exact ht xs (Option.some.inj q))];exact q
 ·by_cases z:c=a
  ·rw [z,upd_same] at q;cases q
  ·rw [upd_ne z] at q;exact q
noncomputable def New (l l':List Addr) (H:Hp):Prop:=∀ a∈l',a∈l∨H a=none
theorem New.refl:New l l H:=fun _ h=>.inl h
theorem New.trans {l'':List Addr} (a:New l l' H) (b:New l' l'' H1) (bt:But l' H H1):New l l'' H:=fun c h=>by
 rcases b c h with z | z
 ·exact a c z
 ·exact .inr (bt.2.2 c z)
end
noncomputable def TpI (H:Hp) (p:Str×Int) (t:Addr):Prop:=H t=some (.tup [.str p.1,.int p.2])
noncomputable def TpS (H:Hp) (p:Str×Str) (t:Addr):Prop:=H t=some (.tup [.str p.1,.str p.2])
noncomputable def RowsL (H:Hp) (l:Addr) (rows:List (Str×Int)):Prop:=∃ ts:List Addr,H l=some (.lst (ts.map V.ref))∧Paired (TpI H) rows ts
theorem RowsL.but {H H':Hp}{fp:List Addr}{l:Addr}{rows:List (Str×Int)} (b:But fp H H') (h:RowsL H l rows) (n:l∉fp):RowsL H' l rows:=by
 obtain ⟨ts,h1,h2⟩:=h
 exact ⟨ts,b.1 _ _ n h1,Paired.mapP h2 fun _ _ q=>b.2.1 _ _ q⟩
theorem RowsL.same {H H':Hp}{l:Addr}{rows:List (Str×Int)} (h:RowsL H l rows) (s:Same H H'):RowsL H' l rows:=h.but (l:=l) (But.of (l:=[]) s) (by simp)
noncomputable def dRowI (p:Str×Int):PyData:=.tuple [.str p.1,.int p.2]
theorem RowsL.dat {K:W.Frag}{H:Hp}{l:Addr}{rows:List (Str×Int)} (h:RowsL H l rows):DatIs K H (.ref l) (.list (rows.map dRowI)):=by
 obtain ⟨ts,h1,h2⟩:=h
 refine .lst (SqL.of h1) ?_
 clear h1
 induction h2 with
 | nil=>exact .nil
 | cons q _ ih=>exact .cons (.tup (SqT.of q) (.cons (.str _) (.cons (.int _) .nil))) ih
theorem nd_rowsI {rows:List (Str×Int)} (h:∀ p∈rows,Ascii p.1):niceD 2 (.list (rows.map dRowI)):=nd_list fun d hd=>by
 obtain ⟨p,hp,rfl⟩:=List.mem_map.mp hd
 refine nd_tuple fun e he=>?_
 rcases List.mem_cons.mp he with rfl | he
 ·exact ⟨by rw [nice];exact strOk_ascii (h p hp),by simp [PyData.depth]⟩
 ·rcases List.mem_cons.mp he with rfl | he
  ·exact nd_int _
  ·cases he
noncomputable def kvI (ps:List (Str×Int)):List (Key×V):=ps.map fun p=>(.inr p.1,.int p.2)
theorem kvI_len (ps:List (Str×Int)):(kvI ps).length=ps.length:=by simp [kvI]
theorem kvI_get {ps:List (Str×Int)}{i:Nat}{p:Str×Int} (h:ps[i]?=some p):(kvI ps)[i]?=some (.inr p.1,.int p.2):=by simp [kvI,h]
theorem kvI_val:∀ {ps:List (Str×Int)}{n:Str},n∉ps.map (·.1)→valV (kvI ps) (.inr n)=none
 | [],_,_=>rfl
 | p::r,n,h=>by
  have h1:¬ p.1=n:=fun z=>h (by rw [← z];simp)
  show valV ((.inr p.1,.int p.2)::kvI r) (.inr n)=none
  rw [valV_neg (by simpa using h1)]
  exact kvI_val fun z=>h (by rw [List.map_cons];exact List.mem_cons_of_mem _ z)
theorem kvI_at:∀ {ps:List (Str×Int)}{n:Str}{x:Int},(ps.map (·.1)).Nodup→(n,x)∈ps→valV (kvI ps) (.inr n)=some (.int x)
 | p::r,n,x,nd,h=>by
  have nd:(p.1::r.map (·.1)).Nodup:=nd
  obtain ⟨n1,n2⟩:=List.nodup_cons.mp nd
  show valV ((.inr p.1,.int p.2)::kvI r) (.inr n)=_
  rcases List.mem_cons.mp h with z | z
  ·subst z
   exact valV_pos rfl
  ·have h1:¬ p.1=n:=fun e=>n1 (by rw [e];exact List.mem_map.mpr ⟨_,z,rfl⟩)
   rw [valV_neg (by simpa using h1)]
   exact kvI_at n2 z
theorem kvI_put {ps:List (Str×Int)}{n:Str}{x:Int} (h:n∉ps.map (·.1)):putK (kvI ps) (.inr n) (.int x)=kvI (ps ++ [(n,x)]):=by
 rw [putK_new _ (kvI_val h)]
 simp [kvI]
theorem kvI_drop (ps:List (Str×Int)) (n:Str):dropK (kvI ps) (.inr n)=kvI (ps.filter fun p=>decide (p.1≠n)):=by
 unfold dropK kvI
 rw [List.filter_map]
 congr 1
 refine List.filter_congr fun p _=>?_
 show decide ((Sum.inr p.1:Key)≠.inr n)=_
 congr 1
 simp
structure ChSt where
 ps:List (Str×Int)
 cs:List (Str×Int)
 ws:List (Str×Str)
 pot:Int
 giv:Int
 spt:Int
noncomputable def chF (d1 d2 w:Addr) (a b c:Int):List (Str×V):=[("purses",.ref d1),("costs",.ref d2),("wishes",.ref w),("unshared",.int a),("gifts",.int b),("outlay",.int c)]
structure ChX (K:W.Frag) (H:Hp) (c dx d1 d2 w:Addr) (wt:List Addr) (s:ChSt):Prop where
 at_:H c=some (.ins (clsA K "Chest") dx (chF d1 d2 w s.pot s.giv s.spt))
 p1:H d1=some (.dK (kvI s.ps))
 p2:H d2=some (.dK (kvI s.cs))
 w_:H w=some (.lst (wt.map V.ref))
 wt:Paired (TpS H) s.ws wt
 ne:d1≠d2
 nd:(s.ps.map (·.1)).Nodup
 nd2:(s.cs.map (·.1)).Nodup
noncomputable def ChestAt (K:W.Frag) (H:Hp) (c:Addr) (fp:List Addr) (s:ChSt):Prop:=∃ dx d1 d2 w wt,ChX K H c dx d1 d2 w wt s∧fp=[c,d1,d2,w]
theorem strs_ne:("costs":Str)≠"purses"∧("wishes":Str)≠"purses"∧("unshared":Str)≠"purses"∧("gifts":Str)≠"purses"∧("outlay":Str)≠"purses"∧
  ("wishes":Str)≠"costs"∧("unshared":Str)≠"costs"∧("gifts":Str)≠"costs"∧("outlay":Str)≠"costs"∧
  ("unshared":Str)≠"wishes"∧("gifts":Str)≠"wishes"∧("outlay":Str)≠"wishes"∧("gifts":Str)≠"unshared"∧("outlay":Str)≠"unshared"∧("outlay":Str)≠"gifts":=by decide +kernel
section
variable {d1 d2 w e:Addr}{a b c x:Int}
theorem lk_purses:(chF d1 d2 w a b c).lookup ("purses":Str)=some (V.ref d1):=by simp [chF,List.lookup]
theorem lk_costs:(chF d1 d2 w a b c).lookup ("costs":Str)=some (V.ref d2):=by
 have h:=strs_ne
 simp [chF,List.lookup,beq_eq_false_iff_ne.mpr h.1]
theorem lk_wishes:(chF d1 d2 w a b c).lookup ("wishes":Str)=some (V.ref w):=by
 obtain ⟨h1,h2,h3,h4,h5,h6,h7,h8,h9,h10,h11,h12,h13,h14,h15⟩:=strs_ne
 simp [chF,List.lookup,beq_eq_false_iff_ne.mpr h2,beq_eq_false_iff_ne.mpr h6]
theorem lk_unshared:(chF d1 d2 w a b c).lookup ("unshared":Str)=some (V.int a):=by
 obtain ⟨h1,h2,h3,h4,h5,h6,h7,h8,h9,h10,h11,h12,h13,h14,h15⟩:=strs_ne
 simp [chF,List.lookup,beq_eq_false_iff_ne.mpr h3,beq_eq_false_iff_ne.mpr h7,beq_eq_false_iff_ne.mpr h10]
theorem lk_gifts:(chF d1 d2 w a b c).lookup ("gifts":Str)=some (V.int b):=by
 obtain ⟨h1,h2,h3,h4,h5,h6,h7,h8,h9,h10,h11,h12,h13,h14,h15⟩:=strs_ne
 simp [chF,List.lookup,beq_eq_false_iff_ne.mpr h4,beq_eq_false_iff_ne.mpr h8,beq_eq_false_iff_ne.mpr h11,beq_eq_false_iff_ne.mpr h13]
theorem lk_outlay:(chF d1 d2 w a b c).lookup ("outlay":Str)=some (V.int c):=by
 obtain ⟨h1,h2,h3,h4,h5,h6,h7,h8,h9,h10,h11,h12,h13,h14,h15⟩:=strs_ne
 simp [chF,List.lookup,beq_eq_false_iff_ne.mpr h5,beq_eq_false_iff_ne.mpr h9,beq_eq_false_iff_ne.mpr h12,beq_eq_false_iff_ne.mpr h14,beq_eq_false_iff_ne.mpr h15]
theorem pf_purses:putF "purses" (.ref e) (chF d1 d2 w a b c)=chF e d2 w a b c:=by simp [chF,putF]
theorem pf_wishes:putF "wishes" (.ref e) (chF d1 d2 w a b c)=chF d1 d2 e a b c:=by
 obtain ⟨h1,h2,h3,h4,h5,h6,h7,h8,h9,h10,h11,h12,h13,h14,h15⟩:=strs_ne
 simp [chF,putF,h2.symm,h6.symm]
theorem pf_unshared:putF "unshared" (.int x) (chF d1 d2 w a b c)=chF d1 d2 w x b c:=by
 obtain ⟨h1,h2,h3,h4,h5,h6,h7,h8,h9,h10,h11,h12,h13,h14,h15⟩:=strs_ne
 simp [chF,putF,h3.symm,h7.symm,h10.symm]
theorem pf_gifts:putF "gifts" (.int x) (chF d1 d2 w a b c)=chF d1 d2 w a x c:=by
 obtain ⟨h1,h2,h3,h4,h5,h6,h7,h8,h9,h10,h11,h12,h13,h14,h15⟩:=strs_ne
 simp [chF,putF,h4.symm,h8.symm,h11.symm,h13.symm]
theorem pf_outlay:putF "outlay" (.int x) (chF d1 d2 w a b c)=chF d1 d2 w a b x:=by
 obtain ⟨h1,h2,h3,h4,h5,h6,h7,h8,h9,h10,h11,h12,h13,h14,h15⟩:=strs_ne
 simp [chF,putF,h5.symm,h9.symm,h12.symm,h14.symm,h15.symm]
theorem pf_init:putF "outlay" (.int c) (putF "gifts" (.int b) (putF "unshared" (.int a) (putF "wishes" (.ref w) (putF "costs" (.ref d2) (putF "purses" (.ref d1) [])))))=chF d1 d2 w a b c:=by
 obtain ⟨h1,h2,h3,h4,h5,h6,h7,h8,h9,h10,h11,h12,h13,h14,h15⟩:=strs_ne
 simp [chF,putF,h1.symm,h2.symm,h3.symm,h4.symm,h5.symm,h6.symm,h7.symm,h8.symm,h9.symm,h10.symm,h11.symm,h12.symm,h13.symm,h14.symm,h15.symm]
theorem lk_no {m:Str} (h:(["purses","costs","wishes","unshared","gifts","outlay"]:List Str).contains m=false):(chF d1 d2 w a b c).lookup m=none:=by
 have h:∀ x∈(["purses","costs","wishes","unshared","gifts","outlay"]:List Str),x≠m:=fun x hx e=>by
  rw [e] at hx
  rw [List.contains_iff_mem.mpr hx] at h
  cases h
 have g:∀ x∈(["purses","costs","wishes","unshared","gifts","outlay"]:List Str),(m==x)=false:=fun x hx=>beq_eq_false_iff_ne.mpr (h x hx).symm
 simp only [chF,List.lookup,g _ (by simp:("purses":Str)∈_),g _ (by simp:("costs":Str)∈_),g _ (by simp:("wishes":Str)∈_),g _ (by simp:("unshared":Str)∈_),g _ (by simp:("gifts":Str)∈_),g _ (by simp:("outlay":Str)∈_)]
end
section
variable {K:W.Frag}{H H':Hp}{c dx d1 d2 w:Addr}{wt:List Addr}{s:ChSt}{fp l:List Addr}
theorem ChX.but (x:ChX K H c dx d1 d2 w wt s) (b:But l H H') (n1:c∉l) (n2:d1∉l) (n3:d2∉l) (n4:w∉l):ChX K H' c dx d1 d2 w wt s:=
 ⟨b.1 _ _ n1 x.at_,b.1 _ _ n2 x.p1,b.1 _ _ n3 x.p2,b.1 _ _ n4 x.w_,Paired.mapP x.wt fun _ _ q=>b.2.1 _ _ q,x.ne,x.nd,x.nd2⟩
theorem ChX.same (x:ChX K H c dx d1 d2 w wt s) (b:Same H H'):ChX K H' c dx d1 d2 w wt s:=x.but (But.of (l:=[]) b) (by simp) (by simp) (by simp) (by simp)
theorem ChestAt.but (x:ChestAt K H c fp s) (b:But l H H') (n:∀ a∈fp,a∉l):ChestAt K H' c fp s:=by
 obtain ⟨dx,d1,d2,w,wt,x,rfl⟩:=x
 exact ⟨dx,d1,d2,w,wt,x.but b (n _ (by simp)) (n _ (by simp)) (n _ (by simp)) (n _ (by simp)),rfl⟩
theorem ChestAt.same (x:ChestAt K H c fp s) (b:Same H H'):ChestAt K H' c fp s:=x.but (But.of (l:=[]) b) (by simp)
theorem ChestAt.there (x:ChestAt K H c fp s):∀ a∈fp,H a≠none:=by
 obtain ⟨dx,d1,d2,w,wt,x,rfl⟩:=x
 intro a ha
 simp only [List.mem_cons,List.not_mem_nil,or_false] at ha
 rcases ha with rfl | rfl | rfl | rfl
 ·rw [x.at_];simp
 ·rw [x.p1];simp
 ·rw [x.p2];simp
 ·rw [x.w_];simp
theorem ne_of_two {a b:Addr}{o o':HO} (h:H a=some o) (h':H b=some o') (n:o≠o'):a≠b:=fun e=>n (by rw [e,h'] at h;exact (Option.some.inj h).symm)
theorem ne_of_free {a b:Addr}{o:HO} (h:H a=some o) (h':H b=none):a≠b:=fun e=>by rw [e,h'] at h;cases h
theorem ChX.setF {a b e:Int} (x:ChX K H c dx d1 d2 w wt s):ChX K (L2.upd H c (.ins (clsA K "Chest") dx (chF d1 d2 w a b e))) c dx d1 d2 w wt ⟨s.ps,s.cs,s.ws,a,b,e⟩:=by
 have n1:=ne_of_two x.p1 x.at_ (by simp)
 have n2:=ne_of_two x.p2 x.at_ (by simp)
 have n3:=ne_of_two x.w_ x.at_ (by simp)
 exact ⟨upd_same,by rw [upd_ne n1];exact x.p1,by rw [upd_ne n2];exact x.p2,by rw [upd_ne n3];exact x.w_,Paired.mapP x.wt fun _ _ q=>by
  unfold TpS at *
  rw [upd_ne (ne_of_two q x.at_ (by simp))];exact q,x.ne,x.nd,x.nd2⟩
theorem ChX.setD {e:Addr}{ps:List (Str×Int)} (x:ChX K H c dx d1 d2 w wt s) (he:H e=some (.dK (kvI ps))) (hne:e≠d2) (nd:(ps.map (·.1)).Nodup):
  ChX K (L2.upd H c (.ins (clsA K "Chest") dx (chF e d2 w s.pot s.giv s.spt))) c dx e d2 w wt ⟨ps,s.cs,s.ws,s.pot,s.giv,s.spt⟩:=by
 have n1:=ne_of_two he x.at_ (by simp)
 have n2:=ne_of_two x.p2 x.at_ (by simp)
 have n3:=ne_of_two x.w_ x.at_ (by simp)
 exact ⟨upd_same,by rw [upd_ne n1];exact he,by rw [upd_ne n2];exact x.p2,by rw [upd_ne n3];exact x.w_,Paired.mapP x.wt fun _ _ q=>by
  unfold TpS at *
  rw [upd_ne (ne_of_two q x.at_ (by simp))];exact q,hne,nd,x.nd2⟩
theorem ChX.setW {e:Addr}{ws:List (Str×Str)}{wt':List Addr} (x:ChX K H c dx d1 d2 w wt s) (he:H e=some (.lst (wt'.map V.ref))) (hp:Paired (TpS H) ws wt'):
  ChX K (L2.upd H c (.ins (clsA K "Chest") dx (chF d1 d2 e s.pot s.giv s.spt))) c dx d1 d2 e wt' ⟨s.ps,s.cs,ws,s.pot,s.giv,s.spt⟩:=by
 have n1:=ne_of_two x.p1 x.at_ (by simp)
 have n2:=ne_of_two x.p2 x.at_ (by simp)
 have n3:=ne_of_two he x.at_ (by simp)
 exact ⟨upd_same,by rw [upd_ne n1];exact x.p1,by rw [upd_ne n2];exact x.p2,by rw [upd_ne n3];exact he,Paired.mapP hp fun _ _ q=>by
  unfold TpS at *
  rw [upd_ne (ne_of_two q x.at_ (by simp))];exact q,x.ne,x.nd,x.nd2⟩
theorem ChX.setP {ps:List (Str×Int)} (x:ChX K H c dx d1 d2 w wt s) (nd:(ps.map (·.1)).Nodup):ChX K (L2.upd H d1 (.dK (kvI ps))) c dx d1 d2 w wt ⟨ps,s.cs,s.ws,s.pot,s.giv,s.spt⟩:=by
 have n1:=ne_of_two x.at_ x.p1 (by simp)
 have n3:=ne_of_two x.w_ x.p1 (by simp)
 exact ⟨by rw [upd_ne n1];exact x.at_,upd_same,by rw [upd_ne (Ne.symm x.ne)];exact x.p2,by rw [upd_ne n3];exact x.w_,Paired.mapP x.wt fun _ _ q=>by
  unfold TpS at *
  rw [upd_ne (ne_of_two q x.p1 (by simp))];exact q,x.ne,nd,x.nd2⟩
end
local macro_rules | `(tactic| walk_at "early") => `(tactic| first
 | with_reducible refine r_sfld ?_
 | with_reducible refine r_fld ?_
 | with_reducible refine r_faug ?_
 | with_reducible refine r_meth ?_
 | with_reducible refine r_dget ?_
 | with_reducible refine r_dput ?_
 | with_reducible refine r_din ?_
 | with_reducible refine r_dnin ?_
 | with_reducible refine r_pop ?_
 | with_reducible refine r_tBD ?_)
theorem paired_unmap {α β γ:Type}{F:β→γ→Prop}{f:α→β}:∀ {xs:List α}{ys:List γ},Paired F (xs.map f) ys→Paired (fun x y=>F (f x) y) xs ys
 | [],_,.nil=>.nil
 | _::_,_,.cons h t=>.cons h (paired_unmap t)
noncomputable def isLet (c:Nat):Bool:=decide (97≤c) && decide (c≤122)
noncomputable def isNm (z:Str):Bool:=(decide (1≤z.length) && decide (z.length≤8)) && z.cps.toList.all isLet
theorem lets_eq:("abcdefghijklmnopqrstuvwxyz":Str).cps.toList=[97,98,99,100,101,102,103,104,105,106,107,108,109,110,111,112,113,114,115,116,117,118,119,120,121,122]:=by decide +kernel
theorem in_lets (c:Nat):(!(PySem.Builtin.Str.occurrences ("abcdefghijklmnopqrstuvwxyz":Str) ⟨#[c]⟩ 0 ("abcdefghijklmnopqrstuvwxyz":Str).length 1).isEmpty)=isLet c:=by
 rw [PySem.StrLaws.found_one,lets_eq,Bool.eq_iff_iff]
 simp [isLet]
 omega
theorem nm_ascii {z:Str} (h:isNm z=true):Ascii z:=by
 rw [ascii_iff]
 intro c hc
 have h2:=(Bool.and_eq_true _ _ ▸ h:_∧_).2
 have:=List.all_eq_true.mp h2 c hc
 simp [isLet] at this
 omega
theorem nm_len {z:Str} (h:isNm z=true):1≤z.length∧z.length≤8:=by
 simp [isNm] at h
 exact h.1
theorem putF_len (f:Str) (v:V):∀ fs:List (Str×V),(putF f v fs).length≤fs.length + 1
 | []=>Nat.le_refl _
 | (g,x)::r=>by
  unfold putF
  by_cases h:g=f
  ·rw [if_pos h];simp
  ·rw [if_neg h]
   have:=putF_len f v r
   simp only [List.length_cons]
   omega
theorem range_filt {α:Type} (p:α→Bool) (d:α) (xs:List α):((List.range xs.length).filter fun i=>p (xs.getD i d)).map (fun i=>xs.getD i d)=xs.filter p:=by
 have h:=range_getD' (fun x=>x) d xs
 rw [List.map_id'] at h
 conv=>rhs;rw [← h]
 rw [List.filter_map]
 rfl
noncomputable def shareS (s:ChSt) (x:Int):ChSt:={s with ps:=s.ps.map fun p=>(p.1,p.2 + x),pot:=s.pot - x * s.ps.length}
noncomputable def giveS (s:ChSt) (x:Int):ChSt:=if s.ps=[] then {s with pot:=s.pot + x,giv:=s.giv + x} else shareS {s with pot:=s.pot + x,giv:=s.giv + x} ((s.pot + x) / (s.ps.length:Int))
theorem map_fst (ps:List (Str×Int)) (x:Int):(ps.map fun p=>(p.1,p.2 + x)).map (·.1)=ps.map (·.1):=by rw [List.map_map];rfl
theorem nd_filt {α:Type}{ps:List (Str×α)}{p:Str×α→Bool} (h:(ps.map (·.1)).Nodup):((ps.filter p).map (·.1)).Nodup:=List.Nodup.sublist (List.Sublist.map _ List.filter_sublist) h
theorem made {K:W.Frag}{H H2:Hp}{c dx:Addr}{fp:List Addr} (f0:H c=none) (g0:H dx=none) (b:But [c] (upd (upd H dx (.own c)) c (.ins (clsA K "Chest") dx [])) H2) (w:New [c] fp (upd (upd H dx (.own c)) c (.ins (clsA K "Chest") dx []))):
  Same H H2∧∀ a∈fp,H a=none:=by
 refine ⟨fun a o h=>?_,fun a ha=>?_⟩
 ·have n1:a≠c:=fun e=>by rw [e,f0] at h;cases h
  have n2:a≠dx:=fun e=>by rw [e,g0] at h;cases h
  exact b.1 a o (by simpa using n1) (by rw [upd_ne n1,upd_ne n2];exact h)
 ·rcases w a ha with e | e
  ·rw [List.mem_singleton.mp e];exact f0
  ·by_cases n1:a=c
   ·rw [n1];exact f0
   ·rw [upd_ne n1] at e
    by_cases n2:a=dx
    ·rw [n2];exact g0
    ·rw [upd_ne n2] at e;exact e
theorem same_but {H0 H H':Hp}{L:List Addr} (s:Same H0 H) (b:But L H H') (h:∀ a∈L,H0 a=none):Same H0 H':=fun a o q=>b.1 a o (fun m=>by rw [h a m] at q;cases q) (s a o q)
noncomputable def spin (c:Int) (k:Nat):Int:=(c % 900900929 + 2503 * (k:Int) + 77) * (c % 900900929 + 2503 * (k:Int) + 77) * (c % 900900929 + 2503 * (k:Int) + 77 + 31 * (k:Int)) / 13 % 700700003
noncomputable def spinL (c:Int) (m:Nat):List Int:=(List.range m).map (spin c)
theorem spinL_len (c:Int) (m:Nat):(spinL c m).length=m:=by simp [spinL]
theorem spinL_at {c:Int}{m k:Nat} (h:k < m):((spinL c m).map V.int)[k]?=some (.int (spin c k)):=by simp [spinL,h]
theorem sl_end (l:Option Int) (n:Nat):PySem.Builtin.Str.strSliceIndices l none 1 n=PySem.Builtin.Str.strSliceIndices l (some (n:Int)) 1 n:=by
 have h:¬ ((n:Int) < 0):=by omega
 have e:max (0:Int) (min (if (n:Int) < 0 then (n:Int) + n else n) (n:Int))=n:=by rw [if_neg h];omega
 simp [PySem.Builtin.Str.strSliceIndices,e]
theorem slice_plain {z:Str}{a b:Nat} (h1:a≤b) (h2:b≤z.length):(PySem.Txt.slice z (some (a:Int)) (some (b:Int))).cps.toList=(z.cps.toList.drop a).take (b - a):=by
 have hl:=len_toList z
 unfold PySem.Txt.slice
 split
 ·rename_i hc
  rw [PySem.StrLaws.strSliceIndices_plain h1 h2] at hc
  have:b - a=z.length:=by simpa using hc
  have:a=0:=by omega
  subst this
  rw [List.drop_zero,List.take_of_length_le (by omega)]
 ·rw [PySem.StrLaws.sliced_plain z h1 h2]
theorem slice_to {z:Str}{b:Nat} (h:b≤z.length):(PySem.Txt.slice z none (some (b:Int))).cps.toList=z.cps.toList.take b:=by
 have e:PySem.Txt.slice z none (some (b:Int))=PySem.Txt.slice z (some ((0:Nat):Int)) (some (b:Int)):=by unfold PySem.Txt.slice;rw [sl_zero]
 rw [e,slice_plain (Nat.zero_le _) h]
 simp
theorem slice_from {z:Str}{a:Nat} (h:a≤z.length):(PySem.Txt.slice z (some (a:Int)) none).cps.toList=z.cps.toList.drop a:=by
 have hl:=len_toList z
 have e:PySem.Txt.slice z (some (a:Int)) none=PySem.Txt.slice z (some (a:Int)) (some (z.length:Int)):=by unfold PySem.Txt.slice;rw [sl_end]
 rw [e,slice_plain h (Nat.le_refl _),List.take_of_length_le (by rw [List.length_drop];omega)]
noncomputable def letN (x:Int):Nat:=97 + (x % 26).toNat
theorem let_at (x:Int):atI ("abcdefghijklmnopqrstuvwxyz":Str).cps.toList (x % 26)=some (letN x):=by
 have n0:0≤x % 26:=by omega
 have n1:x % 26 < 26:=by omega
 have hl:("abcdefghijklmnopqrstuvwxyz":Str).cps.toList.length=26:=by rw [lets_eq];rfl
 rw [atI_pos n0 (by rw [hl];omega),lets_eq]
 unfold letN
 generalize x % 26=y at *
 obtain ⟨n,rfl⟩:∃ n:Nat,y=(n:Int):=⟨y.toNat,by omega⟩
 have hn:n < 26:=by omega
 have key:∀ n:Fin 26,([97,98,99,100,101,102,103,104,105,106,107,108,109,110,111,112,113,114,115,116,117,118,119,120,121,122]:List Nat).getD n.val 0=97 + n.val:=by decide
 have:=key ⟨n,hn⟩
 rw [show ((n:Int)).toNat=n by omega]
 rw [this]
theorem letN_is (x:Int):isLet (letN x)=true:=by
 unfold isLet letN
 simp
 omega
theorem letN_inj {x:Int}{i j:Nat} (hi:i < 26) (hj:j < 26) (h:letN (x + i)=letN (x + j)):i=j:=by
 unfold letN at h
 omega
noncomputable def wl (c:Int):List Nat:=(List.range 7).map fun j=>letN (spin c j)
theorem wl_len (c:Int):(wl c).length=7:=by simp [wl]
theorem wl_is (c:Int):∀ x∈wl c,isLet x=true:=fun x hx=>by
 obtain ⟨j,_,rfl⟩:=List.mem_map.mp hx
 exact letN_is _
noncomputable def nm3 (c:Int):List Nat:=(wl c).take (spin c 8 / 4 % 8).toNat
noncomputable def at3 (c:Int):Nat:=(spin c 8 / 32 % (((nm3 c).length:Int) + 1)).toNat
noncomputable def nameL (c:Int) (k:Nat):List Nat:=
 if spin c 8 % 4=0 then letN (spin c 7 + (k / 8:Nat))::(wl c).take (k % 8)
 else if spin c 8 % 4=1 then (wl c).drop (7 - k % 8) ++ [letN (spin c 7 + (k / 8:Nat))]
 else (nm3 c).take (at3 c) ++ letN (spin c 7 + (k:Int))::(nm3 c).drop (at3 c)
noncomputable def nameF (c:Int) (k:Nat):Str:=⟨(nameL c k).toArray⟩
theorem nameF_list (c:Int) (k:Nat):(nameF c k).cps.toList=nameL c k:=by simp [nameF]
theorem nm3_len (c:Int):(nm3 c).length≤7:=by
 unfold nm3
 rw [List.length_take,wl_len]
 omega
theorem nameL_ok (c:Int) (k:Nat):1≤(nameL c k).length∧(nameL c k).length≤8∧∀ x∈nameL c k,isLet x=true:=by
 have h3:=nm3_len c
 have hw:=wl_is c
 have hn:∀ x∈nm3 c,isLet x=true:=fun x hx=>hw x (List.mem_of_mem_take hx)
 unfold nameL
 split
 ·refine ⟨by simp,by simp [wl_len];omega,fun x hx=>?_⟩
  rcases List.mem_cons.mp hx with rfl | hx
  ·exact letN_is _
  ·exact hw x (List.mem_of_mem_take hx)
 ·split
  ·refine ⟨by simp,by simp only [List.length_append,List.length_drop,wl_len,List.length_singleton];omega,fun x hx=>?_⟩
   rcases List.mem_append.mp hx with hx | hx
   ·exact hw x (List.mem_of_mem_drop hx)
   ·rw [List.mem_singleton.mp hx];exact letN_is _
  ·refine ⟨by simp;omega,?_,fun x hx=>?_⟩
   ·simp only [List.length_append,List.length_cons,List.length_take,List.length_drop];omega
   ·rcases List.mem_append.mp hx with hx | hx
    ·exact hn x (List.mem_of_mem_take hx)
    ·rcases List.mem_cons.mp hx with rfl | hx
     ·exact letN_is _
     ·exact hn x (List.mem_of_mem_drop hx)
theorem nameF_nm (c:Int) (k:Nat):isNm (nameF c k)=true:=by
 obtain ⟨h1,h2,h3⟩:=nameL_ok c k
 have hl:=len_toList (nameF c k)
 rw [nameF_list] at hl
 unfold isNm
 rw [nameF_list,decide_eq_true (by omega),decide_eq_true (by omega),List.all_eq_true.mpr h3]
 rfl
theorem nameF_inj {c:Int}{i j:Nat} (hi:i < 21) (hj:j < 21) (h:nameF c i=nameF c j):i=j:=by
 have h:nameL c i=nameL c j:=by rw [← nameF_list,← nameF_list,h]
 unfold nameL at h
 split at h
 ·obtain ⟨h1,h2⟩:=List.cons.inj h
  have h3:=congrArg List.length h2
  rw [List.length_take,List.length_take,wl_len] at h3
  have h4:=letN_inj (by omega) (by omega) h1
  omega
 ·split at h
  ·have h3:=congrArg List.length h
   simp only [List.length_append,List.length_drop,wl_len,List.length_singleton] at h3
   have h5:=congrArg (fun l=>l.getLast?) h
   simp only [List.getLast?_append,List.getLast?_singleton,Option.some_or] at h5
   have h4:=letN_inj (by omega) (by omega) (Option.some.inj h5)
   omega
  ·have h6:=List.append_cancel_left h
   exact letN_inj (by omega) (by omega) (List.cons.inj h6).1
section
variable {l e:Addr}{a b x:Int}
end
section
variable {K:W.Frag}{H:Hp}{Q:VK}{p:Addr}{xs:List V}{i:Int}{v:V}
theorem r_ixT (hs:SqT K H p xs) (ha:atI xs i=some v) (h:Q v H):rIxT K (.ref p) (.int i) H Q:=⟨p,xs,i,v,rfl,rfl,hs,ha,h⟩
end
section
variable {K:W.Frag}{H H':Hp}{c sd l:Addr}{fp L:List Addr}{s:ChSt}
end
theorem paired_snoc {α β:Type}{F:α→β→Prop}:∀ {xs:List α}{ys:List β}{a:α}{b:β},Paired F xs ys→F a b→Paired F (xs ++ [a]) (ys ++ [b])
 | _,_,_,_,.nil,h=>.cons h .nil
 | _,_,_,_,.cons q t,h=>.cons q (paired_snoc t h)
section
variable {K:W.Frag}{H H':Hp}{c dx d1 d2 w:Addr}{wt:List Addr}{s:ChSt}{fp l:List Addr}
theorem ChX.setC {cs:List (Str×Int)} (x:ChX K H c dx d1 d2 w wt s) (nd:(cs.map (·.1)).Nodup):ChX K (L2.upd H d2 (.dK (kvI cs))) c dx d1 d2 w wt ⟨s.ps,cs,s.ws,s.pot,s.giv,s.spt⟩:=by
 have n1:=ne_of_two x.at_ x.p2 (by simp)
 have n3:=ne_of_two x.w_ x.p2 (by simp)
 exact ⟨by rw [upd_ne n1];exact x.at_,by rw [upd_ne x.ne];exact x.p1,upd_same,by rw [upd_ne n3];exact x.w_,Paired.mapP x.wt fun _ _ q=>by
  unfold TpS at *
  rw [upd_ne (ne_of_two q x.p2 (by simp))];exact q,x.ne,x.nd,nd⟩
theorem ChX.addW {v n:Str}{t:Addr} (x:ChX K H c dx d1 d2 w wt s) (ht:H t=some (.tup [.str v,.str n])):ChX K (L2.upd H w (.lst ((wt ++ [t]).map V.ref))) c dx d1 d2 w (wt ++ [t]) ⟨s.ps,s.cs,s.ws ++ [(v,n)],s.pot,s.giv,s.spt⟩:=by
 have n1:=ne_of_two x.at_ x.w_ (by simp)
 have n2:=ne_of_two x.p1 x.w_ (by simp)
 have n3:=ne_of_two x.p2 x.w_ (by simp)
 refine ⟨by rw [upd_ne n1];exact x.at_,by rw [upd_ne n2];exact x.p1,by rw [upd_ne n3];exact x.p2,upd_same,paired_snoc (Paired.mapP x.wt fun _ _ q=>?_) ?_,x.ne,x.nd,x.nd2⟩
 ·unfold TpS at *
  rw [upd_ne (ne_of_two q x.w_ (by simp))];exact q
 ·unfold TpS
  rw [upd_ne (ne_of_two ht x.w_ (by simp))];exact ht
end
noncomputable def dPS (p:Str×Str):PyData:=.tuple [.str p.1,.str p.2]
theorem dPS_inj {p q:Str×Str} (h:dPS p=dPS q):p=q:=by
 unfold dPS at h
 simp at h
 exact Prod.ext h.1 h.2
theorem dat_ws {K:W.Frag}{H:Hp}{ws:List (Str×Str)}{wt:List Addr} (h:Paired (TpS H) ws wt):DatAll K H (wt.map V.ref) (ws.map dPS):=by
 induction h with
 | nil=>exact .nil
 | cons q _ ih=>exact .cons (.tup (SqT.of q) (.cons (.str _) (.cons (.str _) .nil))) ih
theorem nd_str {n:Nat}{x:Str} (h:Ascii x):niceD n (.str x):=⟨by rw [nice];exact strOk_ascii h,by simp [PyData.depth]⟩
theorem nd_dPS {n:Nat}{p:Str×Str} (h1:Ascii p.1) (h2:Ascii p.2):niceD (n + 1) (dPS p):=nd_tuple fun e he=>by
 rcases List.mem_cons.mp he with rfl | he
 ·exact nd_str h1
 ·rcases List.mem_cons.mp he with rfl | he
  ·exact nd_str h2
  ·cases he
theorem nd_ws {n:Nat}{ws:List (Str×Str)} (h:∀ p∈ws,Ascii p.1∧Ascii p.2):niceD (n + 2) (.list (ws.map dPS)):=nd_list fun d hd=>by
 obtain ⟨p,hp,rfl⟩:=List.mem_map.mp hd
 exact nd_dPS (h p hp).1 (h p hp).2
theorem any_dPS (p:Str×Str):∀ ws:List (Str×Str),((ws.map dPS).any fun y=>Spec.same y (dPS p))=decide (p∈ws)
 | []=>by simp
 | q::r=>by
  rw [List.map_cons,List.any_cons,any_dPS p r,Bool.eq_iff_iff,Bool.or_eq_true,decide_eq_true_eq,decide_eq_true_eq,PyProof.Rows.same_iff,List.mem_cons]
  constructor
  ·rintro (e | e)
   ·exact .inl (dPS_inj e).symm
   ·exact .inr e
  ·rintro (e | e)
   ·exact .inl (by rw [e])
   ·exact .inr e
section
variable {K:W.Frag}{H:Hp}{Q:VK}{t w:Addr}{p:Str×Str}{ws:List (Str×Str)}{wt:List Addr}{neg:Bool}
theorem r_wish (ht:H t=some (.tup [.str p.1,.str p.2])) (hw:H w=some (.lst (wt.map V.ref))) (hp:Paired (TpS H) ws wt) (a1:Ascii p.1) (a2:Ascii p.2) (ha:∀ p∈ws,Ascii p.1∧Ascii p.2) (h:Q (.bl (decide (p∈ws) != neg)) H):rInD K neg (.ref t) (.ref w) H Q:=
 ⟨ws.map dPS,dPS p,.lst (SqL.of hw) (dat_ws hp),.tup (SqT.of ht) (.cons (.str _) (.cons (.str _) .nil)),(nd_ws (n:=2) ha).mono (by decide),(nd_dPS (n:=2) a1 a2).mono (by decide),by rw [any_dPS];exact h⟩
end
noncomputable def TpW (H:Hp) (r:Str×Int×List Str) (t:Addr):Prop:=∃ l:Addr,H t=some (.tup [.str r.1,.int r.2.1,.ref l])∧H l=some (.lst (r.2.2.map V.str))
section
variable {K:W.Frag}{mp:List (Option Nat)}{te td:TE}{σ:St}{H:Hp}{Q:VK}{d:Addr}{kvs:List (Key×V)}
theorem comp_itemsG (htd:∀ k:VK,k (.ref d) H→td σ H k) (hd:H d=some (.dK kvs)) (hz:kvs.length≤sizeLine) (u v:Nat→V) (hu:∀ i q,kvs[i]?=some q→kV q.1=u i∧q.2=v i)
  (st:Nat→St) (hf:∀ i σ',(σ'=liftSt mp σ∨∃ j,σ'=st j)→(σ'.set 0 (some (u i))).set 1 (some (v i))=st i) (R:Addr→Nat→V→Hp→Prop)
  (hR:∀ l i v H1 H2,SameX l H1 H2→R l i v H1→R l i v H2) (hRd:∀ l i v H1 o,H1 d=some (.frz o (.dK kvs))→R l i v H1→R l i v (upd H1 d (.dK kvs)))
  (he:∀ l i,i < kvs.length→∀ (H':Hp) (G:VK),H l=none→(∃ o,H' l=some o)→(∃ o,H' d=some o)→SameX d H H'→(∀ v H'',R l i v H''→Same H' H''→G v H'')→te (st i) H' G)
  (hq:∀ l ys H2,H l=none→Same H H2→H2 l=some (.lst ys)→Paired (fun i v=>R l i v H2) (List.range kvs.length) ys→Q (.ref l) H2):
  tThaw (tComp mp (iItems td) (gTup K 2 (gCons (gName 0) (gCons (gName 1) gNil))) tYes te) σ H Q:=by
 refine ⟨d,kvs,hd,?_⟩
 refine r_comp ?_
 refine htd _ ⟨d,kvs,rfl,hd,fun o w hw hne=>?_⟩
 have hl0:∀ a,upd (upd H w (ViewO w d)) d (.frz o (.dK kvs)) a=none→H a=none:=fun a ha=>by
  by_cases h1:a=d
  ·subst h1;rw [upd_same] at ha;cases ha
  ·rw [upd_ne h1] at ha
   by_cases h2:a=w
   ·subst h2;exact hw
   ·rwa [upd_ne h2] at ha
 have hx:∀ H',Same (upd (upd H w (ViewO w d)) d (.frz o (.dK kvs))) H'→SameX d H H':=fun H' s a x ha h=>by
  have hw2:a≠w:=fun e=>by rw [e,hw] at h;cases h
  exact s _ _ (by rw [upd_ne ha,upd_ne hw2];exact h)
 refine comp_genY (ys_items 0 1 u v hu) st hf (fun H' s=>s _ _ upd_same) hz (fun _=>true) R hR (fun i hi H' G s k=>k H' (Same.refl _)) (fun l i hi _ H' G h0 h1 s k=>he l i hi H' G (hl0 l h0) h1 ⟨_,s _ _ upd_same⟩ (hx H' s) k) fun l ys H' h0 s h1 pr=>?_
 rw [List.filter_eq_self.mpr (fun _ _=>rfl)] at pr
 have hfd:H' d=some (.frz o (.dK kvs)):=s _ _ upd_same
 have hld:l≠d:=fun e=>by rw [e,upd_same] at h0;cases h0
 refine ⟨o,kvs,hfd,hq l ys _ (hl0 l h0) (fun a x ha=>?_) (by rw [upd_ne hld];exact h1) (Paired.mapP pr fun i v q=>hRd l i v H' o hfd q)⟩
 by_cases h1:a=d
 ·subst h1
  rw [upd_same,← hd];exact ha
 ·rw [upd_ne h1]
  exact hx H' s a x h1 ha
end
theorem paired_told {H':Hp}{P:Addr→Prop}{f:Nat→Str×Int×List Str}:∀ {is:List Nat}{ys:List V},Paired (fun i v=>∃ t w,v=V.ref t∧P w∧H' t=some (.tup [.str (f i).1,.int (f i).2.1,.ref w])∧H' w=some (.lst ((f i).2.2.map V.str))) is ys→
  ∃ ts:List Addr,ys=ts.map V.ref∧Paired (TpW H') (is.map f) ts∧∀ t∈ts,∀ x y w,H' t=some (.tup [x,y,.ref w])→P w
 | _,_,.nil=>⟨[],rfl,.nil,fun t ht=>by cases ht⟩
 | _,_,.cons ⟨t,w,e,hp,h1,h2⟩ r=>by
  obtain ⟨ts,e2,p2,q2⟩:=paired_told r
  refine ⟨t::ts,by rw [e,e2];rfl,.cons ⟨w,h1,h2⟩ p2,fun t' ht x y w' h'=>?_⟩
  rcases List.mem_cons.mp ht with rfl | ht
  ·rw [h1] at h'
   injection h' with h'
   injection h' with h'
   simp at h'
   rw [← h'.2.2];exact hp
  ·exact q2 t' ht x y w' h'
theorem names_filt (ps:List (Str×Int)) (P:Str→Bool):(((List.range ps.length).filter fun i=>P (ps.getD i ("",0)).1).map fun i=>V.str (ps.getD i ("",0)).1)=((ps.map (·.1)).filter P).map V.str:=by
 have h:=range_filt (fun p:Str×Int=>P p.1) ("",0) ps
 have e:((ps.map (·.1)).filter P)=(ps.filter fun p=>P p.1).map (·.1):=by rw [List.filter_map];rfl
 rw [e,← h,List.map_map,List.map_map]
 rfl
noncomputable def WorksL (H:Hp) (l:Addr) (ts:List Addr) (rows:List (Str×Int×List Str)):Prop:=H l=some (.lst (ts.map V.ref))∧Paired (TpW H) rows ts
noncomputable def toldC (s:ChSt) (p:Str×Int):Str×Int×List Str:=(p.1,p.2,(s.ps.map (·.1)).filter fun v=>decide ((v,p.1)∈s.ws))
section
variable {K:W.Frag}{H H':Hp}{c lp lw:Addr}{fp L:List Addr}{s:ChSt}{people:List Str}{rows:List WkR}{m:Nat}
end
noncomputable def dW (r:Str×Int×List Str):PyData:=.tuple [.str r.1,.int r.2.1,.list (r.2.2.map PyData.str)]
theorem WorksL.dat {K:W.Frag}{H:Hp}{l:Addr}{ts:List Addr}{rows:List (Str×Int×List Str)} (h:WorksL H l ts rows):DatIs K H (.ref l) (.list (rows.map dW)):=by
 obtain ⟨h1,h2⟩:=h
 refine .lst (SqL.of h1) ?_
 clear h1
 induction h2 with
 | nil=>exact .nil
 | cons q _ ih=>
  obtain ⟨w,g1,g2⟩:=q
  exact .cons (.tup (SqT.of g1) (.cons (.str _) (.cons (.int _) (.cons (.lst (SqL.of g2) (dat_strs _)) .nil)))) ih
theorem nd_works {rows:List (Str×Int×List Str)} (h:∀ r∈rows,Ascii r.1∧∀ z∈r.2.2,Ascii z):niceD 3 (.list (rows.map dW)):=nd_list fun d hd=>by
 obtain ⟨r,hr,rfl⟩:=List.mem_map.mp hd
 refine nd_tuple fun e he=>?_
 rcases List.mem_cons.mp he with rfl | he
 ·exact nd_str (h r hr).1
 ·rcases List.mem_cons.mp he with rfl | he
  ·exact nd_int _
  ·rcases List.mem_cons.mp he with rfl | he
   ·exact nd_strs _ (h r hr).2
   ·cases he
theorem WorksL.but {H H':Hp}{L:List Addr}{l:Addr}{ts:List Addr}{rows:List (Str×Int×List Str)} (h:WorksL H l ts rows) (b:But L H H') (n:l∉L) (nw:∀ t∈ts,∀ x y w,H t=some (.tup [x,y,.ref w])→w∉L):WorksL H' l ts rows:=by
 obtain ⟨h1,h2⟩:=h
 refine ⟨b.1 _ _ n h1,?_⟩
 clear h1
 induction h2 with
 | nil=>exact .nil
 | @cons r t _ _ q _ ih=>
  obtain ⟨w,g1,g2⟩:=q
  exact .cons ⟨w,b.2.1 _ _ g1,b.1 _ _ (nw t (by simp) _ _ _ g1) g2⟩ (ih fun t' ht=>nw t' (by simp [ht]))
theorem WorksL.tup {H:Hp}{l:Addr}{ts:List Addr}{rows:List (Str×Int×List Str)} (h:WorksL H l ts rows):∀ t∈ts,∃ r∈rows,TpW H r t:=by
 obtain ⟨h1,h2⟩:=h
 clear h1
 induction h2 with
 | nil=>intro t ht;cases ht
 | cons q _ ih=>
  intro t' ht
  rcases List.mem_cons.mp ht with rfl | ht
  ·exact ⟨_,by simp,q⟩
  ·obtain ⟨r,hr,z⟩:=ih t' ht
   exact ⟨r,by simp [hr],z⟩
section
variable {K:W.Frag}{H:Hp}{Q:VK}{l:Addr}{zs:List Str}{n:Str}{j:Nat}
end
noncomputable def wantP (s:ChSt) (v:Str):List Nat:=(List.range s.cs.length).filter fun k=>decide ((v,(s.cs.getD k ("",0)).1)∈s.ws)
noncomputable def intsOf (ks:List Nat):List Int:=ks.map fun k:Nat=>(k:Int)
noncomputable def rowsC (s:ChSt):List (List Int):=s.ps.map fun p=>intsOf (wantP s p.1)
noncomputable def grC (s:ChSt):Nat:=tog s.ps.length ^ (s.cs.length + 1)
noncomputable def pursC (s:ChSt):List Int:=s.ps.map fun p=>p.2 * (grC s:Int)
noncomputable def costC (s:ChSt):List Int:=s.cs.map (·.2)
noncomputable abbrev TRow:=Str×Int×List (Str×Int)
noncomputable def toldS (s:ChSt) (x:Nat×Int×List Int):TRow:=((s.cs.getD x.1 ("",0)).1,(s.cs.getD x.1 ("",0)).2,((s.ps.map (·.1)).zip x.2.2).filter fun p=>decide (0 < p.2))
noncomputable def TpT (H:Hp) (x:TRow) (t:Addr):Prop:=∃ r:Addr,H t=some (.tup [.str x.1,.int x.2.1,.ref r])∧RowsL H r x.2.2
noncomputable def ToldL (H:Hp) (l:Addr) (ts:List Addr) (rows:List TRow):Prop:=H l=some (.lst (ts.map V.ref))∧Paired (TpT H) rows ts
theorem TpT.but {H H':Hp}{fp:List Addr}{x:TRow}{t:Addr} (h:TpT H x t) (b:But fp H H') (n:∀ y z r,H t=some (.tup [y,z,.ref r])→r∉fp):TpT H' x t:=by
 obtain ⟨r,h1,h2⟩:=h
 exact ⟨r,b.2.1 _ _ h1,h2.but b (n _ _ _ h1)⟩
theorem ToldL.but {H H':Hp}{fp:List Addr}{l:Addr}{ts:List Addr}{rows:List TRow} (h:ToldL H l ts rows) (b:But fp H H') (n:l∉fp) (nr:∀ t∈ts,∀ y z r,H t=some (.tup [y,z,.ref r])→r∉fp):ToldL H' l ts rows:=by
 obtain ⟨h1,h2⟩:=h
 refine ⟨b.1 _ _ n h1,?_⟩
 clear h1
 induction h2 with
 | nil=>exact .nil
 | cons q _ ih=>exact .cons (q.but b (nr _ (by simp))) (ih fun t ht=>nr t (by simp [ht]))
theorem ToldL.same {H H':Hp}{l:Addr}{ts:List Addr}{rows:List TRow} (h:ToldL H l ts rows) (s:Same H H'):ToldL H' l ts rows:=h.but (But.of (l:=[]) s) (by simp) fun _ _ _ _ _ _=>by simp
theorem ToldL.tup {H H':Hp}{l:Addr}{ts:List Addr}{rows:List TRow} (h:ToldL H l ts rows) {fp:List Addr} (b:But fp H H'):∀ t∈ts,∀ y z r,H' t=some (.tup [y,z,.ref r])→H t=some (.tup [y,z,.ref r]):=by
 obtain ⟨h0,h2⟩:=h
 clear h0
 induction h2 with
 | nil=>intro t ht;cases ht
 | cons q _ ih=>
  intro t ht y z r e
  rcases List.mem_cons.mp ht with rfl | ht
  ·obtain ⟨r',h1,_⟩:=q
   rw [b.2.1 _ _ h1] at e
   rw [h1];exact e
  ·exact ih t ht y z r e
noncomputable def RowsT (H0 H:Hp) (r:Addr) (rows:List (Str×Int)):Prop:=∃ ts:List Addr,H r=some (.lst (ts.map V.ref))∧Paired (fun p t=>H0 t=none∧TpI H p t) rows ts
theorem paired_told3 {H':Hp}{P:Addr→Prop}{f:Nat→TRow}:∀ {is:List Nat}{ys:List V},Paired (fun i v=>∃ t r,v=V.ref t∧P r∧H' t=some (.tup [.str (f i).1,.int (f i).2.1,.ref r])∧RowsL H' r (f i).2.2) is ys→
  ∃ ts:List Addr,ys=ts.map V.ref∧Paired (TpT H') (is.map f) ts∧∀ t∈ts,∀ x y w,H' t=some (.tup [x,y,.ref w])→P w
 | _,_,.nil=>⟨[],rfl,.nil,fun t ht=>by cases ht⟩
 | _,_,.cons ⟨t,w,e,hp,h1,h2⟩ r=>by
  obtain ⟨ts,e2,p2,q2⟩:=paired_told3 r
  refine ⟨t::ts,by rw [e,e2];rfl,.cons ⟨w,h1,h2⟩ p2,fun t' ht x y w' h'=>?_⟩
  rcases List.mem_cons.mp ht with rfl | ht
  ·rw [h1] at h'
   injection h' with h'
   injection h' with h'
   simp at h'
   rw [← h'.2.2];exact hp
  ·exact q2 t' ht x y w' h'
theorem k_vals {K:W.Frag}{H:Hp}{Q:VK}{d:Addr}{kvs:List (Key×V)} (h:H d=some (.dK kvs)) (q:∀ v H1,H v=none→Same H H1→H1 v=some (ViewVO v d)→Q (.ref v) H1):tyV K "dict" (.ref d) H∧rVals (.ref d) [] H Q:=
 ⟨.inr (.inr (.inl ⟨rfl,.inl ⟨kvs,h⟩⟩)),d,kvs,rfl,rfl,h,fun v hv=>q v _ hv (Same.updN hv) upd_same⟩
noncomputable def tRN:TRow:=("",0,[])
theorem ToldL.ys {K:W.Frag}{H:Hp}{l:Addr}{ts:List Addr}{rows:List TRow} (h:ToldL H l ts rows):∃ rs:List Addr,∀ (fp:List Addr) (H':Hp),But fp H H'→l∉fp→
  SqL K H' l (ts.map V.ref)∧∀ (i:Nat) (t:Addr),ts[i]?=some t→SqT K H' t [.str (rows.getD i tRN).1,.int (rows.getD i tRN).2.1,.ref (rs.getD i 0)]:=by
 obtain ⟨h1,h2⟩:=h
 have go:∀ {rows:List TRow}{ts:List Addr},Paired (TpT H) rows ts→∃ rs:List Addr,∀ (i:Nat) (t:Addr),ts[i]?=some t→H t=some (.tup [.str (rows.getD i tRN).1,.int (rows.getD i tRN).2.1,.ref (rs.getD i 0)]):=by
  intro rows ts h
  induction h with
  | nil=>exact ⟨[],fun i t e=>by simp at e⟩
  | cons q _ ih=>
   obtain ⟨rs,hr⟩:=ih
   obtain ⟨r,g1,_⟩:=q
   refine ⟨r::rs,fun i t e=>?_⟩
   cases i with
   | zero=>
    simp at e
    subst e
    exact g1
   | succ i=>exact hr i t (by simpa using e)
 obtain ⟨rs,hr⟩:=go h2
 exact ⟨rs,fun fp H' b n=>⟨SqL.of (b.1 _ _ n h1),fun i t e=>SqT.of (b.2.1 _ _ (hr i t e))⟩⟩
theorem gr_huge {s:ChSt} (g:s.ps.length≤20∧s.cs.length≤12):0 < (grC s:Int)∧((grC s:Nat):Int) < HUGE:=by
 have h1:=togpow_pos s.ps.length (s.cs.length + 1)
 have h2:=togpow_int (v:=s.ps.length) (w:=s.cs.length + 1) g.1 (by have:=g.2;omega)
 have h3:=huge_tog
 unfold grC
 refine ⟨by exact_mod_cast h1,Int.lt_of_le_of_lt h2 (Int.lt_of_le_of_lt ?_ h3)⟩
 decide +kernel
noncomputable def keepS (s:ChSt) (left:List Int) (g:Int):ChSt:={s with pot:=s.pot + (left.map (· % g)).sum / g,ps:=(s.ps.map (·.1)).zip (left.map (· / g))}
noncomputable def closeP (s:ChSt) (left:List Int) (g:Int) (rs:List TRow):ChSt:=
 ⟨(s.ps.map (·.1)).zip (left.map (· / g)),s.cs.filter fun p=>decide (p.1∉rs.map (·.1)),s.ws.filter fun p=>decide (p.2∉rs.map (·.1)),s.pot + (left.map (· % g)).sum / g,s.giv,s.spt + (rs.map (·.2.1)).sum⟩
theorem closeP_nil (s:ChSt) (left:List Int) (g:Int):closeP s left g []=keepS s left g:=by
 unfold closeP keepS
 simp
structure GoodS (s:ChSt):Prop where
 v20:s.ps.length≤20
 n12:s.cs.length≤12
 ap:∀ p∈s.ps,Ascii p.1
 ac:∀ p∈s.cs,Ascii p.1
 aw:∀ p∈s.ws,Ascii p.1∧Ascii p.2
 cb:∀ p∈s.cs,1≤p.2∧p.2≤1000000000000
 p0:∀ p∈s.ps,0≤p.2∧p.2≤1000000000000
 wl:s.ws.length≤900
theorem GoodS.town {s:ChSt} (g:GoodS s) (h:s.ps≠[]):GoodT (costC s) (rowsC s) (pursC s) where
 c12:=by simp [costC];exact g.n12
 cb:=fun x hx=>by
  obtain ⟨p,hp,rfl⟩:=List.mem_map.mp hx
  exact g.cb p hp
 v1:=by simp [rowsC];exact List.length_pos_iff.mpr h
 v20:=by simp [rowsC];exact g.v20
 pl:=by simp [pursC,rowsC]
 p0:=fun x hx=>by
  obtain ⟨p,hp,rfl⟩:=List.mem_map.mp hx
  exact Int.mul_nonneg (g.p0 p hp).1 (Int.natCast_nonneg _)
 pd:=fun x hx=>by
  obtain ⟨p,hp,rfl⟩:=List.mem_map.mp hx
  have e1:(rowsC s).length=s.ps.length:=by simp [rowsC]
  have e2:(costC s).length=s.cs.length:=by simp [costC]
  rw [e1,e2]
  exact Int.dvd_trans (pow_dvd_int (Nat.le_succ _)) (Int.dvd_mul_left _ _)
theorem getD_mem {α:Type}{xs:List α}{i:Nat} (d:α) (h:i < xs.length):xs.getD i d∈xs:=by
 rw [List.getD_eq_getElem?_getD,List.getElem?_eq_getElem h]
 exact List.getElem_mem h
theorem closeP_snoc (s:ChSt) (left:List Int) (g:Int) (rs:List TRow) (r:TRow):closeP s left g (rs ++ [r])=
  {closeP s left g rs with spt:=(closeP s left g rs).spt + r.2.1,cs:=(closeP s left g rs).cs.filter fun p=>decide (p.1≠r.1),ws:=(closeP s left g rs).ws.filter fun p=>!decide (p.2=r.1)}:=by
 unfold closeP
 simp only [List.map_append,List.sum_append,List.filter_filter,List.map_cons,List.map_nil,List.sum_cons,List.sum_nil,ChSt.mk.injEq,true_and]
 refine ⟨?_,?_,by omega⟩
 ·refine List.filter_congr fun p _=>?_
  rw [Bool.eq_iff_iff]
  simp
  exact And.comm
 ·refine List.filter_congr fun p _=>?_
  rw [Bool.eq_iff_iff]
  simp
  exact And.comm
theorem nodup_at {ps:List (Str×Int)} (nd:(ps.map (·.1)).Nodup) {i j:Nat} (hi:i < ps.length) (hj:j < ps.length) (h:(ps.getD i ("",0)).1=(ps.getD j ("",0)).1):i=j:=by
 rw [List.getD_eq_getElem?_getD,List.getD_eq_getElem?_getD,List.getElem?_eq_getElem hi,List.getElem?_eq_getElem hj] at h
 have h:(ps[i]).1=(ps[j]).1:=h
 rcases Nat.lt_trichotomy i j with c | c | c
 ·have:=List.pairwise_iff_getElem.mp nd i j (by simpa using hi) (by simpa using hj) c
  simp at this
  exact absurd h this
 ·exact c
 ·have:=List.pairwise_iff_getElem.mp nd j i (by simpa using hj) (by simpa using hi) c
  simp at this
  exact absurd h.symm this
noncomputable def Mv (l l':List Addr) (H H':Hp):Prop:=But l H H'∧New l l' H
theorem Mv.trans {l l1 l2:List Addr}{H H1 H2:Hp} (a:Mv l l1 H H1) (b:Mv l1 l2 H1 H2):Mv l l2 H H2:=by
 refine ⟨⟨fun c o n h=>?_,fun c xs h=>b.1.2.1 _ _ (a.1.2.1 _ _ h),fun c h=>a.1.2.2 _ (b.1.2.2 _ h)⟩,fun c h=>?_⟩
 ·refine b.1.1 c o (fun m=>?_) (a.1.1 c o n h)
  rcases a.2 c m with z | z
  ·exact n z
  ·rw [h] at z;cases z
 ·rcases b.2 c h with z | z
  ·exact a.2 c z
  ·exact .inr (a.1.2.2 c z)
theorem Mv.same {l:List Addr}{H H':Hp} (s:Same H H'):Mv l l H H':=⟨But.of s,New.refl⟩
theorem Mv.out {l l':List Addr}{H H':Hp} (a:Mv l l' H H') {x:Addr}{o:HO} (h:H x=some o) (n:x∉l):x∉l':=fun m=>by
 rcases a.2 x m with z | z
 ·exact n z
 ·rw [h] at z;cases z
structure PeoS (cell:Int) (m:Nat) (s:ChSt):Prop where
 en:s.ps.map (·.1)=(List.range m).map (nameF cell)
 cs:s.cs=[]
 ws:s.ws=[]
 p0:∀ p∈s.ps,0≤p.2
 pot:0≤s.pot
 spt:s.spt=0
 le:s.pot≤s.giv
 lp:∀ p∈s.ps,p.2 + s.pot≤s.giv
 gb:s.giv≤1000000000 * (m:Int)
theorem PeoS.nil (cell:Int):PeoS cell 0 ⟨[],[],[],0,0,0⟩:=⟨rfl,rfl,rfl,(by intro p h;cases h),Int.le_refl _,rfl,Int.le_refl _,(by intro p h;cases h),Int.le_refl _⟩
theorem PeoS.len {cell:Int}{m:Nat}{s:ChSt} (h:PeoS cell m s):s.ps.length=m:=by
 have:=congrArg List.length h.en
 simpa using this
theorem PeoS.step {cell:Int}{m:Nat}{s:ChSt}{x:Int} (h:PeoS cell m s) (x0:0≤x) (x1:x≤1000000000):PeoS cell (m + 1) (giveS {s with ps:=s.ps ++ [(nameF cell m,0)]} x):=by
 have hne:(s.ps ++ [(nameF cell m,0)])≠[]:=by simp
 unfold giveS
 rw [if_neg hne]
 have hn:1≤(((s.ps ++ [(nameF cell m,0)]).length:Nat):Int):=by
  have:=List.length_pos_iff.mpr hne
  omega
 have hp:=h.pot
 show PeoS cell (m + 1) (shareS {s with ps:=s.ps ++ [(nameF cell m,0)],pot:=s.pot + x,giv:=s.giv + x} ((s.pot + x) / ((s.ps ++ [(nameF cell m,0)]).length:Int)))
 have q0:0≤(s.pot + x) / ((s.ps ++ [(nameF cell m,0)]).length:Int):=Int.ediv_nonneg (by omega) (by omega)
 have q1:(s.pot + x) / ((s.ps ++ [(nameF cell m,0)]).length:Int) * ((s.ps ++ [(nameF cell m,0)]).length:Int)≤s.pot + x:=Int.ediv_mul_le _ (by omega)
 have q2:(s.pot + x) / ((s.ps ++ [(nameF cell m,0)]).length:Int) * 1≤(s.pot + x) / ((s.ps ++ [(nameF cell m,0)]).length:Int) * ((s.ps ++ [(nameF cell m,0)]).length:Int):=Int.mul_le_mul_of_nonneg_left hn q0
 unfold shareS
 generalize (s.pot + x) / ((s.ps ++ [(nameF cell m,0)]).length:Int)=part at *
 generalize part * ((s.ps ++ [(nameF cell m,0)]).length:Int)=pl at *
 have hmem:∀ p∈s.ps ++ [(nameF cell m,0)],0≤p.2∧p.2 + s.pot≤s.giv:=fun p hp'=>by
  rcases List.mem_append.mp hp' with z | z
  ·exact ⟨h.p0 p z,h.lp p z⟩
  ·rw [List.mem_singleton.mp z]
   exact ⟨Int.le_refl _,by have:=h.le;show 0 + s.pot≤s.giv;omega⟩
 have hle:=h.le
 have hgb:=h.gb
 refine ⟨?_,h.cs,h.ws,fun p hp'=>?_,?_,h.spt,?_,fun p hp'=>?_,?_⟩
 ·show List.map (fun p:Str×Int=>p.1) (List.map (fun p:Str×Int=>(p.1,p.2 + part)) (s.ps ++ [(nameF cell m,0)]))=_
  rw [map_fst,List.map_append,h.en,List.range_succ,List.map_append]
  rfl
 ·obtain ⟨p',hm,rfl⟩:=List.mem_map.mp hp'
  have:=(hmem p' hm).1
  show 0≤p'.2 + part
  omega
 ·show 0≤s.pot + x - pl
  omega
 ·show s.pot + x - pl≤s.giv + x
  omega
 ·obtain ⟨p',hm,rfl⟩:=List.mem_map.mp hp'
  have:=(hmem p' hm).2
  show p'.2 + part + (s.pot + x - pl)≤s.giv + x
  omega
 ·show s.giv + x≤_
  push_cast
  omega
structure LawS (cv cw:Int) (m n:Nat) (s:ChSt):Prop where
 en:s.ps.map (·.1)=(List.range m).map (nameF cv)
 ec:s.cs.map (·.1)=(List.range n).map (nameF cw)
 p0:∀ p∈s.ps,0≤p.2∧p.2≤1000000000000
 cb:∀ p∈s.cs,1≤p.2∧p.2≤1000000000
 aw:∀ p∈s.ws,p.1∈s.ps.map (·.1)∧p.2∈s.cs.map (·.1)
 wl:s.ws.length≤900
 spt:s.spt=0
 pot:0≤s.pot
 le:s.pot≤s.giv
theorem LawS.good {cv cw:Int}{m n:Nat}{s:ChSt} (h:LawS cv cw m n s) (hm:m≤20) (hn:n≤12):GoodS s:=by
 have nmp:∀ z∈s.ps.map (·.1),Ascii z:=fun z hz=>by
  rw [h.en] at hz
  obtain ⟨k,_,rfl⟩:=List.mem_map.mp hz
  exact nm_ascii (nameF_nm _ _)
 have nmc:∀ z∈s.cs.map (·.1),Ascii z:=fun z hz=>by
  rw [h.ec] at hz
  obtain ⟨k,_,rfl⟩:=List.mem_map.mp hz
  exact nm_ascii (nameF_nm _ _)
 refine ⟨?_,?_,fun p hp=>nmp _ (List.mem_map.mpr ⟨p,hp,rfl⟩),fun p hp=>nmc _ (List.mem_map.mpr ⟨p,hp,rfl⟩),fun p hp=>⟨nmp _ (h.aw p hp).1,nmc _ (h.aw p hp).2⟩,fun p hp=>?_,h.p0,h.wl⟩
 ·have:=congrArg List.length h.en
  simp at this
  omega
 ·have:=congrArg List.length h.ec
  simp at this
  omega
 ·have:=h.cb p hp
  omega
section
variable {K:W.Frag}{σ:St}{H:Hp}{Q:VK}{l:Addr}
theorem comp_first {ts:List Addr}{ns:List Str} (hl:SqL K H l (ts.map V.ref)) (hn:ts.length=ns.length) (hz:ts.length≤1000) (ht:∀ (j:Nat) (t:Addr) (z:Str),ts[j]?=some t→ns[j]?=some z→∃ rest,H t=some (.tup (.str z::rest)))
  (q:∀ p H',H p=none→Same H H'→H' p=some (.lst (ns.map V.str))→Q (.ref p) H'):tCompK [none] (gName 0) tYes (tOp (rIxT K) (tVar 0) (tC (.int 0))) (Itl K l) σ H Q:=by
 have hm:(ts.map V.ref).length=ts.length:=by simp
 refine comp_mapY (ys_list (K:=K) (xs:=ts.map V.ref) 0) (fun j=>[some ((ts.map V.ref).getD j .non)]) (by rintro j σ' (rfl | ⟨k,rfl⟩) <;> rfl) (fun H' s'=>s'.seq hl) (by rw [hm];exact Nat.le_trans hz line64) (fun j=>.str (ns.getD j "")) ?_ ?_
 ·intro j hj H' G s' kk
  rw [hm] at hj
  obtain ⟨rest,hr⟩:=ht j ts[j] ns[j] (by simp [hj]) (by simp)
  have et:(ts.map V.ref).getD j .non=.ref ts[j]:=by simp [List.getD,hj]
  have en:ns.getD j ""=ns[j]:=by rw [List.getD_eq_getElem?_getD,List.getElem?_eq_getElem (by omega)];rfl
  rw [et]
  walk_at "s1"
  refine r_ixT (SqT.of (s' _ _ hr)) (atI_nat (j:=0) rfl) ?_
  have kk:=kk H' (Same.refl _)
  rw [en] at kk
  exact kk
 intro p H' f s h
 rw [hm,hn,show (List.range ns.length).map (fun j=>V.str (ns.getD j ""))=ns.map V.str from range_getD' V.str "" ns] at h
 exact q p H' f s h
end
theorem RowsL.firsts {H:Hp}{l:Addr}{rows:List (Str×Int)} (h:RowsL H l rows):∃ ts:List Addr,H l=some (.lst (ts.map V.ref))∧ts.length=(rows.map (·.1)).length∧∀ (j:Nat) (t:Addr) (z:Str),ts[j]?=some t→(rows.map (·.1))[j]?=some z→∃ rest,H t=some (.tup (.str z::rest)):=by
 obtain ⟨ts,h1,h2⟩:=h
 refine ⟨ts,h1,by rw [List.length_map];exact (Paired.length h2).symm,fun j t z ht hz=>?_⟩
 rw [List.getElem?_map] at hz
 cases hr:rows[j]? with
 | none=>rw [hr] at hz;cases hz
 | some r=>
  rw [hr] at hz
  cases hz
  obtain ⟨t',e,q⟩:=pair_get h2 hr
  rw [ht] at e
  cases e
  exact ⟨_,q⟩
theorem WorksL.firsts {H:Hp}{l:Addr}{ts:List Addr}{rows:List (Str×Int×List Str)} (h:WorksL H l ts rows):ts.length=(rows.map (·.1)).length∧∀ (j:Nat) (t:Addr) (z:Str),ts[j]?=some t→(rows.map (·.1))[j]?=some z→∃ rest,H t=some (.tup (.str z::rest)):=by
 obtain ⟨h1,h2⟩:=h
 refine ⟨by rw [List.length_map];exact (Paired.length h2).symm,fun j t z ht hz=>?_⟩
 rw [List.getElem?_map] at hz
 cases hr:rows[j]? with
 | none=>rw [hr] at hz;cases hz
 | some r=>
  rw [hr] at hz
  cases hz
  obtain ⟨t',e,w,q,_⟩:=pair_get h2 hr
  rw [ht] at e
  cases e
  exact ⟨_,q⟩
theorem Mv.put {l l':List Addr}{H H':Hp}{x:Addr}{o:HO} (a:Mv l l' H H') (h0:H x=none):Mv l l' H (upd H' x o):=by
 refine ⟨⟨fun c u n h=>?_,fun c xs h=>?_,fun c h=>?_⟩,a.2⟩
 ·rw [upd_ne (fun e=>by rw [e,h0] at h;cases h)];exact a.1.1 c u n h
 ·rw [upd_ne (fun e=>by rw [e,h0] at h;cases h)];exact a.1.2.1 c xs h
 ·by_cases e:c=x
  ·rw [e];exact h0
  ·rw [upd_ne e] at h;exact a.1.2.2 c h
noncomputable def WsAt (H:Hp) (l:Addr) (fp:List Addr) (rows:List (List Int)):Prop:=l∉fp∧∃ bs:List Addr,H l=some (.lst (bs.map V.ref))∧Paired (fun r b=>b≠l∧b∉fp∧H b=some (.lst (r.map V.int))) rows bs
theorem WsAt.mv {H H':Hp}{l:Addr}{fp fp':List Addr}{rows:List (List Int)} (h:WsAt H l fp rows) (m:Mv fp fp' H H'):WsAt H' l fp' rows:=by
 obtain ⟨n,bs,h1,h2⟩:=h
 exact ⟨m.out h1 n,bs,m.1.1 _ _ n h1,Paired.mapP h2 fun _ b q=>⟨q.1,m.out q.2.2 q.2.1,m.1.1 _ _ q.2.1 q.2.2⟩⟩
theorem WsAt.rows {K:W.Frag}{H:Hp}{l:Addr}{fp:List Addr}{rows:List (List Int)} (h:WsAt H l fp rows):RowsAt K H l rows:=by
 obtain ⟨_,bs,h1,h2⟩:=h
 exact ⟨bs,SqL.of h1,Paired.mapP h2 fun _ _ q=>SqL.of q.2.2⟩
theorem WsAt.set {H:Hp}{l b:Addr}{fp:List Addr}{rows:List (List Int)}{r:List Int}{i:Nat} (h:WsAt H l fp rows) (hi:i < rows.length) (hb:H b=some (.lst (r.map V.int))) (hn:b≠l) (hf:b∉fp):
  ∃ xs,H l=some (.lst xs)∧xs.length=rows.length∧WsAt (upd H l (.lst (xs.set i (.ref b)))) l fp (rows.set i r):=by
 obtain ⟨n,bs,h1,h2⟩:=h
 refine ⟨_,h1,by rw [List.length_map];exact (Paired.length h2).symm,n,bs.set i b,by rw [upd_same,List.map_set],?_⟩
 have hl:=Paired.length h2
 refine paired_of_get (by simp [hl]) fun j x t hx ht=>?_
 have hj:j < rows.length:=by have:=(List.getElem?_eq_some_iff.mp hx).1;simpa using this
 by_cases e:i=j
 ·subst e
  rw [List.getElem?_set_self hi] at hx
  rw [List.getElem?_set_self (by omega)] at ht
  cases hx
  cases ht
  exact ⟨hn,hf,by rw [upd_ne hn];exact hb⟩
 ·rw [List.getElem?_set_ne e] at hx ht
  obtain ⟨r',hr',hq⟩:=paired_at' h2 ht
  rw [hx] at hr'
  cases hr'
  exact ⟨hq.1,hq.2.1,by rw [upd_ne hq.1];exact hq.2.2⟩
theorem WsAt.row {H:Hp}{l:Addr}{fp:List Addr}{rows:List (List Int)} (h:WsAt H l fp rows) {i:Nat} (hi:i < rows.length):∃ xs b,H l=some (.lst xs)∧xs[i]?=some (.ref b)∧H b=some (.lst ((rows.getD i []).map V.int)):=by
 obtain ⟨_,bs,h1,h2⟩:=h
 have hl:=Paired.length h2
 have hib:i < bs.length:=by omega
 obtain ⟨r,hr,hq⟩:=paired_at' h2 (show bs[i]?=some bs[i] by simp [hib])
 refine ⟨_,bs[i],h1,by simp [hib],?_⟩
 have:rows.getD i []=r:=by rw [List.getD,hr];rfl
 rw [this]
 exact hq.2.2
noncomputable def addWs (ws:List (Str×Str)) (v n:Str):List (Str×Str):=if (v,n)∈ws then ws else ws ++ [(v,n)]
theorem mem_addWs {ws:List (Str×Str)}{v n:Str}{p:Str×Str}:p∈addWs ws v n↔p∈ws∨p=(v,n):=by
 unfold addWs
 by_cases h:(v,n)∈ws
 ·rw [if_pos h]
  exact ⟨.inl,fun z=>z.elim id fun e=>by rw [e];exact h⟩
 ·rw [if_neg h]
  simp
theorem addWs_len (ws:List (Str×Str)) (v n:Str):(addWs ws v n).length≤ws.length + 1:=by
 unfold addWs
 split <;> simp
theorem mem_intsOf {ks:List Nat}{x:Int}:x∈intsOf ks↔∃ k∈ks,(k:Int)=x:=by
 unfold intsOf
 rw [List.mem_map]
theorem wantP_nodup (s:ChSt) (v:Str):(intsOf (wantP s v)).Nodup:=by
 unfold intsOf
 refine List.Pairwise.map _ (fun a b h=>?_) (List.Pairwise.filter _ (List.pairwise_lt_range (n:=s.cs.length)))
 omega
theorem wantP_le (s:ChSt) (v:Str):(intsOf (wantP s v)).Pairwise (·≤·):=by
 unfold intsOf
 refine List.Pairwise.map _ (fun a b h=>?_) (List.Pairwise.filter _ (List.pairwise_lt_range (n:=s.cs.length)))
 omega
theorem mem_wantP {s:ChSt}{v:Str}{k:Nat}:k∈wantP s v↔k < s.cs.length∧(v,(s.cs.getD k ("",0)).1)∈s.ws:=by
 unfold wantP
 rw [List.mem_filter,List.mem_range,decide_eq_true_eq]
theorem row_add {s:ChSt}{ws:List (Str×Str)}{v:Str}{j:Nat}{ms:List Int} (nd:(s.cs.map (·.1)).Nodup) (hj:j < s.cs.length)
  (hp:ms.Perm ((intsOf (wantP {s with ws:=ws} v)).filter (fun x=>!decide (x=(j:Int))) ++ [(j:Int)])) (hs:ms.Pairwise (·≤·)):ms=intsOf (wantP {s with ws:=addWs ws v (s.cs.getD j ("",0)).1} v):=by
 refine List.Perm.eq_of_pairwise (le:=(·≤·)) (fun a b _ _ h1 h2=>Int.le_antisymm h1 h2) hs (wantP_le _ _) (hp.trans ?_)
 refine (List.perm_ext_iff_of_nodup ?_ (wantP_nodup _ _)).mpr fun x=>?_
 ·rw [List.nodup_append]
  refine ⟨List.Pairwise.filter _ (wantP_nodup _ _),by simp,fun a ha b hb=>?_⟩
  have:=(List.mem_filter.mp ha).2
  rw [List.mem_singleton.mp hb]
  simpa using this
 ·rw [List.mem_append,List.mem_filter,List.mem_singleton,mem_intsOf,mem_intsOf]
  constructor
  ·rintro (⟨⟨k,hk,rfl⟩,_⟩ | rfl)
   ·have hk:=mem_wantP.mp hk
    exact ⟨k,mem_wantP.mpr ⟨hk.1,mem_addWs.mpr (.inl hk.2)⟩,rfl⟩
   ·exact ⟨j,mem_wantP.mpr ⟨hj,mem_addWs.mpr (.inr rfl)⟩,rfl⟩
  ·rintro ⟨k,hk,rfl⟩
   obtain ⟨h1,h2⟩:=mem_wantP.mp hk
   by_cases e:k=j
   ·exact .inr (by rw [e])
   ·refine .inl ⟨⟨k,mem_wantP.mpr ⟨h1,?_⟩,rfl⟩,by simp;omega⟩
    rcases mem_addWs.mp h2 with z | z
    ·exact z
    ·exact absurd (nodup_at nd h1 hj (congrArg Prod.snd z)) e
theorem rowsC_add {s:ChSt}{ws:List (Str×Str)}{i j:Nat} (nd:(s.ps.map (·.1)).Nodup) (hi:i < s.ps.length):
  rowsC {s with ws:=addWs ws (s.ps.getD i ("",0)).1 (s.cs.getD j ("",0)).1}=(rowsC {s with ws:=ws}).set i (intsOf (wantP {s with ws:=addWs ws (s.ps.getD i ("",0)).1 (s.cs.getD j ("",0)).1} (s.ps.getD i ("",0)).1)):=by
 refine List.ext_getElem (by simp [rowsC]) fun k h1 h2=>?_
 have hk:k < s.ps.length:=by simpa [rowsC] using h1
 by_cases e:i=k
 ·subst e
  rw [List.getElem_set_self]
  simp [rowsC,List.getD,hi]
 ·rw [List.getElem_set_ne e]
  simp only [rowsC,List.getElem_map]
  congr 1
  unfold wantP
  refine List.filter_congr fun q _=>?_
  refine decide_eq_decide.mpr ?_
  show _∈addWs ws _ _↔_
  rw [mem_addWs]
  refine ⟨fun z=>z.elim id fun y=>?_,.inl⟩
  have y:=congrArg Prod.fst y
  have:=nodup_at nd hk hi (by rw [List.getD_eq_getElem?_getD,List.getElem?_eq_getElem hk];exact y)
  exact absurd this.symm e
theorem rowsC_len (s:ChSt):(rowsC s).length=s.ps.length:=by simp [rowsC]
theorem rowsC_get {s:ChSt}{i:Nat} (h:i < s.ps.length):(rowsC s).getD i []=intsOf (wantP s (s.ps.getD i ("",0)).1):=by simp [rowsC,List.getD,h]
theorem rowsC_nil {s:ChSt}:rowsC {s with ws:=[]}=s.ps.map fun _=>[]:=by
 unfold rowsC
 refine List.map_congr_left fun p _=>?_
 unfold wantP
 rw [List.filter_eq_nil_iff.mpr (fun k _=>by simp)]
 rfl
theorem same_nil (ds:List PyData):Spec.same (.list ds) (.list [])=decide (ds=[]):=by
 rw [Bool.eq_iff_iff,PyProof.Rows.same_iff,decide_eq_true_eq]
 simp
section
variable {K:W.Frag}{H:Hp}{Q:VK}{a l:Addr}{n:Nat}{ds:List PyData}
theorem r_neNilD (h1:DatIs K H (.ref a) (.list ds)) (hd:niceD (n + 1) (.list ds)) (h2:H l=some (.lst [])) (hn:n + 1≤64) (h:Q (.bl (!decide (ds=[]))) H):rEqD K true (.ref a) (.ref l) H Q:=
 L2.r_neDD h1 (.lst (SqL.of h2) .nil) hd (nd_list fun d hd=>by cases hd) hn (by rw [same_nil];exact h)
end
noncomputable def Kept (H0:Hp) (xs fp:List Addr) (H:Hp):Prop:=∀ x∈xs,x∉fp∧∃ o,H0 x=some o∧H x=some o
theorem Kept.mv {H0 H H':Hp}{xs fp fp':List Addr} (k:Kept H0 xs fp H) (m:Mv fp fp' H H'):Kept H0 xs fp' H':=fun x hx=>by
 obtain ⟨n,o,h0,h1⟩:=k x hx
 exact ⟨m.out h1 n,o,h0,m.1.1 _ _ n h1⟩
theorem Kept.put {H0 H:Hp}{xs fp:List Addr}{y:Addr}{o:HO} (k:Kept H0 xs fp H) (n:y∉xs):Kept H0 xs fp (upd H y o):=fun x hx=>by
 obtain ⟨n1,o',h0,h1⟩:=k x hx
 exact ⟨n1,o',h0,by rw [upd_ne (fun e=>n (by rw [← e];exact hx))];exact h1⟩
theorem Kept.at {H0 H:Hp}{xs fp:List Addr}{x:Addr}{o:HO} (k:Kept H0 xs fp H) (hx:x∈xs) (h:H0 x=some o):H x=some o:=by
 obtain ⟨_,o',h0,h1⟩:=k x hx
 rw [h0] at h
 rw [h1];exact h
theorem Kept.same {H0 H H':Hp}{xs fp:List Addr} (k:Kept H0 xs fp H) (s:Same H H'):Kept H0 xs fp H':=k.mv (Mv.same s)
theorem mod_at {α:Type}{l:List α} (x:Int) (h:l≠[]):∃ j:Nat,x % (l.length:Int)=(j:Int)∧j < l.length:=by
 have hp:0 < l.length:=List.length_pos_iff.mpr h
 have a1:=Int.emod_nonneg x (show (l.length:Int)≠0 by omega)
 have a2:=Int.emod_lt_of_pos x (show 0 < (l.length:Int) by omega)
 exact ⟨(x % (l.length:Int)).toNat,by omega,by omega⟩
theorem toldS_eq {s:ChSt}{x:Nat×Int×List Int} (hl:x.2.2.length=s.ps.length):(toldS s x).2.2=((List.range s.ps.length).filter fun i=>decide (0 < x.2.2.getD i 0)).map fun i=>((s.ps.getD i ("",0)).1,x.2.2.getD i 0):=by
 show ((s.ps.map (·.1)).zip x.2.2).filter (fun p=>decide (0 < p.2))=_
 have hz:((s.ps.map (·.1)).zip x.2.2)=(List.range s.ps.length).map fun i=>((s.ps.getD i ("",0)).1,x.2.2.getD i 0):=by
  apply List.ext_getElem (by simp;omega)
  intro i g1 g2
  have gi:i < s.ps.length:=by simpa using g2
  simp [List.getD_eq_getElem?_getD,gi,show i < x.2.2.length by omega]
 rw [hz,List.filter_map]
 rfl
theorem RowsL.at {H:Hp}{l:Addr}{rows:List (Str×Int)} (h:RowsL H l rows):∃ ts:List Addr,H l=some (.lst (ts.map V.ref))∧ts.length=rows.length∧∀ i,i < rows.length→∃ t,ts[i]?=some t∧H t=some (.tup [.str (rows.getD i ("",0)).1,.int (rows.getD i ("",0)).2]):=by
 obtain ⟨ts,h1,h2⟩:=h
 refine ⟨ts,h1,(Paired.length h2).symm,fun i hi=>?_⟩
 obtain ⟨t,e,q⟩:=pair_get h2 (List.getElem?_eq_getElem hi)
 have g:rows.getD i ("",0)=rows[i]:=by simp [List.getD,hi]
 exact ⟨t,e,by rw [g];exact q⟩
noncomputable def wN:Str×Int×List Str:=("",0,[])
theorem WorksL.at {H:Hp}{l:Addr}{ts:List Addr}{rows:List (Str×Int×List Str)} (h:WorksL H l ts rows):ts.length=rows.length∧∀ i,i < rows.length→∃ t w,ts[i]?=some t∧H t=some (.tup [.str (rows.getD i wN).1,.int (rows.getD i wN).2.1,.ref w])∧H w=some (.lst ((rows.getD i wN).2.2.map V.str)):=by
 obtain ⟨h1,h2⟩:=h
 refine ⟨(Paired.length h2).symm,fun i hi=>?_⟩
 obtain ⟨t,e,w,q1,q2⟩:=pair_get h2 (List.getElem?_eq_getElem hi)
 have g:rows.getD i wN=rows[i]:=by simp [List.getD,hi]
 exact ⟨t,w,e,by rw [g];exact q1,by rw [g];exact q2⟩
theorem map_getD {α β:Type} (f:α→β) (d:α) (e:β) {xs:List α}{i:Nat} (h:i < xs.length):(xs.map f).getD i e=f (xs.getD i d):=by simp [List.getD,h]
noncomputable def ToldM (H:Hp) (l:Addr) (us:List Addr) (rows:List TRow):Prop:=ToldL H l us rows∧∀ t∈us,∀ y z r,H t=some (.tup [y,z,.ref r])→r≠l
theorem ToldM.same {H H':Hp}{l:Addr}{us:List Addr}{rows:List TRow} (h:ToldM H l us rows) (s:Same H H'):ToldM H' l us rows:=
 ⟨h.1.same s,fun t ht y z r e=>h.2 t ht y z r (h.1.tup (But.of (l:=[]) s) t ht y z r e)⟩
theorem ToldM.snoc {H:Hp}{l t r:Addr}{us:List Addr}{rows:List TRow}{x:TRow} (h:ToldM H l us rows) (ht:H t=some (.tup [.str x.1,.int x.2.1,.ref r])) (hr:RowsL H r x.2.2) (hn:r≠l):
  ToldM (upd H l (.lst ((us ++ [t]).map V.ref))) l (us ++ [t]) (rows ++ [x]):=by
 have b:But [l] H (upd H l (.lst ((us ++ [t]).map V.ref))):=But.upd h.1.1 (by intro xs z;cases z) (by simp)
 refine ⟨⟨upd_same,paired_snoc ?_ ?_⟩,fun t' ht' y z r' e=>?_⟩
 ·have h2:=h.1.2
  have h3:=h.2
  clear h ht
  generalize upd H l (.lst ((us ++ [t]).map V.ref))=H' at *
  induction h2 with
  | nil=>exact .nil
  | cons q _ ih=>exact .cons (q.but b fun y z r' e=>by simpa using h3 _ (by simp) y z r' e) (ih fun t' ht'=>h3 t' (by simp [ht']))
 ·exact ⟨r,b.2.1 _ _ ht,hr.but b (by simpa using hn)⟩
 ·rcases List.mem_append.mp ht' with m | m
  ·exact h.2 t' m y z r' (h.1.tup b t' m y z r' e)
  ·rw [List.mem_singleton.mp m,b.2.1 _ _ ht] at e
   injection e with e
   injection e with e
   simp at e
   rw [← e.2.2];exact hn
noncomputable def dT (x:TRow):PyData:=.tuple [.str x.1,.int x.2.1,.list (x.2.2.map dRowI)]
theorem ToldL.dat {K:W.Frag}{H:Hp}{l:Addr}{us:List Addr}{rows:List TRow} (h:ToldL H l us rows):DatIs K H (.ref l) (.list (rows.map dT)):=by
 obtain ⟨h1,h2⟩:=h
 refine .lst (SqL.of h1) ?_
 clear h1
 induction h2 with
 | nil=>exact .nil
 | cons q _ ih=>
  obtain ⟨r,g1,g2⟩:=q
  exact .cons (.tup (SqT.of g1) (.cons (.str _) (.cons (.int _) (.cons g2.dat .nil)))) ih
theorem nd_told {rows:List TRow} (h:∀ r∈rows,Ascii r.1∧∀ p∈r.2.2,Ascii p.1):niceD 4 (.list (rows.map dT)):=nd_list fun d hd=>by
 obtain ⟨r,hr,rfl⟩:=List.mem_map.mp hd
 refine nd_tuple fun e he=>?_
 rcases List.mem_cons.mp he with rfl | he
 ·exact nd_str (h r hr).1
 ·rcases List.mem_cons.mp he with rfl | he
  ·exact nd_int _
  ·rcases List.mem_cons.mp he with rfl | he
   ·exact nd_rowsI (h r hr).2
   ·cases he
theorem told_ascii {s:ChSt} (G:GoodS s) {sts:List (Nat×Int×List Int)} (hb:∀ x∈sts,x.1 < s.cs.length):∀ r∈sts.map (toldS s),Ascii r.1∧∀ p∈r.2.2,Ascii p.1:=fun r hr=>by
 obtain ⟨x,hx,rfl⟩:=List.mem_map.mp hr
 refine ⟨G.ac _ (getD_mem _ (hb x hx)),fun p hp=>?_⟩
 have hp:=(List.mem_filter.mp hp).1
 have:=(List.of_mem_zip (a:=p.1) (b:=p.2) hp).1
 obtain ⟨q,hq,e⟩:=List.mem_map.mp this
 rw [← e];exact G.ap q hq
theorem told_len {s:ChSt}{x:Nat×Int×List Int} (h:s.ps.length≤20):(toldS s x).2.2.length≤20:=by
 refine Nat.le_trans (List.length_filter_le _ _) ?_
 simp
 omega
theorem leftOf_len (ps:List Int) (sts:List (Nat×Int×List Int)):(leftOf ps sts).length=ps.length:=by simp [leftOf]
theorem leftOf_get {ps:List Int}{sts:List (Nat×Int×List Int)}{i:Nat} (h:i < ps.length):(leftOf ps sts).getD i 0=ps.getD i 0 - (sts.map fun x=>x.2.2.getD i 0).sum:=by simp [leftOf,List.getD,h]
theorem left_works {s:ChSt}{left:List Int}{g:Int}{sts:List (Nat×Int×List Int)} (nd2:(s.cs.map (·.1)).Nodup) (hl:left.length=s.ps.length) (hb:∀ x∈sts,x.1 < s.cs.length):
  (closeP s left g (sts.map (toldS s))).cs.map (toldC (closeP s left g (sts.map (toldS s))))=((List.range s.cs.length).filter fun k=>!decide (k∈sts.map (·.1))).map fun k=>toldC s (s.cs.getD k ("",0)):=by
 have hnames:∀ k,k < s.cs.length→((s.cs.getD k ("",0)).1∉(sts.map (toldS s)).map (·.1)↔k∉sts.map (·.1)):=fun k hk=>by
  rw [List.map_map]
  constructor
  ·intro h m
   obtain ⟨x,hx,e⟩:=List.mem_map.mp m
   exact h (List.mem_map.mpr ⟨x,hx,by rw [← e];rfl⟩)
  ·intro h m
   obtain ⟨x,hx,e⟩:=List.mem_map.mp m
   exact h (List.mem_map.mpr ⟨x,hx,nodup_at nd2 (hb x hx) hk e⟩)
 have hps:((closeP s left g (sts.map (toldS s))).ps.map (·.1))=s.ps.map (·.1):=by
  show ((s.ps.map (·.1)).zip (left.map (· / g))).map (·.1)=_
  rw [List.map_fst_zip (by simp;omega)]
 have e1:(closeP s left g (sts.map (toldS s))).cs=((List.range s.cs.length).filter fun k=>!decide (k∈sts.map (·.1))).map fun k=>s.cs.getD k ("",0):=by
  show s.cs.filter _=_
  rw [← range_filt (fun p:Str×Int=>decide (p.1∉(sts.map (toldS s)).map (·.1))) ("",0) s.cs]
  congr 1
  refine List.filter_congr fun k hk=>?_
  rw [Bool.eq_iff_iff,decide_eq_true_eq,hnames k (List.mem_range.mp hk)]
  simp
 rw [e1,List.map_map]
 refine List.map_congr_left fun k hk=>?_
 obtain ⟨hk1,hk2⟩:=List.mem_filter.mp hk
 have hk1:=List.mem_range.mp hk1
 have hk2:k∉sts.map (·.1):=by simpa using hk2
 show toldC _ (s.cs.getD k ("",0))=_
 unfold toldC
 rw [hps]
 refine Prod.ext rfl (Prod.ext rfl ?_)
 show List.filter _ _=List.filter _ _
 refine List.filter_congr fun v _=>?_
 refine decide_eq_decide.mpr ?_
 show _∈s.ws.filter _↔_
 rw [List.mem_filter,decide_eq_true_eq]
 exact ⟨fun z=>z.1,fun z=>⟨z,(hnames k hk1).mpr hk2⟩⟩
theorem WorksL.same {H H':Hp}{l:Addr}{ts:List Addr}{rows:List (Str×Int×List Str)} (h:WorksL H l ts rows) (s:Same H H'):WorksL H' l ts rows:=h.but (But.of (l:=[]) s) (by simp) fun _ _ _ _ _ _=>by simp
theorem leftS_sum {cs:List Int}{rows:List (List Int)}:∀ {run:List (Nat×Int)}{ps:List Int}{done:List Nat},ps.length=rows.length→RunX (townT cs rows) (PF ps) done run→(leftS rows ps run).sum=ps.sum - (run.map fun x=>(townT cs rows).c x.1).sum
 | [],ps,done,hl,h=>by simp [leftS]
 | (k,L)::r,ps,done,hl,h=>by
  cases h with
  | step nx ex rest=>
   rw [leftS,leftS_sum (by rw [leftF_len];exact hl) (by rw [PF_leftF hl];exact rest)]
   have e:ps.sum=sumTo ps.length (PF ps):=by
    unfold sumTo PF
    rw [range_getD' (fun x:Int=>x) 0 ps,List.map_id']
   have:(leftF rows ps k L).sum=ps.sum - (townT cs rows).c k:=by
    rw [← ex]
    show sumTo ps.length (lft (WR rows) (PF ps) k L)=_
    rw [e,hl]
    unfold lft gth
    exact sumTo_sub _ _ _
   rw [List.map_cons,List.sum_cons,this]
   show _=_ - ((townT cs rows).c k + _)
   omega
theorem sum_mod {g:Int}:∀ {l:List Int},g ∣ l.sum - (l.map (· % g)).sum
 | []=>⟨0,by simp⟩
 | x::l=>by
  obtain ⟨q,hq⟩:=sum_mod (g:=g) (l:=l)
  refine ⟨x / g + q,?_⟩
  have:=Int.mul_ediv_add_emod x g
  rw [List.map_cons,List.sum_cons,List.sum_cons,Int.mul_add]
  omega
theorem dvd_sum {g:Int}:∀ {l:List Int},(∀ x∈l,g ∣ x)→g ∣ l.sum
 | [],_=>⟨0,by simp⟩
 | x::l,h=>by
  rw [List.sum_cons]
  exact Int.dvd_add (h x (by simp)) (dvd_sum fun y hy=>h y (by simp [hy]))
theorem keep_dvd {s:ChSt}{run:List (Nat×Int)} (rx:RunX (townT (costC s) (rowsC s)) (PF (pursC s)) [] run):(grC s:Int) ∣ ((leftOf (pursC s) (stepsF (rowsC s) (pursC s) run)).map (· % (grC s:Int))).sum:=by
 have h1:=leftS_sum (by simp [pursC,rowsC]) rx
 have h2:(grC s:Int) ∣ (leftS (rowsC s) (pursC s) run).sum:=by
  rw [h1]
  refine Int.dvd_sub (dvd_sum fun x hx=>?_) (dvd_sum fun x hx=>?_)
  ·obtain ⟨p,_,rfl⟩:=List.mem_map.mp hx
   exact Int.dvd_mul_left _ _
  ·obtain ⟨y,_,rfl⟩:=List.mem_map.mp hx
   have e1:(rowsC s).length=s.ps.length:=by simp [rowsC]
   have e2:(costC s).length=s.cs.length:=by simp [costC]
   show _ ∣ (costC s).getD y.1 0 * ((tog (rowsC s).length ^ ((costC s).length + 1):Nat):Int)
   rw [e1,e2]
   exact Int.dvd_mul_left _ _
 rw [leftOf_steps]
 have h3:=sum_mod (g:=(grC s:Int)) (l:=leftS (rowsC s) (pursC s) run)
 have:=Int.dvd_sub h2 h3
 rwa [show ∀ a b:Int,a - (a - b)=b from fun a b=>by omega] at this
theorem leftOf_nil (ps:List Int):leftOf ps []=ps:=by
 unfold leftOf
 refine Eq.trans (List.map_congr_left fun i _=>?_) ((range_getD' (fun x:Int=>x) 0 ps).trans (List.map_id' _))
 simp
theorem zip_pair:∀ ps:List (Str×Int),(ps.map (·.1)).zip (ps.map (·.2))=ps
 | []=>rfl
 | p::r=>by rw [List.map_cons,List.map_cons,List.zip_cons_cons,zip_pair r]
theorem closeP_one (s:ChSt):closeP s (leftOf (s.ps.map fun p=>p.2 * 1) []) 1 (([]:List (Nat×Int×List Int)).map (toldS s))=s:=by
 have e1:(s.ps.map fun p=>p.2 * 1)=s.ps.map (·.2):=List.map_congr_left fun p _=>Int.mul_one _
 have e2:((s.ps.map (·.2)).map (· / (1:Int)))=s.ps.map (·.2):=(List.map_congr_left fun x _=>Int.ediv_one x).trans (List.map_id' _)
 have e3:∀ l:List Int,(l.map (· % (1:Int))).sum=0:=fun l=>by
  induction l with
  | nil=>rfl
  | cons x r ih=>rw [List.map_cons,List.sum_cons,ih,Int.emod_one];rfl
 rw [leftOf_nil,e1]
 unfold closeP
 rw [e2,e3,zip_pair]
 simp only [List.map_nil,List.not_mem_nil,not_false_eq_true,decide_true,List.sum_nil,Int.add_zero,Int.zero_ediv,List.filter_eq_self.mpr (fun _ _=>rfl)]
theorem pick4 (x:Int) (a b:Int) (ha:0≤a∧a≤20) (hb:1≤b) (hb2:b≤a + 1):∃ r m:Nat,min 3 (x % 24)=(r:Int)∧([V.int 0,V.int a,V.int (x / 24 % b),V.int (1 + x / 24 % 6)]:List V)[r]?=some (.int (m:Int))∧((m:Int)≤a∨(m:Int)≤6):=by
 have h1:=Int.emod_nonneg x (show (24:Int)≠0 by decide)
 have h2:∃ r:Nat,min 3 (x % 24)=(r:Int)∧r≤3:=⟨(min 3 (x % 24)).toNat,by omega,by omega⟩
 obtain ⟨r,hr,hr3⟩:=h2
 have hc:r=0∨r=1∨r=2∨r=3:=by omega
 rcases hc with rfl | rfl | rfl | rfl
 ·exact ⟨0,0,hr,rfl,by omega⟩
 ·exact ⟨1,a.toNat,hr,by show some (V.int a)=_;rw [show ((a.toNat:Nat):Int)=a by omega],by omega⟩
 ·have h3:=Int.emod_nonneg (x / 24) (show b≠0 by omega)
  have h4:=Int.emod_lt_of_pos (x / 24) (show 0 < b by omega)
  exact ⟨2,(x / 24 % b).toNat,hr,by show some (V.int (x / 24 % b))=_;rw [show (((x / 24 % b).toNat:Nat):Int)=x / 24 % b by omega],by omega⟩
 ·have h3:=Int.emod_nonneg (x / 24) (show (6:Int)≠0 by decide)
  have h4:=Int.emod_lt_of_pos (x / 24) (show (0:Int) < 6 by decide)
  exact ⟨3,(1 + x / 24 % 6).toNat,hr,by show some (V.int (1 + x / 24 % 6))=_;rw [show (((1 + x / 24 % 6).toNat:Nat):Int)=1 + x / 24 % 6 by omega],by omega⟩
noncomputable def inW (H:Hp) (t:Addr):Addr:=match H t with
 | some (.tup [_,_,.ref r])=>r
 | _=>0
theorem inW_of {H:Hp}{t r:Addr}{x y:V} (h:H t=some (.tup [x,y,.ref r])):inW H t=r:=by
 unfold inW
 rw [h]
theorem But.ext {fp Ms:List Addr}{H H1 H2:Hp} (b:But fp H H1) (b2:But Ms H1 H2) (h:∀ a∈Ms,H a=none):But fp H H2:=
 ⟨fun c o n q=>b2.1 c o (fun m=>by rw [h c m] at q;cases q) (b.1 c o n q),fun c xs q=>b2.2.1 _ _ (b.2.1 _ _ q),fun c q=>b.2.2 _ (b2.2.2 _ q)⟩
noncomputable def StepsO (fp:List Addr) (H:Hp) (l:Addr) (sts:List (Nat×Int×List Int)):Prop:=l∉fp∧∃ ts:List Addr,H l=some (.lst (ts.map V.ref))∧Paired (fun x t=>∃ b,b∉fp∧H t=some (.tup [.int (x.1:Nat),.int x.2.1,.ref b])∧H b=some (.lst (x.2.2.map V.int))) sts ts
theorem StepsO.at {fp:List Addr}{H:Hp}{l:Addr}{sts:List (Nat×Int×List Int)} (h:StepsO fp H l sts):StepsAt H l sts:=by
 obtain ⟨_,ts,h1,h2⟩:=h
 exact ⟨ts,h1,Paired.mapP h2 fun _ _ ⟨b,_,z1,z2⟩=>⟨b,z1,z2⟩⟩
theorem StepsO.but {fp:List Addr}{H H':Hp}{l:Addr}{sts:List (Nat×Int×List Int)} (h:StepsO fp H l sts) (b:But fp H H'):StepsO fp H' l sts:=by
 obtain ⟨n,ts,h1,h2⟩:=h
 exact ⟨n,ts,b.1 _ _ n h1,Paired.mapP h2 fun _ _ ⟨c,n',z1,z2⟩=>⟨c,n',b.2.1 _ _ z1,b.1 _ _ n' z2⟩⟩
theorem run_bounds {s:ChSt}{run:List (Nat×Int)} (rx:RunX (townT (costC s) (rowsC s)) (PF (pursC s)) [] run):(stepsF (rowsC s) (pursC s) run).length≤s.cs.length∧∀ x∈stepsF (rowsC s) (pursC s) run,x.1 < s.cs.length∧x.2.2.length=s.ps.length:=by
 have hrw:=run_works rx.run
 have hcl:(costC s).length=s.cs.length:=by simp [costC]
 have hpl:(pursC s).length=s.ps.length:=by simp [pursC]
 refine ⟨?_,fun x hx=>⟨?_,by rw [stepsF_paid _ _ _ x hx,hpl]⟩⟩
 ·rw [stepsF_len]
  have:=nodup_len s.cs.length (run.map (·.1)) hrw.2 (fun x hx=>by
   obtain ⟨y,hy,rfl⟩:=List.mem_map.mp hx
   have:=(hrw.1 y hy).1
   rw [← hcl];exact this)
  simpa using this
 ·have hm:x.1∈run.map (·.1):=by rw [← stepsF_1];exact List.mem_map.mpr ⟨x,hx,rfl⟩
  obtain ⟨y,hy,e⟩:=List.mem_map.mp hm
  have:=(hrw.1 y hy).1
  rw [← e,← hcl];exact this
theorem stepsO_new {fp:List Addr}{H0 H:Hp}{l:Addr}{sts:List (Nat×Int×List Int)} (hf:∀ x∈fp,H0 x≠none) (fl:H0 l=none) (h:StepsNew H0 H l sts):StepsO fp H l sts:=by
 obtain ⟨ts,h1,h2⟩:=h
 exact ⟨fun m=>hf l m fl,ts,h1,Paired.mapP h2 fun _ _ ⟨b,_,n,_,z1,z2⟩=>⟨b,fun m=>hf b m n,z1,z2⟩⟩
theorem zip_get {ns:List Str}{xs:List Int}{i:Nat} (h1:i < ns.length) (h2:i < xs.length):(ns.zip xs).getD i ("",0)=(ns.getD i "",xs.getD i 0):=by
 have h3:i < (ns.zip xs).length:=by simp;omega
 rw [List.getD_eq_getElem?_getD,List.getElem?_eq_getElem h3,List.getD_eq_getElem?_getD,List.getElem?_eq_getElem h1,List.getD_eq_getElem?_getD,List.getElem?_eq_getElem h2]
 simp [List.getElem_zip]
section
variable {lps:List (Str×Int)}{g:Int}{rows:List WRow}{r:WRow}{k:Nat}{L M:Int}
end
section
variable {s:ChSt}{left:List Int}(hl:left.length=s.ps.length)(nd:(s.ps.map (·.1)).Nodup)
include hl nd
end
section
variable {s:ChSt}{left:List Int}(hl:left.length=s.ps.length)(nd:(s.ps.map (·.1)).Nodup)
include hl nd
end
noncomputable def sp__law_spins (_:PySem.W.Frag):Sp:=spOf 2 fun vs H Q=>∃ (c:Int) (m:Nat),vs=[.int c,.int m]∧m≤1000∧∀ (l:Addr) H',H l=none→Same H H'→H' l=some (.lst ((spinL c m).map V.int))→Q (.ref l) H'
noncomputable def sp_Chest___init__ (K:W.Frag):Sp:=spOf 1 fun vs H Q=>∃ (c dx:Addr),vs=[.ref c]∧H c=some (.ins (clsA K "Chest") dx [])∧∀ H' fp,ChestAt K H' c fp ⟨[],[],[],0,0,0⟩→But [c] H H'→New [c] fp H→Q .non H'
noncomputable def sp_is_name (_:PySem.W.Frag):Sp:=spOf 1 fun vs H Q=>∃ z:Str,vs=[.str z]∧Ascii z∧z.length≤100000∧∀ H',Same H H'→Q (.bl (isNm z)) H'
noncomputable def sp_check_new_name (_:PySem.W.Frag):Sp:=spOf 2 fun vs H Q=>∃ (z:Str) (d:Addr) (kvs:List (Key×V)),vs=[.str z,.ref d]∧isNm z=true∧H d=some (.dK kvs)∧valV kvs (.inr z)=none∧∀ H',Same H H'→Q .non H'
noncomputable def sp_check_place (_:PySem.W.Frag):Sp:=spOf 2 fun vs H Q=>∃ (d:Addr) (kvs:List (Key×V)) (n:Int),vs=[.ref d,.int n]∧H d=some (.dK kvs)∧(kvs.length:Int) < n∧Q .non H
noncomputable def sp_Chest_enrol (K:W.Frag):Sp:=spOf 2 fun vs H Q=>∃ (c:Addr) (n:Str) (fp:List Addr) (s:ChSt),vs=[.ref c,.str n]∧ChestAt K H c fp s∧isNm n=true∧n∉s.ps.map (·.1)∧s.ps.length < 20∧
 ∀ H' fp',ChestAt K H' c fp' {s with ps:=s.ps ++ [(n,0)]}→But fp H H'→New fp fp' H→Q .non H'
noncomputable def sp_check_coins (_:PySem.W.Frag):Sp:=spOf 2 fun vs H Q=>∃ (x y:Int),vs=[.int x,.int y]∧y≤x∧x≤1000000000∧Q .non H
noncomputable def sp_Chest_share (K:W.Frag):Sp:=spOf 2 fun vs H Q=>∃ (c:Addr) (x:Int) (fp:List Addr) (s:ChSt),vs=[.ref c,.int x]∧ChestAt K H c fp s∧s.ps.length≤20∧
 ∀ H' fp',ChestAt K H' c fp' (shareS s x)→But fp H H'→New fp fp' H→Q .non H'
noncomputable def sp_Chest_give (K:W.Frag):Sp:=spOf 2 fun vs H Q=>∃ (c:Addr) (x:Int) (fp:List Addr) (s:ChSt),vs=[.ref c,.int x]∧ChestAt K H c fp s∧s.ps.length≤20∧0≤x∧x≤1000000000∧
 ∀ H' fp',ChestAt K H' c fp' (giveS s x)→But fp H H'→New fp fp' H→Q .non H'
noncomputable def sp__law_name (_:PySem.W.Frag):Sp:=spOf 2 fun vs H Q=>∃ (c:Int) (k:Nat),vs=[.int c,.int k]∧k≤1000∧∀ H',Same H H'→Q (.str (nameF c k)) H'
noncomputable def sp__law_coins (_:PySem.W.Frag):Sp:=spOf 2 fun vs H Q=>∃ (x k:Int),vs=[.int x,.int k]∧∀ (v:Int) H',Same H H'→0≤v→v≤1000000000→Q (.int v) H'
noncomputable def sp__law_people (K:W.Frag):Sp:=spOf 4 fun vs H Q=>∃ (c:Addr) (cell kind:Int) (m:Nat) (fp:List Addr),vs=[.ref c,.int cell,.int m,.int kind]∧m≤20∧ChestAt K H c fp ⟨[],[],[],0,0,0⟩∧
 ∀ H' fp' s,ChestAt K H' c fp' s→PeoS cell m s→But fp H H'→New fp fp' H→Q .non H'
noncomputable def sp_Chest_given (K:W.Frag):Sp:=spOf 1 fun vs H Q=>∃ (c:Addr) (fp:List Addr) (s:ChSt),vs=[.ref c]∧ChestAt K H c fp s∧Q (.int s.giv) H
noncomputable def sp_Chest_propose (K:W.Frag):Sp:=spOf 3 fun vs H Q=>∃ (c:Addr) (n:Str) (x:Int) (fp:List Addr) (s:ChSt),vs=[.ref c,.str n,.int x]∧ChestAt K H c fp s∧isNm n=true∧n∉s.cs.map (·.1)∧1≤x∧x≤1000000000∧s.cs.length < 12∧
 ∀ H' fp',ChestAt K H' c fp' {s with cs:=s.cs ++ [(n,x)]}→But fp H H'→New fp fp' H→Q .non H'
noncomputable def sp__law_plans (K:W.Frag):Sp:=spOf 4 fun vs H Q=>∃ (c:Addr) (cell kind:Int) (m:Nat) (fp:List Addr) (s:ChSt),vs=[.ref c,.int cell,.int m,.int kind]∧m≤12∧ChestAt K H c fp s∧s.cs=[]∧
 ∀ H' fp' cs,ChestAt K H' c fp' {s with cs:=cs}→cs.map (·.1)=(List.range m).map (nameF (cell / 3))→(∀ p∈cs,1≤p.2∧p.2≤1000000000)→But fp H H'→New fp fp' H→Q .non H'
noncomputable def sp_Chest_voters (K:W.Frag):Sp:=spOf 1 fun vs H Q=>∃ (c:Addr) (fp:List Addr) (s:ChSt),vs=[.ref c]∧ChestAt K H c fp s∧∀ l H',H l=none→Same H H'→RowsL H' l s.ps→Q (.ref l) H'
noncomputable def sp_Chest_wanters (K:W.Frag):Sp:=spOf 2 fun vs H Q=>∃ (c dx d1 d2 w:Addr) (n:Str) (wt:List Addr) (s:ChSt),vs=[.ref c,.str n]∧H c=some (.ins (clsA K "Chest") dx (chF d1 d2 w s.pot s.giv s.spt))∧H d1=some (.dK (kvI s.ps))∧H w=some (.lst (wt.map V.ref))∧Paired (TpS H) s.ws wt∧
 Ascii n∧(∀ p∈s.ps,Ascii p.1)∧(∀ p∈s.ws,Ascii p.1∧Ascii p.2)∧s.ps.length≤1000∧
 ∀ l H',H l=none→Same H H'→H' l=some (.lst (((s.ps.map (·.1)).filter fun v=>decide ((v,n)∈s.ws)).map V.str))→Q (.ref l) H'
noncomputable def sp_Chest_works (K:W.Frag):Sp:=spOf 1 fun vs H Q=>∃ (c:Addr) (fp:List Addr) (s:ChSt),vs=[.ref c]∧ChestAt K H c fp s∧(∀ p∈s.ps,Ascii p.1)∧(∀ p∈s.cs,Ascii p.1)∧(∀ p∈s.ws,Ascii p.1∧Ascii p.2)∧s.ps.length≤1000∧s.cs.length≤1000∧
 ∀ l ts H',H l=none→Same H H'→WorksL H' l ts (s.cs.map (toldC s))→(∀ t∈ts,∀ x y w,H' t=some (.tup [x,y,.ref w])→w≠l∧H w=none)→Q (.ref l) H'
noncomputable def sp_Chest_check_voter (K:W.Frag):Sp:=spOf 2 fun vs H Q=>∃ (c:Addr) (n:Str) (fp:List Addr) (s:ChSt),vs=[.ref c,.str n]∧ChestAt K H c fp s∧n∈s.ps.map (·.1)∧Q .non H
noncomputable def sp_Chest_check_work (K:W.Frag):Sp:=spOf 2 fun vs H Q=>∃ (c:Addr) (n:Str) (fp:List Addr) (s:ChSt),vs=[.ref c,.str n]∧ChestAt K H c fp s∧n∈s.cs.map (·.1)∧Q .non H
noncomputable def wantS (s:ChSt) (v n:Str):ChSt:=if (v,n)∈s.ws then s else {s with ws:=s.ws ++ [(v,n)]}
noncomputable def sp_Chest_want (K:W.Frag):Sp:=spOf 3 fun vs H Q=>∃ (c:Addr) (v n:Str) (fp:List Addr) (s:ChSt),vs=[.ref c,.str v,.str n]∧ChestAt K H c fp s∧v∈s.ps.map (·.1)∧n∈s.cs.map (·.1)∧Ascii v∧Ascii n∧(∀ p∈s.ws,Ascii p.1∧Ascii p.2)∧s.ws.length≤900∧
 ∀ H' fp',ChestAt K H' c fp' (wantS s v n)→But fp H H'→New fp fp' H→Q .non H'
theorem wantS_add (s:ChSt) (ws:List (Str×Str)) (v n:Str):wantS {s with ws:=ws} v n={s with ws:=addWs ws v n}:=by
 unfold wantS addWs
 by_cases h:(v,n)∈ws
 ·rw [if_pos h,if_pos (show (v,n)∈({s with ws:=ws}:ChSt).ws from h)]
 ·rw [if_neg h,if_neg (show (v,n)∉({s with ws:=ws}:ChSt).ws from h)]
noncomputable def sp__law_wishes (K:W.Frag):Sp:=spOf 2 fun vs H Q=>∃ (c a:Addr) (fp:List Addr) (s:ChSt) (ms:List Int),vs=[.ref c,.ref a]∧ChestAt K H c fp s∧GoodS s∧s.ws=[]∧H a=some (.lst (ms.map V.int))∧a∉fp∧ms.length≤63∧
 ∀ H' fp' l ws,ChestAt K H' c fp' {s with ws:=ws}→GoodS {s with ws:=ws}→But fp H H'→New fp fp' H→H l=none→l∉fp'→RowsAt K H' l (rowsC {s with ws:=ws})→Q (.ref l) H'
noncomputable def sp_Chest_pot (K:W.Frag):Sp:=spOf 1 fun vs H Q=>∃ (c:Addr) (fp:List Addr) (s:ChSt),vs=[.ref c]∧ChestAt K H c fp s∧Q (.int s.pot) H
noncomputable def sp_least_multiple (_:PySem.W.Frag):Sp:=spOf 2 fun vs H Q=>∃ s n:Nat,vs=[.int s,.int n]∧0 < s∧0 < n∧Q (.int (Nat.lcm s n:Nat)) H
noncomputable def sp_together (_:PySem.W.Frag):Sp:=spOf 1 fun vs H Q=>∃ n:Nat,vs=[.int n]∧n≤20∧Q (.int (tog n:Nat)) H
noncomputable def sp_grains_of (_:PySem.W.Frag):Sp:=spOf 2 fun vs H Q=>∃ v w:Nat,vs=[.int v,.int w]∧1≤v∧v≤20∧w≤12∧Q (.int (tog v ^ (w + 1):Nat)) H
noncomputable def sp_paid_by (K:W.Frag):Sp:=spOf 2 fun vs H Q=>∃ (a:Addr) (sts:List (Nat×Int×List Int)) (i:Nat),vs=[.ref a,.int i]∧StepsAt H a sts∧sts.length≤64∧(∀ x∈sts,i < x.2.2.length)∧∀ H',Same H H'→Q (.int (sts.map fun x=>x.2.2.getD i 0).sum) H'
noncomputable def sp_left_of (K:W.Frag):Sp:=spOf 2 fun vs H Q=>∃ (a b:Addr) (ps:List Int) (sts:List (Nat×Int×List Int)),vs=[.ref a,.ref b]∧SqL K H a (ps.map V.int)∧StepsAt H b sts∧ps.length≤20∧sts.length≤12∧(∀ x∈sts,x.2.2.length=ps.length)∧
 ∀ l H',H l=none→Same H H'→H' l=some (.lst ((leftOf ps sts).map V.int))→Q (.ref l) H'
noncomputable def sp_prices_of (K:W.Frag):Sp:=spOf 2 fun vs H Q=>∃ (a b:Addr) (cs:List Int) (rows:List (List Int)),vs=[.ref a,.ref b]∧SqL K H a (cs.map V.int)∧RowsAt K H b rows∧cs.length≤12∧(∀ x∈cs,1≤x∧x≤1000000000000)∧1≤rows.length∧rows.length≤20∧
 ∀ l H',H l=none→Same H H'→H' l=some (.lst ((cs.map (· * ((tog rows.length ^ (cs.length + 1):Nat):Int))).map V.int))→Q (.ref l) H'
noncomputable def sp_rounded_up (_:PySem.W.Frag):Sp:=spOf 2 fun vs H Q=>∃ m p:Int,vs=[.int m,.int p]∧1≤p∧p≤1000∧Q (.int ((m + p - 1) / p)) H
noncomputable def sp_level_for (K:W.Frag):Sp:=spOf 2 fun vs H Q=>∃ (a:Addr) (ps:List Int) (price:Int),vs=[.ref a,.int price]∧SqL K H a (ps.map V.int)∧ps.length≤40∧(∀ p∈ps,0≤p)∧1≤price∧
 (ps.sum < price→∀ H',Same H H'→Q .non H')∧(price≤ps.sum→∀ L H',IsLev ps price L→Same H H'→Q (.int L) H')
noncomputable def sp_wants_all (K:W.Frag):Sp:=spOf 2 fun vs H Q=>∃ (a b:Addr) (ws ks:List Int),vs=[.ref a,.ref b]∧SqL K H a (ws.map V.int)∧SqL K H b (ks.map V.int)∧ks.length≤64∧∀ H',Same H H'→Q (.bl (ks.all fun k=>decide (k∈ws))) H'
noncomputable def sp_common_of (K:W.Frag):Sp:=spOf 2 fun vs H Q=>∃ (a b:Addr) (rows:List (List Int)) (ks:List Int),vs=[.ref a,.ref b]∧RowsAt K H a rows∧SqL K H b (ks.map V.int)∧rows.length≤64∧ks.length≤64∧
 ∀ l H',H l=none→Same H H'→H' l=some (.lst ((commonF rows ks).map V.int))→Q (.ref l) H'
noncomputable def sp_wanters_of (K:W.Frag):Sp:=spOf 2 fun vs H Q=>∃ (a:Addr) (rows:List (List Int)) (k:Int),vs=[.ref a,.int k]∧RowsAt K H a rows∧rows.length≤64∧
 ∀ l H',H l=none→Same H H'→H' l=some (.lst ((commonF rows [k]).map V.int))→Q (.ref l) H'
noncomputable def sp_offer_of (K:W.Frag):Sp:=spOf 4 fun vs H Q=>∃ (a b:Addr) (ps:List Int) (rows:List (List Int)) (k:Nat) (price:Int),vs=[.ref a,.ref b,.int k,.int price]∧SqL K H a (ps.map V.int)∧RowsAt K H b rows∧rows.length≤20∧ps.length=rows.length∧(∀ p∈ps,0≤p)∧1≤price∧
 (hav rows.length (WR rows) (PF ps) k < price→∀ H',Same H H'→Q .non H')∧(price≤hav rows.length (WR rows) (PF ps) k→∀ L H',1≤L→price≤gth rows.length (WR rows) (PF ps) k L→gth rows.length (WR rows) (PF ps) k (L - 1) < price→Same H H'→Q (.int L) H')
noncomputable def sp_offers_of (K:W.Frag):Sp:=spOf 4 fun vs H Q=>∃ (a b c d:Addr) (ps cs:List Int) (rows:List (List Int)) (done:List Nat),vs=[.ref a,.ref b,.ref c,.ref d]∧SqL K H a (ps.map V.int)∧SqL K H b (cs.map V.int)∧RowsAt K H c rows∧SqL K H d ((done.map fun k:Nat=>(k:Int)).map V.int)∧
 cs.length≤12∧(∀ x∈cs,1≤x∧x≤1000000000000)∧1≤rows.length∧rows.length≤20∧ps.length=rows.length∧(∀ p∈ps,0≤p)∧done.length≤12∧
 ∀ l H' (os:List (Option Int)),H l=none→Same H H'→H' l=some (.lst (os.map oV))→os.length=cs.length→(∀ j o,os[j]?=some o→OffOk (townT cs rows) (PF ps) done j o)→Q (.ref l) H'
noncomputable def sp_next_of (K:W.Frag):Sp:=spOf 1 fun vs H Q=>∃ (a:Addr) (os:List (Option Int)),vs=[.ref a]∧SqL K H a (os.map oV)∧os.length≤12∧∀ (k:Option Nat) H',NextOk os k→Same H H'→Q (oV (k.map fun j:Nat=>(j:Int))) H'
noncomputable def sp_works_of (_:PySem.W.Frag):Sp:=spOf 1 fun vs H Q=>∃ (a:Addr) (sts:List (Nat×Int×List Int)),vs=[.ref a]∧StepsAt H a sts∧sts.length≤12∧(∀ x∈sts,x.1 < 12)∧(sts.map (·.1)).Nodup∧
 ∀ l H' (ws:List Nat),H l=none→Same H H'→H' l=some (.lst ((ws.map fun k:Nat=>(k:Int)).map V.int))→ws.Pairwise (· < ·)→(∀ k,k∈ws↔k∈sts.map (·.1))→Q (.ref l) H'
noncomputable def sp_paid_at (K:W.Frag):Sp:=spOf 2 fun vs H Q=>∃ (a:Addr) (ps:List Int) (lev:Int),vs=[.ref a,.int lev]∧SqL K H a (ps.map V.int)∧ps.length≤64∧
 ∀ l H',H l=none→Same H H'→H' l=some (.lst ((ps.map (min · lev)).map V.int))→Q (.ref l) H'
noncomputable def sp_payments_of (K:W.Frag):Sp:=spOf 4 fun vs H Q=>∃ (a b:Addr) (ps:List Int) (rows:List (List Int)) (k:Nat) (L:Int),vs=[.ref a,.ref b,.int k,.int L]∧SqL K H a (ps.map V.int)∧RowsAt K H b rows∧rows.length=ps.length∧ps.length≤64∧∀ l H',H l=none→Same H H'→H' l=some (.lst ((paidF rows ps k L).map V.int))→Q (.ref l) H'
noncomputable def sp_step_behind (K:W.Frag):Sp:=spOf 4 fun vs H Q=>∃ (a b c d:Addr) (ps cs:List Int) (rows:List (List Int)) (sts:List (Nat×Int×List Int)),vs=[.ref a,.ref b,.ref c,.ref d]∧SqL K H a (ps.map V.int)∧SqL K H b (cs.map V.int)∧RowsAt K H c rows∧StepsAt H d sts∧
 cs.length≤12∧(∀ x∈cs,1≤x∧x≤1000000000000)∧1≤rows.length∧rows.length≤20∧ps.length=rows.length∧sts.length≤12∧(∀ x∈sts,x.1 < 12)∧(sts.map (·.1)).Nodup∧(∀ x∈sts,x.2.2.length=ps.length)∧(∀ p∈leftOf ps sts,0≤p)∧
 ((∀ k,k < cs.length→k∉sts.map (·.1)→hav rows.length (WR rows) (PF (leftOf ps sts)) k < (townT cs rows).c k)→∀ H',Same H H'→Q .non H')∧
 (∀ k L,Nx (townT cs rows) (PF (leftOf ps sts)) (sts.map (·.1)) k L→∀ t b H',H t=none→H b=none→Same H H'→H' t=some (.tup [.int k,.int L,.ref b])→H' b=some (.lst ((paidF rows (leftOf ps sts) k L).map V.int))→Q (.ref t) H')
noncomputable def sp_choose (K:W.Frag):Sp:=spOf 3 fun vs H Q=>∃ (a b c:Addr) (ps cs:List Int) (rows:List (List Int)),vs=[.ref a,.ref b,.ref c]∧SqL K H a (ps.map V.int)∧SqL K H b (cs.map V.int)∧RowsAt K H c rows∧GoodT cs rows ps∧
 ∀ l H' run,H l=none→Same H H'→StepsNew H H' l (stepsF rows ps run)→RunX (townT cs rows) (PF ps) [] run→Q (.ref l) H'
noncomputable def sp_Chest_keep_coins (K:W.Frag):Sp:=spOf 3 fun vs H Q=>∃ (c b:Addr) (g:Int) (left:List Int) (fp:List Addr) (s:ChSt),vs=[.ref c,.ref b,.int g]∧ChestAt K H c fp s∧H b=some (.lst (left.map V.int))∧0 < g∧g < HUGE∧left.length=s.ps.length∧s.ps.length≤20∧
 ∀ H' fp',ChestAt K H' c fp' (keepS s left g)→But fp H H'→New fp fp' H→Q .non H'
noncomputable def sp_Chest_wanted_places (K:W.Frag):Sp:=spOf 2 fun vs H Q=>∃ (c dx d1 d2 w:Addr) (n:Str) (wt:List Addr) (s:ChSt),vs=[.ref c,.str n]∧H c=some (.ins (clsA K "Chest") dx (chF d1 d2 w s.pot s.giv s.spt))∧H d2=some (.dK (kvI s.cs))∧H w=some (.lst (wt.map V.ref))∧Paired (TpS H) s.ws wt∧
 Ascii n∧(∀ p∈s.cs,Ascii p.1)∧(∀ p∈s.ws,Ascii p.1∧Ascii p.2)∧s.cs.length≤1000∧
 ∀ l H',H l=none→Same H H'→H' l=some (.lst ((intsOf (wantP s n)).map V.int))→Q (.ref l) H'
noncomputable def sp_Chest_told_step (K:W.Frag):Sp:=spOf 3 fun vs H Q=>∃ (c b:Addr) (k:Nat) (L:Int) (paid:List Int) (fp:List Addr) (s:ChSt),vs=[.ref c,.int k,.ref b]∧ChestAt K H c fp s∧k < s.cs.length∧H b=some (.lst (paid.map V.int))∧paid.length=s.ps.length∧s.ps.length≤20∧s.cs.length≤12∧
 ∀ t r H',H t=none→H r=none→t≠r→Same H H'→H' t=some (.tup [.str (toldS s (k,L,paid)).1,.int (toldS s (k,L,paid)).2.1,.ref r])→RowsT H H' r (toldS s (k,L,paid)).2.2→Q (.ref t) H'
noncomputable def withS (s:ChSt) (n:Str):ChSt:={s with cs:=s.cs.filter fun p=>decide (p.1≠n),ws:=s.ws.filter fun p=>!decide (p.2=n)}
noncomputable def sp_Chest_withdraw (K:W.Frag):Sp:=spOf 2 fun vs H Q=>∃ (c:Addr) (n:Str) (x:Int) (fp:List Addr) (s:ChSt),vs=[.ref c,.str n]∧ChestAt K H c fp s∧(n,x)∈s.cs∧s.ws.length≤1000∧
 ∀ H' fp',ChestAt K H' c fp' (withS s n)→But fp H H'→New fp fp' H→Q .non H'
noncomputable def sp_Chest_close (K:W.Frag):Sp:=spOf 1 fun vs H Q=>∃ (c:Addr) (fp:List Addr) (s:ChSt),vs=[.ref c]∧ChestAt K H c fp s∧GoodS s∧
 ((s.ps=[]∨s.cs=[])→∀ t l H',H t=none→H l=none→t≠l→Same H H'→H' t=some (.tup [.ref l,.int 1])→H' l=some (.lst [])→Q (.ref t) H')∧
 (s.ps≠[]→s.cs≠[]→∀ run t l ts H' fp',RunX (townT (costC s) (rowsC s)) (PF (pursC s)) [] run→But fp H H'→New fp fp' H→ChestAt K H' c fp' (closeP s (leftOf (pursC s) (stepsF (rowsC s) (pursC s) run)) (grC s) ((stepsF (rowsC s) (pursC s) run).map (toldS s)))→
  H t=none→H l=none→l∉fp'→H' t=some (.tup [.ref l,.int (grC s)])→ToldL H' l ts ((stepsF (rowsC s) (pursC s) run).map (toldS s))→(∀ t'∈ts,∀ y z r,H' t'=some (.tup [y,z,.ref r])→r≠l∧H r=none∧r∉fp')→Q (.ref t) H')
noncomputable def sp_Chest_spent (K:W.Frag):Sp:=spOf 1 fun vs H Q=>∃ (c:Addr) (fp:List Addr) (s:ChSt),vs=[.ref c]∧ChestAt K H c fp s∧Q (.int s.spt) H
noncomputable def sp__law_behind (K:W.Frag):Sp:=spOf 6 fun vs H Q=>∃ (c lp lw ls:Addr) (g:Int) (fp:List Addr) (s:ChSt) (ts:List Addr) (sts:List (Nat×Int×List Int)),vs=[.ref c,.ref lp,.ref lw,.ref ls,.int g,.int s.pot]∧
 ChestAt K H c fp (closeP s (leftOf (s.ps.map fun p=>p.2 * g) sts) g (sts.map (toldS s)))∧GoodS s∧s.spt=0∧0 < g∧g < HUGE∧(s.cs.map (·.1)).Nodup∧RowsL H lp s.ps∧WorksL H lw ts (s.cs.map (toldC s))∧StepsAt H ls sts∧sts.length≤12∧(∀ x∈sts,x.1 < s.cs.length∧x.2.2.length=s.ps.length)∧
 g ∣ ((leftOf (s.ps.map fun p=>p.2 * g) sts).map (· % g)).sum∧∀ H',Same H H'→Q (.bl true) H'
noncomputable def sp__law_nth (K:W.Frag):Sp:=spOf 2 fun vs H Q=>∃ (a:Addr) (ns:List Int) (k:Nat),vs=[.ref a,.int k]∧SqL K H a (ns.map V.int)∧∀ (v:Int) H',Same H H'→Q (.int v) H'
noncomputable def sp__law_rows (K:W.Frag):Sp:=spOf 3 fun vs H Q=>∃ (lp lw ls:Addr) (s:ChSt) (ts:List Addr) (sts:List (Nat×Int×List Int)),vs=[.ref lp,.ref lw,.ref ls]∧RowsL H lp s.ps∧WorksL H lw ts (s.cs.map (toldC s))∧StepsAt H ls sts∧s.ps.length≤20∧s.cs.length≤12∧sts.length≤12∧(∀ x∈sts,x.1 < s.cs.length∧x.2.2.length=s.ps.length)∧
 ∀ l us H',H l=none→Same H H'→ToldL H' l us (sts.map (toldS s))→Q (.ref l) H'
noncomputable def sp__law_counts (_:PySem.W.Frag):Sp:=spOf 1 fun vs H Q=>∃ (i:Int),vs=[.int i]∧Q (.bl true) H
noncomputable def sp__law_kinds (K:W.Frag):Sp:=spOf 1 fun vs H Q=>∃ (t l:Addr) (g:Int) (ts:List Addr) (rows:List TRow),vs=[.ref t]∧H t=some (.tup [.ref l,.int g])∧ToldL H l ts rows∧(∀ r∈rows,r.2.2.length≤20)∧rows.length≤12∧∀ H',Same H H'→Q (.bl true) H'
noncomputable def top (i:Nat):Stmt:=PySem.Challenge.pw_purse_k44_closing.main.body.getD i (.Pass ⟨0,0,0,0⟩)
noncomputable abbrev s__law_spins:Stmt:=top 46
theorem sc__law_spins:FnScope ["cell","many","spins","k","turn"] ["cell","many"] (defScope s__law_spins):=⟨rfl,rfl,rfl,by decide +kernel,rfl,by decide +kernel,by decide +kernel⟩
noncomputable abbrev s_Chest___init__:Stmt:=inClass (top 43) 0
theorem sc_Chest___init__:FnScope ["self"] ["self"] (defScope s_Chest___init__):=⟨rfl,rfl,rfl,by decide +kernel,rfl,by decide +kernel,by decide +kernel⟩
noncomputable abbrev s_is_name:Stmt:=top 39
theorem sc_is_name:FnScope ["name"] ["name"] (defScope s_is_name):=⟨rfl,rfl,rfl,by decide +kernel,rfl,by decide +kernel,by decide +kernel⟩
noncomputable abbrev s_check_new_name:Stmt:=top 40
theorem sc_check_new_name:FnScope ["name","names"] ["name","names"] (defScope s_check_new_name):=⟨rfl,rfl,rfl,by decide +kernel,rfl,by decide +kernel,by decide +kernel⟩
noncomputable abbrev s_check_place:Stmt:=top 42
theorem sc_check_place:FnScope ["names","most"] ["names","most"] (defScope s_check_place):=⟨rfl,rfl,rfl,by decide +kernel,rfl,by decide +kernel,by decide +kernel⟩
noncomputable abbrev s_Chest_enrol:Stmt:=inClass (top 43) 11
theorem sc_Chest_enrol:FnScope ["self","name"] ["self","name"] (defScope s_Chest_enrol):=⟨rfl,rfl,rfl,by decide +kernel,rfl,by decide +kernel,by decide +kernel⟩
noncomputable abbrev s_check_coins:Stmt:=top 41
theorem sc_check_coins:FnScope ["coins","least"] ["coins","least"] (defScope s_check_coins):=⟨rfl,rfl,rfl,by decide +kernel,rfl,by decide +kernel,by decide +kernel⟩
noncomputable abbrev s_Chest_share:Stmt:=inClass (top 43) 14
theorem sc_Chest_share:FnScope ["self","part"] ["self","part"] (defScope s_Chest_share):=⟨rfl,rfl,rfl,by decide +kernel,rfl,by decide +kernel,by decide +kernel⟩
noncomputable abbrev s_Chest_give:Stmt:=inClass (top 43) 13
theorem sc_Chest_give:FnScope ["self","coins"] ["self","coins"] (defScope s_Chest_give):=⟨rfl,rfl,rfl,by decide +kernel,rfl,by decide +kernel,by decide +kernel⟩
noncomputable abbrev s__law_name:Stmt:=top 48
theorem sc__law_name:FnScope ["cell","k","letters","xs","word","at"] ["cell","k"] (defScope s__law_name):=⟨rfl,rfl,rfl,by decide +kernel,rfl,by decide +kernel,by decide +kernel⟩
noncomputable abbrev s__law_coins:Stmt:=top 49
theorem sc__law_coins:FnScope ["x","kind"] ["x","kind"] (defScope s__law_coins):=⟨rfl,rfl,rfl,by decide +kernel,rfl,by decide +kernel,by decide +kernel⟩
noncomputable abbrev s__law_people:Stmt:=top 50
theorem sc__law_people:FnScope ["chest","cell","many","kind","k"] ["chest","cell","many","kind"] (defScope s__law_people):=⟨rfl,rfl,rfl,by decide +kernel,rfl,by decide +kernel,by decide +kernel⟩
noncomputable abbrev s_Chest_given:Stmt:=inClass (top 43) 4
theorem sc_Chest_given:FnScope ["self"] ["self"] (defScope s_Chest_given):=⟨rfl,rfl,rfl,by decide +kernel,rfl,by decide +kernel,by decide +kernel⟩
noncomputable abbrev s_Chest_propose:Stmt:=inClass (top 43) 15
theorem sc_Chest_propose:FnScope ["self","work","cost"] ["self","work","cost"] (defScope s_Chest_propose):=⟨rfl,rfl,rfl,by decide +kernel,rfl,by decide +kernel,by decide +kernel⟩
noncomputable abbrev s__law_plans:Stmt:=top 51
theorem sc__law_plans:FnScope ["chest","cell","many","kind","coins","xs","k","cost"] ["chest","cell","many","kind"] (defScope s__law_plans):=⟨rfl,rfl,rfl,by decide +kernel,rfl,by decide +kernel,by decide +kernel⟩
noncomputable abbrev s_Chest_voters:Stmt:=inClass (top 43) 1
theorem sc_Chest_voters:FnScope ["self"] ["self"] (defScope s_Chest_voters):=⟨rfl,rfl,rfl,by decide +kernel,rfl,by decide +kernel,by decide +kernel⟩
noncomputable abbrev s_Chest_wanters:Stmt:=inClass (top 43) 7
theorem sc_Chest_wanters:FnScope ["self","work"] ["self","work"] (defScope s_Chest_wanters):=⟨rfl,rfl,rfl,by decide +kernel,rfl,by decide +kernel,by decide +kernel⟩
noncomputable abbrev s_Chest_works:Stmt:=inClass (top 43) 2
theorem sc_Chest_works:FnScope ["self"] ["self"] (defScope s_Chest_works):=⟨rfl,rfl,rfl,by decide +kernel,rfl,by decide +kernel,by decide +kernel⟩
noncomputable abbrev s_Chest_check_voter:Stmt:=inClass (top 43) 9
theorem sc_Chest_check_voter:FnScope ["self","voter"] ["self","voter"] (defScope s_Chest_check_voter):=⟨rfl,rfl,rfl,by decide +kernel,rfl,by decide +kernel,by decide +kernel⟩
noncomputable abbrev s_Chest_check_work:Stmt:=inClass (top 43) 10
theorem sc_Chest_check_work:FnScope ["self","work"] ["self","work"] (defScope s_Chest_check_work):=⟨rfl,rfl,rfl,by decide +kernel,rfl,by decide +kernel,by decide +kernel⟩
noncomputable abbrev s_Chest_want:Stmt:=inClass (top 43) 17
theorem sc_Chest_want:FnScope ["self","voter","work"] ["self","voter","work"] (defScope s_Chest_want):=⟨rfl,rfl,rfl,by decide +kernel,rfl,by decide +kernel,by decide +kernel⟩
noncomputable abbrev s__law_wishes:Stmt:=top 52
theorem sc__law_wishes:FnScope ["chest","cells","people","plans","wishes","cell","xs","at","work"] ["chest","cells"] (defScope s__law_wishes):=⟨rfl,rfl,rfl,by decide +kernel,rfl,by decide +kernel,by decide +kernel⟩
noncomputable abbrev s_Chest_pot:Stmt:=inClass (top 43) 3
theorem sc_Chest_pot:FnScope ["self"] ["self"] (defScope s_Chest_pot):=⟨rfl,rfl,rfl,by decide +kernel,rfl,by decide +kernel,by decide +kernel⟩
noncomputable abbrev s_least_multiple:Stmt:=top 6
theorem sc_least_multiple:FnScope ["step","number","multiple"] ["step","number"] (defScope s_least_multiple):=⟨rfl,rfl,rfl,by decide +kernel,rfl,by decide +kernel,by decide +kernel⟩
noncomputable abbrev s_together:Stmt:=top 7
theorem sc_together:FnScope ["n","least","number"] ["n"] (defScope s_together):=⟨rfl,rfl,rfl,by decide +kernel,rfl,by decide +kernel,by decide +kernel⟩
noncomputable abbrev s_grains_of:Stmt:=top 8
theorem sc_grains_of:FnScope ["voters","works","factor","grains","work"] ["voters","works"] (defScope s_grains_of):=⟨rfl,rfl,rfl,by decide +kernel,rfl,by decide +kernel,by decide +kernel⟩
noncomputable abbrev s_paid_by:Stmt:=top 23
theorem sc_paid_by:FnScope ["steps","voter"] ["steps","voter"] (defScope s_paid_by):=⟨rfl,rfl,rfl,by decide +kernel,rfl,by decide +kernel,by decide +kernel⟩
noncomputable abbrev s_left_of:Stmt:=top 24
theorem sc_left_of:FnScope ["purses","steps"] ["purses","steps"] (defScope s_left_of):=⟨rfl,rfl,rfl,by decide +kernel,rfl,by decide +kernel,by decide +kernel⟩
noncomputable abbrev s_prices_of:Stmt:=top 16
theorem sc_prices_of:FnScope ["costs","wishes","grains"] ["costs","wishes"] (defScope s_prices_of):=⟨rfl,rfl,rfl,by decide +kernel,rfl,by decide +kernel,by decide +kernel⟩
noncomputable abbrev s_rounded_up:Stmt:=top 3
theorem sc_rounded_up:FnScope ["amount","shares"] ["amount","shares"] (defScope s_rounded_up):=⟨rfl,rfl,rfl,by decide +kernel,rfl,by decide +kernel,by decide +kernel⟩
noncomputable abbrev s_level_for:Stmt:=top 4
theorem sc_level_for:FnScope ["purses","price","missing","payers","purse"] ["purses","price"] (defScope s_level_for):=⟨rfl,rfl,rfl,by decide +kernel,rfl,by decide +kernel,by decide +kernel⟩
noncomputable abbrev s_wants_all:Stmt:=top 12
theorem sc_wants_all:FnScope ["wanted","works"] ["wanted","works"] (defScope s_wants_all):=⟨rfl,rfl,rfl,by decide +kernel,rfl,by decide +kernel,by decide +kernel⟩
noncomputable abbrev s_common_of:Stmt:=top 14
theorem sc_common_of:FnScope ["wishes","works"] ["wishes","works"] (defScope s_common_of):=⟨rfl,rfl,rfl,by decide +kernel,rfl,by decide +kernel,by decide +kernel⟩
noncomputable abbrev s_wanters_of:Stmt:=top 13
theorem sc_wanters_of:FnScope ["wishes","work"] ["wishes","work"] (defScope s_wanters_of):=⟨rfl,rfl,rfl,by decide +kernel,rfl,by decide +kernel,by decide +kernel⟩
noncomputable abbrev s_offer_of:Stmt:=top 17
theorem sc_offer_of:FnScope ["purses","wishes","work","price"] ["purses","wishes","work","price"] (defScope s_offer_of):=⟨rfl,rfl,rfl,by decide +kernel,rfl,by decide +kernel,by decide +kernel⟩
noncomputable abbrev s_offers_of:Stmt:=top 18
theorem sc_offers_of:FnScope ["purses","costs","wishes","done","offers","work","price"] ["purses","costs","wishes","done"] (defScope s_offers_of):=⟨rfl,rfl,rfl,by decide +kernel,rfl,by decide +kernel,by decide +kernel⟩
noncomputable abbrev s_next_of:Stmt:=top 19
theorem sc_next_of:FnScope ["offers","best","work","offer"] ["offers"] (defScope s_next_of):=⟨rfl,rfl,rfl,by decide +kernel,rfl,by decide +kernel,by decide +kernel⟩
noncomputable abbrev s_works_of:Stmt:=top 22
theorem sc_works_of:FnScope ["steps"] ["steps"] (defScope s_works_of):=⟨rfl,rfl,rfl,by decide +kernel,rfl,by decide +kernel,by decide +kernel⟩
noncomputable abbrev s_paid_at:Stmt:=top 2
theorem sc_paid_at:FnScope ["purses","level"] ["purses","level"] (defScope s_paid_at):=⟨rfl,rfl,rfl,by decide +kernel,rfl,by decide +kernel,by decide +kernel⟩
noncomputable abbrev s_payments_of:Stmt:=top 21
theorem sc_payments_of:FnScope ["purses","wishes","work","level","wanters"] ["purses","wishes","work","level"] (defScope s_payments_of):=⟨rfl,rfl,rfl,by decide +kernel,rfl,by decide +kernel,by decide +kernel⟩
noncomputable abbrev s_step_behind:Stmt:=top 25
theorem sc_step_behind:FnScope ["purses","costs","wishes","steps","left","offers","work","level"] ["purses","costs","wishes","steps"] (defScope s_step_behind):=⟨rfl,rfl,rfl,by decide +kernel,rfl,by decide +kernel,by decide +kernel⟩
noncomputable abbrev s_choose:Stmt:=top 26
theorem sc_choose:FnScope ["purses","costs","wishes","steps","step"] ["purses","costs","wishes"] (defScope s_choose):=⟨rfl,rfl,rfl,by decide +kernel,rfl,by decide +kernel,by decide +kernel⟩
noncomputable abbrev s_Chest_keep_coins:Stmt:=inClass (top 43) 21
theorem sc_Chest_keep_coins:FnScope ["self","left","grains"] ["self","left","grains"] (defScope s_Chest_keep_coins):=⟨rfl,rfl,rfl,by decide +kernel,rfl,by decide +kernel,by decide +kernel⟩
noncomputable abbrev s_Chest_wanted_places:Stmt:=inClass (top 43) 8
theorem sc_Chest_wanted_places:FnScope ["self","voter"] ["self","voter"] (defScope s_Chest_wanted_places):=⟨rfl,rfl,rfl,by decide +kernel,rfl,by decide +kernel,by decide +kernel⟩
noncomputable abbrev s_Chest_told_step:Stmt:=inClass (top 43) 20
theorem sc_Chest_told_step:FnScope ["self","place","paid","name","rows"] ["self","place","paid"] (defScope s_Chest_told_step):=⟨rfl,rfl,rfl,by decide +kernel,rfl,by decide +kernel,by decide +kernel⟩
noncomputable abbrev s_Chest_withdraw:Stmt:=inClass (top 43) 16
theorem sc_Chest_withdraw:FnScope ["self","work"] ["self","work"] (defScope s_Chest_withdraw):=⟨rfl,rfl,rfl,by decide +kernel,rfl,by decide +kernel,by decide +kernel⟩
noncomputable abbrev s_Chest_close:Stmt:=inClass (top 43) 19
theorem sc_Chest_close:FnScope ["self","grains","purses","wishes","steps","told","name","cost","rows"] ["self"] (defScope s_Chest_close):=⟨rfl,rfl,rfl,by decide +kernel,rfl,by decide +kernel,by decide +kernel⟩
noncomputable abbrev s_Chest_spent:Stmt:=inClass (top 43) 5
theorem sc_Chest_spent:FnScope ["self"] ["self"] (defScope s_Chest_spent):=⟨rfl,rfl,rfl,by decide +kernel,rfl,by decide +kernel,by decide +kernel⟩
noncomputable abbrev s__law_behind:Stmt:=top 55
theorem sc__law_behind:FnScope ["chest","people","works","steps","grains","pot","rest","k","one","left","done","spent"] ["chest","people","works","steps","grains","pot"] (defScope s__law_behind):=⟨rfl,rfl,rfl,by decide +kernel,rfl,by decide +kernel,by decide +kernel⟩
noncomputable abbrev s__law_nth:Stmt:=top 45
theorem sc__law_nth:FnScope ["script","k","cell"] ["script","k"] (defScope s__law_nth):=⟨rfl,rfl,rfl,by decide +kernel,rfl,by decide +kernel,by decide +kernel⟩
noncomputable abbrev s__law_rows:Stmt:=top 53
theorem sc__law_rows:FnScope ["people","works","steps","told","work","level","paid","rows"] ["people","works","steps"] (defScope s__law_rows):=⟨rfl,rfl,rfl,by decide +kernel,rfl,by decide +kernel,by decide +kernel⟩
noncomputable abbrev s__law_counts:Stmt:=top 47
theorem sc__law_counts:FnScope ["thing"] ["thing"] (defScope s__law_counts):=⟨rfl,rfl,rfl,by decide +kernel,rfl,by decide +kernel,by decide +kernel⟩
noncomputable abbrev s__law_kinds:Stmt:=top 54
theorem sc__law_kinds:FnScope ["told","row"] ["told"] (defScope s__law_kinds):=⟨rfl,rfl,rfl,by decide +kernel,rfl,by decide +kernel,by decide +kernel⟩
noncomputable abbrev s_law:Stmt:=top 56
theorem sc_law:FnScope ["script","xs","kind","chest","many","wishes","people","works","pot","grains","steps","told","due","row"] ["script"] (defScope s_law):=⟨rfl,rfl,rfl,by decide +kernel,rfl,by decide +kernel,by decide +kernel⟩
structure Cls (K:W.Frag):Prop where
 o_Chest:L2.Cls K (clsA K "Chest")
 n_Chest_purses:NoAttr K (clsA K "Chest") "purses"
 n_Chest_costs:NoAttr K (clsA K "Chest") "costs"
 n_Chest_wishes:NoAttr K (clsA K "Chest") "wishes"
 n_Chest_unshared:NoAttr K (clsA K "Chest") "unshared"
 n_Chest_gifts:NoAttr K (clsA K "Chest") "gifts"
 n_Chest_outlay:NoAttr K (clsA K "Chest") "outlay"
noncomputable def rd__law_spins (K:W.Frag):TS:=
 (tSeq (tAsg (tLst tNil) (gName 2))
  (tSeq (tFor (iRng1 (tCons (tVar 1) tNil)) (gName 3) (tSeq (tAsg (tOp oAdd (tOp oAdd (tOp oMod (tVar 0) (tC (.int 900900929))) (tOp oMul (tC (.int 2503)) (tVar 3))) (tC (.int 77))) (gName 4))
  (tDrop (tBM K "list" rAppend (tVar 2) (tCons (tOp oMod (tOp oDiv (tOp oMul (tOp oMul (tVar 4) (tVar 4)) (tOp oAdd (tVar 4) (tOp oMul (tC (.int 31)) (tVar 3)))) (tC (.int 13))) (tC (.int 700700003))) tNil)))))
  (tRet (tVar 2))))
noncomputable def rd_Chest___init__ (K:W.Frag):TS:=
 (tSeq (sFld K (tVar 0) tDNewK "purses")
  (tSeq (sFld K (tVar 0) tDNewK "costs")
  (tSeq (sFld K (tVar 0) (tLst tNil) "wishes")
  (tSeq (sFld K (tVar 0) (tC (.int 0)) "unshared")
  (tSeq (sFld K (tVar 0) (tC (.int 0)) "gifts")
  (sFld K (tVar 0) (tC (.int 0)) "outlay"))))))
noncomputable def rd_is_name (K:W.Frag):TS:=
 (tRet (tAndV (tChain oLe oLe (tC (.int 1)) (tCB rLenT (tCons (tVar 0) tNil)) (tC (.int 8))) (tCB (rAll K) (tCons (tComp [none] (iText (tVar 0)) (gName 0) tYes (tOp rInS (tVar 0) (tC (.str "abcdefghijklmnopqrstuvwxyz")))) tNil))))
noncomputable def rd_check_new_name (K:W.Frag):TS:=
 (tSeq (tIfS (tNot (tB (tCall (sp_is_name K) [] E0 (tCons (tVar 0) tNil)))) tDead tNext)
  (tIfS (tB (tDIn (tVar 0) (tVar 1))) tDead tNext))
noncomputable def rd_check_place (K:W.Frag):TS:=
 (tIfS (tTest (tOp oGe (tCB rLenD (tCons (tVar 0) tNil)) (tVar 1))) tDead tNext)
noncomputable def rd_Chest_enrol (K:W.Frag):TS:=
 (tSeq (tDrop (tCall (sp_check_new_name K) [] E0 (tCons (tVar 1) (tCons (tFld K (tVar 0) "purses") tNil))))
  (tSeq (tDrop (tCall (sp_check_place K) [] E0 (tCons (tFld K (tVar 0) "purses") (tCons (tC (.int 20)) tNil))))
  (sDPut (tFld K (tVar 0) "purses") (tVar 1) (tC (.int 0)))))
noncomputable def rd_check_coins (K:W.Frag):TS:=
 (tIfS (tOr (tTest (tOp oLt (tVar 0) (tVar 1))) (tTest (tOp oGt (tVar 0) (tC (.int 1000000000))))) tDead tNext)
noncomputable def rd_Chest_share (K:W.Frag):TS:=
 (tSeq (sFldAug K (tVar 0) (tOp oMul (tVar 1) (tCB rLenD (tCons (tFld K (tVar 0) "purses") tNil))) rSub "unshared")
  (sFld K (tVar 0) (tCB (rDictL K) (tCons (tThaw (tComp [none,none,some 1] (iItems (tFld K (tVar 0) "purses")) (gTup K 2 (gCons (gName 0) (gCons (gName 1) gNil))) tYes (tTup (tCons (tVar 0) (tCons (tOp oAdd (tVar 1) (tVar 2)) tNil))))) tNil)) "purses"))
noncomputable def rd_Chest_give (K:W.Frag):TS:=
 (tSeq (tDrop (tCall (sp_check_coins K) [] E0 (tCons (tVar 1) (tCons (tC (.int 0)) tNil))))
  (tSeq (sFldAug K (tVar 0) (tVar 1) rAdd "gifts")
  (tSeq (sFldAug K (tVar 0) (tVar 1) rAdd "unshared")
  (tIfS (tBD (tFld K (tVar 0) "purses")) (tDrop (tMeth (clsA K "Chest") "share" (sp_Chest_share K) [] E0 (tVar 0) (tCons (tOp oDiv (tFld K (tVar 0) "unshared") (tCB rLenD (tCons (tFld K (tVar 0) "purses") tNil))) tNil))) tNext))))
noncomputable def rd__law_name (K:W.Frag):TS:=
 (tSeq (tAsg (tC (.str "abcdefghijklmnopqrstuvwxyz")) (gName 2))
  (tSeq (tAsg (tCall (sp__law_spins K) [] E0 (tCons (tVar 0) (tCons (tC (.int 9)) tNil))) (gName 3))
  (tSeq (tAsg (tBM K "str" (rJoin K) (tC (.str "")) (tCons (tComp [none,some 2] (iList K (tSl (rSlL K) (tVar 3) tNoPart (tPart (tC (.int 7))))) (gName 0) tYes (tOp rIxS (tVar 1) (tOp oMod (tVar 0) (tC (.int 26))))) tNil)) (gName 4))
  (tSeq (tIfS (tTest (tOp rEq (tOp oMod (tOp (rIxL K) (tVar 3) (tC (.int 8))) (tC (.int 4))) (tC (.int 0)))) (tRet (tOp rAddS (tOp rIxS (tVar 2) (tOp oMod (tOp oAdd (tOp (rIxL K) (tVar 3) (tC (.int 7))) (tOp oDiv (tVar 1) (tC (.int 8)))) (tC (.int 26)))) (tSl rSlS (tVar 4) tNoPart (tPart (tOp oMod (tVar 1) (tC (.int 8))))))) tNext)
  (tSeq (tIfS (tTest (tOp rEq (tOp oMod (tOp (rIxL K) (tVar 3) (tC (.int 8))) (tC (.int 4))) (tC (.int 1)))) (tRet (tOp rAddS (tSl rSlS (tVar 4) (tPart (tOp oSub (tC (.int 7)) (tOp oMod (tVar 1) (tC (.int 8))))) tNoPart) (tOp rIxS (tVar 2) (tOp oMod (tOp oAdd (tOp (rIxL K) (tVar 3) (tC (.int 7))) (tOp oDiv (tVar 1) (tC (.int 8)))) (tC (.int 26)))))) tNext)
  (tSeq (tAsg (tSl rSlS (tVar 4) tNoPart (tPart (tOp oMod (tOp oDiv (tOp (rIxL K) (tVar 3) (tC (.int 8))) (tC (.int 4))) (tC (.int 8))))) (gName 4))
  (tSeq (tAsg (tOp oMod (tOp oDiv (tOp (rIxL K) (tVar 3) (tC (.int 8))) (tC (.int 32))) (tOp oAdd (tCB rLenT (tCons (tVar 4) tNil)) (tC (.int 1)))) (gName 5))
  (tRet (tOp rAddS (tOp rAddS (tSl rSlS (tVar 4) tNoPart (tPart (tVar 5))) (tOp rIxS (tVar 2) (tOp oMod (tOp oAdd (tOp (rIxL K) (tVar 3) (tC (.int 7))) (tVar 1)) (tC (.int 26))))) (tSl rSlS (tVar 4) (tPart (tVar 5)) tNoPart))))))))))
noncomputable def rd__law_coins (K:W.Frag):TS:=
 (tSeq (tIfS (tOr (tTest (tOp rEq (tVar 1) (tC (.int 0)))) (tTest (tOp rEq (tOp oMod (tVar 0) (tC (.int 4))) (tC (.int 0))))) (tRet (tOp oMod (tOp oDiv (tVar 0) (tC (.int 4))) (tC (.int 60)))) tNext)
  (tSeq (tIfS (tTest (tOp rEq (tOp oMod (tVar 0) (tC (.int 4))) (tC (.int 1)))) (tRet (tOp (rIxL K) (tLst (tCons (tC (.int 0)) (tCons (tC (.int 1)) (tCons (tOp oPow (tC (.int 10)) (tC (.int 9))) (tCons (tOp oSub (tOp oPow (tC (.int 10)) (tC (.int 9))) (tC (.int 1))) tNil))))) (tOp oMod (tOp oDiv (tVar 0) (tC (.int 4))) (tC (.int 4))))) tNext)
  (tRet (tOp oMod (tOp oMul (tVar 0) (tC (.int 41))) (tOp oAdd (tOp oPow (tC (.int 10)) (tC (.int 9))) (tC (.int 1)))))))
noncomputable def rd__law_people (K:W.Frag):TS:=
 (tFor (iRng1 (tCons (tVar 2) tNil)) (gName 4) (tSeq (tDrop (tMeth (clsA K "Chest") "enrol" (sp_Chest_enrol K) [] E0 (tVar 0) (tCons (tCall (sp__law_name K) [] E0 (tCons (tVar 1) (tCons (tVar 4) tNil))) tNil)))
  (tDrop (tMeth (clsA K "Chest") "give" (sp_Chest_give K) [] E0 (tVar 0) (tCons (tCall (sp__law_coins K) [] E0 (tCons (tOp (rIxL K) (tCall (sp__law_spins K) [] E0 (tCons (tOp oAdd (tVar 1) (tC (.int 7001))) (tCons (tVar 2) tNil))) (tVar 4)) (tCons (tVar 3) tNil))) tNil)))))
noncomputable def rd_Chest_given (K:W.Frag):TS:=
 (tRet (tFld K (tVar 0) "gifts"))
noncomputable def rd_Chest_propose (K:W.Frag):TS:=
 (tSeq (tDrop (tCall (sp_check_new_name K) [] E0 (tCons (tVar 1) (tCons (tFld K (tVar 0) "costs") tNil))))
  (tSeq (tDrop (tCall (sp_check_coins K) [] E0 (tCons (tVar 2) (tCons (tC (.int 1)) tNil))))
  (tSeq (tDrop (tCall (sp_check_place K) [] E0 (tCons (tFld K (tVar 0) "costs") (tCons (tC (.int 12)) tNil))))
  (sDPut (tFld K (tVar 0) "costs") (tVar 1) (tVar 2)))))
noncomputable def rd__law_plans (K:W.Frag):TS:=
 (tSeq (tAsg (tMeth (clsA K "Chest") "given" (sp_Chest_given K) [] E0 (tVar 0) tNil) (gName 4))
  (tSeq (tAsg (tCall (sp__law_spins K) [] E0 (tCons (tVar 1) (tCons (tOp oMul (tC (.int 2)) (tVar 2)) tNil))) (gName 5))
  (tFor (iRng1 (tCons (tVar 2) tNil)) (gName 6) (tSeq (tAsg (tOp oAdd (tC (.int 1)) (tOp oMod (tCall (sp__law_coins K) [] E0 (tCons (tOp (rIxL K) (tVar 5) (tOp oMul (tC (.int 2)) (tVar 6))) (tCons (tVar 3) tNil))) (tOp oPow (tC (.int 10)) (tC (.int 9))))) (gName 7))
  (tSeq (tIfS (tTest (tOp oGt (tOp oMod (tOp (rIxL K) (tVar 5) (tOp oAdd (tOp oMul (tC (.int 2)) (tVar 6)) (tC (.int 1)))) (tC (.int 5))) (tC (.int 1)))) (tAsg (tOp oAdd (tC (.int 1)) (tOp oMod (tOp oDiv (tOp oMul (tVar 4) (tOp oMod (tOp oDiv (tOp (rIxL K) (tVar 5) (tOp oAdd (tOp oMul (tC (.int 2)) (tVar 6)) (tC (.int 1)))) (tC (.int 5))) (tC (.int 40)))) (tC (.int 80))) (tOp oPow (tC (.int 10)) (tC (.int 9))))) (gName 7)) tNext)
  (tDrop (tMeth (clsA K "Chest") "propose" (sp_Chest_propose K) [] E0 (tVar 0) (tCons (tCall (sp__law_name K) [] E0 (tCons (tOp oDiv (tVar 1) (tC (.int 3))) (tCons (tVar 6) tNil))) (tCons (tVar 7) tNil)))))))))
noncomputable def rd_Chest_voters (K:W.Frag):TS:=
 (tRet (tCB rListV (tCons (tBM0 K "dict" rItems (tFld K (tVar 0) "purses")) tNil)))
noncomputable def rd_Chest_wanters (K:W.Frag):TS:=
 (tRet (tThaw (tComp [none,some 1,some 0] (iKeys (tFld K (tVar 0) "purses")) (gName 0) (tTest (tOp (rInD K false) (tTup (tCons (tVar 0) (tCons (tVar 1) tNil))) (tFld K (tVar 2) "wishes"))) (tVar 0))))
noncomputable def rd_Chest_works (K:W.Frag):TS:=
 (tRet (tThaw (tComp [none,none,some 0] (iItems (tFld K (tVar 0) "costs")) (gTup K 2 (gCons (gName 0) (gCons (gName 1) gNil))) tYes (tTup (tCons (tVar 0) (tCons (tVar 1) (tCons (tMeth (clsA K "Chest") "wanters" (sp_Chest_wanters K) [] E0 (tVar 2) (tCons (tVar 0) tNil)) tNil)))))))
noncomputable def rd_Chest_check_voter (K:W.Frag):TS:=
 (tIfS (tB (tDNotIn (tVar 1) (tFld K (tVar 0) "purses"))) tDead tNext)
noncomputable def rd_Chest_check_work (K:W.Frag):TS:=
 (tIfS (tB (tDNotIn (tVar 1) (tFld K (tVar 0) "costs"))) tDead tNext)
noncomputable def rd_Chest_want (K:W.Frag):TS:=
 (tSeq (tDrop (tMeth (clsA K "Chest") "check_voter" (sp_Chest_check_voter K) [] E0 (tVar 0) (tCons (tVar 1) tNil)))
  (tSeq (tDrop (tMeth (clsA K "Chest") "check_work" (sp_Chest_check_work K) [] E0 (tVar 0) (tCons (tVar 2) tNil)))
  (tIfS (tTest (tOp (rInD K true) (tTup (tCons (tVar 1) (tCons (tVar 2) tNil))) (tFld K (tVar 0) "wishes"))) (tDrop (tBM K "list" rAppend (tFld K (tVar 0) "wishes") (tCons (tTup (tCons (tVar 1) (tCons (tVar 2) tNil))) tNil))) tNext)))
noncomputable def rd__law_wishes (K:W.Frag):TS:=
 (tSeq (tAsg (tComp [none] (iList K (tMeth (clsA K "Chest") "voters" (sp_Chest_voters K) [] E0 (tVar 0) tNil)) (gName 0) tYes (tOp (rIxT K) (tVar 0) (tC (.int 0)))) (gName 2))
  (tSeq (tAsg (tComp [none] (iList K (tMeth (clsA K "Chest") "works" (sp_Chest_works K) [] E0 (tVar 0) tNil)) (gName 0) tYes (tOp (rIxT K) (tVar 0) (tC (.int 0)))) (gName 3))
  (tSeq (tAsg (tComp [none] (iList K (tVar 2)) (gName 0) tYes (tLst tNil)) (gName 4))
  (tSeq (tFor (iList K (tVar 1)) (gName 5) (tSeq (tAsg (tCall (sp__law_spins K) [] E0 (tCons (tVar 5) (tCons (tC (.int 2)) tNil))) (gName 6))
  (tIfS (tAnd (tTest (tOp (rEqD K true) (tVar 2) (tLst tNil))) (tTest (tOp (rEqD K true) (tVar 3) (tLst tNil)))) (tSeq (tAsg (tOp oMod (tOp (rIxL K) (tVar 6) (tC (.int 0))) (tCB (rLenL K) (tCons (tVar 2) tNil))) (gName 7))
  (tSeq (tAsg (tOp oMod (tOp (rIxL K) (tVar 6) (tC (.int 1))) (tCB (rLenL K) (tCons (tVar 3) tNil))) (gName 8))
  (tSeq (tDrop (tMeth (clsA K "Chest") "want" (sp_Chest_want K) [] E0 (tVar 0) (tCons (tOp (rIxL K) (tVar 2) (tVar 7)) (tCons (tOp (rIxL K) (tVar 3) (tVar 8)) tNil))))
  (tAsg (tCB (rSorted K) (tCons (tOp rCat (tComp [none,some 8] (iList K (tOp (rIxL K) (tVar 4) (tVar 7))) (gName 0) (tTest (tOp rNe (tVar 0) (tVar 1))) (tVar 0)) (tLst (tCons (tVar 8) tNil))) tNil)) (gSub (tVar 4) (tVar 7) rSetL))))) tNext)))
  (tRet (tVar 4))))))
noncomputable def rd_Chest_pot (K:W.Frag):TS:=
 (tRet (tFld K (tVar 0) "unshared"))
noncomputable def rd_least_multiple (K:W.Frag):TS:=
 (tSeq (tAsg (tVar 0) (gName 2))
  (tSeq (tWhile (tTest (tOp rNe (tOp oMod (tVar 2) (tVar 1)) (tC (.int 0)))) (tAug 2 (tVar 0) oAdd))
  (tRet (tVar 2))))
noncomputable def rd_together (K:W.Frag):TS:=
 (tSeq (tAsg (tC (.int 1)) (gName 1))
  (tSeq (tFor (iRng2 (tCons (tC (.int 1)) (tCons (tOp oAdd (tVar 0) (tC (.int 1))) tNil))) (gName 2) (tAsg (tCall (sp_least_multiple K) [] E0 (tCons (tVar 1) (tCons (tVar 2) tNil))) (gName 1)))
  (tRet (tVar 1))))
noncomputable def rd_grains_of (K:W.Frag):TS:=
 (tSeq (tAsg (tCall (sp_together K) [] E0 (tCons (tVar 0) tNil)) (gName 2))
  (tSeq (tAsg (tVar 2) (gName 3))
  (tSeq (tFor (iRng1 (tCons (tVar 1) tNil)) (gName 4) (tAug 3 (tVar 2) oMul))
  (tRet (tVar 3)))))
noncomputable def rd_paid_by (K:W.Frag):TS:=
 (tRet (tCB (rSum K) (tCons (tComp [none,none,none,some 1] (iList K (tVar 0)) (gTup K 3 (gCons (gName 0) (gCons (gName 1) (gCons (gName 2) gNil)))) tYes (tOp (rIxL K) (tVar 2) (tVar 3))) tNil)))
noncomputable def rd_left_of (K:W.Frag):TS:=
 (tRet (tComp [none,none,some 1] (iEnum K (tVar 0)) (gTup K 2 (gCons (gName 0) (gCons (gName 1) gNil))) tYes (tOp oSub (tVar 1) (tCall (sp_paid_by K) [] E0 (tCons (tVar 2) (tCons (tVar 0) tNil))))))
noncomputable def rd_prices_of (K:W.Frag):TS:=
 (tSeq (tAsg (tCall (sp_grains_of K) [] E0 (tCons (tCB (rLenL K) (tCons (tVar 1) tNil)) (tCons (tCB (rLenL K) (tCons (tVar 0) tNil)) tNil))) (gName 2))
  (tRet (tComp [none,some 2] (iList K (tVar 0)) (gName 0) tYes (tOp oMul (tVar 0) (tVar 1)))))
noncomputable def rd_rounded_up (K:W.Frag):TS:=
 (tRet (tOp oDiv (tOp oSub (tOp oAdd (tVar 0) (tVar 1)) (tC (.int 1))) (tVar 1)))
noncomputable def rd_level_for (K:W.Frag):TS:=
 (tSeq (tIfS (tTest (tOp oLt (tCB (rSum K) (tCons (tVar 0) tNil)) (tVar 1))) (tRet (tC .non)) tNext)
  (tSeq (tAsg (tVar 1) (gName 2))
  (tSeq (tAsg (tCB (rLenL K) (tCons (tVar 0) tNil)) (gName 3))
  (tSeq (tFor (iList K (tCB (rSorted K) (tCons (tVar 0) tNil))) (gName 4) (tSeq (tIfS (tTest (tOp oGe (tOp oMul (tVar 4) (tVar 3)) (tVar 2))) (tRet (tCall (sp_rounded_up K) [] E0 (tCons (tVar 2) (tCons (tVar 3) tNil)))) tNext)
  (tSeq (tAug 2 (tVar 4) oSub)
  (tAug 3 (tC (.int 1)) oSub))))
  (tRet (tC (.int 0)))))))
noncomputable def rd_wants_all (K:W.Frag):TS:=
 (tRet (tCB (rAll K) (tCons (tComp [none,some 0] (iList K (tVar 1)) (gName 0) tYes (tOp (rIn K false) (tVar 0) (tVar 1))) tNil)))
noncomputable def rd_common_of (K:W.Frag):TS:=
 (tRet (tComp [none,none,some 1] (iEnum K (tVar 0)) (gTup K 2 (gCons (gName 0) (gCons (gName 1) gNil))) (tB (tCall (sp_wants_all K) [] E0 (tCons (tVar 1) (tCons (tVar 2) tNil)))) (tVar 0)))
noncomputable def rd_wanters_of (K:W.Frag):TS:=
 (tRet (tCall (sp_common_of K) [] E0 (tCons (tVar 0) (tCons (tLst (tCons (tVar 1) tNil)) tNil))))
noncomputable def rd_offer_of (K:W.Frag):TS:=
 (tRet (tCall (sp_level_for K) [] E0 (tCons (tComp [none,some 0] (iList K (tCall (sp_wanters_of K) [] E0 (tCons (tVar 1) (tCons (tVar 2) tNil)))) (gName 0) tYes (tOp (rIxL K) (tVar 1) (tVar 0))) (tCons (tVar 3) tNil))))
noncomputable def rd_offers_of (K:W.Frag):TS:=
 (tSeq (tAsg (tLst tNil) (gName 4))
  (tSeq (tFor (iEnum K (tCall (sp_prices_of K) [] E0 (tCons (tVar 1) (tCons (tVar 2) tNil)))) (gTup K 2 (gCons (gName 5) (gCons (gName 6) gNil))) (tDrop (tBM K "list" rAppend (tVar 4) (tCons (tIf (tTest (tOp (rIn K false) (tVar 5) (tVar 3))) (tC .non) (tCall (sp_offer_of K) [] E0 (tCons (tVar 0) (tCons (tVar 2) (tCons (tVar 5) (tCons (tVar 6) tNil)))))) tNil))))
  (tRet (tVar 4))))
noncomputable def rd_next_of (K:W.Frag):TS:=
 (tSeq (tAsg (tC .non) (gName 1))
  (tSeq (tFor (iEnum K (tVar 0)) (gTup K 2 (gCons (gName 2) (gCons (gName 3) gNil))) (tIfS (tAnd (tTest (tOp oNotN (tVar 3) (tC .non))) (tOr (tTest (tOp oIsN (tVar 1) (tC .non))) (tTest (tOp oLt (tVar 3) (tOp (rIxL K) (tVar 0) (tVar 1)))))) (tAsg (tVar 2) (gName 1)) tNext))
  (tRet (tVar 1))))
noncomputable def rd_works_of (K:W.Frag):TS:=
 (tRet (tCB (rSorted K) (tCons (tComp [none,none,none] (iList K (tVar 0)) (gTup K 3 (gCons (gName 0) (gCons (gName 1) (gCons (gName 2) gNil)))) tYes (tVar 0)) tNil)))
noncomputable def rd_paid_at (K:W.Frag):TS:=
 (tRet (tComp [none,some 1] (iList K (tVar 0)) (gName 0) tYes (tCB rMin (tCons (tVar 0) (tCons (tVar 1) tNil)))))
noncomputable def rd_payments_of (K:W.Frag):TS:=
 (tSeq (tAsg (tCall (sp_wanters_of K) [] E0 (tCons (tVar 1) (tCons (tVar 2) tNil))) (gName 4))
  (tRet (tComp [none,none,some 4] (iEnum K (tCall (sp_paid_at K) [] E0 (tCons (tVar 0) (tCons (tVar 3) tNil)))) (gTup K 2 (gCons (gName 0) (gCons (gName 1) gNil))) tYes (tIf (tTest (tOp (rIn K false) (tVar 0) (tVar 2))) (tVar 1) (tC (.int 0))))))
noncomputable def rd_step_behind (K:W.Frag):TS:=
 (tSeq (tAsg (tCall (sp_left_of K) [] E0 (tCons (tVar 0) (tCons (tVar 3) tNil))) (gName 4))
  (tSeq (tAsg (tCall (sp_offers_of K) [] E0 (tCons (tVar 4) (tCons (tVar 1) (tCons (tVar 2) (tCons (tCall (sp_works_of K) [] E0 (tCons (tVar 3) tNil)) tNil))))) (gName 5))
  (tSeq (tAsg (tCall (sp_next_of K) [] E0 (tCons (tVar 5) tNil)) (gName 6))
  (tSeq (tIfS (tTest (tOp oIsN (tVar 6) (tC .non))) (tRet (tC .non)) tNext)
  (tSeq (tAsg (tOp (rIxL K) (tVar 5) (tVar 6)) (gName 7))
  (tRet (tTup (tCons (tVar 6) (tCons (tVar 7) (tCons (tCall (sp_payments_of K) [] E0 (tCons (tVar 4) (tCons (tVar 2) (tCons (tVar 6) (tCons (tVar 7) tNil))))) tNil))))))))))
noncomputable def rd_choose (K:W.Frag):TS:=
 (tSeq (tAsg (tLst tNil) (gName 3))
  (tSeq (tAsg (tCall (sp_step_behind K) [] E0 (tCons (tVar 0) (tCons (tVar 1) (tCons (tVar 2) (tCons (tVar 3) tNil))))) (gName 4))
  (tSeq (tWhile (tTest (tOp oNotN (tVar 4) (tC .non))) (tSeq (tDrop (tBM K "list" rAppend (tVar 3) (tCons (tVar 4) tNil)))
  (tAsg (tCall (sp_step_behind K) [] E0 (tCons (tVar 0) (tCons (tVar 1) (tCons (tVar 2) (tCons (tVar 3) tNil))))) (gName 4))))
  (tRet (tVar 3)))))
noncomputable def rd_Chest_keep_coins (K:W.Frag):TS:=
 (tSeq (sFldAug K (tVar 0) (tOp oDiv (tCB (rSum K) (tCons (tComp [none,some 2] (iList K (tVar 1)) (gName 0) tYes (tOp oMod (tVar 0) (tVar 1))) tNil)) (tVar 2)) rAdd "unshared")
  (sFld K (tVar 0) (tDictZ K (tCons (tFld K (tVar 0) "purses") (tCons (tComp [none,some 2] (iList K (tVar 1)) (gName 0) tYes (tOp oDiv (tVar 0) (tVar 1))) tNil))) "purses"))
noncomputable def rd_Chest_wanted_places (K:W.Frag):TS:=
 (tRet (tThaw (tComp [none,none,some 1,some 0] (iEnumK (tFld K (tVar 0) "costs")) (gTup K 2 (gCons (gName 0) (gCons (gName 1) gNil))) (tTest (tOp (rInD K false) (tTup (tCons (tVar 2) (tCons (tVar 1) tNil))) (tFld K (tVar 3) "wishes"))) (tVar 0))))
noncomputable def rd_Chest_told_step (K:W.Frag):TS:=
 (tSeq (tAsg (tOp (rIxL K) (tCB rListD (tCons (tFld K (tVar 0) "costs") tNil)) (tVar 1)) (gName 3))
  (tSeq (tAsg (tThaw (tComp [none,none] (iZipK K (tCons (tFld K (tVar 0) "purses") (tCons (tVar 2) tNil))) (gTup K 2 (gCons (gName 0) (gCons (gName 1) gNil))) (tTest (tOp oGt (tVar 1) (tC (.int 0)))) (tTup (tCons (tVar 0) (tCons (tVar 1) tNil))))) (gName 4))
  (tRet (tTup (tCons (tVar 3) (tCons (tDGet (tFld K (tVar 0) "costs") (tVar 3)) (tCons (tVar 4) tNil)))))))
noncomputable def rd_Chest_withdraw (K:W.Frag):TS:=
 (tSeq (tDrop (tMeth (clsA K "Chest") "check_work" (sp_Chest_check_work K) [] E0 (tVar 0) (tCons (tVar 1) tNil)))
  (tSeq (tDrop (tDPop1 (tFld K (tVar 0) "costs") (tVar 1)))
  (sFld K (tVar 0) (tComp [none,none,some 1] (iList K (tFld K (tVar 0) "wishes")) (gTup K 2 (gCons (gName 0) (gCons (gName 1) gNil))) (tTest (tOp rNe (tVar 1) (tVar 2))) (tTup (tCons (tVar 0) (tCons (tVar 1) tNil)))) "wishes")))
noncomputable def rd_Chest_close (K:W.Frag):TS:=
 (tSeq (tIfS (tOr (tNot (tBD (tFld K (tVar 0) "purses"))) (tNot (tBD (tFld K (tVar 0) "costs")))) (tRet (tTup (tCons (tLst tNil) (tCons (tC (.int 1)) tNil)))) tNext)
  (tSeq (tAsg (tCall (sp_grains_of K) [] E0 (tCons (tCB rLenD (tCons (tFld K (tVar 0) "purses") tNil)) (tCons (tCB rLenD (tCons (tFld K (tVar 0) "costs") tNil)) tNil))) (gName 1))
  (tSeq (tAsg (tThaw (tComp [none,some 1] (iVals (tFld K (tVar 0) "purses")) (gName 0) tYes (tOp oMul (tVar 0) (tVar 1)))) (gName 2))
  (tSeq (tAsg (tThaw (tComp [none,some 0] (iKeys (tFld K (tVar 0) "purses")) (gName 0) tYes (tMeth (clsA K "Chest") "wanted_places" (sp_Chest_wanted_places K) [] E0 (tVar 1) (tCons (tVar 0) tNil)))) (gName 3))
  (tSeq (tAsg (tCall (sp_choose K) [] E0 (tCons (tVar 2) (tCons (tCB rListVal (tCons (tBM0 K "dict" rVals (tFld K (tVar 0) "costs")) tNil)) (tCons (tVar 3) tNil)))) (gName 4))
  (tSeq (tAsg (tComp [none,none,none,some 0] (iList K (tVar 4)) (gTup K 3 (gCons (gName 0) (gCons (gName 1) (gCons (gName 2) gNil)))) tYes (tMeth (clsA K "Chest") "told_step" (sp_Chest_told_step K) [] E0 (tVar 3) (tCons (tVar 0) (tCons (tVar 2) tNil)))) (gName 5))
  (tSeq (tDrop (tMeth (clsA K "Chest") "keep_coins" (sp_Chest_keep_coins K) [] E0 (tVar 0) (tCons (tCall (sp_left_of K) [] E0 (tCons (tVar 2) (tCons (tVar 4) tNil))) (tCons (tVar 1) tNil))))
  (tSeq (tFor (iList K (tVar 5)) (gTup K 3 (gCons (gName 6) (gCons (gName 7) (gCons (gName 8) gNil)))) (tSeq (sFldAug K (tVar 0) (tVar 7) rAdd "outlay")
  (tDrop (tMeth (clsA K "Chest") "withdraw" (sp_Chest_withdraw K) [] E0 (tVar 0) (tCons (tVar 6) tNil)))))
  (tRet (tTup (tCons (tVar 5) (tCons (tVar 1) tNil))))))))))))
noncomputable def rd_Chest_spent (K:W.Frag):TS:=
 (tRet (tFld K (tVar 0) "outlay"))
noncomputable def rd__law_behind (K:W.Frag):TS:=
 (tSeq (tAsg (tC (.int 0)) (gName 6))
  (tSeq (tFor (iEnum K (tVar 1)) (gTup K 2 (gCons (gName 7) (gCons (gName 8) gNil))) (tSeq (tAsg (tOp oSub (tOp oMul (tOp (rIxT K) (tVar 8) (tC (.int 1))) (tVar 4)) (tCB (rSum K) (tCons (tComp [none,none,none,some 7] (iList K (tVar 3)) (gTup K 3 (gCons (gName 0) (gCons (gName 1) (gCons (gName 2) gNil)))) tYes (tOp (rIxL K) (tVar 2) (tVar 3))) tNil))) (gName 9))
  (tSeq (tAsg (tOp oAdd (tVar 6) (tOp oMod (tVar 9) (tVar 4))) (gName 6))
  (tIfS (tTest (tOp (rEqD K true) (tOp (rIxL K) (tMeth (clsA K "Chest") "voters" (sp_Chest_voters K) [] E0 (tVar 0) tNil) (tVar 7)) (tTup (tCons (tOp (rIxT K) (tVar 8) (tC (.int 0))) (tCons (tOp oDiv (tVar 9) (tVar 4)) tNil))))) (tRet (tC (.bl false))) tNext))))
  (tSeq (tAsg (tComp [none,none,none] (iList K (tVar 3)) (gTup K 3 (gCons (gName 0) (gCons (gName 1) (gCons (gName 2) gNil)))) tYes (tVar 0)) (gName 10))
  (tSeq (tAsg (tCB (rSum K) (tCons (tComp [none,some 2] (iList K (tVar 10)) (gName 0) tYes (tOp (rIxT K) (tOp (rIxL K) (tVar 1) (tVar 0)) (tC (.int 1)))) tNil)) (gName 11))
  (tSeq (tIfS (tTest (tOp (rEqD K true) (tMeth (clsA K "Chest") "works" (sp_Chest_works K) [] E0 (tVar 0) tNil) (tComp [none,some 10,some 2] (iRng1 (tCons (tCB (rLenL K) (tCons (tVar 2) tNil)) tNil)) (gName 0) (tTest (tOp (rIn K true) (tVar 0) (tVar 1))) (tOp (rIxL K) (tVar 2) (tVar 0))))) (tRet (tC (.bl false))) tNext)
  (tRet (tAndV (tOp rEq (tOp oMod (tVar 6) (tVar 4)) (tC (.int 0))) (tAndV (tOp rEq (tMeth (clsA K "Chest") "pot" (sp_Chest_pot K) [] E0 (tVar 0) tNil) (tOp oAdd (tVar 5) (tOp oDiv (tVar 6) (tVar 4)))) (tOp rEq (tMeth (clsA K "Chest") "spent" (sp_Chest_spent K) [] E0 (tVar 0) tNil) (tVar 11))))))))))
noncomputable def rd__law_nth (K:W.Frag):TS:=
 (tSeq (tFor (iList K (tSl (rSlL K) (tVar 0) (tPart (tVar 1)) (tPart (tOp oAdd (tVar 1) (tC (.int 1)))))) (gName 2) (tRet (tVar 2)))
  (tRet (tC (.int 0))))
noncomputable def rd__law_rows (K:W.Frag):TS:=
 (tSeq (tAsg (tLst tNil) (gName 3))
  (tSeq (tFor (iList K (tVar 2)) (gTup K 3 (gCons (gName 4) (gCons (gName 5) (gCons (gName 6) gNil)))) (tSeq (tAsg (tComp [none,some 6,some 0] (iRng1 (tCons (tCB (rLenL K) (tCons (tVar 0) tNil)) tNil)) (gName 0) (tTest (tOp oGt (tOp (rIxL K) (tVar 1) (tVar 0)) (tC (.int 0)))) (tTup (tCons (tOp (rIxT K) (tOp (rIxL K) (tVar 2) (tVar 0)) (tC (.int 0))) (tCons (tOp (rIxL K) (tVar 1) (tVar 0)) tNil)))) (gName 7))
  (tDrop (tBM K "list" rAppend (tVar 3) (tCons (tTup (tCons (tOp (rIxT K) (tOp (rIxL K) (tVar 1) (tVar 4)) (tC (.int 0))) (tCons (tOp (rIxT K) (tOp (rIxL K) (tVar 1) (tVar 4)) (tC (.int 1))) (tCons (tVar 7) tNil)))) tNil)))))
  (tRet (tVar 3))))
noncomputable def rd__law_counts (K:W.Frag):TS:=
 (tRet (tAndV (tNotV (tCB (rIsi K) (tCons (tVar 0) (tCons (tC (.ty "bool")) tNil)))) (tCB (rIsi K) (tCons (tVar 0) (tCons (tC (.ty "int")) tNil)))))
noncomputable def rd__law_kinds (K:W.Frag):TS:=
 (tSeq (tIfS (tOr (tNot (tB (tCB (rIsi K) (tCons (tVar 0) (tCons (tC (.ty "tuple")) tNil))))) (tOr (tTest (tOp rNe (tCB (rLenL K) (tCons (tVar 0) tNil)) (tC (.int 2)))) (tOr (tNot (tB (tCB (rIsi K) (tCons (tOp (rIxT K) (tVar 0) (tC (.int 0))) (tCons (tC (.ty "list")) tNil))))) (tNot (tB (tCall (sp__law_counts K) [] E0 (tCons (tOp (rIxT K) (tVar 0) (tC (.int 1))) tNil))))))) (tRet (tC (.bl false))) tNext)
  (tSeq (tFor (iList K (tOp (rIxT K) (tVar 0) (tC (.int 0)))) (gName 1) (tSeq (tIfS (tOr (tNot (tB (tCB (rIsi K) (tCons (tVar 1) (tCons (tC (.ty "tuple")) tNil))))) (tOr (tNot (tB (tCB (rIsi K) (tCons (tOp (rIxT K) (tVar 1) (tC (.int 0))) (tCons (tC (.ty "str")) tNil))))) (tNot (tB (tCall (sp__law_counts K) [] E0 (tCons (tOp (rIxT K) (tVar 1) (tC (.int 1))) tNil)))))) (tRet (tC (.bl false))) tNext)
  (tIfS (tOr (tNot (tB (tCB (rIsi K) (tCons (tOp (rIxT K) (tVar 1) (tC (.int 2))) (tCons (tC (.ty "list")) tNil))))) (tTest (tOp (rEqD K true) (tComp [none] (iList K (tOp (rIxT K) (tVar 1) (tC (.int 2)))) (gName 0) (tNot (tB (tCall (sp__law_counts K) [] E0 (tCons (tOp (rIxT K) (tVar 0) (tC (.int 1))) tNil)))) (tVar 0)) (tLst tNil)))) (tRet (tC (.bl false))) tNext)))
  (tRet (tC (.bl true)))))
noncomputable def rd_law (K:W.Frag):TS:=
 (tSeq (tAsg (tCall (sp__law_spins K) [] E0 (tCons (tCall (sp__law_nth K) [] E0 (tCons (tVar 0) (tCons (tC (.int 0)) tNil))) (tCons (tC (.int 4)) tNil))) (gName 1))
  (tSeq (tAsg (tOp oMod (tOp (rIxL K) (tVar 1) (tC (.int 2))) (tC (.int 2))) (gName 2))
  (tSeq (tAsg (tMake (clsA K "Chest") (sp_Chest___init__ K) [] E0 tNil) (gName 3))
  (tSeq (tAsg (tOp (rIxL K) (tLst (tCons (tC (.int 0)) (tCons (tC (.int 20)) (tCons (tOp oMod (tOp oDiv (tOp (rIxL K) (tVar 1) (tC (.int 0))) (tC (.int 24))) (tC (.int 21))) (tCons (tOp oAdd (tC (.int 1)) (tOp oMod (tOp oDiv (tOp (rIxL K) (tVar 1) (tC (.int 0))) (tC (.int 24))) (tC (.int 6)))) tNil))))) (tCB rMin (tCons (tC (.int 3)) (tCons (tOp oMod (tOp (rIxL K) (tVar 1) (tC (.int 0))) (tC (.int 24))) tNil)))) (gName 4))
  (tSeq (tDrop (tCall (sp__law_people K) [] E0 (tCons (tVar 3) (tCons (tCall (sp__law_nth K) [] E0 (tCons (tVar 0) (tCons (tC (.int 1)) tNil))) (tCons (tVar 4) (tCons (tVar 2) tNil))))))
  (tSeq (tAsg (tOp (rIxL K) (tLst (tCons (tC (.int 0)) (tCons (tC (.int 12)) (tCons (tOp oMod (tOp oDiv (tOp (rIxL K) (tVar 1) (tC (.int 1))) (tC (.int 24))) (tC (.int 13))) (tCons (tOp oAdd (tC (.int 1)) (tOp oMod (tOp oDiv (tOp (rIxL K) (tVar 1) (tC (.int 1))) (tC (.int 24))) (tC (.int 6)))) tNil))))) (tCB rMin (tCons (tC (.int 3)) (tCons (tOp oMod (tOp (rIxL K) (tVar 1) (tC (.int 1))) (tC (.int 24))) tNil)))) (gName 4))
  (tSeq (tDrop (tCall (sp__law_plans K) [] E0 (tCons (tVar 3) (tCons (tCall (sp__law_nth K) [] E0 (tCons (tVar 0) (tCons (tC (.int 2)) tNil))) (tCons (tVar 4) (tCons (tVar 2) tNil))))))
  (tSeq (tAsg (tCall (sp__law_wishes K) [] E0 (tCons (tVar 3) (tCons (tSl (rSlL K) (tVar 0) (tPart (tC (.int 3))) (tPart (tC (.int 63)))) tNil))) (gName 5))
  (tSeq (tAsg (tMeth (clsA K "Chest") "voters" (sp_Chest_voters K) [] E0 (tVar 3) tNil) (gName 6))
  (tSeq (tAsg (tMeth (clsA K "Chest") "works" (sp_Chest_works K) [] E0 (tVar 3) tNil) (gName 7))
  (tSeq (tAsg (tMeth (clsA K "Chest") "pot" (sp_Chest_pot K) [] E0 (tVar 3) tNil) (gName 8))
  (tSeq (tAsg (tC (.int 1)) (gName 9))
  (tSeq (tAsg (tLst tNil) (gName 10))
  (tSeq (tIfS (tAnd (tTest (tOp (rEqD K true) (tVar 6) (tLst tNil))) (tTest (tOp (rEqD K true) (tVar 7) (tLst tNil)))) (tSeq (tAsg (tCall (sp_grains_of K) [] E0 (tCons (tCB (rLenL K) (tCons (tVar 6) tNil)) (tCons (tCB (rLenL K) (tCons (tVar 7) tNil)) tNil))) (gName 9))
  (tAsg (tCall (sp_choose K) [] E0 (tCons (tComp [none,none,some 9] (iList K (tVar 6)) (gTup K 2 (gCons (gName 0) (gCons (gName 1) gNil))) tYes (tOp oMul (tVar 1) (tVar 2))) (tCons (tComp [none] (iList K (tVar 7)) (gName 0) tYes (tOp (rIxT K) (tVar 0) (tC (.int 1)))) (tCons (tVar 5) tNil)))) (gName 10))) tNext)
  (tSeq (tAsg (tMeth (clsA K "Chest") "close" (sp_Chest_close K) [] E0 (tVar 3) tNil) (gName 11))
  (tSeq (tAsg (tTup (tCons (tCall (sp__law_rows K) [] E0 (tCons (tVar 6) (tCons (tVar 7) (tCons (tVar 10) tNil)))) (tCons (tVar 9) tNil))) (gName 12))
  (tSeq (tIfS (tOr (tNot (tB (tCall (sp__law_kinds K) [] E0 (tCons (tVar 11) tNil)))) (tTest (tOp (rEqD K true) (tVar 11) (tVar 12)))) (tRet (tC (.bl false))) tNext)
  (tSeq (tFor (iList K (tOp (rIxT K) (tVar 11) (tC (.int 0)))) (gName 13) (tDrop (tBM K "list" rAppend (tOp (rIxT K) (tVar 13) (tC (.int 2))) (tCons (tTup (tCons (tC (.str "z")) (tCons (tC (.int 1)) tNil))) tNil))))
  (tSeq (tDrop (tBM0 K "list" rClear (tOp (rIxT K) (tVar 11) (tC (.int 0)))))
  (tRet (tCall (sp__law_behind K) [] E0 (tCons (tVar 3) (tCons (tVar 6) (tCons (tVar 7) (tCons (tVar 10) (tCons (tVar 9) (tCons (tVar 8) tNil)))))))))))))))))))))))))))
section
variable {K:W.Frag}
theorem rk__law_spins:∀ vs H Q E,sp__law_spins K vs H Q E→rd__law_spins K {nx:=fun _ H'=>Q .non H',rt:=Q} (start ["cell","many","spins","k","turn"] vs) H:=by
 rintro vs H Q E ⟨_,c,m,rfl,hm,q⟩
 unfold rd__law_spins
 walk_at "q"
 walk_at "s1"
 rename_i l H1 f1 s1 h1
 walk_at "q"
 walk_at "s1"
 have en:((m:Int)).toNat=m:=by omega
 rw [en]
 refine for_range (lo:=0) (n:=m) (fun i σ H'=>Same H H'∧∃ (v3 v4:Option V),H' l=some (.lst ((spinL c i).map V.int))∧σ=[some (.int c),some (.int m),some (.ref l),v3,v4]) ⟨s1,_,_,h1,rfl⟩ ?_ ?_
 ·rintro i σ H2 hi ⟨s2,v3,v4,h2,rfl⟩
  have fit:((spinL c i).map V.int).length < sizeLine:=by rw [List.length_map,spinL_len];exact Nat.lt_of_lt_of_le (show i < 1000 by omega) line64
  show tSeq _ _ _ _ _
  walk_at "q"
  walk_at "s1"
  have t0:0≤c % 900900929 + 2503 * (0 + (i:Int)) + 77:=by omega
  have t1:c % 900900929 + 2503 * (0 + (i:Int)) + 77≤1000000000:=by omega
  have et:c % 900900929 + 2503 * (0 + (i:Int)) + 77=c % 900900929 + 2503 * (i:Int) + 77:=by omega
  have e:(c % 900900929 + 2503 * (0 + (i:Int)) + 77) * (c % 900900929 + 2503 * (0 + (i:Int)) + 77) * (c % 900900929 + 2503 * (0 + (i:Int)) + 77 + 31 * (0 + (i:Int))) / 13 % 700700003=spin c i:=by
   unfold spin
   rw [et,show (0 + (i:Int))=(i:Int) by omega]
  generalize c % 900900929 + 2503 * (0 + (i:Int)) + 77=t at *
  walk_at "s1"
  refine ⟨tyL h2,?_⟩
  walk_at "s1"
  refine r_appendN h2 fit ?_
  rw [e]
  refine ⟨s2.upd f1,_,_,?_,rfl⟩
  rw [upd_same]
  unfold spinL
  rw [List.range_succ]
  simp
 ·rintro σ Ha ⟨sa,v3,v4,h2,rfl⟩
  walk_at "s1"
  exact q l Ha f1 sa h2
theorem rk_Chest___init__ (C:Cls K):∀ vs H Q E,sp_Chest___init__ K vs H Q E→rd_Chest___init__ K {nx:=fun _ H'=>Q .non H',rt:=Q} (start ["self"] vs) H:=by
 rintro vs H Q E ⟨_,c,dx,rfl,hc,q⟩
 unfold rd_Chest___init__
 walk_at "q"
 walk_at "s1"
 refine r_dnew fun d1 H1 f1 s1 h1=>?_
 walk_at "s1"
 have l0:([]:List (Str×V)).length≤0:=Nat.le_refl _
 have l1:(putF "purses" (.ref d1) []).length≤1:=putF_len _ _ _
 refine k_sto (s1 _ _ hc) C.o_Chest C.n_Chest_purses (by decide) ?_
 have n1:d1≠c:=(ne_of_free hc f1).symm
 have b1:But [c] H1 (upd H1 c (.ins (clsA K "Chest") dx (putF "purses" (.ref d1) []))):=But.upd (s1 _ _ hc) (by intro xs z;cases z) (by simp)
 walk_at "q"
 walk_at "s1"
 refine r_dnew fun d2 H2 f2 s2 h2=>?_
 walk_at "s1"
 have l2:(putF "costs" (.ref d2) (putF "purses" (.ref d1) [])).length≤2:=Nat.le_trans (putF_len _ _ _) (by omega)
 refine k_sto (s2 _ _ upd_same) C.o_Chest C.n_Chest_costs (by omega) ?_
 have n2:d2≠c:=(ne_of_free upd_same f2).symm
 have n12:d1≠d2:=ne_of_free (b1.1 d1 _ (by simpa using n1) h1) f2
 have b2:But [c] H2 (upd H2 c (.ins (clsA K "Chest") dx (putF "costs" (.ref d2) (putF "purses" (.ref d1) [])))):=But.upd (s2 _ _ upd_same) (by intro xs z;cases z) (by simp)
 walk_at "q"
 walk_at "s1"
 rename_i w H3 f3 s3 h3
 have l3:(putF "wishes" (.ref w) (putF "costs" (.ref d2) (putF "purses" (.ref d1) []))).length≤3:=Nat.le_trans (putF_len _ _ _) (by omega)
 refine k_sto (s3 _ _ upd_same) C.o_Chest C.n_Chest_wishes (by omega) ?_
 have n3:w≠c:=(ne_of_free upd_same f3).symm
 have b3:But [c] H3 (upd H3 c (.ins (clsA K "Chest") dx (putF "wishes" (.ref w) (putF "costs" (.ref d2) (putF "purses" (.ref d1) []))))):=But.upd (s3 _ _ upd_same) (by intro xs z;cases z) (by simp)
 walk_at "q"
 walk_at "s1"
 have l4:(putF "unshared" (.int 0) (putF "wishes" (.ref w) (putF "costs" (.ref d2) (putF "purses" (.ref d1) [])))).length≤4:=Nat.le_trans (putF_len _ _ _) (by omega)
 refine k_sto upd_same C.o_Chest C.n_Chest_unshared (by omega) ?_
 walk_at "q"
 walk_at "s1"
 have l5:(putF "gifts" (.int 0) (putF "unshared" (.int 0) (putF "wishes" (.ref w) (putF "costs" (.ref d2) (putF "purses" (.ref d1) []))))).length≤5:=Nat.le_trans (putF_len _ _ _) (by omega)
 refine k_sto upd_same C.o_Chest C.n_Chest_gifts (by omega) ?_
 walk_at "s1"
 refine k_sto upd_same C.o_Chest C.n_Chest_outlay (by omega) ?_
 rw [pf_init]
 have hI:∀ (G:Hp) (o:List (Str×V)) (fs:List (Str×V)),G c=some (.ins (clsA K "Chest") dx o)→But [c] G (upd G c (.ins (clsA K "Chest") dx fs)):=fun G o fs h=>But.upd h (by intro xs z;cases z) (by simp)
 have key:∀ Hf:Hp,But [c] H3 Hf→Hf c=some (.ins (clsA K "Chest") dx (chF d1 d2 w 0 0 0))→Q .non Hf:=fun Hf b4 hf=>by
  have b5:=(b2.trans (But.of s3)).trans b4
  have b6:=(b1.trans (But.of s2)).trans b5
  refine q _ [c,d1,d2,w] ⟨dx,d1,d2,w,[],⟨hf,b6.1 d1 _ (by simpa using n1) h1,b5.1 d2 _ (by simpa using n2) h2,b4.1 w _ (by simpa using n3) h3,.nil,n12,List.nodup_nil,List.nodup_nil⟩,rfl⟩ ((But.of s1).trans b6) ?_
  intro a ha
  have g2:H1 d2=none:=b1.2.2 _ f2
  have g3:H1 w=none:=((b1.trans (But.of s2)).trans b2).2.2 _ f3
  simp only [List.mem_cons,List.not_mem_nil,or_false] at ha
  rcases ha with rfl | rfl | rfl | rfl
  ·exact .inl (by simp)
  ·exact .inr f1
  ·exact .inr (s1.free g2)
  ·exact .inr (s1.free g3)
 refine key _ ?_ upd_same
 exact ((b3.trans (hI _ _ _ upd_same)).trans (hI _ _ _ upd_same)).trans (hI _ _ _ upd_same)
theorem rk_is_name:∀ vs H Q E,sp_is_name K vs H Q E→rd_is_name K {nx:=fun _ H'=>Q .non H',rt:=Q} (start ["name"] vs) H:=by
 rintro vs H Q E ⟨_,z,rfl,ha,hz,q⟩
 have hl:=len_toList z
 have hsz:z.cps.size=z.length:=rfl
 have e:isNm z=((decide (1≤z.length) && decide (z.length≤8)) && z.cps.toList.all isLet):=rfl
 unfold rd_is_name
 walk_at "v"
 refine iteD (fun h1=>?_) (fun h1=>?_)
 ·walk_at "s1"
  refine iteD (fun h2=>?_) (fun h2=>?_)
  ·walk_at "s1"
   refine ⟨z,rfl,ha,?_⟩
   refine comp_mapY (ys_text (x:=z) 0) (fun j=>[some (.str ⟨#[z.cps.getD j 0]⟩)]) (by rintro j σ' (rfl | ⟨k,rfl⟩) <;> rfl) (fun _ _=>trivial) (Nat.le_trans (show _≤1000 by omega) line64) (fun j=>.bl (isLet (z.cps.getD j 0))) ?_ ?_
   ·intro j hj H' F s kk
    walk_at "s1"
    rw [in_lets]
    exact kk H' (Same.refl _)
   intro l1 H1 f1 s1 h1
   have e1:(List.range z.cps.size).map (fun j=>V.bl (isLet (z.cps.getD j 0)))=(z.cps.toList.map isLet).map V.bl:=by
    rw [List.map_map]
    have:=range_getD' (fun c=>V.bl (isLet c)) 0 z.cps.toList
    rw [hl] at this
    rw [hsz]
    refine Eq.trans ?_ this
    refine List.map_congr_left fun j hj=>?_
    simp [Array.getD_eq_getD_getElem?,List.getD_eq_getElem?_getD]
   rw [e1] at h1
   have q1:SqL K H1 l1 ((z.cps.toList.map isLet).map V.bl):=SqL.of h1
   walk_at "s1"
   have e2:(z.cps.toList.map isLet).all id=isNm z:=by
    rw [e,List.all_map,decide_eq_true (by omega),decide_eq_true (by omega)]
    rfl
   rw [e2]
   exact q H1 s1
  ·walk_at "s1"
   rw [decide_eq_false (show ¬ z.length≤8 by omega),Bool.and_false,Bool.false_and] at e
   rw [← e]
   exact q H (Same.refl _)
 ·walk_at "s1"
  rw [decide_eq_false (show ¬ 1≤z.length by omega),Bool.false_and,Bool.false_and] at e
  rw [← e]
  exact q H (Same.refl _)
theorem rk_check_new_name:∀ vs H Q E,sp_check_new_name K vs H Q E→rd_check_new_name K {nx:=fun _ H'=>Q .non H',rt:=Q} (start ["name","names"] vs) H:=by
 rintro vs H Q E ⟨_,z,d,kvs,rfl,hz,hd,hv,q⟩
 have hl:=nm_len hz
 unfold rd_check_new_name
 walk_at "q"
 walk_at "s1"
 refine ⟨rfl,z,rfl,nm_ascii hz,by omega,fun H1 s1=>?_⟩
 rw [hz]
 walk_at "s1"
 refine k_din (s1 _ _ hd) ?_
 rw [hv]
 walk_at "s1"
 exact q H1 s1
theorem rk_check_place:∀ vs H Q E,sp_check_place K vs H Q E→rd_check_place K {nx:=fun _ H'=>Q .non H',rt:=Q} (start ["names","most"] vs) H:=by
 rintro vs H Q E ⟨_,d,kvs,n,rfl,hd,h1,q⟩
 unfold rd_check_place
 walk_at "s1"
 refine k_lenD hd ?_
 walk_at "s1"
 refine iteN (by omega) ?_
 walk_at "s1"
 exact q
theorem rk_Chest_enrol (C:Cls K):∀ vs H Q E,sp_Chest_enrol K vs H Q E→rd_Chest_enrol K {nx:=fun _ H'=>Q .non H',rt:=Q} (start ["self","name"] vs) H:=by
 rintro vs H Q E ⟨_,c,n,fp,s,rfl,⟨dx,d1,d2,w,wt,x,rfl⟩,hn,hm,hl,q⟩
 unfold rd_Chest_enrol
 walk_at "q"
 walk_at "s1"
 refine k_fld x.at_ C.o_Chest C.n_Chest_purses lk_purses ?_
 walk_at "s1"
 refine ⟨rfl,n,d1,_,rfl,hn,x.p1,kvI_val hm,fun H1 s1=>?_⟩
 have x1:=x.same s1
 walk_at "s1"
 walk_at "q"
 walk_at "s1"
 refine k_fld x1.at_ C.o_Chest C.n_Chest_purses lk_purses ?_
 walk_at "s1"
 refine ⟨rfl,d1,_,20,rfl,x1.p1,by rw [kvI_len];omega,?_⟩
 walk_at "s1"
 refine k_fld x1.at_ C.o_Chest C.n_Chest_purses lk_purses ?_
 walk_at "s1"
 refine k_dput x1.p1 (by rw [kvI_len];exact Nat.lt_of_lt_of_le (show _ < 1000 by omega) line64) ?_
 rw [kvI_put hm]
 refine q _ [c,d1,d2,w] ⟨dx,d1,d2,w,wt,x1.setP (ps:=s.ps ++ [(n,0)]) ?_,rfl⟩ ((But.of s1).trans (But.upd x1.p1 (by intro xs z;cases z) (by simp))) New.refl
 rw [List.map_append]
 exact nd_snoc x.nd hm
theorem rk_check_coins:∀ vs H Q E,sp_check_coins K vs H Q E→rd_check_coins K {nx:=fun _ H'=>Q .non H',rt:=Q} (start ["coins","least"] vs) H:=by
 rintro vs H Q E ⟨_,x,y,rfl,h1,h2,q⟩
 unfold rd_check_coins
 walk_at "s1"
 refine iteN (by omega) ?_
 walk_at "s1"
 refine iteN (by omega) ?_
 walk_at "s1"
 exact q
theorem rk_Chest_share (C:Cls K):∀ vs H Q E,sp_Chest_share K vs H Q E→rd_Chest_share K {nx:=fun _ H'=>Q .non H',rt:=Q} (start ["self","part"] vs) H:=by
 rintro vs H Q E ⟨_,c,x,fp,s,rfl,⟨dx,d1,d2,w,wt,X,rfl⟩,hl,q⟩
 unfold rd_Chest_share
 walk_at "q"
 walk_at "s1"
 refine k_aug X.at_ C.o_Chest C.n_Chest_unshared lk_unshared ?_
 walk_at "s1"
 refine k_fld X.at_ C.o_Chest C.n_Chest_purses lk_purses ?_
 walk_at "s1"
 refine k_lenD X.p1 ?_
 rw [kvI_len]
 walk_at "s1"
 refine ⟨_,_,rfl,rfl,dx,_,X.at_,(show 6 < 1000 by decide),?_⟩
 rw [pf_unshared]
 have X1:=X.setF (a:=s.pot - x * s.ps.length) (b:=s.giv) (e:=s.spt)
 have b1:But [c,d1,d2,w] H (upd H c (.ins (clsA K "Chest") dx (chF d1 d2 w (s.pot - x * s.ps.length) s.giv s.spt))):=But.upd X.at_ (by intro xs z;cases z) (by simp)
 generalize upd H c (.ins (clsA K "Chest") dx (chF d1 d2 w (s.pot - x * s.ps.length) s.giv s.spt))=H1 at *
 walk_at "s1"
 have hk:=kvI_len s.ps
 refine comp_items (d:=d1) (kvs:=kvI s.ps) (fun k hk=>⟨_,rfl,k_fld X1.at_ C.o_Chest C.n_Chest_purses lk_purses hk⟩) X1.p1 (by rw [hk];exact Nat.le_trans (show _≤1000 by omega) line64) (fun i=>.str (s.ps.getD i ("",0)).1) (fun i=>.int (s.ps.getD i ("",0)).2) ?_
  (fun i=>[some (.str (s.ps.getD i ("",0)).1),some (.int (s.ps.getD i ("",0)).2),some (.int x)]) (by rintro j σ' (rfl | ⟨k,rfl⟩) <;> rfl) (fun i=>[.str (s.ps.getD i ("",0)).1,.int ((s.ps.getD i ("",0)).2 + x)]) ?_ ?_
 ·intro i p hp
  have hi:i < s.ps.length:=by rw [← hk];exact (List.getElem?_eq_some_iff.mp hp).1
  rw [kvI_get (List.getElem?_eq_getElem hi)] at hp
  cases hp
  rw [List.getD_eq_getElem?_getD,List.getElem?_eq_getElem hi]
  exact ⟨rfl,rfl⟩
 ·intro i hi H' G kk
  walk_at "s1"
  rename_i a H'' f s' h
  exact kk a H'' f s' h
 intro l bs H2 f2 s2 h2 pr
 rw [hk] at pr
 have X2:=X1.same s2
 walk_at "s1"
 have nd':((s.ps.map fun p=>(p.1,p.2 + x)).map (·.1)).Nodup:=by rw [map_fst];exact X.nd
 refine ⟨l,bs,kvI (s.ps.map fun p=>(p.1,p.2 + x)),rfl,h2,?_,?_,?_,fun d f3=>?_⟩
 ·have e:kvI (s.ps.map fun p=>(p.1,p.2 + x))=(List.range s.ps.length).map fun i=>((.inr (s.ps.getD i ("",0)).1:Key),V.int ((s.ps.getD i ("",0)).2 + x)):=by
   rw [range_getD' (fun p:Str×Int=>((.inr p.1:Key),V.int (p.2 + x))) ("",0) s.ps]
   unfold kvI
   rw [List.map_map]
   rfl
  rw [e]
  exact paired_mapR (Paired.mapP pr fun i a z=>SqT.of z)
 ·unfold kvI
  rw [List.map_map]
  have:((fun p:Str×Int=>((.inr p.1:Key),V.int p.2)))=fun p:Str×Int=>((.inr p.1:Key),V.int p.2):=rfl
  show List.Nodup (List.map (fun p:Str×Int=>(Sum.inr p.1:Key)) _)
  have e2:List.map (fun p:Str×Int=>(Sum.inr p.1:Key)) (s.ps.map fun p=>(p.1,p.2 + x))=((s.ps.map fun p=>(p.1,p.2 + x)).map (·.1)).map Sum.inr:=by rw [List.map_map,List.map_map,List.map_map];rfl
  rw [e2]
  exact List.Pairwise.map _ (fun a b h z=>h (Sum.inr.inj z)) nd'
 ·rw [kvI_len,List.length_map];omega
 have s3:Same H2 (upd H2 d (.dK (kvI (s.ps.map fun p=>(p.1,p.2 + x))))):=Same.updN f3
 have X3:=X2.same s3
 have h3:upd H2 d (.dK (kvI (s.ps.map fun p=>(p.1,p.2 + x)))) d=some (.dK (kvI (s.ps.map fun p=>(p.1,p.2 + x)))):=upd_same
 generalize upd H2 d (.dK (kvI (s.ps.map fun p=>(p.1,p.2 + x))))=H3 at *
 walk_at "s1"
 refine k_sto X3.at_ C.o_Chest C.n_Chest_purses (show 6 < 1000 by decide) ?_
 rw [pf_purses]
 have X4:=X3.setD h3 (Ne.symm (ne_of_free X2.p2 f3)) nd'
 refine q _ [c,d,d2,w] ⟨dx,d,d2,w,wt,X4,rfl⟩ (((b1.trans (But.of s2)).trans (But.of s3)).trans (But.upd X3.at_ (by intro xs z;cases z) (by simp))) ?_
 intro a ha
 simp only [List.mem_cons,List.not_mem_nil,or_false] at ha
 rcases ha with rfl | rfl | rfl | rfl
 ·exact .inl (by simp)
 ·exact .inr (b1.2.2 _ (s2.free f3))
 ·exact .inl (by simp)
 ·exact .inl (by simp)
theorem rk_Chest_give (C:Cls K):∀ vs H Q E,sp_Chest_give K vs H Q E→rd_Chest_give K {nx:=fun _ H'=>Q .non H',rt:=Q} (start ["self","coins"] vs) H:=by
 rintro vs H Q E ⟨_,c,x,fp,s,rfl,⟨dx,d1,d2,w,wt,X,rfl⟩,hl,h0,h1,q⟩
 unfold rd_Chest_give
 walk_at "q"
 walk_at "s1"
 refine ⟨rfl,x,0,rfl,h0,h1,?_⟩
 walk_at "s1"
 walk_at "q"
 walk_at "s1"
 refine k_aug X.at_ C.o_Chest C.n_Chest_gifts lk_gifts ?_
 walk_at "s1"
 refine ⟨_,_,rfl,rfl,dx,_,X.at_,(show 6 < 1000 by decide),?_⟩
 rw [pf_gifts]
 have X1:=X.setF (a:=s.pot) (b:=s.giv + x) (e:=s.spt)
 have b1:But [c,d1,d2,w] H (upd H c (.ins (clsA K "Chest") dx (chF d1 d2 w s.pot (s.giv + x) s.spt))):=But.upd X.at_ (by intro xs z;cases z) (by simp)
 generalize upd H c (.ins (clsA K "Chest") dx (chF d1 d2 w s.pot (s.giv + x) s.spt))=H1 at *
 walk_at "q"
 walk_at "s1"
 refine k_aug X1.at_ C.o_Chest C.n_Chest_unshared lk_unshared ?_
 walk_at "s1"
 refine ⟨_,_,rfl,rfl,dx,_,X1.at_,(show 6 < 1000 by decide),?_⟩
 rw [pf_unshared]
 have X2:=X1.setF (a:=s.pot + x) (b:=s.giv + x) (e:=s.spt)
 have b2:But [c,d1,d2,w] H1 (upd H1 c (.ins (clsA K "Chest") dx (chF d1 d2 w (s.pot + x) (s.giv + x) s.spt))):=But.upd X1.at_ (by intro xs z;cases z) (by simp)
 generalize upd H1 c (.ins (clsA K "Chest") dx (chF d1 d2 w (s.pot + x) (s.giv + x) s.spt))=H2 at *
 walk_at "s1"
 refine k_fld X2.at_ C.o_Chest C.n_Chest_purses lk_purses ?_
 refine ⟨d1,_,rfl,X2.p1,?_⟩
 by_cases hp:s.ps=[]
 ·have e:(!(kvI s.ps).isEmpty)=false:=by rw [hp];rfl
  rw [show (!List.isEmpty (kvI (ChSt.mk s.ps s.cs s.ws (s.pot + x) (s.giv + x) s.spt).ps))=false from e]
  walk_at "s1"
  have hS:giveS s x=⟨s.ps,s.cs,s.ws,s.pot + x,s.giv + x,s.spt⟩:=by unfold giveS;rw [if_pos hp]
  exact q H2 _ (by rw [hS];exact ⟨dx,d1,d2,w,wt,X2,rfl⟩) (b1.trans b2) New.refl
 ·have hpos:0 < s.ps.length:=List.length_pos_iff.mpr hp
  have e:(!(kvI s.ps).isEmpty)=true:=by
   cases hh:s.ps with
   | nil=>exact absurd hh hp
   | cons=>rfl
  rw [show (!List.isEmpty (kvI (ChSt.mk s.ps s.cs s.ws (s.pot + x) (s.giv + x) s.spt).ps))=true from e]
  walk_at "s1"
  refine k_meth X2.at_ (lk_no (by decide +kernel)) ?_
  walk_at "s1"
  refine k_fld X2.at_ C.o_Chest C.n_Chest_unshared lk_unshared ?_
  walk_at "s1"
  refine k_fld X2.at_ C.o_Chest C.n_Chest_purses lk_purses ?_
  walk_at "s1"
  refine k_lenD X2.p1 ?_
  rw [kvI_len]
  have e3:(ChSt.mk s.ps s.cs s.ws (s.pot + x) (s.giv + x) s.spt).ps.length=s.ps.length:=rfl
  refine r_div (by rw [e3];omega) (by rw [e3];omega) ?_
  walk_at "s1"
  have hS:giveS s x=shareS ⟨s.ps,s.cs,s.ws,s.pot + x,s.giv + x,s.spt⟩ ((s.pot + x) / (s.ps.length:Int)):=by unfold giveS;rw [if_neg hp]
  refine ⟨rfl,c,_,[c,d1,d2,w],⟨s.ps,s.cs,s.ws,s.pot + x,s.giv + x,s.spt⟩,rfl,⟨dx,d1,d2,w,wt,X2,rfl⟩,hl,fun H3 fp3 x3 b3 n3=>?_⟩
  walk_at "s1"
  exact q H3 fp3 (by rw [hS];exact x3) ((b1.trans b2).trans b3) (New.refl.trans n3 (b1.trans b2))
theorem join_ones:∀ (cs:List Nat),(Str.join ("":Str) (cs.map fun c=>⟨#[c]⟩)).cps.toList=cs:=by
 rw [none_eq]
 intro cs
 induction cs with
 | nil=>rfl
 | cons a r ih=>
  cases r with
  | nil=>rfl
  | cons b t=>
   show (((⟨#[a]⟩:Str) ++ (⟨#[]⟩:Str) ++ Str.join ⟨#[]⟩ ((b::t).map fun c=>(⟨#[c]⟩:Str))).cps).toList=_
   rw [PySem.Str.cps_append,PySem.Str.cps_append,Array.toList_append,Array.toList_append,ih]
   simp
theorem rk__law_name:∀ vs H Q E,sp__law_name K vs H Q E→rd__law_name K {nx:=fun _ H'=>Q .non H',rt:=Q} (start ["cell","k","letters","xs","word","at"] vs) H:=by
 rintro vs H Q E ⟨_,c,k,rfl,hk,q⟩
 have hL:("abcdefghijklmnopqrstuvwxyz":Str).length=26:=by decide +kernel
 have hla:=let_at
 unfold rd__law_name
 walk_at "q"
 walk_at "s1"
 generalize ("abcdefghijklmnopqrstuvwxyz":Str)=letters at *
 have hix:∀ (x:Int) (H':Hp) (Q':VK),Q' (.str ⟨#[letN x]⟩) H'→rIxS (.str letters) (.int (x % 26)) H' Q':=fun x H' Q' z=>⟨letters,_,letN x,rfl,rfl,by rw [size_eq];omega,hla x,z⟩
 walk_at "q"
 walk_at "s1"
 refine ⟨rfl,c,9,rfl,by decide,fun l H1 f1 s1 h1=>?_⟩
 have q1:SqL K H1 l ((spinL c 9).map V.int):=SqL.of h1
 walk_at "s1"
 walk_at "q"
 walk_at "s1"
 rename_i p2 H2 f2 s2 h2
 have e2:cutV ((spinL c 9).map V.int) none (some 7)=((List.range 7).map (spin c)).map V.int:=by
  have:cutV ((spinL c 9).map V.int) none (some ((7:Nat):Int))=((spinL c 9).take 7).map V.int:=cut_take _ _
  refine Eq.trans this ?_
  congr 1
 rw [e2] at h2
 have q2:SqL K H2 p2 (((List.range 7).map (spin c)).map V.int):=SqL.of h2
 refine comp_mapY (ys_list (K:=K) (xs:=((List.range 7).map (spin c)).map V.int) 0) (fun j=>[some ((((List.range 7).map (spin c)).map V.int).getD j .non),some (.str letters)]) (by rintro j σ' (rfl | ⟨k,rfl⟩) <;> rfl) (fun H' s=>s.seq q2) (by exact Nat.le_trans (show 7≤1000 by decide) line64) (fun j=>.str ⟨#[letN (spin c j)]⟩) ?_ ?_
 ·intro j hj H' F s kk
  have hj:j < 7:=by simpa using hj
  have et:(((List.range 7).map (spin c)).map V.int).getD j .non=.int (spin c j):=by simp [List.getD,hj]
  rw [et]
  walk_at "s1"
  exact hix _ _ _ (kk H' (Same.refl _))
 intro l3 H3 f3 s3 h3
 have e3:(List.range (((List.range 7).map (spin c)).map V.int).length).map (fun j=>V.str ⟨#[letN (spin c j)]⟩)=((wl c).map fun c=>(⟨#[c]⟩:Str)).map V.str:=by
  rw [List.length_map,List.length_map,List.length_range]
  unfold wl
  rw [List.map_map,List.map_map]
  rfl
 rw [e3] at h3
 have s23:=s2.trans s3
 have q3:SqL K H3 l ((spinL c 9).map V.int):=s23.seq q1
 walk_at "s1"
 have hone:∀ x∈(wl c).map fun c=>(⟨#[c]⟩:Str),x.length≤1:=fun x hx=>by
  obtain ⟨j,_,rfl⟩:=List.mem_map.mp hx
  exact Nat.le_refl 1
 have hz:("":Str).length=0:=by decide +kernel
 refine r_join 1 (SqL.of h3) hone (by rw [List.length_map,wl_len,hz];decide) ?_
 have hw:=join_ones (wl c)
 have hwl:=len_toList (Str.join ("":Str) ((wl c).map fun c=>(⟨#[c]⟩:Str)))
 rw [hw,wl_len] at hwl
 generalize Str.join ("":Str) ((wl c).map fun c=>(⟨#[c]⟩:Str))=word at *
 have g7:atI ((spinL c 9).map V.int) 7=some (.int (spin c 7)):=atI_nat (j:=7) (spinL_at (by decide))
 have g8:atI ((spinL c 9).map V.int) 8=some (.int (spin c 8)):=atI_nat (j:=8) (spinL_at (by decide))
 have s03:=s1.trans s23
 have fin:∀ z:Str,z.cps.toList=nameL c k→Q (.str z) H3:=fun z hz=>by
  have:z=nameF c k:=str_toList.mpr (by rw [hz,nameF_list])
  rw [this]
  exact q H3 s03
 have hk8:(k:Int) % 8=((k % 8:Nat):Int):=by omega
 have hd8:(k:Int) / 8=((k / 8:Nat):Int):=by omega
 walk_at "s1"
 walk_at "q"
 walk_at "s1"
 refine r_ix q3 g8 ?_
 walk_at "s1"
 refine iteD (fun h0=>?_) (fun h0=>?_)
 ·walk_at "s1"
  refine r_ix q3 g7 ?_
  walk_at "s1"
  refine hix _ _ _ ?_
  walk_at "s1"
  rw [hk8,hd8]
  have hs:=slice_to (z:=word) (b:=k % 8) (by omega)
  have hsl:=len_toList (PySem.Txt.slice word none (some ((k % 8:Nat):Int)))
  rw [hs,List.length_take,hw,wl_len] at hsl
  refine r_addS (by rw [one_len];omega) ?_
  refine fin _ ?_
  rw [app_toList,hs,hw]
  unfold nameL
  rw [if_pos h0]
  rfl
 walk_at "s1"
 walk_at "q"
 walk_at "s1"
 refine r_ix q3 g8 ?_
 walk_at "s1"
 refine iteD (fun h1'=>?_) (fun h1'=>?_)
 ·walk_at "s1"
  refine r_ix q3 g7 ?_
  walk_at "s1"
  refine hix _ _ _ ?_
  have e7:(7:Int) - (k:Int) % 8=((7 - k % 8:Nat):Int):=by omega
  rw [e7,hd8]
  have hs:=slice_from (z:=word) (a:=7 - k % 8) (by omega)
  have hsl:=len_toList (PySem.Txt.slice word (some ((7 - k % 8:Nat):Int)) none)
  rw [hs,List.length_drop,hw,wl_len] at hsl
  refine r_addS (by rw [one_len];omega) ?_
  refine fin _ ?_
  rw [app_toList,hs,hw]
  unfold nameL
  rw [if_neg h0,if_pos h1']
 walk_at "s1"
 walk_at "q"
 walk_at "s1"
 refine r_ix q3 g8 ?_
 walk_at "s1"
 obtain ⟨n,hn,hn8⟩:∃ n:Nat,spin c 8 / 4 % 8=(n:Int)∧n < 8:=⟨(spin c 8 / 4 % 8).toNat,by omega,by omega⟩
 have e3:nm3 c=(wl c).take n:=by unfold nm3;rw [hn];rfl
 rw [hn]
 have hs:=slice_to (z:=word) (b:=n) (by omega)
 have hsl:=len_toList (PySem.Txt.slice word none (some (n:Int)))
 rw [hs,hw,← e3] at hsl
 rw [hw,← e3] at hs
 generalize PySem.Txt.slice word none (some (n:Int))=w3 at *
 have h3l:=nm3_len c
 walk_at "q"
 walk_at "s1"
 refine r_ix q3 g8 ?_
 walk_at "s1"
 have hat:spin c 8 / 32 % ((w3.length:Int) + 1)=(at3 c:Int):=by
  unfold at3
  rw [hsl]
  have:=Int.emod_nonneg (spin c 8 / 32) (show ((w3.length:Int) + 1)≠0 by omega)
  omega
 have hat2:at3 c≤w3.length:=by
  have:=Int.emod_lt_of_pos (spin c 8 / 32) (show 0 < (w3.length:Int) + 1 by omega)
  omega
 rw [hat]
 walk_at "s1"
 refine r_ix q3 g7 ?_
 walk_at "s1"
 refine hix _ _ _ ?_
 have ha:=slice_to (z:=w3) (b:=at3 c) hat2
 have hb:=slice_from (z:=w3) (a:=at3 c) hat2
 have hal:=len_toList (PySem.Txt.slice w3 none (some (at3 c:Int)))
 have hbl:=len_toList (PySem.Txt.slice w3 (some (at3 c:Int)) none)
 rw [ha,List.length_take,hs] at hal
 rw [hb,List.length_drop,hs] at hbl
 refine r_addS (by rw [one_len];omega) ?_
 have hcl:=len_toList (PySem.Txt.slice w3 none (some (at3 c:Int)) ++ ⟨#[letN (spin c 7 + (k:Int))]⟩)
 rw [app_toList,List.length_append,ha,hs,List.length_take] at hcl
 have h1l:(⟨#[letN (spin c 7 + (k:Int))]⟩:Str).cps.toList=[letN (spin c 7 + (k:Int))]:=rfl
 rw [h1l] at hcl
 simp only [List.length_singleton] at hcl
 walk_at "s1"
 refine fin _ ?_
 rw [app_toList,app_toList,ha,hb,hs,h1l]
 unfold nameL
 rw [if_neg h0,if_neg h1']
 simp
theorem rk__law_coins:∀ vs H Q E,sp__law_coins K vs H Q E→rd__law_coins K {nx:=fun _ H'=>Q .non H',rt:=Q} (start ["x","kind"] vs) H:=by
 rintro vs H Q E ⟨_,x,kind,rfl,q⟩
 unfold rd__law_coins
 walk_at "q"
 walk_at "s1"
 refine iteD (fun h0=>?_) (fun h0=>?_)
 ·walk_at "s1"
  exact q _ H (Same.refl _) (by omega) (by omega)
 walk_at "s1"
 refine iteD (fun h0=>?_) (fun h0=>?_)
 ·walk_at "s1"
  exact q _ H (Same.refl _) (by omega) (by omega)
 walk_at "v"
 refine iteD (fun h0=>?_) (fun h0=>?_)
 ·walk_at "s1"
  rename_i l H1 f1 s1 h1
  obtain ⟨r,hr,hr3⟩:∃ r:Nat,x / 4 % 4=(r:Int)∧r < 4:=⟨(x / 4 % 4).toNat,by omega,by omega⟩
  rw [hr]
  obtain ⟨kd,hk,k0,k1⟩:∃ kd:Int,([V.int 0,V.int 1,V.int (10 ^ 9),V.int (10 ^ 9 - 1)]:List V)[r]?=some (.int kd)∧0≤kd∧kd≤1000000000:=by
   have:r=0∨r=1∨r=2∨r=3:=by omega
   rcases this with rfl | rfl | rfl | rfl
   ·exact ⟨0,rfl,by omega,by omega⟩
   ·exact ⟨1,rfl,by omega,by omega⟩
   ·exact ⟨_,rfl,by omega,by omega⟩
   ·exact ⟨_,rfl,by omega,by omega⟩
  refine r_ix (SqL.of h1) (atI_nat (j:=r) hk) ?_
  exact q kd H1 s1 k0 k1
 walk_at "s1"
 have e10:(10:Int) ^ Int.toNat 9 + 1=1000000001:=by decide
 rw [e10]
 refine q _ H (Same.refl _) ?_ ?_ <;> omega
theorem rk__law_people:∀ vs H Q E,sp__law_people K vs H Q E→rd__law_people K {nx:=fun _ H'=>Q .non H',rt:=Q} (start ["chest","cell","many","kind","k"] vs) H:=by
 rintro vs H Q E ⟨_,c,cell,kind,m,fp,rfl,hm,X0,q⟩
 unfold rd__law_people
 walk_at "s1"
 rw [show ((m:Int)).toNat=m by omega]
 refine for_range (lo:=0) (n:=m) (fun i σ H'=>∃ fp' s v4,ChestAt K H' c fp' s∧PeoS cell i s∧But fp H H'∧New fp fp' H∧σ=[some (.ref c),some (.int cell),some (.int m),some (.int kind),v4])
  ⟨fp,_,_,X0,PeoS.nil cell,But.of (Same.refl _),New.refl,rfl⟩ ?_ ?_
 ·rintro i σ H1 hi ⟨fp1,s,v4,x1,ps1,b1,n1,rfl⟩
  obtain ⟨dx,d1,d2,w,wt,X,efp⟩:=id x1
  show tSeq _ _ _ _ _
  walk_at "q"
  walk_at "s1"
  refine k_meth X.at_ (lk_no (by decide +kernel)) ?_
  walk_at "s1"
  refine ⟨rfl,cell,i,by rw [show (0 + (i:Int))=(i:Int) by omega],by omega,fun H2 s2=>?_⟩
  walk_at "s1"
  have hnotin:nameF cell i∉s.ps.map (·.1):=fun mm=>by
   rw [ps1.en] at mm
   obtain ⟨j,hj,e⟩:=List.mem_map.mp mm
   have hj:=List.mem_range.mp hj
   have:=nameF_inj (show j < 21 by omega) (show i < 21 by omega) e
   omega
  have hl:=ps1.len
  refine ⟨rfl,c,nameF cell i,fp1,s,rfl,x1.same s2,nameF_nm _ _,hnotin,by omega,fun H3 fp3 x3 b3 n3=>?_⟩
  obtain ⟨dx',d1',d2',w',wt',X3,efp'⟩:=id x3
  walk_at "s1"
  refine k_meth X3.at_ (lk_no (by decide +kernel)) ?_
  walk_at "s1"
  refine ⟨rfl,cell + 7001,m,rfl,by omega,fun l H4 f4 s4 h4=>?_⟩
  walk_at "s1"
  refine r_ix (SqL.of h4) (v:=.int (spin (cell + 7001) i)) (by rw [show (0 + (i:Int))=(i:Int) by omega];exact atI_nat (j:=i) (spinL_at hi)) ?_
  walk_at "s1"
  refine ⟨rfl,_,kind,rfl,fun v H5 s5 v0 v1=>?_⟩
  walk_at "s1"
  refine ⟨rfl,c,v,fp3,_,rfl,(x3.same s4).same s5,by simp;omega,v0,v1,fun H6 fp6 x6 b6 n6=>?_⟩
  walk_at "s1"
  have mv:=((((show Mv fp fp1 H H1 from ⟨b1,n1⟩).trans (Mv.same s2)).trans ⟨b3,n3⟩).trans (Mv.same (s4.trans s5))).trans ⟨b6,n6⟩
  exact ⟨fp6,_,_,x6,ps1.step v0 v1,mv.1,mv.2,rfl⟩
 ·rintro σ H1 ⟨fp1,s,v4,x1,ps1,b1,n1,rfl⟩
  exact q H1 fp1 s x1 ps1 b1 n1
theorem rk_Chest_given (C:Cls K):∀ vs H Q E,sp_Chest_given K vs H Q E→rd_Chest_given K {nx:=fun _ H'=>Q .non H',rt:=Q} (start ["self"] vs) H:=by
 rintro vs H Q E ⟨_,c,fp,s,rfl,⟨dx,d1,d2,w,wt,x,rfl⟩,q⟩
 unfold rd_Chest_given
 walk_at "s1"
 exact k_fld x.at_ C.o_Chest C.n_Chest_gifts lk_gifts q
theorem rk_Chest_propose (C:Cls K):∀ vs H Q E,sp_Chest_propose K vs H Q E→rd_Chest_propose K {nx:=fun _ H'=>Q .non H',rt:=Q} (start ["self","work","cost"] vs) H:=by
 rintro vs H Q E ⟨_,c,n,x,fp,s,rfl,⟨dx,d1,d2,w,wt,X,rfl⟩,hn,hm,h0,h1,hl,q⟩
 unfold rd_Chest_propose
 walk_at "q"
 walk_at "s1"
 refine k_fld X.at_ C.o_Chest C.n_Chest_costs lk_costs ?_
 walk_at "s1"
 refine ⟨rfl,n,d2,_,rfl,hn,X.p2,kvI_val hm,fun H1 s1=>?_⟩
 have x1:=X.same s1
 walk_at "s1"
 walk_at "q"
 walk_at "s1"
 refine ⟨rfl,x,1,rfl,h0,h1,?_⟩
 walk_at "s1"
 walk_at "q"
 walk_at "s1"
 refine k_fld x1.at_ C.o_Chest C.n_Chest_costs lk_costs ?_
 walk_at "s1"
 refine ⟨rfl,d2,_,12,rfl,x1.p2,by rw [kvI_len];omega,?_⟩
 walk_at "s1"
 refine k_fld x1.at_ C.o_Chest C.n_Chest_costs lk_costs ?_
 walk_at "s1"
 refine k_dput x1.p2 (by rw [kvI_len];exact Nat.lt_of_lt_of_le (show _ < 1000 by omega) line64) ?_
 rw [kvI_put hm]
 refine q _ [c,d1,d2,w] ⟨dx,d1,d2,w,wt,x1.setC (cs:=s.cs ++ [(n,x)]) ?_,rfl⟩ ((But.of s1).trans (But.upd x1.p2 (by intro xs z;cases z) (by simp))) New.refl
 rw [List.map_append]
 exact nd_snoc X.nd2 hm
theorem rk__law_plans:∀ vs H Q E,sp__law_plans K vs H Q E→rd__law_plans K {nx:=fun _ H'=>Q .non H',rt:=Q} (start ["chest","cell","many","kind","coins","xs","k","cost"] vs) H:=by
 rintro vs H Q E ⟨_,c,cell,kind,m,fp,s,rfl,hm,X0,hcs,q⟩
 obtain ⟨dx,d1,d2,w,wt,X,efp⟩:=id X0
 unfold rd__law_plans
 walk_at "q"
 walk_at "s1"
 refine k_meth X.at_ (lk_no (by decide +kernel)) ?_
 walk_at "s1"
 refine ⟨rfl,c,fp,s,rfl,X0,?_⟩
 walk_at "s1"
 walk_at "q"
 walk_at "s1"
 refine ⟨rfl,cell,2 * m,by rfl,by omega,fun l H1 f1 s1 h1=>?_⟩
 walk_at "s1"
 rw [show ((m:Int)).toNat=m by omega]
 have hlfp:l∉fp:=fun mm=>X0.there l mm f1
 refine for_range (lo:=0) (n:=m) (fun i σ H'=>∃ fp' cs v6 v7,ChestAt K H' c fp' {s with cs:=cs}∧cs.map (·.1)=(List.range i).map (nameF (cell / 3))∧(∀ p∈cs,1≤p.2∧p.2≤1000000000)∧Mv fp fp' H1 H'∧σ=[some (.ref c),some (.int cell),some (.int m),some (.int kind),some (.int s.giv),some (.ref l),v6,v7])
  ⟨fp,[],_,_,by rw [← hcs];exact X0.same s1,rfl,(by intro p h;cases h),Mv.same (Same.refl _),rfl⟩ ?_ ?_
 ·rintro i σ H2 hi ⟨fp2,cs,v6,v7,x2,en,cb,mv,rfl⟩
  have h2:=mv.1.1 _ _ hlfp h1
  have e0:(0 + (i:Int))=(i:Int):=by omega
  show tSeq _ _ _ _ _
  walk_at "q"
  walk_at "s1"
  refine r_ix (SqL.of h2) (v:=.int (spin cell (2 * i))) (by rw [show (2 * (0 + (i:Int)))=((2 * i:Nat):Int) by push_cast;omega];exact atI_nat (j:=2 * i) (spinL_at (by omega))) ?_
  walk_at "s1"
  refine ⟨rfl,_,kind,rfl,fun v H3 s3 v0 v1=>?_⟩
  walk_at "s1"
  have e10:(10:Int) ^ Int.toNat 9=1000000000:=by decide
  rw [e10]
  have h3:=s3 _ _ h2
  with_reducible refine r_cut (fun σ H'=>H'=H3∧∃ cost:Int,1≤cost∧cost≤1000000000∧σ=[some (.ref c),some (.int cell),some (.int m),some (.int kind),some (.int s.giv),some (.ref l),some (.int (0 + (i:Int))),some (.int cost)]) (fun F hF=>?_) ?_
  ·walk_at "s1"
   refine r_ix (SqL.of h3) (v:=.int (spin cell (2 * i + 1))) (by rw [show (2 * (0 + (i:Int)) + 1)=((2 * i + 1:Nat):Int) by push_cast;omega];exact atI_nat (j:=2 * i + 1) (spinL_at (by omega))) ?_
   walk_at "s1"
   refine iteD (fun h0=>?_) (fun h0=>?_)
   ·walk_at "s1"
    refine r_ix (SqL.of h3) (v:=.int (spin cell (2 * i + 1))) (by rw [show (2 * (0 + (i:Int)) + 1)=((2 * i + 1:Nat):Int) by push_cast;omega];exact atI_nat (j:=2 * i + 1) (spinL_at (by omega))) ?_
    walk_at "s1"
    rw [e10]
    exact hF _ _ ⟨rfl,_,by omega,by omega,rfl⟩
   ·walk_at "s1"
    exact hF _ _ ⟨rfl,_,by omega,by omega,rfl⟩
  rintro σ H4 ⟨rfl,cost,c0,c1,rfl⟩
  have x3:=x2.same s3
  obtain ⟨dx',d1',d2',w',wt',X3,efp'⟩:=id x3
  walk_at "s1"
  refine k_meth X3.at_ (lk_no (by decide +kernel)) ?_
  walk_at "s1"
  refine ⟨rfl,cell / 3,i,by rw [e0],by omega,fun H5 s5=>?_⟩
  walk_at "s1"
  have hnotin:nameF (cell / 3) i∉cs.map (·.1):=fun mm=>by
   rw [en] at mm
   obtain ⟨j,hj,e⟩:=List.mem_map.mp mm
   have hj:=List.mem_range.mp hj
   have:=nameF_inj (show j < 21 by omega) (show i < 21 by omega) e
   omega
  have hl:cs.length=i:=by have:=congrArg List.length en;simpa using this
  refine ⟨rfl,c,nameF (cell / 3) i,cost,fp2,_,rfl,x3.same s5,nameF_nm _ _,hnotin,c0,c1,by show cs.length < 12;omega,fun H6 fp6 x6 b6 n6=>?_⟩
  walk_at "s1"
  refine ⟨fp6,cs ++ [(nameF (cell / 3) i,cost)],_,_,x6,?_,fun p hp=>?_,(mv.trans (Mv.same (s3.trans s5))).trans ⟨b6,n6⟩,rfl⟩
  ·rw [List.map_append,en,List.range_succ,List.map_append]
   rfl
  ·rcases List.mem_append.mp hp with z | z
   ·exact cb p z
   ·rw [List.mem_singleton.mp z];exact ⟨c0,c1⟩
 ·rintro σ H2 ⟨fp2,cs,v6,v7,x2,en,cb,mv,rfl⟩
  have mv:=(Mv.same s1).trans mv
  exact q H2 fp2 cs x2 en cb mv.1 mv.2
theorem rk_Chest_voters (C:Cls K):∀ vs H Q E,sp_Chest_voters K vs H Q E→rd_Chest_voters K {nx:=fun _ H'=>Q .non H',rt:=Q} (start ["self"] vs) H:=by
 rintro vs H Q E ⟨_,c,fp,s,rfl,⟨dx,d1,d2,w,wt,x,rfl⟩,q⟩
 unfold rd_Chest_voters
 walk_at "s1"
 refine k_fld x.at_ C.o_Chest C.n_Chest_purses lk_purses ?_
 refine k_items x.p1 fun v H1 f1 s1 h1=>?_
 walk_at "s1"
 refine ⟨v,d1,kvI s.ps,rfl,h1,s1 _ _ x.p1,fun l ts H2 f2 s2 h2 pr=>q l H2 (s1.free f2) (s1.trans s2) ⟨ts,h2,?_⟩⟩
 exact Paired.mapP (paired_unmap pr) fun p t z=>z.2.2
theorem rk_Chest_wanters (C:Cls K):∀ vs H Q E,sp_Chest_wanters K vs H Q E→rd_Chest_wanters K {nx:=fun _ H'=>Q .non H',rt:=Q} (start ["self","work"] vs) H:=by
 rintro vs H Q E ⟨_,c,dx,d1,d2,w,n,wt,s,rfl,hc,hd,hw,hp,an,ap,aw,hl,q⟩
 have n1:c≠d1:=ne_of_two hc hd (by simp)
 have n2:w≠d1:=ne_of_two hw hd (by simp)
 have hk:=kvI_len s.ps
 unfold rd_Chest_wanters
 with_reducible refine r_ret ?_
 refine comp_keys (d:=d1) (kvs:=kvI s.ps) (fun k hk=>⟨_,rfl,k_fld hc C.o_Chest C.n_Chest_purses lk_purses hk⟩) hd (by rw [hk];exact Nat.le_trans (show _≤1000 by omega) line64) (fun i=>.str (s.ps.getD i ("",0)).1) ?_
  (fun i=>[some (.str (s.ps.getD i ("",0)).1),some (.str n),some (.ref c)]) (by rintro j σ' (rfl | ⟨k,rfl⟩) <;> rfl) (fun i=>decide (((s.ps.getD i ("",0)).1,n)∈s.ws)) (fun i=>.str (s.ps.getD i ("",0)).1) ?_ ?_ ?_
 ·intro i p hp'
  have hi:i < s.ps.length:=by rw [← hk];exact (List.getElem?_eq_some_iff.mp hp').1
  rw [kvI_get (List.getElem?_eq_getElem hi)] at hp'
  cases hp'
  rw [List.getD_eq_getElem?_getD,List.getElem?_eq_getElem hi]
  rfl
 ·intro i hi H' G sx kk
  rw [hk] at hi
  have ai:Ascii (s.ps.getD i ("",0)).1:=by
   rw [List.getD_eq_getElem?_getD,List.getElem?_eq_getElem hi]
   exact ap _ (List.getElem_mem hi)
  walk_at "s1"
  rename_i t H2 f2 s2 h2
  refine k_fld (s2 _ _ (sx c _ n1 hc)) C.o_Chest C.n_Chest_wishes lk_wishes ?_
  refine r_wish (p:=((s.ps.getD i ("",0)).1,n)) h2 (s2 _ _ (sx w _ n2 hw)) (Paired.mapP hp fun _ a z=>s2 _ _ (sx a _ (ne_of_two z hd (by simp)) z)) ai an aw ?_
  rw [Bool.bne_false]
  walk_at "s1"
  exact kk H2 s2
 ·intro i hi hb H' G sx kk
  walk_at "s1"
  exact kk H' (Same.refl _)
 intro l H2 f2 s2 h2
 rw [hk,names_filt s.ps (fun v=>decide ((v,n)∈s.ws))] at h2
 exact q l H2 f2 s2 h2
theorem rk_Chest_works (C:Cls K):∀ vs H Q E,sp_Chest_works K vs H Q E→rd_Chest_works K {nx:=fun _ H'=>Q .non H',rt:=Q} (start ["self"] vs) H:=by
 rintro vs H Q E ⟨_,c,fp,s,rfl,⟨dx,d1,d2,w,wt,X,rfl⟩,ap,ac,aw,hl,hlc,q⟩
 have n1:c≠d2:=ne_of_two X.at_ X.p2 (by simp)
 have n2:w≠d2:=ne_of_two X.w_ X.p2 (by simp)
 have hk:=kvI_len s.cs
 unfold rd_Chest_works
 with_reducible refine r_ret ?_
 refine comp_itemsG (d:=d2) (kvs:=kvI s.cs) (fun k hk=>⟨_,rfl,k_fld X.at_ C.o_Chest C.n_Chest_costs lk_costs hk⟩) X.p2 (by rw [hk];exact Nat.le_trans (show _≤1000 by omega) line64) (fun i=>.str (s.cs.getD i ("",0)).1) (fun i=>.int (s.cs.getD i ("",0)).2) ?_
  (fun i=>[some (.str (s.cs.getD i ("",0)).1),some (.int (s.cs.getD i ("",0)).2),some (.ref c)]) (by rintro j σ' (rfl | ⟨k,rfl⟩) <;> rfl)
  (fun l i v H'=>∃ t w',v=V.ref t∧((w'≠l∧H w'=none)∧t≠l)∧H' t=some (.tup [.str (toldC s (s.cs.getD i ("",0))).1,.int (toldC s (s.cs.getD i ("",0))).2.1,.ref w'])∧H' w'=some (.lst ((toldC s (s.cs.getD i ("",0))).2.2.map V.str)))
  (fun l i v H1 H2 sx ⟨t,w',e,⟨hw,ht⟩,h1,h2⟩=>⟨t,w',e,⟨hw,ht⟩,sx t _ ht h1,sx w' _ hw.1 h2⟩)
  (fun l i v H1 o hd ⟨t,w',e,hw,h1,h2⟩=>⟨t,w',e,hw,by rw [upd_ne (ne_of_two h1 hd (by simp))];exact h1,by rw [upd_ne (ne_of_two h2 hd (by simp))];exact h2⟩) ?_ ?_
 ·intro i p hp'
  have hi:i < s.cs.length:=by rw [← hk];exact (List.getElem?_eq_some_iff.mp hp').1
  rw [kvI_get (List.getElem?_eq_getElem hi)] at hp'
  cases hp'
  rw [List.getD_eq_getElem?_getD,List.getElem?_eq_getElem hi]
  exact ⟨rfl,rfl⟩
 ·intro l i hi H' G h0 ⟨o,ho⟩ ⟨od,hod⟩ sx kk
  rw [hk] at hi
  have ai:Ascii (s.cs.getD i ("",0)).1:=by
   rw [List.getD_eq_getElem?_getD,List.getElem?_eq_getElem hi]
   exact ac _ (List.getElem_mem hi)
  walk_at "s1"
  refine k_meth (sx c _ n1 X.at_) (lk_no (by decide +kernel)) ?_
  walk_at "s1"
  refine ⟨rfl,c,dx,d1,d2,w,_,wt,s,rfl,sx c _ n1 X.at_,sx d1 _ X.ne X.p1,sx w _ n2 X.w_,Paired.mapP X.wt fun _ a z=>sx a _ (ne_of_two z X.p2 (by simp)) z,ai,ap,aw,hl,fun l' H1 f1 s1 h1=>?_⟩
  walk_at "s1"
  rename_i t H2 f2 s2 h2
  refine kk _ H2 ⟨t,l',rfl,⟨⟨fun e=>?_,?_⟩,fun e=>?_⟩,h2,s2 _ _ h1⟩ (s1.trans s2)
  ·rw [e,ho] at f1;cases f1
  ·cases z:H l' with
   | none=>rfl
   | some x=>
    by_cases e:l'=d2
    ·rw [e,hod] at f1;cases f1
    ·rw [sx l' _ e z] at f1;cases f1
  ·rw [e,s1 _ _ ho] at f2;cases f2
 intro l ys H2 f2 s2 h2 pr
 rw [hk] at pr
 obtain ⟨ts,e,p2,q2⟩:=paired_told (P:=fun w'=>w'≠l∧H w'=none) (f:=fun i=>toldC s (s.cs.getD i ("",0))) (Paired.mapP pr fun i v ⟨t,w',e,hw,h1,h2⟩=>⟨t,w',e,hw.1,h1,h2⟩)
 rw [range_getD' (toldC s) ("",0) s.cs] at p2
 exact q l ts H2 f2 s2 ⟨by rw [h2,e],p2⟩ q2
theorem rk_Chest_check_voter (C:Cls K):∀ vs H Q E,sp_Chest_check_voter K vs H Q E→rd_Chest_check_voter K {nx:=fun _ H'=>Q .non H',rt:=Q} (start ["self","voter"] vs) H:=by
 rintro vs H Q E ⟨_,c,n,fp,s,rfl,⟨dx,d1,d2,w,wt,x,rfl⟩,hn,q⟩
 unfold rd_Chest_check_voter
 walk_at "s1"
 refine k_fld x.at_ C.o_Chest C.n_Chest_purses lk_purses ?_
 refine k_din x.p1 ?_
 obtain ⟨p,hp,rfl⟩:=List.mem_map.mp hn
 rw [kvI_at x.nd (show (p.1,p.2)∈s.ps from hp)]
 walk_at "s1"
 exact q
theorem rk_Chest_check_work (C:Cls K):∀ vs H Q E,sp_Chest_check_work K vs H Q E→rd_Chest_check_work K {nx:=fun _ H'=>Q .non H',rt:=Q} (start ["self","work"] vs) H:=by
 rintro vs H Q E ⟨_,c,n,fp,s,rfl,⟨dx,d1,d2,w,wt,x,rfl⟩,hn,q⟩
 unfold rd_Chest_check_work
 walk_at "s1"
 refine k_fld x.at_ C.o_Chest C.n_Chest_costs lk_costs ?_
 refine k_din x.p2 ?_
 obtain ⟨p,hp,rfl⟩:=List.mem_map.mp hn
 rw [kvI_at x.nd2 (show (p.1,p.2)∈s.cs from hp)]
 walk_at "s1"
 exact q
theorem rk_Chest_want (C:Cls K):∀ vs H Q E,sp_Chest_want K vs H Q E→rd_Chest_want K {nx:=fun _ H'=>Q .non H',rt:=Q} (start ["self","voter","work"] vs) H:=by
 rintro vs H Q E ⟨_,c,v,n,fp,s,rfl,⟨dx,d1,d2,w,wt,X,rfl⟩,hv,hn,a1,a2,ha,hl,q⟩
 have hwl:s.ws.length=wt.length:=Paired.length X.wt
 unfold rd_Chest_want
 walk_at "q"
 walk_at "s1"
 refine k_meth X.at_ (lk_no (by decide +kernel)) ?_
 walk_at "s1"
 refine ⟨rfl,c,v,_,s,rfl,⟨dx,d1,d2,w,wt,X,rfl⟩,hv,?_⟩
 walk_at "s1"
 walk_at "q"
 walk_at "s1"
 refine k_meth X.at_ (lk_no (by decide +kernel)) ?_
 walk_at "s1"
 refine ⟨rfl,c,n,_,s,rfl,⟨dx,d1,d2,w,wt,X,rfl⟩,hn,?_⟩
 walk_at "s1"
 rename_i t H1 f1 s1 h1
 have X1:=X.same s1
 refine k_fld X1.at_ C.o_Chest C.n_Chest_wishes lk_wishes ?_
 refine r_wish (p:=(v,n)) h1 X1.w_ X1.wt a1 a2 ha ?_
 rw [Bool.bne_true]
 by_cases hin:(v,n)∈s.ws
 ·have hS:wantS s v n=s:=if_pos hin
  rw [show decide ((v,n)∈s.ws)=true from decide_eq_true hin]
  walk_at "s1"
  exact q H1 _ (by rw [hS];exact ⟨dx,d1,d2,w,wt,X1,rfl⟩) (But.of s1) New.refl
 ·have hS:wantS s v n={s with ws:=s.ws ++ [(v,n)]}:=if_neg hin
  rw [show decide ((v,n)∈s.ws)=false from decide_eq_false hin]
  walk_at "s1"
  refine k_fld X1.at_ C.o_Chest C.n_Chest_wishes lk_wishes ?_
  refine ⟨tyL X1.w_,?_⟩
  walk_at "s1"
  rename_i t2 H2 f2 s2 h2
  have X2:=X1.same s2
  refine r_appendN X2.w_ (by rw [List.length_map,← hwl];exact Nat.lt_of_lt_of_le (show _ < 1000 by omega) line64) ?_
  rw [show wt.map V.ref ++ [V.ref t2]=(wt ++ [t2]).map V.ref by simp]
  exact q _ [c,d1,d2,w] (by rw [hS];exact ⟨dx,d1,d2,w,wt ++ [t2],X2.addW h2,rfl⟩) ((But.of (s1.trans s2)).trans (But.upd X2.w_ (by intro xs z;cases z) (by simp))) New.refl
theorem rk__law_wishes:∀ vs H Q E,sp__law_wishes K vs H Q E→rd__law_wishes K {nx:=fun _ H'=>Q .non H',rt:=Q} (start ["chest","cells","people","plans","wishes","cell","xs","at","work"] vs) H:=by
 rintro vs H Q E ⟨_,c,a,fp,s,ms,rfl,X0,G,hws,hA,hna,hml,q⟩
 obtain ⟨dx,d1,d2,w,wt,X,efp⟩:=id X0
 have hv:=G.v20
 have hn:=G.n12
 have hsz:=size_eq
 unfold rd__law_wishes
 walk_at "q"
 walk_at "s1"
 refine k_meth X.at_ (lk_no (by decide +kernel)) ?_
 walk_at "s1"
 refine ⟨rfl,c,fp,s,rfl,X0,fun l1 H1 f1 s1 r1=>?_⟩
 obtain ⟨ts,g1,g2,g3⟩:=r1.firsts
 walk_at "s1"
 refine comp_first (SqL.of g1) g2 (by rw [g2,List.length_map];omega) g3 fun lp H2 f2 s2 h2=>?_
 have s02:=s1.trans s2
 walk_at "s1"
 walk_at "q"
 walk_at "s1"
 refine k_meth (X.same s02).at_ (lk_no (by decide +kernel)) ?_
 walk_at "s1"
 refine ⟨rfl,c,fp,s,rfl,X0.same s02,G.ap,G.ac,G.aw,by omega,by omega,fun l3 ts3 H3 f3 s3 w3 _=>?_⟩
 obtain ⟨g4,g5⟩:=w3.firsts
 rw [show (s.cs.map (toldC s)).map (·.1)=s.cs.map (·.1) by rw [List.map_map];rfl] at g4 g5
 have g6:=w3.1
 walk_at "s1"
 refine comp_first (SqL.of g6) g4 (by rw [g4,List.length_map];omega) g5 fun lw H4 f4 s4 h4=>?_
 have s24:=s3.trans s4
 have h2':=s24 _ _ h2
 walk_at "s1"
 walk_at "q"
 walk_at "s1"
 have hpm:((s.ps.map (·.1)).map V.str).length=s.ps.length:=by simp
 have hwm:((s.cs.map (·.1)).map V.str).length=s.cs.length:=by simp
 refine comp_rowsY (ys_list (K:=K) (xs:=(s.ps.map (·.1)).map V.str) 0) (fun j=>[some (((s.ps.map (·.1)).map V.str).getD j .non)]) (by rintro j σ' (rfl | ⟨k,rfl⟩) <;> rfl) (fun H' s'=>s'.seq (SqL.of h2')) (by rw [hpm];exact Nat.le_trans (show _≤1000 by omega) line64) (fun j=>[]) ?_ ?_
 ·intro j hj H' G' s' kk
  walk_at "s1"
  rename_i b H'' fb sb hb
  exact kk b H'' fb sb hb
 intro lb bs H5 f5 s5 h5 pr
 rw [hpm] at pr
 have s04:=s02.trans s24
 have s05:=s04.trans s5
 have fpth:=X0.there
 have hlb0:H lb=none:=s04.free f5
 have W5:WsAt H5 lb fp (rowsC {s with ws:=[]}):=by
  refine ⟨fun m=>fpth lb m hlb0,bs,h5,?_⟩
  rw [rowsC_nil,← range_getD' (fun _:Str×Int=>([]:List Int)) ("",0) s.ps]
  exact paired_mapR (Paired.mapP pr fun i b z=>⟨z.2.1,fun m=>fpth b m (s04.free z.1),z.2.2⟩)
 have nlp:lp≠lb:=ne_of_free h2' f5
 have nlw:lw≠lb:=ne_of_free h4 f5
 have nla:a≠lb:=ne_of_free hA hlb0
 have K5:Kept H5 [a,lp,lw] fp H5:=fun x hx=>by
  simp only [List.mem_cons,List.not_mem_nil,or_false] at hx
  rcases hx with rfl | rfl | rfl
  ·exact ⟨hna,_,s05 _ _ hA,s05 _ _ hA⟩
  ·exact ⟨fun m=>fpth _ m (s1.free f2),_,s5 _ _ h2',s5 _ _ h2'⟩
  ·exact ⟨fun m=>fpth _ m ((s02.trans s3).free f4),_,s5 _ _ h4,s5 _ _ h4⟩
 have hlb3:lb∉[a,lp,lw]:=by simp [Ne.symm nlp,Ne.symm nlw,Ne.symm nla]
 have hmm:(ms.map V.int).length=ms.length:=by simp
 walk_at "s1"
 walk_at "q"
 walk_at "s1"
 try refine r_iList' (SqL.of (s05 _ _ hA)) ?_
 refine for_ys (ys_list (K:=K) (xs:=ms.map V.int) 5) (fun i σ H'=>∃ fp' ws v5 v6 v7 v8,ChestAt K H' c fp' {s with ws:=ws}∧(∀ p∈ws,Ascii p.1∧Ascii p.2)∧ws.length≤i∧Mv fp fp' H H'∧Kept H5 [a,lp,lw] fp' H'∧WsAt H' lb fp' (rowsC {s with ws:=ws})∧σ=[some (.ref c),some (.ref a),some (.ref lp),some (.ref lw),some (.ref lb),v5,v6,v7,v8])
  ⟨fp,[],_,_,_,_,by rw [← hws];exact X0.same s05,(by intro p h;cases h),Nat.le_refl _,Mv.same s05,K5,W5,rfl⟩ (fun i σ H' ⟨fp',ws,v5,v6,v7,v8,_,_,_,_,k,_⟩=>SqL.of (k.at (by simp) (s05 _ _ hA))) ?_ ?_
 ·rintro i σ Ha Hb hi ⟨fp',ws,v5,v6,v7,v8,xa,aw,wl,mv,kp,wsa,rfl⟩ sb
  rw [hmm] at hi
  have et:(ms.map V.int).getD i .non=.int (ms.getD i 0):=by simp [List.getD,hi]
  rw [et]
  show tSeq _ _ _ _ _
  walk_at "q"
  walk_at "s1"
  refine ⟨rfl,_,2,rfl,by decide,fun lx Hc fx sx hx=>?_⟩
  have sbc:=sb.trans sx
  have kp:=kp.same sbc
  have hlp:=kp.at (x:=lp) (by simp) (s5 _ _ h2')
  have hlw:=kp.at (x:=lw) (by simp) (s5 _ _ h4)
  walk_at "s1"
  rename_i z1 Hd fd sd hd
  have dp:DatIs K Hd (.ref lp) (.list ((s.ps.map (·.1)).map PyData.str)):=.lst (SqL.of (sd _ _ hlp)) (dat_strs _)
  refine r_neNilD (n:=0) dp (nd_strs _ fun z hz=>by
   obtain ⟨p,hp,rfl⟩:=List.mem_map.mp hz
   exact G.ap p hp) hd (by decide) ?_
  walk_at "s1"
  refine iteDN (fun hp0=>?_) (fun hp0=>?_)
  ·walk_at "s1"
   rename_i z2 He fe se he
   have dw:DatIs K He (.ref lw) (.list ((s.cs.map (·.1)).map PyData.str)):=.lst (SqL.of (se _ _ (sd _ _ hlw))) (dat_strs _)
   refine r_neNilD (n:=0) dw (nd_strs _ fun z hz=>by
    obtain ⟨p,hp,rfl⟩:=List.mem_map.mp hz
    exact G.ac p hp) he (by decide) ?_
   have sce:=sd.trans se
   walk_at "s1"
   refine iteDN (fun hc0=>?_) (fun hc0=>?_)
   ·have hps:s.ps≠[]:=fun e=>hp0 (by rw [e];rfl)
    have hcs:s.cs≠[]:=fun e=>hc0 (by rw [e];rfl)
    have hlpE:=sce _ _ hlp
    have hlwE:=sce _ _ hlw
    have qlp:SqL K He lp ((s.ps.map (·.1)).map V.str):=SqL.of hlpE
    have qlw:SqL K He lw ((s.cs.map (·.1)).map V.str):=SqL.of hlwE
    walk_at "q"
    walk_at "s1"
    refine r_ix (SqL.of (sce _ _ hx)) (v:=.int (spin (ms.getD i 0) 0)) (atI_nat (j:=0) (spinL_at (by decide))) ?_
    walk_at "s1"
    rw [hpm]
    obtain ⟨ia,hia,hial⟩:=mod_at (spin (ms.getD i 0) 0) hps
    refine r_mod (by omega) ?_
    rw [hia]
    walk_at "s1"
    walk_at "q"
    walk_at "s1"
    refine r_ix (SqL.of (sce _ _ hx)) (v:=.int (spin (ms.getD i 0) 1)) (atI_nat (j:=1) (spinL_at (by decide))) ?_
    walk_at "s1"
    rw [hwm]
    obtain ⟨iw,hiw,hiwl⟩:=mod_at (spin (ms.getD i 0) 1) hcs
    refine r_mod (by omega) ?_
    rw [hiw]
    walk_at "s1"
    have xe:=(xa.same sbc).same sce
    obtain ⟨dx',d1',d2',w',wt',XE,efp'⟩:=id xe
    walk_at "q"
    walk_at "s1"
    refine k_meth XE.at_ (lk_no (by decide +kernel)) ?_
    walk_at "s1"
    refine r_ix qlp (atI_nat (j:=ia) (v:=.str (s.ps.getD ia ("",0)).1) (by simp [List.getD,hial])) ?_
    walk_at "s1"
    refine r_ix qlw (atI_nat (j:=iw) (v:=.str (s.cs.getD iw ("",0)).1) (by simp [List.getD,hiwl])) ?_
    walk_at "s1"
    have hpi:=getD_mem (xs:=s.ps) ("",0) hial
    have hci:=getD_mem (xs:=s.cs) ("",0) hiwl
    refine ⟨rfl,c,_,_,fp',_,rfl,xe,List.mem_map.mpr ⟨_,hpi,rfl⟩,List.mem_map.mpr ⟨_,hci,rfl⟩,G.ap _ hpi,G.ac _ hci,aw,by show ws.length≤900;omega,fun Hf fpf xf bf nf=>?_⟩
    rw [wantS_add] at xf
    have mvf:Mv fp' fpf Ha Hf:=(Mv.same (sbc.trans sce)).trans ⟨bf,nf⟩
    have wsf:=wsa.mv mvf
    have kpf:=(kp.same sce).mv ⟨bf,nf⟩
    have hrl:ia < (rowsC {s with ws:=ws}).length:=by rw [rowsC_len];exact hial
    obtain ⟨xs,b,hxs,hxi,hb⟩:=wsf.row hrl
    rw [rowsC_get (s:={s with ws:=ws}) hial] at hb
    walk_at "s1"
    refine r_ix (SqL.of hxs) (atI_nat hxi) ?_
    have hbl:(intsOf (wantP {s with ws:=ws} (s.ps.getD ia ("",0)).1)).length≤12:=by
     unfold intsOf wantP
     rw [List.length_map]
     refine Nat.le_trans (List.length_filter_le _ _) ?_
     rw [List.length_range]
     exact hn
    generalize hns:intsOf (wantP {s with ws:=ws} (s.ps.getD ia ("",0)).1)=ns at *
    have hnm:(ns.map V.int).length=ns.length:=by simp
    walk_at "s1"
    try refine r_iList' (SqL.of hb) ?_
    refine comp_filtY (ys_list (K:=K) (xs:=ns.map V.int) 0) (fun j=>[some ((ns.map V.int).getD j .non),some (.int (iw:Int))]) (by rintro j σ' (rfl | ⟨k,rfl⟩) <;> rfl) (fun H' s'=>s'.seq (SqL.of hb)) (by rw [hnm];exact Nat.le_trans (show _≤1000 by omega) line64) (fun j=>!decide (ns.getD j 0=(iw:Int))) (fun j=>.int (ns.getD j 0)) ?_ ?_ ?_
    ·intro j hj H' G' s' kk
     rw [hnm] at hj
     have et:(ns.map V.int).getD j .non=.int (ns.getD j 0):=by simp [List.getD,hj]
     rw [et]
     walk_at "s1"
     exact kk H' (Same.refl _)
    ·intro j hj hb' H' G' s' kk
     rw [hnm] at hj
     have et:(ns.map V.int).getD j .non=.int (ns.getD j 0):=by simp [List.getD,hj]
     rw [et]
     walk_at "s1"
     exact kk H' (Same.refl _)
    intro l8 H8 f8 s8 h8
    rw [hnm,show ((List.range ns.length).filter fun j=>!decide (ns.getD j 0=(iw:Int))).map (fun j=>V.int (ns.getD j 0))=(ns.filter fun x=>!decide (x=(iw:Int))).map V.int by rw [← range_filt (fun x:Int=>!decide (x=(iw:Int))) 0 ns,List.map_map];rfl] at h8
    walk_at "s1"
    rename_i l9 H9 f9 s9 h9
    have hfl:(ns.filter fun x=>!decide (x=(iw:Int))).length≤12:=Nat.le_trans (List.length_filter_le _ _) hbl
    refine r_catN (xs:=(ns.filter fun x=>!decide (x=(iw:Int))).map V.int) (s9 _ _ h8) h9 (by rw [List.length_map];exact Nat.le_trans (show _≤1000 by simp;omega) line64) fun l10 H10 f10 s10 h10=>?_
    have e10:(ns.filter fun x=>!decide (x=(iw:Int))).map V.int ++ [V.int (iw:Int)]=((ns.filter fun x=>!decide (x=(iw:Int))) ++ [(iw:Int)]).map V.int:=by simp
    rw [e10] at h10
    walk_at "s1"
    refine ⟨l10,_,rfl,SqL.of h10,by simp;omega,fun l11 ms' f11 hperm hsrt=>?_⟩
    have s11:=Same.updN (o:=.lst (ms'.map V.int)) f11
    have h11:(upd H10 l11 (.lst (ms'.map V.int))) l11=some (.lst (ms'.map V.int)):=upd_same
    generalize upd H10 l11 (.lst (ms'.map V.int))=H11 at *
    have sfb:Same Hf H11:=((s8.trans s9).trans s10).trans s11
    have ef:Hf l11=none:=((s8.trans s9).trans s10).free f11
    have xg:=xf.same sfb
    have wsg:=wsf.mv (Mv.same sfb)
    have kpg:=kpf.same sfb
    have nl:l11≠lb:=fun e=>by rw [e,hxs] at ef;cases ef
    have nfp:l11∉fpf:=fun m=>xf.there l11 m ef
    obtain ⟨xs2,hxs2,hxl2,wsh⟩:=wsg.set hrl h11 nl nfp
    rw [← hns] at hperm
    have erow:=row_add (v:=(s.ps.getD ia ("",0)).1) X.nd2 hiwl hperm hsrt
    rw [erow,← rowsC_add X.nd hial] at wsh
    walk_at "s1"
    refine ⟨lb,xs2,(ia:Int),ia,rfl,rfl,hxs2,?_,?_⟩
    ·unfold ixN
     rw [rowsC_len] at hxl2
     have hxl2:xs2.length=s.ps.length:=hxl2
     rw [if_pos (by omega),if_pos (by omega),Int.toNat_natCast]
    have hlbf:lb∉fpf:=wsf.1
    refine ⟨fpf,addWs ws _ _,_,_,_,_,xg.but (But.upd (l:=[lb]) hxs2 (by intro xs z;cases z) (by simp)) (fun y hy hz=>hlbf (by rw [← List.mem_singleton.mp hz];exact hy)),fun p hp=>?_,?_,((mv.trans mvf).trans (Mv.same sfb)).put hlb0,kpg.put hlb3,wsh,rfl⟩
    ·rcases mem_addWs.mp hp with z | z
     ·exact aw p z
     ·rw [z];exact ⟨G.ap _ hpi,G.ac _ hci⟩
    ·have:=addWs_len ws (s.ps.getD ia ("",0)).1 (s.cs.getD iw ("",0)).1
     omega
   ·walk_at "s1"
    have mvs:=Mv.same (l:=fp') (sbc.trans sce)
    exact ⟨fp',ws,_,_,_,_,(xa.same sbc).same sce,aw,by omega,mv.trans mvs,kp.same sce,wsa.mv mvs,rfl⟩
  ·walk_at "s1"
   have mvs:=Mv.same (l:=fp') (sbc.trans sd)
   exact ⟨fp',ws,_,_,_,_,(xa.same sbc).same sd,aw,by omega,mv.trans mvs,kp.same sd,wsa.mv mvs,rfl⟩
 ·rintro σ Ha ⟨fp',ws,v5,v6,v7,v8,xa,aw,wl,mv,kp,wsa,rfl⟩
  walk_at "s1"
  rw [hmm] at wl
  exact q Ha fp' lb ws xa ⟨G.v20,G.n12,G.ap,G.ac,aw,G.cb,G.p0,by show ws.length≤900;omega⟩ mv.1 mv.2 hlb0 wsa.1 wsa.rows
theorem rk_Chest_pot (C:Cls K):∀ vs H Q E,sp_Chest_pot K vs H Q E→rd_Chest_pot K {nx:=fun _ H'=>Q .non H',rt:=Q} (start ["self"] vs) H:=by
 rintro vs H Q E ⟨_,c,fp,s,rfl,⟨dx,d1,d2,w,wt,x,rfl⟩,q⟩
 unfold rd_Chest_pot
 walk_at "s1"
 exact k_fld x.at_ C.o_Chest C.n_Chest_unshared lk_unshared q
theorem rk_least_multiple:∀ vs H Q E,sp_least_multiple K vs H Q E→rd_least_multiple K {nx:=fun _ H'=>Q .non H',rt:=Q} (start ["step","number","multiple"] vs) H:=by
 rintro vs H Q E ⟨_,s,n,rfl,hs,hn,q⟩
 unfold rd_least_multiple
 walk_at "w"
 refine ⟨fun μ σ H'=>∃ m:Nat,σ=[some (.int s),some (.int n),some (.int m)]∧H'=H∧0 < m∧s ∣ m∧m≤Nat.lcm s n∧μ=Nat.lcm s n - m,⟨_,s,rfl,rfl,hs,Nat.dvd_refl s,Nat.le_of_dvd (Nat.lcm_pos hs hn) (Nat.dvd_lcm_left s n),rfl⟩,?_⟩
 rintro μ σ H' ⟨m,rfl,rfl,h1,h2,h3,rfl⟩
 walk_at "w"
 refine ite2 (fun h=>?_) (fun h=>?_)
 ·have hne:m % n≠0:=fun e=>by
   have e':((m:Int) % (n:Int))=0:=by exact_mod_cast e
   rw [e'] at h
   simp at h
  have hst:=lcm_step hs hn h2 h3 hne
  refine ⟨fun σ' H''=>∃ m':Nat,σ'=[some (.int s),some (.int n),some (.int m')]∧H''=H'∧m'=m + s,?_,?_⟩
  ·rintro σ' H'' ⟨m',rfl,rfl,rfl⟩
   exact ⟨_,(by omega),m + s,rfl,rfl,(by omega),Nat.dvd_add h2 (Nat.dvd_refl s),hst,rfl⟩
  ·walk_at "w"
   exact ⟨m + s,rfl,rfl,rfl⟩
 ·have h0:m % n=0:=by
   rcases Nat.eq_zero_or_pos (m % n) with z | z
   ·exact z
   ·exfalso
    apply h
    have:¬ ((m:Int) % (n:Int))=0:=by
     intro e
     have e':m % n=0:=by exact_mod_cast e
     omega
    simp [this]
  walk_at "w"
  rw [lcm_end h1 h2 h3 h0]
  exact q
theorem rk_together:∀ vs H Q E,sp_together K vs H Q E→rd_together K {nx:=fun _ H'=>Q .non H',rt:=Q} (start ["n","least","number"] vs) H:=by
 rintro vs H Q E ⟨_,n,rfl,hn,q⟩
 unfold rd_together
 walk_at "w"
 refine for_range (lo:=1) (n:=((n:Int) + 1 - 1).toNat) (fun i σ H'=>H'=H∧∃ v,σ=[some (.int n),some (.int (tog i:Nat)),v]) ⟨rfl,none,rfl⟩ ?_ ?_
 ·rintro i σ H' hi ⟨rfl,v,rfl⟩
  show tAsg _ _ _ _ _
  walk_at "w"
  refine ⟨rfl,tog i,i + 1,?_,tog_pos i,Nat.succ_pos i,?_⟩
  ·have e:(1:Int) + (i:Int)=((i + 1:Nat):Int):=by omega
   rw [e]
  ·exact ⟨rfl,_,rfl⟩
 ·rintro σ H' ⟨rfl,v,rfl⟩
  walk_at "w"
  have e:((n:Int) + 1 - 1).toNat=n:=by omega
  rw [e]
  exact q
theorem pow_int_succ (a i:Nat):((a ^ (i + 1):Nat):Int) * ((a:Nat):Int)=((a ^ (i + 1 + 1):Nat):Int):=by
 rw [Nat.pow_succ a (i + 1)]
 push_cast
 rfl
theorem rk_grains_of:∀ vs H Q E,sp_grains_of K vs H Q E→rd_grains_of K {nx:=fun _ H'=>Q .non H',rt:=Q} (start ["voters","works","factor","grains","work"] vs) H:=by
 rintro vs H Q E ⟨_,v,w,rfl,h1,h2,h3,q⟩
 have ts:=tog_small v (by omega)
 unfold rd_grains_of
 walk_at "w"
 refine ⟨rfl,v,rfl,h2,?_⟩
 walk_at "w"
 refine for_range (lo:=0) (n:=((w:Int)).toNat) (fun i σ H'=>H=H'∧∃ u,σ=[some (.int v),some (.int w),some (.int (tog v:Nat)),some (.int (tog v ^ (i + 1):Nat)),u]) ⟨rfl,none,by rw [Nat.pow_one];rfl⟩ ?_ ?_
 ·rintro i σ H' hi ⟨rfl,u,rfl⟩
  show tAug _ _ _ _ _ _
  walk_at "w"
  rw [pow_int_succ]
  exact ⟨rfl,_,rfl⟩
 ·rintro σ H' ⟨rfl,u,rfl⟩
  walk_at "w"
  exact q
theorem rk_paid_by:∀ vs H Q E,sp_paid_by K vs H Q E→rd_paid_by K {nx:=fun _ H'=>Q .non H',rt:=Q} (start ["steps","voter"] vs) H:=by
 rintro vs H Q E ⟨_,a,sts,i,rfl,hA,hl,hi,q⟩
 obtain ⟨ts,bs,B⟩:=hA.b
 have qA:SqL K H a (ts.map V.ref):=(B.ys (Same.refl _)).1
 unfold rd_paid_by
 walk_at "s1"
 refine comp_mapY (ys_list3 (ts:=ts) (u:=fun i=>.int ((sts.getD i stN).1:Nat)) (v:=fun i=>.int (sts.getD i stN).2.1) (w:=fun i=>.ref (bs.getD i 0)) 0 1 2) (fun j=>[some (.int ((sts.getD j stN).1:Nat)),some (.int (sts.getD j stN).2.1),some (.ref (bs.getD j 0)),some (.int (i:Int))]) (by rintro j σ' (rfl | ⟨k,rfl⟩) <;> rfl) (fun H' s=>B.ys s) (by rw [B.tl];exact Nat.le_trans (show sts.length≤1000 by omega) line64) (fun j=>.int ((sts.getD j stN).2.2.getD i 0)) ?_ ?_
 ·intro j hj H' G s kk
  rw [B.tl] at hj
  have hp:SqL K H' (bs.getD j 0) ((sts.getD j stN).2.2.map V.int):=B.paid s hj
  have hil:=hi (sts.getD j stN) (by simp [List.getD,hj])
  walk_at "s1"
  refine r_ix hp (atI_nat (v:=.int ((sts.getD j stN).2.2.getD i 0)) (by generalize (sts.getD j stN).2.2=xs at *;simp [List.getD,hil])) ?_
  exact kk H' (Same.refl _)
 intro l H1 f1 s1 h1
 have e1:(List.range ts.length).map (fun j=>V.int ((sts.getD j stN).2.2.getD i 0))=(sts.map fun x=>x.2.2.getD i 0).map V.int:=by
  rw [B.tl,range_getD' (fun x:Nat×Int×List Int=>V.int (x.2.2.getD i 0)) stN sts,List.map_map]
  rfl
 rw [e1] at h1
 walk_at "s1"
 exact q H1 s1
theorem rk_left_of:∀ vs H Q E,sp_left_of K vs H Q E→rd_left_of K {nx:=fun _ H'=>Q .non H',rt:=Q} (start ["purses","steps"] vs) H:=by
 rintro vs H Q E ⟨_,a,b,ps,sts,rfl,hA,hB,hl,hsl,hsp,q⟩
 have hlp:(ps.map V.int).length=ps.length:=List.length_map _
 unfold rd_left_of
 walk_at "s1"
 try refine ⟨a,rfl,⟨_,hA⟩,?_⟩
 refine comp_mapY (ys_enum (xs:=ps.map V.int) 0 1) (fun j=>[some (.int j),some ((ps.map V.int).getD j .non),some (.ref b)]) (by rintro j σ' (rfl | ⟨k,rfl⟩) <;> rfl) (fun H' s=>s.seq hA) (by rw [hlp];exact Nat.le_trans (show _≤1000 by omega) line64) (fun j=>.int (ps.getD j 0 - (sts.map fun x=>x.2.2.getD j 0).sum)) ?_ ?_
 ·intro j hj H' G s kk
  rw [hlp] at hj
  have e:(ps.map V.int).getD j .non=.int (ps.getD j 0):=by simp [List.getD,hj]
  rw [e]
  walk_at "s1"
  refine ⟨rfl,b,sts,j,rfl,stepsAt_same s hB,by omega,fun x hx=>by rw [hsp x hx];exact hj,fun H2 s2=>?_⟩
  walk_at "s1"
  exact kk H2 s2
 ·intro l H' f s h
  rw [hlp] at h
  refine q l H' f s ?_
  rw [h]
  unfold leftOf
  rw [List.map_map]
  rfl
theorem rk_prices_of:∀ vs H Q E,sp_prices_of K vs H Q E→rd_prices_of K {nx:=fun _ H'=>Q .non H',rt:=Q} (start ["costs","wishes","grains"] vs) H:=by
 rintro vs H Q E ⟨_,a,b,cs,rows,rfl,hA,⟨bs,hB,hP⟩,hl,hb,hv1,hv,q⟩
 have hlc:(cs.map V.int).length=cs.length:=List.length_map _
 have hlb:(bs.map V.ref).length=rows.length:=by rw [List.length_map];exact (Paired.length hP).symm
 have pi:=togpow_int (v:=rows.length) (w:=cs.length + 1) hv (by omega)
 unfold rd_prices_of
 walk_at "v"
 refine ⟨rfl,rows.length,cs.length,by rw [hlc,hlb],hv1,hv,hl,?_⟩
 walk_at "v"
 generalize ((tog rows.length ^ (cs.length + 1):Nat):Int)=g at *
 refine comp_mapY (ys_list (xs:=cs.map V.int) 0) (fun j=>[some ((cs.map V.int).getD j .non),some (.int g)]) (by rintro j σ' (rfl | ⟨k,rfl⟩) <;> rfl) (fun H' s=>s.seq hA) (by rw [hlc];exact Nat.le_trans (show cs.length≤1000 by omega) line64) (fun j=>.int (cs.getD j 0 * g)) ?_ ?_
 ·intro j hj H' G s k
  rw [hlc] at hj
  have e:(cs.map V.int).getD j .non=.int (cs.getD j 0):=by simp [List.getD,hj]
  have hbj:=hb (cs.getD j 0) (by simp [List.getD,hj])
  rw [e]
  walk_at "v"
  exact k H' (Same.refl _)
 ·intro l H' f s h
  refine q l H' f s ?_
  rw [h,hlc,range_getD' (fun x=>V.int (x * g)) 0 cs,List.map_map]
  rfl
theorem rk_rounded_up:∀ vs H Q E,sp_rounded_up K vs H Q E→rd_rounded_up K {nx:=fun _ H'=>Q .non H',rt:=Q} (start ["amount","shares"] vs) H:=by
 rintro vs H Q E ⟨_,m,p,rfl,h0,h1,q⟩
 unfold rd_rounded_up
 walk_at "w"
 exact q
theorem pairwise_split {ms:List Int} (h:ms.Pairwise (·≤·)) {i:Nat} (hi:i < ms.length):(∀ y∈ms.take i,y≤ms[i])∧(∀ y∈ms.drop (i + 1),ms[i]≤y):=by
 have e:ms=ms.take i ++ ms[i]::ms.drop (i + 1):=by
  rw [List.getElem_cons_drop,List.take_append_drop]
 have h':=h
 rw [e] at h'
 obtain ⟨_,h2,h3⟩:=List.pairwise_append.mp h'
 exact ⟨fun y hy=>h3 y hy _ List.mem_cons_self,fun y hy=>(List.pairwise_cons.mp h2).1 y hy⟩
theorem rk_level_for:∀ vs H Q E,sp_level_for K vs H Q E→rd_level_for K {nx:=fun _ H'=>Q .non H',rt:=Q} (start ["purses","price","missing","payers","purse"] vs) H:=by
 rintro vs H Q E ⟨_,a,ps,price,rfl,hS,hl,hp,hpr,qn,qs⟩
 have hL:(ps.map V.int).length=ps.length:=List.length_map _
 unfold rd_level_for
 walk_at "w"
 refine ite2 (fun h=>?_) (fun h=>?_)
 ·walk_at "w"
  exact qn (of_decide_eq_true h) H (Same.refl _)
 have hsum:price≤ps.sum:=by
  rcases Int.lt_or_le ps.sum price with z | z
  ·exact absurd (decide_eq_true z) h
  ·exact z
 walk_at "w"
 refine ⟨a,ps,rfl,hS,by omega,fun l ms h0 perm pw=>?_⟩
 have s1:=Same.updN (o:=.lst (ms.map V.int)) h0
 have hq:SqL K (upd H l (.lst (ms.map V.int))) l (ms.map V.int):=SqL.of upd_same
 generalize upd H l (.lst (ms.map V.int))=H1 at *
 have hlen:ms.length=ps.length:=perm.length_eq
 have hms:∀ y∈ms,0≤y:=fun y hy=>hp y (perm.mem_iff.mp hy)
 have hsm:ms.sum=ps.sum:=sum_perm perm
 walk_at "w"
 refine for_list (K:=K) (a:=l) (xs:=ms.map V.int) (fun i σ H'=>H1=H'∧i≤ms.length∧∃ (m:Int) (v:Option V),m=price - (ms.take i).sum∧0 < m∧(∀ y∈ms.take i,y * ((ms.length:Int) - (i:Int)) < m)∧
  σ=[some (.ref a),some (.int price),some (.int m),some (.int ((ms.length:Int) - (i:Int))),v]) ⟨rfl,Nat.zero_le _,price,none,by simp,by omega,by simp,?_⟩ ?_ ?_ ?_
 ·rw [hL,hlen]
  show _=[_,_,_,some (V.int ((ps.length:Int) - ((0:Nat):Int))),_]
  rw [show ((ps.length:Int) - ((0:Nat):Int))=(ps.length:Int) by omega]
  rfl
 ·rintro i σ H' _ ⟨rfl,_⟩
  exact hq
 ·rintro i x σ H' hx ⟨rfl,hil,m,v,hm,hm0,hA,rfl⟩
  have hi:i < ms.length:=by
   have:=(List.getElem?_eq_some_iff.mp hx).1
   rwa [List.length_map] at this
  have hx':x=V.int ms[i]:=by
   rw [List.getElem?_map,List.getElem?_eq_getElem hi] at hx
   exact (Option.some.inj hx).symm
  subst hx'
  have hmi:0≤ms[i]:=hms _ (List.getElem_mem hi)
  obtain ⟨b1,b2⟩:=pairwise_split pw hi
  have htk:ms.take (i + 1)=ms.take i ++ [ms[i]]:=by
   rw [List.take_add_one,List.getElem?_eq_getElem hi]
   rfl
  show tSeq _ _ _ _ _
  walk_at "w"
  refine ite2 (fun h=>?_) (fun h=>?_)
  ·have h:=of_decide_eq_true h
   walk_at "w"
   refine ⟨rfl,m,(ms.length:Int) - (i:Int),rfl,by omega,by omega,?_⟩
   have e:ms=ms.take i ++ ms[i]::ms.drop (i + 1):=by
    rw [List.getElem_cons_drop,List.take_append_drop]
   have key:=lev_found (pre:=ms.take i) (post:=ms.drop (i + 1)) (x:=ms[i]) (m:=m) (p:=(ms.length:Int) - (i:Int)) (price:=price)
    (by rw [List.length_drop];omega) hm hm0 hA h b2
   rw [← e] at key
   refine qs hsum _ _ ?_ s1
   unfold IsLev at key ⊢
   rw [gat_perm perm,gat_perm perm] at key
   exact key
  ·have h:¬ m≤ms[i] * ((ms.length:Int) - (i:Int)):=fun z=>h (decide_eq_true z)
   obtain ⟨c1,c2⟩:=lev_step (p:=(ms.length:Int) - (i:Int)) (by omega) hmi b1 h
   walk_at "w"
   refine ⟨rfl,hi,m - ms[i],some (.int ms[i]),?_,c1,?_,?_⟩
   ·rw [htk,sum_snoc]
    omega
   ·rw [htk]
    have e:(ms.length:Int) - ((i + 1:Nat):Int)=(ms.length:Int) - (i:Int) - 1:=by omega
    rw [e]
    exact c2
   ·have e:(ms.length:Int) - ((i + 1:Nat):Int)=(ms.length:Int) - (i:Int) - 1:=by omega
    rw [e]
    rfl
 ·rintro σ H' ⟨rfl,_,m,v,hm,hm0,hA,rfl⟩
  exfalso
  rw [List.length_map,List.take_length] at hm
  omega
theorem range_getD {α β:Type} (f:α→β) (d:α) (xs:List α):(List.range xs.length).map (fun i=>f (xs.getD i d))=xs.map f:=by
 apply List.ext_getElem
 ·simp
 ·intro k h1 h2
  have hk:k < xs.length:=by simpa using h1
  simp [List.getD,hk]
theorem rk_wants_all:∀ vs H Q E,sp_wants_all K vs H Q E→rd_wants_all K {nx:=fun _ H'=>Q .non H',rt:=Q} (start ["wanted","works"] vs) H:=by
 rintro vs H Q E ⟨_,a,b,ws,ks,rfl,hA,hB,hl,q⟩
 have hlm:(ks.map V.int).length=ks.length:=List.length_map _
 unfold rd_wants_all
 walk_at "v"
 refine comp_mapY (ys_list (xs:=ks.map V.int) 0) (fun j=>[some ((ks.map V.int).getD j .non),some (.ref a)]) (by rintro j σ' (rfl | ⟨k,rfl⟩) <;> rfl) (fun H' s=>s.seq hB) (by rw [hlm];exact Nat.le_trans (show ks.length≤1000 by omega) line64) (fun j=>.bl (decide (ks.getD j 0∈ws))) ?_ ?_
 ·intro j hj H' G s k
  rw [hlm] at hj
  have e:(ks.map V.int).getD j .non=.int (ks.getD j 0):=by simp [List.getD,hj]
  rw [e]
  walk_at "v"
  exact k H' (Same.refl _)
 ·intro l H' f s h
  have e:(List.range (ks.map V.int).length).map (fun j=>V.bl (decide (ks.getD j 0∈ws)))=(ks.map fun k=>decide (k∈ws)).map V.bl:=by
   rw [hlm,range_getD (fun k=>V.bl (decide (k∈ws))) 0 ks,List.map_map]
   rfl
  rw [e] at h
  walk_at "v"
  have e2:(ks.map fun k=>decide (k∈ws)).all id=ks.all fun k=>decide (k∈ws):=by
   rw [List.all_map]
   rfl
  rw [e2]
  exact q H' s
theorem rk_common_of:∀ vs H Q E,sp_common_of K vs H Q E→rd_common_of K {nx:=fun _ H'=>Q .non H',rt:=Q} (start ["wishes","works"] vs) H:=by
 rintro vs H Q E ⟨_,a,b,rows,ks,rfl,⟨bs,hA,hP⟩,hB,hl1,hl2,q⟩
 have hbl:bs.length=rows.length:=(Paired.length hP).symm
 have hlm:(bs.map V.ref).length=bs.length:=List.length_map _
 unfold rd_common_of
 walk_at "v"
 refine comp_filtY (ys_enum (xs:=bs.map V.ref) 0 1) (fun i=>[some (.int i),some ((bs.map V.ref).getD i .non),some (.ref b)]) (by rintro i σ' (rfl | ⟨k,rfl⟩) <;> rfl) (fun H' s=>s.seq hA) (by rw [hlm];exact Nat.le_trans (show bs.length≤1000 by omega) line64) (fun i=>ks.all fun k=>decide (k∈rows.getD i [])) (fun i=>.int i) ?_ ?_ ?_
 ·intro i hi H' G s k
  rw [hlm] at hi
  obtain ⟨row,hr,hq⟩:=paired_at' hP (show bs[i]?=some bs[i] by simp [hi])
  have e:(bs.map V.ref).getD i .non=.ref bs[i]:=by simp [List.getD,hi]
  have e2:rows.getD i []=row:=by simp [List.getD,hr]
  rw [e2] at k
  rw [e]
  walk_at "v"
  refine ⟨rfl,bs[i],b,row,ks,rfl,s.seq hq,s.seq hB,hl2,fun H'' s'=>?_⟩
  walk_at "v"
  exact k H'' s'
 ·intro i hi _ H' G s k
  walk_at "v"
  exact k H' (Same.refl _)
 ·intro l H' f s h
  rw [hlm,hbl] at h
  refine q l H' f s ?_
  rw [h]
  unfold commonF
  rw [List.map_map]
  rfl
theorem rk_wanters_of:∀ vs H Q E,sp_wanters_of K vs H Q E→rd_wanters_of K {nx:=fun _ H'=>Q .non H',rt:=Q} (start ["wishes","work"] vs) H:=by
 rintro vs H Q E ⟨_,a,rows,k,rfl,hR,hl,q⟩
 unfold rd_wanters_of
 walk_at "v"
 rename_i l1 H1 f1 s1 h1
 refine ⟨rfl,a,l1,rows,[k],rfl,by walk_at "rows",SqL.of h1,hl,Nat.le_of_ble_eq_true rfl,fun l H' f s h=>?_⟩
 exact q l H' (s1.free f) (s1.trans s) h
theorem rk_offer_of:∀ vs H Q E,sp_offer_of K vs H Q E→rd_offer_of K {nx:=fun _ H'=>Q .non H',rt:=Q} (start ["purses","wishes","work","price"] vs) H:=by
 rintro vs H Q E ⟨_,a,b,ps,rows,k,price,rfl,hA,hB,hv,hl,hp,hpr,qn,qs⟩
 unfold rd_offer_of
 walk_at "v"
 refine ⟨rfl,b,rows,(k:Int),rfl,hB,by omega,fun lw H1 f1 s1 h1=>?_⟩
 rw [common_one] at h1
 have hwl:=wantN_len rows k
 have hA1:=s1.seq hA
 have q1:SqL K H1 lw (((wantN rows k).map fun i:Nat=>(i:Int)).map V.int):=SqL.of h1
 have hlw:(((wantN rows k).map fun i:Nat=>(i:Int)).map V.int).length=(wantN rows k).length:=by simp
 walk_at "v"
 refine comp_mapY (ys_list (xs:=((wantN rows k).map fun i:Nat=>(i:Int)).map V.int) 0) (fun j=>[some ((((wantN rows k).map fun i:Nat=>(i:Int)).map V.int).getD j .non),some (.ref a)]) (by rintro j σ' (rfl | ⟨k,rfl⟩) <;> rfl) (fun H' s=>s.seq q1) (by rw [hlw];exact Nat.le_trans (show _≤1000 by omega) line64) (fun j=>.int (PF ps ((wantN rows k).getD j 0))) ?_ ?_
 ·intro j hj H' G s kk
  rw [hlw] at hj
  have e:(((wantN rows k).map fun i:Nat=>(i:Int)).map V.int).getD j .non=.int (((wantN rows k).getD j 0:Nat):Int):=by simp [List.getD,hj]
  have hm:(wantN rows k).getD j 0∈wantN rows k:=by simp [List.getD,hj]
  have hi:=wantN_lt hm
  rw [e]
  generalize (wantN rows k).getD j 0=i at *
  walk_at "v"
  refine r_ix (s.seq hA1) (atI_nat (PF_of_getD (by omega))) ?_
  exact kk H' (Same.refl _)
 intro l H2 f2 s2 h2
 have e2:(List.range (((wantN rows k).map fun i:Nat=>(i:Int)).map V.int).length).map (fun j=>V.int (PF ps ((wantN rows k).getD j 0)))=((wantN rows k).map (PF ps)).map V.int:=by
  rw [hlw,range_getD' (fun i=>V.int (PF ps i)) 0 (wantN rows k),List.map_map]
  rfl
 rw [e2] at h2
 walk_at "v"
 refine ⟨rfl,l,(wantN rows k).map (PF ps),price,rfl,SqL.of h2,by rw [List.length_map];omega,fun p h=>?_,hpr,fun h H3 s3=>?_,fun h L H3 hL s3=>?_⟩
 ·obtain ⟨i,_,e⟩:=List.mem_map.mp h
  rw [← e]
  exact PF_nn hp i
 ·rw [want_sum] at h
  exact qn h H3 (s1.trans (s2.trans s3))
 ·rw [want_sum] at h
  obtain ⟨z1,z2,z3⟩:=hL
  rw [want_gat] at z2 z3
  exact qs h L H3 z1 z2 z3 (s1.trans (s2.trans s3))
theorem rk_offers_of:∀ vs H Q E,sp_offers_of K vs H Q E→rd_offers_of K {nx:=fun _ H'=>Q .non H',rt:=Q} (start ["purses","costs","wishes","done","offers","work","price"] vs) H:=by
 rintro vs H Q E ⟨_,a,b,c,d,ps,cs,rows,done,rfl,hA,hB,hC,hD,hl,hb,hv1,hv,hpl,hp,hdl,q⟩
 unfold rd_offers_of
 walk_at "q"
 walk_at "s1"
 rename_i lo H1 f1 s1 h1
 walk_at "q"
 walk_at "s1"
 refine ⟨rfl,b,c,cs,rows,rfl,s1.seq hB,s1.rows hC,hl,hb,hv1,hv,fun lp H2 f2 s2 h2=>?_⟩
 have hpr:∀ j,j < cs.length→(((cs.map (· * ((tog rows.length ^ (cs.length + 1):Nat):Int))).map V.int)).getD j .non=.int ((townT cs rows).c j):=fun j hj=>by
  simp [List.getD,hj,townT]
 have hlx:((cs.map (· * ((tog rows.length ^ (cs.length + 1):Nat):Int))).map V.int).length=cs.length:=by simp
 generalize (cs.map (· * ((tog rows.length ^ (cs.length + 1):Nat):Int))).map V.int=xs at *
 have q2:SqL K H2 lp xs:=SqL.of h2
 have hne:lp≠lo:=fun z=>by
  rw [z,h1] at f2
  cases f2
 have h1':=s2 _ _ h1
 have s12:=s1.trans s2
 walk_at "s1"
 refine for_ys (ys_enum (xs:=xs) 5 6) (fun i σ H'=>Same H H'∧H' lp=some (.lst xs)∧∃ (os:List (Option Int)) (v5 v6:Option V),H' lo=some (.lst (os.map oV))∧os.length=i∧i≤cs.length∧(∀ j o,os[j]?=some o→OffOk (townT cs rows) (PF ps) done j o)∧σ=[some (.ref a),some (.ref b),some (.ref c),some (.ref d),some (.ref lo),v5,v6]) ⟨s12,h2,[],_,_,h1',rfl,Nat.zero_le _,(fun j o h=>by simp at h),rfl⟩ (fun i σ H' h=>SqL.of h.2.1) ?_ ?_
 ·rintro i σ Ha Hb hi ⟨sa,hpa,os,v5,v6,ho,hol,hil,hok,rfl⟩ sb
  rw [hlx] at hi
  rw [hpr i hi]
  have sab:=sa.trans sb
  have fit:(os.map oV).length < sizeLine:=by rw [List.length_map,hol];exact Nat.lt_of_lt_of_le (show i < 1000 by omega) line64
  have add:∀ (o:Option Int) (Hc:Hp),Same Hb Hc→OffOk (townT cs rows) (PF ps) done i o→Same H (upd Hc lo (.lst (os.map oV ++ [oV o])))∧(upd Hc lo (.lst (os.map oV ++ [oV o]))) lp=some (.lst xs)∧∃ (os':List (Option Int)) (v5 v6:Option V),(upd Hc lo (.lst (os.map oV ++ [oV o]))) lo=some (.lst (os'.map oV))∧os'.length=i + 1∧i + 1≤cs.length∧(∀ j o,os'[j]?=some o→OffOk (townT cs rows) (PF ps) done j o)∧[some (V.ref a),some (.ref b),some (.ref c),some (.ref d),some (.ref lo),some (.int (i:Int)),some (.int ((townT cs rows).c i))]=[some (.ref a),some (.ref b),some (.ref c),some (.ref d),some (.ref lo),v5,v6]:=by
   intro o Hc sc hoff
   refine ⟨(sab.trans sc).upd f1,by rw [upd_ne hne];exact sc _ _ (sb _ _ hpa),os ++ [o],_,_,by rw [upd_same];simp,by simp [hol],hi,fun j o' hj=>?_,rfl⟩
   by_cases hjl:j < os.length
   ·rw [List.getElem?_append_left hjl] at hj
    exact hok j o' hj
   ·rw [List.getElem?_append_right (by omega)] at hj
    cases e:j - os.length with
    | zero=>
     rw [e] at hj
     have e1:o=o':=by simpa using hj
     have e2:j=i:=by omega
     rw [← e1,e2]
     exact hoff
    | succ n=>rw [e] at hj;simp at hj
  have hD':=sab.seq hD
  have hA':=sab.seq hA
  have hC':=sab.rows hC
  have ho':=sb _ _ ho
  show tDrop _ _ _ _
  walk_at "s1"
  refine ⟨tyL ho',?_⟩
  walk_at "s1"
  refine iteD (fun h=>?_) (fun h=>?_)
  ·walk_at "s1"
   refine r_appendN ho' fit ?_
   exact add none Hb (Same.refl _) (.inl (mem_nats.mp h))
  ·have hn:i∉done:=fun z=>h (mem_nats.mpr z)
   walk_at "s1"
   refine ⟨rfl,a,c,ps,rows,i,_,rfl,hA',hC',hv,hpl,hp,c_pos hb i hi,fun hlt Hc sc=>?_,fun hle L Hc z1 z2 z3 sc=>?_⟩
   ·walk_at "s1"
    refine r_appendN (sc _ _ ho') fit ?_
    exact add none Hc sc (.inr hlt)
   ·walk_at "s1"
    refine r_appendN (sc _ _ ho') fit ?_
    exact add (some L) Hc sc ⟨hn,z1,z2,z3⟩
 rintro σ Ha ⟨sa,_,os,v5,v6,ho,hol,_,hok,rfl⟩
 rw [hlx] at hol
 walk_at "s1"
 exact q lo Ha os f1 sa ho hol hok
theorem rk_next_of:∀ vs H Q E,sp_next_of K vs H Q E→rd_next_of K {nx:=fun _ H'=>Q .non H',rt:=Q} (start ["offers","best","work","offer"] vs) H:=by
 rintro vs H Q E ⟨_,a,os,rfl,hA,hl,q⟩
 have hlo:(os.map oV).length=os.length:=List.length_map _
 unfold rd_next_of
 walk_at "q"
 walk_at "s1"
 walk_at "q"
 walk_at "s1"
 try refine ⟨a,rfl,⟨_,hA⟩,?_⟩
 refine for_ys (ys_enum (xs:=os.map oV) 2 3) (fun i σ H'=>Same H H'∧∃ (k:Option Nat) (v2 v3:Option V),NextOk (os.take i) k∧σ=[some (.ref a),some (oV (k.map fun j:Nat=>(j:Int))),v2,v3]) ⟨Same.refl _,none,_,_,next_nil,rfl⟩ (fun i σ H' h=>h.1.seq hA) ?_ ?_
 ·rintro i σ Ha Hb hi ⟨sa,k,v2,v3,hk,rfl⟩ sb
  rw [hlo] at hi
  have hi':os[i]?=some os[i]:=by simp [hi]
  have e:(os.map oV).getD i .non=oV os[i]:=by simp [List.getD,hi]
  have htk:=take_snoc hi'
  have htl:(os.take i).length=i:=by rw [List.length_take];omega
  rw [e]
  have sab:=sa.trans sb
  show tIfS _ _ _ _ _ _
  cases ho:os[i] with
  | none=>
   rw [ho] at htk
   show tIfS _ _ _ _ [some (V.ref a),some (oV (k.map fun j:Nat=>(j:Int))),some (.int (i:Int)),some .non] _
   walk_at "s1"
   refine iteNS rfl ?_
   walk_at "s1"
   exact ⟨sab,k,_,_,by rw [htk];exact next_none hk,rfl⟩
  | some M=>
   rw [ho] at htk
   cases k with
   | none=>
    show tIfS _ _ _ _ [some (V.ref a),some .non,some (.int (i:Int)),some (.int M)] _
    walk_at "s1"
    refine iteNP (by simp) ?_
    walk_at "s1"
    refine iteP rfl ?_
    walk_at "s1"
    refine ⟨sab,some i,_,_,?_,rfl⟩
    have:=next_first (M:=M) hk
    rw [htl] at this
    rw [htk]
    exact this
   | some j=>
    show tIfS _ _ _ _ [some (V.ref a),some (.int (j:Int)),some (.int (i:Int)),some (.int M)] _
    have hk':=hk
    obtain ⟨L,hL,_⟩:=hk'
    have hLo:os[j]?=some (some L):=by
     have h:=hL
     rw [List.getElem?_take] at h
     split at h
     ·exact h
     ·cases h
    have hix:(os.map oV)[j]?=some (.int L):=by
     rw [List.getElem?_map,hLo]
     rfl
    walk_at "s1"
    refine iteNP (by simp) ?_
    walk_at "s1"
    refine iteN (by simp) ?_
    walk_at "s1"
    refine r_ix (sab.seq hA) (atI_nat hix) ?_
    walk_at "s1"
    refine iteD (fun h=>?_) (fun h=>?_)
    ·walk_at "s1"
     refine ⟨sab,some i,_,_,?_,rfl⟩
     have:=next_less hk hL h
     rw [htl] at this
     rw [htk]
     exact this
    ·walk_at "s1"
     refine ⟨sab,some j,_,_,?_,rfl⟩
     rw [htk]
     exact next_stay hk hL h
 rintro σ Ha ⟨sa,k,v2,v3,hk,rfl⟩
 rw [hlo,List.take_length] at hk
 walk_at "s1"
 exact q k Ha hk sa
theorem perm_nats {ms:List Int}{ks:List Nat} (h:ms.Perm (ks.map fun k:Nat=>(k:Int))):∃ ws:List Nat,ms=ws.map fun k:Nat=>(k:Int):=by
 refine ⟨ms.map Int.toNat,?_⟩
 rw [List.map_map]
 conv=>lhs;rw [← List.map_id ms]
 refine List.map_congr_left fun x hx=>?_
 obtain ⟨k,_,e⟩:=List.mem_map.mp (h.mem_iff.mp hx)
 rw [← e]
 rfl
theorem rk_works_of:∀ vs H Q E,sp_works_of K vs H Q E→rd_works_of K {nx:=fun _ H'=>Q .non H',rt:=Q} (start ["steps"] vs) H:=by
 rintro vs H Q E ⟨_,a,sts,rfl,hA,hl,hw,hn,q⟩
 obtain ⟨ts,bs,B⟩:=hA.b
 have qA:SqL K H a (ts.map V.ref):=(B.ys (Same.refl _)).1
 unfold rd_works_of
 walk_at "s1"
 refine comp_mapY (ys_list3 (ts:=ts) (u:=fun i=>.int ((sts.getD i stN).1:Nat)) (v:=fun i=>.int (sts.getD i stN).2.1) (w:=fun i=>.ref (bs.getD i 0)) 0 1 2) (fun j=>[some (.int ((sts.getD j stN).1:Nat)),some (.int (sts.getD j stN).2.1),some (.ref (bs.getD j 0))]) (by rintro j σ' (rfl | ⟨k,rfl⟩) <;> rfl) (fun H' s=>B.ys s) (by rw [B.tl];exact Nat.le_trans (show sts.length≤1000 by omega) line64) (fun j=>.int ((sts.getD j stN).1:Nat)) ?_ ?_
 ·intro j hj H' G s kk
  walk_at "s1"
  exact kk H' (Same.refl _)
 intro l H1 f1 s1 h1
 have e1:(List.range ts.length).map (fun j=>V.int ((sts.getD j stN).1:Nat))=((sts.map (·.1)).map fun k:Nat=>(k:Int)).map V.int:=by
  rw [B.tl,range_getD' (fun x:Nat×Int×List Int=>V.int ((x.1:Nat):Int)) stN sts,List.map_map,List.map_map]
  rfl
 rw [e1] at h1
 walk_at "s1"
 refine ⟨l,(sts.map (·.1)).map fun k:Nat=>(k:Int),rfl,SqL.of h1,by simp;omega,fun p ms hp perm pw=>?_⟩
 have s2:=Same.updN (o:=.lst (ms.map V.int)) hp
 have h2:(upd H1 p (.lst (ms.map V.int))) p=some (.lst (ms.map V.int)):=upd_same
 generalize upd H1 p (.lst (ms.map V.int))=H2 at *
 obtain ⟨ws,rfl⟩:=perm_nats perm
 have hmem:∀ k,k∈ws↔k∈sts.map (·.1):=fun k=>by
  rw [← mem_nats,perm.mem_iff,mem_nats]
 have hnd:ws.Nodup:=by
  have h3:((sts.map (·.1)).map fun k:Nat=>(k:Int)).Nodup:=List.Pairwise.map _ (fun x y hxy z=>hxy (by omega)) hn
  have h4:=(perm.nodup_iff).mpr h3
  exact List.Pairwise.of_map _ (fun x y hxy z=>hxy (by rw [z])) h4
 have hpw:ws.Pairwise (· < ·):=by
  have h5:ws.Pairwise (·≤·):=List.Pairwise.of_map _ (fun x y h=>by omega) pw
  exact List.Pairwise.imp₂ (fun x y h6 h7=>Nat.lt_of_le_of_ne h6 h7) h5 hnd
 exact q p H2 ws (s1.free hp) (s1.trans s2) h2 hpw hmem
theorem rk_paid_at:∀ vs H Q E,sp_paid_at K vs H Q E→rd_paid_at K {nx:=fun _ H'=>Q .non H',rt:=Q} (start ["purses","level"] vs) H:=by
 rintro vs H Q E ⟨_,a,ps,lev,rfl,hS,hl,q⟩
 unfold rd_paid_at
 walk_at "w"
 refine comp_mapL (K:=K) (xs:=ps.map V.int) (fun x v=>∃ p,x=.int p∧v=.int (min p lev)) [some (.int lev)] rfl hS (by rw [List.length_map];exact Nat.le_trans hl (by decide)) ?_ ?_
 ·intro x hx H' G s k
  obtain ⟨p,_,rfl⟩:=mem_ints hx
  walk_at "w"
  exact k _ _ ⟨p,rfl,rfl⟩ (Same.refl _)
 ·intro l ys H' h0 s h1 pr
  have e:=paired_fun pr int_inj
  subst e
  refine q l H' h0 s ?_
  rw [h1,List.map_map]
  rfl
theorem rk_payments_of:∀ vs H Q E,sp_payments_of K vs H Q E→rd_payments_of K {nx:=fun _ H'=>Q .non H',rt:=Q} (start ["purses","wishes","work","level","wanters"] vs) H:=by
 rintro vs H Q E ⟨_,a,b,ps,rows,k,L,rfl,hA,hB,hl,hl64,q⟩
 have hlp:((ps.map (min · L)).map V.int).length=ps.length:=by simp
 unfold rd_payments_of
 walk_at "q"
 walk_at "s1"
 refine ⟨rfl,b,rows,(k:Int),rfl,hB,by omega,fun lw H1 f1 s1 h1=>?_⟩
 have hA1:=s1.seq hA
 walk_at "s1"
 refine ⟨rfl,a,ps,L,rfl,hA1,hl64,fun lq H2 f2 s2 h2=>?_⟩
 have q1:SqL K H2 lw ((commonF rows [(k:Int)]).map V.int):=SqL.of (s2 _ _ h1)
 have q2:SqL K H2 lq ((ps.map (min · L)).map V.int):=SqL.of h2
 walk_at "s1"
 try refine ⟨lq,rfl,⟨_,q2⟩,?_⟩
 refine comp_mapY (ys_enum (xs:=(ps.map (min · L)).map V.int) 0 1) (fun j=>[some (.int j),some (((ps.map (min · L)).map V.int).getD j .non),some (.ref lw)]) (by rintro j σ' (rfl | ⟨k,rfl⟩) <;> rfl) (fun H' s=>s.seq q2) (by rw [hlp];exact Nat.le_trans (show _≤1000 by omega) line64) (fun j=>.int (pay (WR rows) (PF ps) k L j)) ?_ ?_
 ·intro j hj H' G s kk
  rw [hlp] at hj
  have e:((ps.map (min · L)).map V.int).getD j .non=.int (min (PF ps j) L):=by unfold PF;simp [List.getD,hj]
  have q1':=s.seq q1
  rw [e]
  walk_at "s1"
  unfold pay at kk
  refine iteD (fun h=>?_) (fun h=>?_)
  ·rw [if_pos (mem_common.mp h)] at kk
   walk_at "s1"
   exact kk H' (Same.refl _)
  ·rw [if_neg fun z=>h (mem_common.mpr z)] at kk
   walk_at "s1"
   exact kk H' (Same.refl _)
 ·intro l H' f s h
  rw [hlp] at h
  refine q l H' (s1.free (s2.free f)) (s1.trans (s2.trans s)) ?_
  rw [h]
  unfold paidF
  rw [List.map_map]
  rfl
theorem rk_step_behind:∀ vs H Q E,sp_step_behind K vs H Q E→rd_step_behind K {nx:=fun _ H'=>Q .non H',rt:=Q} (start ["purses","costs","wishes","steps","left","offers","work","level"] vs) H:=by
 rintro vs H Q E ⟨_,a,b,c,d,ps,cs,rows,sts,rfl,hA,hB,hC,hD,hl,hb,hv1,hv,hpl,hsl,hsw,hsn,hsp,hnn,qn,qs⟩
 have hll:(leftOf ps sts).length=ps.length:=by unfold leftOf;rw [List.length_map,List.length_range]
 unfold rd_step_behind
 walk_at "q"
 walk_at "s1"
 refine ⟨rfl,a,d,ps,sts,rfl,hA,hD,by omega,hsl,hsp,fun l1 H1 f1 s1 h1=>?_⟩
 walk_at "s1"
 walk_at "q"
 walk_at "s1"
 refine ⟨rfl,d,sts,rfl,stepsAt_same s1 hD,hsl,hsw,hsn,fun l2 H2 ws f2 s2 h2 hpw hmem=>?_⟩
 walk_at "s1"
 have s02:=s1.trans s2
 have hwl:ws.length≤12:=by
  have:=nodup_sub (l:=ws) (m:=sts.map (·.1)) (List.Pairwise.imp (fun h=>Nat.ne_of_lt h) hpw) fun x hx=>(hmem x).mp hx
  rw [List.length_map] at this
  omega
 refine ⟨rfl,l1,b,c,l2,leftOf ps sts,cs,rows,ws,rfl,SqL.of (s2 _ _ h1),s02.seq hB,s02.rows hC,SqL.of h2,hl,hb,hv1,hv,by rw [hll];exact hpl,hnn,hwl,fun l3 H3 os f3 s3 h3 hol hok=>?_⟩
 have s03:=s02.trans s3
 have h13:H3 l1=some (.lst ((leftOf ps sts).map V.int)):=s3 _ _ (s2 _ _ h1)
 walk_at "s1"
 walk_at "q"
 walk_at "s1"
 refine ⟨rfl,l3,os,rfl,SqL.of h3,by omega,fun k H4 hnx s4=>?_⟩
 have s04:=s03.trans s4
 walk_at "s1"
 walk_at "q"
 cases k with
 | none=>
  show tIfS _ _ _ _ [some (V.ref a),some (.ref b),some (.ref c),some (.ref d),some (.ref l1),some (.ref l3),some .non,none] _
  walk_at "s1"
  refine iteP rfl ?_
  walk_at "s1"
  refine qn (fun k hk hkn=>?_) H4 s04
  have hko:os[k]?=some os[k]:=by simp [hol,hk]
  have h5:=hok k os[k] hko
  rw [hnx os[k] (List.mem_of_getElem? hko)] at h5
  rcases h5 with z | z
  ·exact absurd ((hmem k).mp z) hkn
  ·exact z
 | some k=>
  have hnx':=hnx
  obtain ⟨L,hkL,_⟩:=hnx'
  show tIfS _ _ _ _ [some (V.ref a),some (.ref b),some (.ref c),some (.ref d),some (.ref l1),some (.ref l3),some (.int (k:Int)),none] _
  walk_at "s1"
  refine iteN (by simp) ?_
  walk_at "s1"
  walk_at "q"
  walk_at "s1"
  have hix:(os.map oV)[k]?=some (.int L):=by
   rw [List.getElem?_map,hkL]
   rfl
  refine r_ix (SqL.of (s4 _ _ h3)) (atI_nat hix) ?_
  walk_at "s1"
  refine ⟨rfl,l1,c,leftOf ps sts,rows,k,L,rfl,SqL.of (s4 _ _ h13),s04.rows hC,by omega,by omega,fun lp H5 f5 s5 h5=>?_⟩
  walk_at "s1"
  rename_i t H6 f6 s6 h6
  have N:=nx_of_offers (T:=townT cs rows) hol hok (fun i _=>PF_nn hnn i) (c_pos hb) hkL hnx
  exact qs k L (nx_congr (fun j=>(hmem j).symm) N) t lp H6 (s04.free (s5.free f6)) (s04.free f5) (s04.trans (s5.trans s6)) h6 (s6 _ _ h5)
theorem rk_choose:∀ vs H Q E,sp_choose K vs H Q E→rd_choose K {nx:=fun _ H'=>Q .non H',rt:=Q} (start ["purses","costs","wishes","steps","step"] vs) H:=by
 rintro vs H Q E ⟨_,a,b,c,ps,cs,rows,rfl,hA,hB,hC,G,q⟩
 have h12:=G.c12
 unfold rd_choose
 walk_at "q"
 walk_at "s1"
 rename_i ls H1 f1 s1 h1
 have ask:∀ (r:List (Nat×Int)) (Ha:Hp) (R:VK),Pre cs rows ps r→Same H Ha→StepsNew H Ha ls (stepsF rows ps r)→
   (∀ (Hb:Hp) (v:V),Same Ha Hb→((v=.non∧∀ k,k < cs.length→k∉r.map (·.1)→hav rows.length (WR rows) (PF (leftS rows ps r)) k < (townT cs rows).c k)∨∃ (k:Nat) (L:Int) (t:Addr),v=.ref t∧Nx (townT cs rows) (PF (leftS rows ps r)) (r.map (·.1)) k L∧t≠ls∧StepNew H Hb ls (k,L,paidF rows (leftS rows ps r) k L) t)→R v Hb)→
   sp_step_behind K [.ref a,.ref b,.ref c,.ref ls] Ha R E0:=by
  intro r Ha R hr sa hst hR
  have hrl:=hr.len
  have hls:∃ o,Ha ls=some o:=by
   obtain ⟨ts,z,_⟩:=hst
   exact ⟨_,z⟩
  obtain ⟨o,ho⟩:=hls
  have e1:=leftOf_steps rows ps r
  have e2:=stepsF_1 rows ps r
  refine ⟨rfl,a,b,c,ls,ps,cs,rows,stepsF rows ps r,rfl,sa.seq hA,sa.seq hB,sa.rows hC,hst.at,h12,G.cb,G.v1,G.v20,G.pl,by rw [stepsF_len];omega,fun x hx=>?_,by rw [e2];exact hr.nd,stepsF_paid rows ps r,by rw [e1];exact leftS_nn G.p0,fun h H' s'=>?_,fun k L n t b' H' ft fb s' ht hb'=>?_⟩
  ·have:x.1∈r.map (·.1):=by rw [← e2];exact List.mem_map.mpr ⟨x,hx,rfl⟩
   obtain ⟨y,hy,e⟩:=List.mem_map.mp this
   have:=hr.lt y hy
   omega
  ·rw [e1,e2] at h
   exact hR H' .non s' (.inl ⟨rfl,h⟩)
  ·rw [e1,e2] at n
   rw [e1] at hb'
   refine hR H' (.ref t) s' (.inr ⟨k,L,t,rfl,n,fun z=>?_,b',sa.free ft,sa.free fb,fun z=>?_,ht,hb'⟩)
   ·rw [z,ho] at ft
    cases ft
   ·rw [z,ho] at fb
    cases fb
 let St:List (Nat×Int)→V→Hp→Prop:=fun r v Hb=>(v=.non∧∀ k,k < cs.length→k∉r.map (·.1)→hav rows.length (WR rows) (PF (leftS rows ps r)) k < (townT cs rows).c k)∨∃ (k:Nat) (L:Int) (t:Addr),v=.ref t∧Nx (townT cs rows) (PF (leftS rows ps r)) (r.map (·.1)) k L∧t≠ls∧StepNew H Hb ls (k,L,paidF rows (leftS rows ps r) k L) t
 walk_at "q"
 walk_at "s1"
 refine ask [] H1 _ (pre_nil cs rows ps) s1 ⟨[],h1,.nil⟩ fun H2 v s2 hv=>?_
 walk_at "s1"
 walk_at "q"
 refine ⟨fun μ σ H'=>∃ (r:List (Nat×Int)) (v:V),σ=[some (.ref a),some (.ref b),some (.ref c),some (.ref ls),some v]∧Pre cs rows ps r∧Same H H'∧StepsNew H H' ls (stepsF rows ps r)∧St r v H'∧μ=cs.length - r.length,⟨_,[],v,rfl,pre_nil cs rows ps,s1.trans s2,⟨[],s2 _ _ h1,.nil⟩,hv,rfl⟩,?_⟩
 rintro μ σ Ha ⟨r,v,rfl,hr,sa,hst,hv,rfl⟩
 rcases hv with ⟨rfl,hstop⟩ | ⟨k,L,t,rfl,n,htl,b',z1,z2,z3,z4,z5⟩
 ·walk_at "s1"
  refine iteNS rfl ?_
  walk_at "s1"
  exact q ls Ha r f1 sa hst (runx_town G (hr.stop hstop))
 ·walk_at "s1"
  refine iteNP (by simp) ?_
  have hr':=hr.snoc G.pl n
  have hlen:=hr'.len
  rw [List.length_append] at hlen
  have hlen:r.length + 1≤cs.length:=hlen
  refine ⟨fun σ' H'=>∃ (v:V),σ'=[some (.ref a),some (.ref b),some (.ref c),some (.ref ls),some v]∧Same H H'∧StepsNew H H' ls (stepsF rows ps (r ++ [(k,L)]))∧St (r ++ [(k,L)]) v H',?_,?_⟩
  ·rintro σ' H' ⟨v,rfl,s',hst',hv'⟩
   exact ⟨_,(by rw [List.length_append];show cs.length - (r.length + 1) < cs.length - r.length;omega),r ++ [(k,L)],v,rfl,hr',s',hst',hv',rfl⟩
  obtain ⟨ts,ht,hpt⟩:=hst
  have hpl:=Paired.length hpt
  rw [stepsF_len] at hpl
  walk_at "q"
  walk_at "s1"
  refine ⟨tyL ht,?_⟩
  walk_at "s1"
  refine r_appendN ht (by rw [List.length_map];exact Nat.lt_of_lt_of_le (show ts.length < 1000 by omega) line64) ?_
  have sb:Same H (upd Ha ls (.lst (ts.map V.ref ++ [.ref t]))):=sa.upd f1
  have hst2:StepsNew H (upd Ha ls (.lst (ts.map V.ref ++ [.ref t]))) ls (stepsF rows ps (r ++ [(k,L)])):=by
   refine ⟨ts ++ [t],by rw [upd_same,List.map_append];rfl,?_⟩
   rw [stepsF_app]
   refine paired_app (paired_mapne hpt ht) (.cons ⟨b',z1,z2,z3,by rw [upd_ne htl];exact z4,by rw [upd_ne z3];exact z5⟩ .nil)
  generalize upd Ha ls (.lst (ts.map V.ref ++ [.ref t]))=Hb at *
  walk_at "s1"
  refine ask (r ++ [(k,L)]) Hb _ hr' sb hst2 fun H3 v s3 hv3=>?_
  walk_at "s1"
  obtain ⟨ts3,y1,y2⟩:=hst2
  exact ⟨v,rfl,sb.trans s3,⟨ts3,s3 _ _ y1,Paired.mapP y2 fun _ _ ⟨b3,w1,w2,w3,w4,w5⟩=>⟨b3,w1,w2,w3,s3 _ _ w4,s3 _ _ w5⟩⟩,hv3⟩
theorem rk_Chest_keep_coins (C:Cls K):∀ vs H Q E,sp_Chest_keep_coins K vs H Q E→rd_Chest_keep_coins K {nx:=fun _ H'=>Q .non H',rt:=Q} (start ["self","left","grains"] vs) H:=by
 rintro vs H Q E ⟨_,c,b,g,left,fp,s,rfl,⟨dx,d1,d2,w,wt,X,rfl⟩,hb,hg,hH,hll,hv,q⟩
 have hlm:(left.map V.int).length=left.length:=List.length_map _
 unfold rd_Chest_keep_coins
 walk_at "q"
 walk_at "s1"
 refine k_aug X.at_ C.o_Chest C.n_Chest_unshared lk_unshared ?_
 walk_at "s1"
 try refine r_iList' (SqL.of hb) ?_
 refine comp_mapY (ys_list (K:=K) (xs:=left.map V.int) 0) (fun j=>[some ((left.map V.int).getD j .non),some (.int g)]) (by rintro j σ' (rfl | ⟨k,rfl⟩) <;> rfl) (fun H' s=>s.seq (SqL.of hb)) (by rw [hlm];exact Nat.le_trans (show _≤1000 by omega) line64) (fun j=>.int (left.getD j 0 % g)) ?_ ?_
 ·intro j hj H' G s' kk
  rw [hlm] at hj
  have e:(left.map V.int).getD j .non=.int (left.getD j 0):=by simp [List.getD,hj]
  rw [e]
  walk_at "s1"
  exact kk H' (Same.refl _)
 intro l1 H1 f1 s1 h1
 rw [hlm] at h1
 have e1:(List.range left.length).map (fun j=>V.int (left.getD j 0 % g))=(left.map (· % g)).map V.int:=by
  rw [List.map_map];exact range_getD' (fun x:Int=>V.int (x % g)) 0 left
 rw [e1] at h1
 have X1:=X.same s1
 have q1:SqL K H1 l1 ((left.map (· % g)).map V.int):=SqL.of h1
 walk_at "s1"
 refine r_divH hg hH ?_
 refine ⟨_,_,rfl,rfl,dx,_,X1.at_,(show 6 < 1000 by decide),?_⟩
 rw [pf_unshared]
 have X2:=X1.setF (a:=s.pot + (left.map (· % g)).sum / g) (b:=s.giv) (e:=s.spt)
 have b2:But [c,d1,d2,w] H1 (upd H1 c (.ins (clsA K "Chest") dx (chF d1 d2 w (s.pot + (left.map (· % g)).sum / g) s.giv s.spt))):=But.upd X1.at_ (by intro xs z;cases z) (by simp)
 have hb1:=s1 _ _ hb
 have hb2:upd H1 c (.ins (clsA K "Chest") dx (chF d1 d2 w (s.pot + (left.map (· % g)).sum / g) s.giv s.spt)) b=some (.lst (left.map V.int)):=by rw [upd_ne (ne_of_two hb1 X1.at_ (by simp))];exact hb1
 generalize upd H1 c (.ins (clsA K "Chest") dx (chF d1 d2 w (s.pot + (left.map (· % g)).sum / g) s.giv s.spt))=H2 at *
 walk_at "s1"
 unfold tDictZ
 walk_at "s1"
 refine k_fld X2.at_ C.o_Chest C.n_Chest_purses lk_purses ?_
 walk_at "s1"
 try refine r_iList' (SqL.of hb2) ?_
 refine comp_mapY (ys_list (K:=K) (xs:=left.map V.int) 0) (fun j=>[some ((left.map V.int).getD j .non),some (.int g)]) (by rintro j σ' (rfl | ⟨k,rfl⟩) <;> rfl) (fun H' s=>s.seq (SqL.of hb2)) (by rw [hlm];exact Nat.le_trans (show _≤1000 by omega) line64) (fun j=>.int (left.getD j 0 / g)) ?_ ?_
 ·intro j hj H' G s' kk
  rw [hlm] at hj
  have e:(left.map V.int).getD j .non=.int (left.getD j 0):=by simp [List.getD,hj]
  rw [e]
  walk_at "s1"
  refine r_divH hg hH ?_
  exact kk H' (Same.refl _)
 intro l3 H3 f3 s3 h3
 rw [hlm] at h3
 have e3:(List.range left.length).map (fun j=>V.int (left.getD j 0 / g))=(left.map (· / g)).map V.int:=by
  rw [List.map_map];exact range_getD' (fun x:Int=>V.int (x / g)) 0 left
 rw [e3] at h3
 have X3:=X2.same s3
 walk_at "s1"
 have eK:(kvI s.ps).map (·.1)=(s.ps.map (·.1)).map Sum.inr:=by unfold kvI;rw [List.map_map,List.map_map];rfl
 refine ⟨d1,l3,_,_,rfl,X3.p1,SqL.of h3,by rw [kvI_len];simp;exact Nat.le_of_eq hll.symm,by rw [kvI_len];show s.ps.length≤1000;omega,?_,fun e f4=>?_⟩
 ·show ((kvI s.ps).map (·.1)).Nodup
  rw [eK]
  exact List.pairwise_map.mpr (List.Pairwise.imp (fun h e=>h (by injection e)) X.nd)
 have eZ:zipD (kvI s.ps) ((left.map (· / g)).map V.int)=kvI ((s.ps.map (·.1)).zip (left.map (· / g))):=by
  unfold zipD kvI
  apply List.ext_getElem (by simp)
  intro i g1 g2
  simp
 rw [show zipD (kvI (ChSt.mk s.ps s.cs s.ws (s.pot + (left.map (· % g)).sum / g) s.giv s.spt).ps) ((left.map (· / g)).map V.int)=_ from eZ]
 have s4:Same H3 (upd H3 e (.dK (kvI ((s.ps.map (·.1)).zip (left.map (· / g)))))):=Same.updN f4
 have h4:upd H3 e (.dK (kvI ((s.ps.map (·.1)).zip (left.map (· / g))))) e=some (.dK (kvI ((s.ps.map (·.1)).zip (left.map (· / g))))):=upd_same
 generalize upd H3 e (.dK (kvI ((s.ps.map (·.1)).zip (left.map (· / g)))))=H4 at *
 have X4:=X3.same s4
 walk_at "s1"
 refine k_sto X4.at_ C.o_Chest C.n_Chest_purses (show 6 < 1000 by decide) ?_
 rw [pf_purses]
 have nd:(((s.ps.map (·.1)).zip (left.map (· / g))).map (·.1)).Nodup:=by
  rw [List.map_fst_zip (by simp [hll])]
  exact X.nd
 have X5:=X4.setD h4 (ne_of_free X3.p2 f4).symm nd
 refine q _ [c,e,d2,w] ⟨dx,e,d2,w,wt,X5,rfl⟩ (((((But.of s1).trans b2).trans (But.of s3)).trans (But.of s4)).trans (But.upd X4.at_ (by intro xs z;cases z) (by simp))) ?_
 intro a ha
 simp only [List.mem_cons,List.not_mem_nil,or_false] at ha
 rcases ha with rfl | rfl | rfl | rfl
 ·exact .inl (by simp)
 ·exact .inr (s1.free (b2.2.2 _ (s3.free f4)))
 ·exact .inl (by simp)
 ·exact .inl (by simp)
theorem rk_Chest_wanted_places (C:Cls K):∀ vs H Q E,sp_Chest_wanted_places K vs H Q E→rd_Chest_wanted_places K {nx:=fun _ H'=>Q .non H',rt:=Q} (start ["self","voter"] vs) H:=by
 rintro vs H Q E ⟨_,c,dx,d1,d2,w,n,wt,s,rfl,hc,hd,hw,hp,an,ac,aw,hl,q⟩
 have n1:c≠d2:=ne_of_two hc hd (by simp)
 have n2:w≠d2:=ne_of_two hw hd (by simp)
 have hk:=kvI_len s.cs
 unfold rd_Chest_wanted_places
 with_reducible refine r_ret ?_
 refine open_enumK (d:=d2) (kvs:=kvI s.cs) (fun k hk=>⟨_,rfl,k_fld hc C.o_Chest C.n_Chest_costs lk_costs hk⟩) hd fun o Hf F=>?_
 refine thaw_vals F hd (ys_enumK 0 1 (fun i=>.str (s.cs.getD i ("",0)).1) ?_) (fun i=>[some (.int i),some (.str (s.cs.getD i ("",0)).1),some (.str n),some (.ref c)]) (by rintro j σ' (rfl | ⟨k,rfl⟩) <;> rfl) (fun H' h _=>h) (by rw [hk];exact Nat.le_trans (show _≤1000 by omega) line64)
  (fun i=>decide ((n,(s.cs.getD i ("",0)).1)∈s.ws)) (fun i=>.int i) ?_ ?_ ?_
 ·intro i p hp'
  have hi:i < s.cs.length:=by rw [← hk];exact (List.getElem?_eq_some_iff.mp hp').1
  rw [kvI_get (List.getElem?_eq_getElem hi)] at hp'
  cases hp'
  rw [List.getD_eq_getElem?_getD,List.getElem?_eq_getElem hi]
  rfl
 ·intro i hi H' G sx kk
  rw [hk] at hi
  have ai:Ascii (s.cs.getD i ("",0)).1:=ac _ (getD_mem _ hi)
  walk_at "s1"
  rename_i t H2 f2 s2 h2
  refine k_fld (s2 _ _ (sx c _ n1 hc)) C.o_Chest C.n_Chest_wishes lk_wishes ?_
  refine r_wish (p:=(n,(s.cs.getD i ("",0)).1)) h2 (s2 _ _ (sx w _ n2 hw)) (Paired.mapP hp fun _ a z=>s2 _ _ (sx a _ (ne_of_two z hd (by simp)) z)) an ai aw ?_
  rw [Bool.bne_false]
  walk_at "s1"
  exact kk H2 s2
 ·intro i hi hb H' G sx kk
  walk_at "s1"
  exact kk H' (Same.refl _)
 intro l H2 f2 s2 h2
 rw [hk] at h2
 refine q l H2 f2 s2 ?_
 rw [h2]
 unfold intsOf wantP
 rw [List.map_map]
 rfl
theorem rk_Chest_told_step (C:Cls K):∀ vs H Q E,sp_Chest_told_step K vs H Q E→rd_Chest_told_step K {nx:=fun _ H'=>Q .non H',rt:=Q} (start ["self","place","paid","name","rows"] vs) H:=by
 rintro vs H Q E ⟨_,c,b,k,L,paid,fp,s,rfl,⟨dx,d1,d2,w,wt,X,rfl⟩,hk,hb,hpl,hv,hn,q⟩
 have hkp:=kvI_len s.ps
 have hgd:s.cs.getD k ("",0)=s.cs[k]:=by rw [List.getD_eq_getElem?_getD,List.getElem?_eq_getElem hk];rfl
 unfold rd_Chest_told_step
 walk_at "q"
 walk_at "s1"
 refine k_fld X.at_ C.o_Chest C.n_Chest_costs lk_costs ?_
 walk_at "s1"
 refine ⟨d2,_,rfl,X.p2,fun l0 f0=>?_⟩
 have s1:Same H (upd H l0 (.lst ((kvI s.cs).map fun p=>kV p.1))):=Same.updN f0
 have h1:upd H l0 (.lst ((kvI s.cs).map fun p=>kV p.1)) l0=some (.lst ((kvI s.cs).map fun p=>kV p.1)):=upd_same
 generalize upd H l0 (.lst ((kvI s.cs).map fun p=>kV p.1))=H1 at *
 walk_at "s1"
 refine r_ix (SqL.of h1) (v:=.str (s.cs.getD k ("",0)).1) (atI_nat (by rw [List.getElem?_map,kvI_get (List.getElem?_eq_getElem hk),hgd];rfl)) ?_
 walk_at "s1"
 have X1:=X.same s1
 have hb1:=s1 _ _ hb
 walk_at "q"
 with_reducible refine r_asg ?_
 refine open_zipK (K:=K) (d:=d1) (l:=b) (kvs:=kvI s.ps) (ys:=paid.map V.int) ?_ X1.p1 (SqL.of hb1) (ne_of_two X1.p1 hb1 (by simp)) fun o Hf F=>?_
 ·intro kk hkk
  walk_at "s1"
  refine k_fld X1.at_ C.o_Chest C.n_Chest_purses lk_purses ?_
  walk_at "s1"
  exact hkk
 refine thaw_objs F X1.p1 (ys_zipK (K:=K) (ys:=paid.map V.int) 0 1 (fun i=>.str (s.ps.getD i ("",0)).1) ?_ (by rw [hkp,List.length_map,hpl];exact Nat.le_refl _)) (fun i=>[some (.str (s.ps.getD i ("",0)).1),some ((paid.map V.int).getD i .non)]) (by rintro j σ' (rfl | ⟨k,rfl⟩) <;> rfl)
  (fun H' h sx=>⟨h,SqL.of (sx b _ (ne_of_two X1.p1 hb1 (by simp)).symm hb1)⟩) (by rw [hkp];exact Nat.le_trans (show _≤1000 by omega) line64) (fun i=>decide (0 < paid.getD i 0)) (fun i=>.tup [.str (s.ps.getD i ("",0)).1,.int (paid.getD i 0)]) ?_ ?_ ?_
 ·intro i p hp'
  have hi:i < s.ps.length:=by rw [← hkp];exact (List.getElem?_eq_some_iff.mp hp').1
  rw [kvI_get (List.getElem?_eq_getElem hi)] at hp'
  cases hp'
  rw [List.getD_eq_getElem?_getD,List.getElem?_eq_getElem hi]
  rfl
 ·intro i hi H' G sx kk
  rw [hkp] at hi
  have e:(paid.map V.int).getD i .non=.int (paid.getD i 0):=by simp [List.getD,show i < paid.length by omega]
  rw [e]
  walk_at "s1"
  exact kk H' (Same.refl _)
 ·intro i hi hb' H' G sx kk
  rw [hkp] at hi
  have e:(paid.map V.int).getD i .non=.int (paid.getD i 0):=by simp [List.getD,show i < paid.length by omega]
  rw [e]
  walk_at "s1"
  rename_i a H'' f s'' h
  exact kk a H'' f s'' h
 intro r bs H2 f2 s2 h2 pr
 rw [hkp] at pr
 have X2:=X1.same s2
 walk_at "s1"
 refine k_fld X2.at_ C.o_Chest C.n_Chest_costs lk_costs ?_
 walk_at "s1"
 refine k_dget X2.p2 (v:=.int (s.cs.getD k ("",0)).2) (kvI_at X.nd2 (getD_mem _ hk)) ?_
 walk_at "s1"
 rename_i t H3 f3 s3 h3
 refine q t r H3 (s1.free (s2.free f3)) (s1.free f2) (fun e=>by rw [e,h2] at f3;cases f3) ((s1.trans s2).trans s3) h3 ⟨bs,s3 _ _ h2,?_⟩
 have e:(toldS s (k,L,paid)).2.2=((List.range s.ps.length).filter fun i=>decide (0 < paid.getD i 0)).map fun i=>((s.ps.getD i ("",0)).1,paid.getD i 0):=by
  show ((s.ps.map (·.1)).zip paid).filter (fun p=>decide (0 < p.2))=_
  have hz:((s.ps.map (·.1)).zip paid)=(List.range s.ps.length).map fun i=>((s.ps.getD i ("",0)).1,paid.getD i 0):=by
   apply List.ext_getElem (by simp;omega)
   intro i g1 g2
   have gi:i < s.ps.length:=by simpa using g2
   simp [List.getD_eq_getElem?_getD,gi,show i < paid.length by omega]
  rw [hz,List.filter_map]
  rfl
 rw [e]
 exact paired_mapR (Paired.mapP pr fun i a z=>⟨s1.free z.1,s3 _ _ z.2.2⟩)
theorem rk_Chest_withdraw (C:Cls K):∀ vs H Q E,sp_Chest_withdraw K vs H Q E→rd_Chest_withdraw K {nx:=fun _ H'=>Q .non H',rt:=Q} (start ["self","work"] vs) H:=by
 rintro vs H Q E ⟨_,c,n,x,fp,s,rfl,⟨dx,d1,d2,w,wt,X,rfl⟩,hm,hw,q⟩
 unfold rd_Chest_withdraw
 walk_at "q"
 walk_at "s1"
 refine k_meth X.at_ (lk_no (by decide +kernel)) ?_
 walk_at "s1"
 refine ⟨rfl,c,n,_,s,rfl,⟨dx,d1,d2,w,wt,X,rfl⟩,List.mem_map.mpr ⟨_,hm,rfl⟩,?_⟩
 walk_at "s1"
 walk_at "q"
 walk_at "s1"
 refine k_fld X.at_ C.o_Chest C.n_Chest_costs lk_costs ?_
 refine ⟨d2,rfl,.inl ⟨_,.inl X.p2⟩,?_⟩
 walk_at "s1"
 refine ⟨_,.inr n,.int x,X.p2,rfl,kvI_at X.nd2 hm,?_⟩
 rw [kvI_drop]
 have X2:=X.setC (cs:=s.cs.filter fun p=>decide (p.1≠n)) (nd_filt X.nd2)
 have b1:But [c,d1,d2,w] H (upd H d2 (.dK (kvI (s.cs.filter fun p=>decide (p.1≠n))))):=But.upd X.p2 (by intro xs z;cases z) (by simp)
 generalize upd H d2 (.dK (kvI (s.cs.filter fun p=>decide (p.1≠n))))=H2 at *
 walk_at "s1"
 refine k_fld X2.at_ C.o_Chest C.n_Chest_wishes lk_wishes ?_
 refine ⟨w,rfl,⟨_,SqL.of X2.w_⟩,?_⟩
 have hwl:s.ws.length=wt.length:=Paired.length X.wt
 refine comp_tupsVY (ys_list2 (K:=K) (a:=w) (ts:=wt) (u:=fun i=>.str (s.ws.getD i ("","")).1) (v:=fun i=>.str (s.ws.getD i ("","")).2) 0 1) (fun i=>[some (.str (s.ws.getD i ("","")).1),some (.str (s.ws.getD i ("","")).2),some (.str n)]) (by rintro j σ' (rfl | ⟨k,rfl⟩) <;> rfl) ?_ (Nat.le_trans (show _≤1000 by omega) line64)
  (fun i=>!decide ((s.ws.getD i ("","")).2=n)) (fun i=>[.str (s.ws.getD i ("","")).1,.str (s.ws.getD i ("","")).2]) ?_ ?_ ?_
 ·intro H' s'
  refine ⟨s'.seq (SqL.of X2.w_),fun i b hb=>?_⟩
  have hi:i < s.ws.length:=by rw [hwl];exact (List.getElem?_eq_some_iff.mp hb).1
  obtain ⟨b',z1,z2⟩:=pair_get X2.wt (List.getElem?_eq_getElem hi)
  rw [hb] at z1
  cases z1
  rw [List.getD_eq_getElem?_getD,List.getElem?_eq_getElem hi]
  exact s'.seqT (SqT.of z2)
 ·intro i hi H' G s' kk
  walk_at "s1"
  exact kk H' (Same.refl _)
 ·intro i hi hb H' G s' kk
  walk_at "s1"
  rename_i a H'' f s'' h
  exact kk a H'' f s'' h
 intro l bs H3 f3 s3 h3 pr
 have X3:=X2.same s3
 rw [← hwl] at pr
 have hp:Paired (TpS H3) (s.ws.filter fun p=>!decide (p.2=n)) bs:=by
  rw [← range_filt (fun p:Str×Str=>!decide (p.2=n)) ("","") s.ws]
  exact paired_mapR pr
 walk_at "s1"
 refine k_sto X3.at_ C.o_Chest C.n_Chest_wishes (show 6 < 1000 by decide) ?_
 rw [pf_wishes]
 have X4:=X3.setW h3 hp
 refine q _ [c,d1,d2,l] ⟨dx,d1,d2,l,bs,X4,rfl⟩ ((b1.trans (But.of s3)).trans (But.upd X3.at_ (by intro xs z;cases z) (by simp))) ?_
 intro a ha
 simp only [List.mem_cons,List.not_mem_nil,or_false] at ha
 rcases ha with rfl | rfl | rfl | rfl
 ·exact .inl (by simp)
 ·exact .inl (by simp)
 ·exact .inl (by simp)
 ·exact .inr (b1.2.2 _ f3)
theorem rk_Chest_close (C:Cls K):∀ vs H Q E,sp_Chest_close K vs H Q E→rd_Chest_close K {nx:=fun _ H'=>Q .non H',rt:=Q} (start ["self","grains","purses","wishes","steps","told","name","cost","rows"] vs) H:=by
 rintro vs H Q E ⟨_,c,fp,s,rfl,CH,G,qa,qb⟩
 obtain ⟨dx,d1,d2,w,wt,X,rfl⟩:=id CH
 have hkp:=kvI_len s.ps
 have hkc:=kvI_len s.cs
 have hv:=G.v20
 have hn:=G.n12
 obtain ⟨g0,gH⟩:=gr_huge ⟨hv,hn⟩
 unfold rd_Chest_close
 walk_at "q"
 walk_at "s1"
 refine k_fld X.at_ C.o_Chest C.n_Chest_purses lk_purses ?_
 refine ⟨d1,_,rfl,X.p1,?_⟩
 by_cases hp:s.ps=[]
 ·rw [show (!(kvI s.ps).isEmpty)=false by rw [hp];rfl]
  walk_at "s1"
  rename_i l H1 f1 s1 h1 t H2 f2 s2 h2
  exact qa (.inl hp) t l H2 (s1.free f2) f1 (fun e=>by rw [e,h1] at f2;cases f2) (s1.trans s2) h2 (s2 _ _ h1)
 have hpos:0 < s.ps.length:=List.length_pos_iff.mpr hp
 have e:(!(kvI s.ps).isEmpty)=true:=by
  cases hh:s.ps with
  | nil=>exact absurd hh hp
  | cons=>rfl
 rw [e]
 walk_at "s1"
 refine k_fld X.at_ C.o_Chest C.n_Chest_costs lk_costs ?_
 refine ⟨d2,_,rfl,X.p2,?_⟩
 by_cases hc:s.cs=[]
 ·rw [show (!(kvI s.cs).isEmpty)=false by rw [hc];rfl]
  walk_at "s1"
  rename_i l H1 f1 s1 h1 t H2 f2 s2 h2
  exact qa (.inr hc) t l H2 (s1.free f2) f1 (fun e=>by rw [e,h1] at f2;cases f2) (s1.trans s2) h2 (s2 _ _ h1)
 have e:(!(kvI s.cs).isEmpty)=true:=by
  cases hh:s.cs with
  | nil=>exact absurd hh hc
  | cons=>rfl
 rw [e]
 have qb:=qb hp hc
 have GT:=G.town hp
 walk_at "s1"
 walk_at "q"
 walk_at "s1"
 refine k_fld X.at_ C.o_Chest C.n_Chest_purses lk_purses ?_
 walk_at "s1"
 refine k_lenD X.p1 ?_
 rw [hkp]
 walk_at "s1"
 refine k_fld X.at_ C.o_Chest C.n_Chest_costs lk_costs ?_
 walk_at "s1"
 refine k_lenD X.p2 ?_
 rw [hkc]
 walk_at "s1"
 refine ⟨rfl,s.ps.length,s.cs.length,rfl,hpos,hv,hn,?_⟩
 rw [show ((tog s.ps.length ^ (s.cs.length + 1):Nat):Int)=(grC s:Int) from rfl]
 walk_at "s1"
 walk_at "q"
 with_reducible refine r_asg ?_
 refine open_vals (d:=d1) (kvs:=kvI s.ps) (fun k hk=>⟨_,rfl,k_fld X.at_ C.o_Chest C.n_Chest_purses lk_purses hk⟩) X.p1 fun o Hf F=>?_
 refine thaw_vals F X.p1 (ys_vals 0 (fun i=>.int (s.ps.getD i ("",0)).2) ?_) (fun i=>[some (.int (s.ps.getD i ("",0)).2),some (.int (grC s:Int))]) (by rintro j σ' (rfl | ⟨k,rfl⟩) <;> rfl) (fun H' h _=>h) (by rw [hkp];exact Nat.le_trans (show _≤1000 by omega) line64)
  (fun _=>true) (fun i=>.int ((s.ps.getD i ("",0)).2 * (grC s:Int))) (fun i hi H' G s k=>k H' (Same.refl _)) ?_ ?_
 ·intro i p hp'
  have hi:i < s.ps.length:=by rw [← hkp];exact (List.getElem?_eq_some_iff.mp hp').1
  rw [kvI_get (List.getElem?_eq_getElem hi)] at hp'
  cases hp'
  rw [List.getD_eq_getElem?_getD,List.getElem?_eq_getElem hi]
  rfl
 ·intro i hi hb H' F' sx kk
  rw [hkp] at hi
  have hpi:=G.p0 _ (getD_mem (xs:=s.ps) ("",0) hi)
  walk_at "s1"
  try refine r_mulL (by omega) (by omega) ?_
  exact kk H' (Same.refl _)
 intro la H1 f1 s1 h1
 rw [List.filter_eq_self.mpr (fun _ _=>rfl),hkp] at h1
 have e1:(List.range s.ps.length).map (fun i=>V.int ((s.ps.getD i ("",0)).2 * (grC s:Int)))=(pursC s).map V.int:=by
  unfold pursC
  rw [List.map_map]
  exact range_getD' (fun p:Str×Int=>V.int (p.2 * (grC s:Int))) ("",0) s.ps
 rw [e1] at h1
 have X1:=X.same s1
 walk_at "q"
 with_reducible refine r_asg ?_
 refine open_keys (d:=d1) (kvs:=kvI s.ps) (fun k hk=>⟨_,rfl,k_fld X1.at_ C.o_Chest C.n_Chest_purses lk_purses hk⟩) X1.p1 fun o Hf F=>?_
 refine thaw_objs F X1.p1 (ys_keys 0 (fun i=>.str (s.ps.getD i ("",0)).1) ?_) (fun i=>[some (.str (s.ps.getD i ("",0)).1),some (.ref c)]) (by rintro j σ' (rfl | ⟨k,rfl⟩) <;> rfl) (fun H' h _=>h) (by rw [hkp];exact Nat.le_trans (show _≤1000 by omega) line64)
  (fun _=>true) (fun i=>.lst ((intsOf (wantP s (s.ps.getD i ("",0)).1)).map V.int)) (fun i hi H' G s k=>k H' (Same.refl _)) ?_ ?_
 ·intro i p hp'
  have hi:i < s.ps.length:=by rw [← hkp];exact (List.getElem?_eq_some_iff.mp hp').1
  rw [kvI_get (List.getElem?_eq_getElem hi)] at hp'
  cases hp'
  rw [List.getD_eq_getElem?_getD,List.getElem?_eq_getElem hi]
  rfl
 ·intro i hi hb H' F' sx kk
  rw [hkp] at hi
  have hpi:=G.ap _ (getD_mem (xs:=s.ps) ("",0) hi)
  have n1:c≠d1:=ne_of_two X1.at_ X1.p1 (by simp)
  have n2:w≠d1:=ne_of_two X1.w_ X1.p1 (by simp)
  walk_at "s1"
  refine k_meth (sx c _ n1 X1.at_) (lk_no (by decide +kernel)) ?_
  walk_at "s1"
  refine ⟨rfl,c,dx,d1,d2,w,_,wt,s,rfl,sx c _ n1 X1.at_,sx d2 _ (Ne.symm X.ne) X1.p2,sx w _ n2 X1.w_,Paired.mapP X1.wt fun _ a z=>sx a _ (ne_of_two z X1.p1 (by simp)) z,hpi,G.ac,G.aw,by omega,fun l' H2 f2 s2 h2=>?_⟩
  exact kk l' H2 f2 s2 h2
 intro lb bs H2 f2 s2 h2 pr
 rw [List.filter_eq_self.mpr (fun _ _=>rfl),hkp] at pr
 have X2:=X1.same s2
 have hR:RowsAt K H2 lb (rowsC s):=by
  refine ⟨bs,SqL.of h2,?_⟩
  unfold rowsC
  rw [← range_getD' (fun p:Str×Int=>intsOf (wantP s p.1)) ("",0) s.ps]
  exact paired_mapR (Paired.mapP pr fun i a z=>SqL.of z.2.2)
 walk_at "q"
 walk_at "s1"
 refine k_fld X2.at_ C.o_Chest C.n_Chest_costs lk_costs ?_
 refine k_vals X2.p2 fun v H3 f3 s3 h3=>?_
 walk_at "s1"
 refine ⟨v,d2,_,rfl,h3,s3 _ _ X2.p2,fun lc f4=>?_⟩
 have e4:(kvI s.cs).map (·.2)=(costC s).map V.int:=by unfold kvI costC;rw [List.map_map,List.map_map];rfl
 rw [e4]
 have s4:Same H3 (upd H3 lc (.lst ((costC s).map V.int))):=Same.updN f4
 have h4:upd H3 lc (.lst ((costC s).map V.int)) lc=some (.lst ((costC s).map V.int)):=upd_same
 generalize upd H3 lc (.lst ((costC s).map V.int))=H4 at *
 have s24:=s3.trans s4
 walk_at "s1"
 refine ⟨rfl,la,lc,lb,pursC s,costC s,rowsC s,rfl,SqL.of ((s2.trans s24) _ _ h1),SqL.of h4,s24.rows hR,GT,fun ls H5 run f5 s5 n5 rx=>?_⟩
 have qb:=qb run
 have hst:=n5.at
 have hrw:=run_works rx.run
 have hsl:(stepsF (rowsC s) (pursC s) run).length=run.length:=stepsF_len _ _ _
 have hs1:(stepsF (rowsC s) (pursC s) run).map (·.1)=run.map (·.1):=stepsF_1 _ _ _
 have hcl:(costC s).length=s.cs.length:=by simp [costC]
 have hpl:(pursC s).length=s.ps.length:=by simp [pursC]
 have hrn:run.length≤s.cs.length:=by
  have:=nodup_len s.cs.length (run.map (·.1)) hrw.2 (fun x hx=>by
   obtain ⟨y,hy,rfl⟩:=List.mem_map.mp hx
   have:=(hrw.1 y hy).1
   rw [← hcl];exact this)
  simpa using this
 have hst1:∀ x∈stepsF (rowsC s) (pursC s) run,x.1 < s.cs.length∧x.2.2.length=s.ps.length:=fun x hx=>by
  refine ⟨?_,by rw [stepsF_paid _ _ _ x hx,hpl]⟩
  have hm:x.1∈run.map (·.1):=by rw [← hs1];exact List.mem_map.mpr ⟨x,hx,rfl⟩
  obtain ⟨y,hy,e⟩:=List.mem_map.mp hm
  have:=(hrw.1 y hy).1
  rw [← e,← hcl];exact this
 have hnd:((stepsF (rowsC s) (pursC s) run).map (·.1)).Nodup:=by rw [hs1];exact hrw.2
 generalize stepsF (rowsC s) (pursC s) run=sts at *
 have s25:=s24.trans s5
 have s15:=s2.trans s25
 have s05:=s1.trans s15
 have X5:=X2.same s25
 obtain ⟨ts,bs',B⟩:=hst.b
 walk_at "s1"
 walk_at "q"
 walk_at "s1"
 try refine r_iList' (B.ys (Same.refl _)).1 ?_
 refine comp_genY (ys_list3 (K:=K) (a:=ls) (ts:=ts) (u:=fun i=>.int ((sts.getD i stN).1:Nat)) (v:=fun i=>.int (sts.getD i stN).2.1) (w:=fun i=>.ref (bs'.getD i 0)) 0 1 2) (fun j=>[some (.int ((sts.getD j stN).1:Nat)),some (.int (sts.getD j stN).2.1),some (.ref (bs'.getD j 0)),some (.ref c)]) (by rintro j σ' (rfl | ⟨k,rfl⟩) <;> rfl) (fun H' s=>B.ys s) (by rw [B.tl];exact Nat.le_trans (show sts.length≤1000 by omega) line64)
  (fun _=>true) (fun l i v H'=>∃ t r us,v=V.ref t∧(t≠l∧r≠l∧H5 r=none)∧H' t=some (.tup [.str (toldS s (sts.getD i stN)).1,.int (toldS s (sts.getD i stN)).2.1,.ref r])∧H' r=some (.lst (List.map V.ref us))∧Paired (fun p b=>b≠l∧TpI H' p b) (toldS s (sts.getD i stN)).2.2 us)
  (fun l i v Ha Hb sx ⟨t,r,us,e,n,h1,h2,h3⟩=>⟨t,r,us,e,n,sx _ _ n.1 h1,sx _ _ n.2.1 h2,Paired.mapP h3 fun _ b z=>⟨z.1,sx _ _ z.1 z.2⟩⟩) (fun i hi H' G s k=>k H' (Same.refl _)) ?_ ?_
 ·intro l i hi _ H' F' h0 ⟨o,ho⟩ sx kk
  rw [B.tl] at hi
  have X6:=X5.same sx
  have hm:=hst1 _ (getD_mem stN hi)
  obtain ⟨t',b',a1,a2,_,a4⟩:=B.ats i sts[i] (by simp [hi])
  have g1:sts.getD i stN=sts[i]:=by simp [List.getD,hi]
  have g2:bs'.getD i 0=b':=by rw [List.getD,a2];rfl
  simp only [g1] at hm kk ⊢
  rw [g2]
  walk_at "s1"
  refine k_meth X6.at_ (lk_no (by decide +kernel)) ?_
  walk_at "s1"
  refine ⟨rfl,c,b',_,(sts[i]).2.1,(sts[i]).2.2,_,s,rfl,⟨dx,d1,d2,w,wt,X6,rfl⟩,hm.1,sx _ _ a4,hm.2,hv,hn,fun t r H7 ft fr ntr s7 h7 hr=>?_⟩
  obtain ⟨us,hr1,hr2⟩:=hr
  have nl:∀ {a:Addr},H' a=none→a≠l:=fun {a} ha e=>by rw [e,ho] at ha;cases ha
  exact kk _ H7 ⟨t,r,us,rfl,⟨nl ft,nl fr,sx.free fr⟩,h7,hr1,Paired.mapP hr2 fun _ b z=>⟨nl z.1,z.2⟩⟩ s7
 intro l ys H6 f6 s6 h6 pr6
 rw [List.filter_eq_self.mpr (fun _ _=>rfl),B.tl] at pr6
 obtain ⟨tt,e6,p6,q6⟩:=paired_told3 (P:=fun r=>r≠l∧H5 r=none) (f:=fun i=>toldS s (sts.getD i stN)) (Paired.mapP pr6 fun i v ⟨t,r,us,e,n,h1,h2,h3⟩=>⟨t,r,e,n.2,h1,us,h2,Paired.mapP h3 fun _ _ z=>z.2⟩)
 rw [range_getD' (toldS s) stN sts] at p6
 subst e6
 have T6:ToldL H6 l tt (sts.map (toldS s)):=⟨h6,p6⟩
 have s06:=s05.trans s6
 have X6:=X5.same s6
 have hl0:H l=none:=s05.free f6
 have hlfp:l∉[c,d1,d2,w]:=fun m=>(ChestAt.there ⟨dx,d1,d2,w,wt,X,rfl⟩:∀ a∈[c,d1,d2,w],H a≠none) l m hl0
 have hrfp:∀ t∈tt,∀ y z r,H6 t=some (.tup [y,z,.ref r])→r∉[c,d1,d2,w]:=fun t ht y z r e m=>(ChestAt.there ⟨dx,d1,d2,w,wt,X,rfl⟩:∀ a∈[c,d1,d2,w],H a≠none) r m (s05.free (q6 t ht y z r e).2)
 walk_at "s1"
 walk_at "q"
 walk_at "s1"
 refine k_meth X6.at_ (lk_no (by decide +kernel)) ?_
 walk_at "s1"
 refine ⟨rfl,la,ls,pursC s,sts,rfl,SqL.of ((s15.trans s6) _ _ h1),stepsAt_same s6 hst,by omega,by omega,fun x hx=>by rw [(hst1 x hx).2,hpl],fun ll H7 f7 s7 h7=>?_⟩
 have X7:=X6.same s7
 have s67:=s7
 walk_at "s1"
 have hlo:(leftOf (pursC s) sts).length=s.ps.length:=by simp [leftOf,hpl]
 refine ⟨rfl,c,ll,(grC s:Int),leftOf (pursC s) sts,_,s,rfl,⟨dx,d1,d2,w,wt,X7,rfl⟩,h7,g0,gH,hlo,hv,fun H8 fp8 x8 b8 n8=>?_⟩
 rw [← closeP_nil] at x8
 walk_at "s1"
 have b68:But [c,d1,d2,w] H6 H8:=(But.of s7).trans b8
 have n68:New [c,d1,d2,w] fp8 H6:=fun a ha=>by
  rcases n8 a ha with z | z
  ·exact .inl z
  ·exact .inr (s7.free z)
 obtain ⟨rs,hys⟩:=T6.ys (K:=K)
 generalize hLf:leftOf (pursC s) sts=left at *
 have htl:tt.length=sts.length:=by rw [← Paired.length p6,List.length_map]
 walk_at "q"
 walk_at "s1"
 try refine r_iList' (hys _ _ b68 hlfp).1 ?_
 refine for_ys (ys_list3 (K:=K) (a:=l) (ts:=tt) (u:=fun i=>.str ((sts.map (toldS s)).getD i tRN).1) (v:=fun i=>.int ((sts.map (toldS s)).getD i tRN).2.1) (w:=fun i=>.ref (rs.getD i 0)) 6 7 8)
  (fun i σ H'=>(∃ fpi,ChestAt K H' c fpi (closeP s left (grC s) ((sts.map (toldS s)).take i))∧New [c,d1,d2,w] fpi H6)∧But [c,d1,d2,w] H6 H'∧∃ v6 v7 v8,σ=[some (.ref c),some (.int (grC s:Int)),some (.ref la),some (.ref lb),some (.ref ls),some (.ref l),v6,v7,v8])
  ⟨⟨fp8,x8,n68⟩,b68,_,_,_,rfl⟩ (fun i σ H' p=>hys _ _ p.2.1 hlfp) ?_ ?_
 ·rintro i σ Ha Hb hi ⟨⟨fpi,xa,na⟩,ba,v6,v7,v8,rfl⟩ sb
  rw [htl] at hi
  have bb:But [c,d1,d2,w] H6 Hb:=ba.trans (But.of sb)
  have xb:=xa.same sb
  have hil:i < (sts.map (toldS s)).length:=by rw [List.length_map];exact hi
  have gi:(sts.map (toldS s)).getD i tRN=toldS s (sts.getD i stN):=by simp [List.getD,hi]
  rw [gi]
  obtain ⟨dx',a1,a2,a3,at',XX,efp⟩:=id xb
  show tSeq _ _ _ _ _
  walk_at "q"
  walk_at "s1"
  refine k_aug XX.at_ C.o_Chest C.n_Chest_outlay lk_outlay ?_
  walk_at "s1"
  refine ⟨_,_,rfl,rfl,dx',_,XX.at_,(show 6 < 1000 by decide),?_⟩
  rw [pf_outlay]
  have XY:=XX.setF (a:=(closeP s left (grC s) ((sts.map (toldS s)).take i)).pot) (b:=(closeP s left (grC s) ((sts.map (toldS s)).take i)).giv) (e:=(closeP s left (grC s) ((sts.map (toldS s)).take i)).spt + (toldS s (sts.getD i stN)).2.1)
  have by':But fpi Hb (upd Hb c (.ins (clsA K "Chest") dx' (chF a1 a2 a3 (closeP s left (grC s) ((sts.map (toldS s)).take i)).pot (closeP s left (grC s) ((sts.map (toldS s)).take i)).giv ((closeP s left (grC s) ((sts.map (toldS s)).take i)).spt + (toldS s (sts.getD i stN)).2.1)))):=But.upd XX.at_ (by intro xs z;cases z) (by rw [efp];simp)
  generalize upd Hb c (.ins (clsA K "Chest") dx' (chF a1 a2 a3 (closeP s left (grC s) ((sts.map (toldS s)).take i)).pot (closeP s left (grC s) ((sts.map (toldS s)).take i)).giv ((closeP s left (grC s) ((sts.map (toldS s)).take i)).spt + (toldS s (sts.getD i stN)).2.1)))=Hc at *
  have hm:=hst1 _ (getD_mem stN hi)
  have hgd:s.cs.getD (sts.getD i stN).1 ("",0)∈s.cs:=getD_mem _ hm.1
  walk_at "s1"
  refine k_meth XY.at_ (lk_no (by decide +kernel)) ?_
  walk_at "s1"
  refine ⟨rfl,c,(toldS s (sts.getD i stN)).1,(toldS s (sts.getD i stN)).2.1,fpi,_,rfl,⟨dx',a1,a2,a3,at',XY,efp⟩,?_,?_,fun Hd fpd xd bd nd'=>?_⟩
  ·show _∈s.cs.filter _
   refine List.mem_filter.mpr ⟨hgd,?_⟩
   rw [decide_eq_true_eq]
   intro m
   rw [← List.map_take,List.map_map] at m
   obtain ⟨x,hx,ex⟩:=List.mem_map.mp m
   obtain ⟨j,hj,ej⟩:=List.getElem_of_mem hx
   have hj':j < i∧j < sts.length:=by rw [List.length_take] at hj;omega
   rw [List.getElem_take] at ej
   have hmj:=hst1 x (List.mem_of_mem_take hx)
   have ex:(s.cs.getD x.1 ("",0)).1=(s.cs.getD (sts.getD i stN).1 ("",0)).1:=ex
   have e1:=nodup_at X.nd2 hmj.1 hm.1 ex
   have g1:sts.getD i stN=sts[i]:=by simp [List.getD,hi]
   have:=List.pairwise_iff_getElem.mp hnd j i (by simp;omega) (by simp;omega) hj'.1
   simp only [List.getElem_map] at this
   rw [ej,← g1] at this
   exact this e1
  ·exact Nat.le_trans (List.length_filter_le _ _) (by have:=G.wl;omega)
  have et:(sts.map (toldS s)).take (i + 1)=(sts.map (toldS s)).take i ++ [toldS s (sts.getD i stN)]:=by
   rw [List.take_add_one,← gi,List.getD_eq_getElem?_getD,List.getElem?_eq_getElem hil]
   rfl
  walk_at "s1"
  have bad:But [c,d1,d2,w] H6 Hd:=by
   refine ⟨fun a o n h=>?_,fun a xs h=>bd.2.1 _ _ (by'.2.1 _ _ (bb.2.1 _ _ h)),fun a h=>bb.2.2 _ (by'.2.2 _ (bd.2.2 _ h))⟩
   have n2:a∉fpi:=fun m=>by
    rcases na a m with z | z
    ·exact n z
    ·rw [h] at z;cases z
   exact bd.1 _ _ n2 (by'.1 _ _ n2 (bb.1 _ _ n h))
  refine ⟨⟨fpd,?_,fun a ha=>?_⟩,bad,_,_,_,rfl⟩
  ·rw [et,closeP_snoc]
   exact xd
  ·rcases nd' a ha with z | z
   ·exact na a z
   ·exact .inr (bb.2.2 _ (by'.2.2 _ z))
 ·rintro σ Ha ⟨⟨fpi,xa,na⟩,ba,v6,v7,v8,rfl⟩
  rw [htl,List.take_of_length_le (by simp)] at xa
  have tot:∀ a∈fpi,a∈[c,d1,d2,w]∨H6 a=none:=na
  have n1:∀ {a:Addr}{o:HO},H a=none→H6 a=some o→a∉fpi:=fun {a o} h0 h1 m=>by
   rcases na a m with z | z
   ·exact (ChestAt.there ⟨dx,d1,d2,w,wt,X,rfl⟩:∀ a∈[c,d1,d2,w],H a≠none) a z h0
   ·rw [h1] at z;cases z
  walk_at "s1"
  rename_i t H9 f9 s9 h9
  have T9:=T6.but (ba.trans (But.of s9)) hlfp hrfp
  refine qb t l tt H9 fpi rx (((But.of s06).trans ba).trans (But.of s9)) (fun a ha=>?_) (xa.same s9) (s06.free (ba.2.2 _ f9)) hl0 (n1 hl0 h6) h9 T9 fun t' ht y z r e=>?_
  ·rcases na a ha with z | z
   ·exact .inl z
   ·exact .inr (s06.free z)
  ·have e6:=T6.tup (ba.trans (But.of s9)) t' ht y z r e
   obtain ⟨q1,q2⟩:=q6 t' ht y z r e6
   refine ⟨q1,s05.free q2,?_⟩
   obtain ⟨o,ho⟩:∃ o,H6 r=some o:=by
    have:∀ {rows:List TRow}{ts:List Addr},Paired (TpT H6) rows ts→t'∈ts→∃ o,H6 r=some o:=by
     intro rows ts hh hm
     induction hh with
     | nil=>cases hm
     | cons q _ ih=>
      rcases List.mem_cons.mp hm with rfl | hm
      ·obtain ⟨r',g1,us,g2,_⟩:=q
       rw [g1] at e6
       injection e6 with e6
       injection e6 with e6
       simp at e6
       rw [← e6.2.2]
       exact ⟨_,g2⟩
      ·exact ih hm
    exact this p6 ht
   exact n1 (s05.free q2) ho
theorem rk_Chest_spent (C:Cls K):∀ vs H Q E,sp_Chest_spent K vs H Q E→rd_Chest_spent K {nx:=fun _ H'=>Q .non H',rt:=Q} (start ["self"] vs) H:=by
 rintro vs H Q E ⟨_,c,fp,s,rfl,⟨dx,d1,d2,w,wt,x,rfl⟩,q⟩
 unfold rd_Chest_spent
 walk_at "s1"
 exact k_fld x.at_ C.o_Chest C.n_Chest_outlay lk_outlay q
theorem rk__law_behind:∀ vs H Q E,sp__law_behind K vs H Q E→rd__law_behind K {nx:=fun _ H'=>Q .non H',rt:=Q} (start ["chest","people","works","steps","grains","pot","rest","k","one","left","done","spent"] vs) H:=by
 rintro vs H Q E ⟨_,c,lp,lw,ls,g,fp,s,ts,sts,rfl,X0,G,hspt,g0,gH,nd2,hp,hw,hs,h12,hst,hdv,q⟩
 obtain ⟨tp,p1,p2,p3⟩:=hp.at
 obtain ⟨w2,w3⟩:=hw.at
 have w1:=hw.1
 obtain ⟨tt,bs,B⟩:=hs.b
 have hv:=G.v20
 have hn:=G.n12
 have hpm:(tp.map V.ref).length=s.ps.length:=by simp [p2]
 have hwl:ts.length=s.cs.length:=by rw [w2,List.length_map]
 have hwm:(ts.map V.ref).length=s.cs.length:=by simp [hwl]
 have hpl:(s.ps.map fun p=>p.2 * g).length=s.ps.length:=by simp
 have hlo:(leftOf (s.ps.map fun p=>p.2 * g) sts).length=s.ps.length:=by rw [leftOf_len,hpl]
 have hlg:∀ i,i < s.ps.length→(leftOf (s.ps.map fun p=>p.2 * g) sts).getD i 0=(s.ps.getD i ("",0)).2 * g - (sts.map fun x=>x.2.2.getD i 0).sum:=fun i hi=>by
  rw [leftOf_get (by rw [hpl];exact hi),map_getD (fun p:Str×Int=>p.2 * g) ("",0) 0 hi]
 have hlw:=left_works (left:=leftOf (s.ps.map fun p=>p.2 * g) sts) (g:=g) nd2 hlo (fun x hx=>(hst x hx).1)
 generalize hleft:leftOf (s.ps.map fun p=>p.2 * g) sts=left at *
 have hps:(closeP s left g (sts.map (toldS s))).ps=(s.ps.map (·.1)).zip (left.map (· / g)):=rfl
 have hpget:∀ i,i < s.ps.length→((s.ps.map (·.1)).zip (left.map (· / g))).getD i ("",0)=((s.ps.getD i ("",0)).1,left.getD i 0 / g):=fun i hi=>by
  rw [zip_get (by simpa using hi) (by rw [List.length_map];omega),map_getD (fun p:Str×Int=>p.1) ("",0) "" hi,map_getD (fun x:Int=>x / g) 0 0 (by omega)]
 have hzl:((s.ps.map (·.1)).zip (left.map (· / g))).length=s.ps.length:=by simp;omega
 unfold rd__law_behind
 walk_at "q"
 walk_at "s1"
 with_reducible refine r_cut (fun σ H'=>Same H H'∧∃ v7 v8 v9,σ=[some (.ref c),some (.ref lp),some (.ref lw),some (.ref ls),some (.int g),some (.int s.pot),some (.int (left.map (· % g)).sum),v7,v8,v9,none,none]) (fun F hF=>?_) ?_
 ·have qlp0:SqL K H lp (tp.map V.ref):=SqL.of p1
  walk_at "s1"
  refine for_ys (ys_enum (K:=K) (a:=lp) (xs:=tp.map V.ref) 7 8) (fun i σ H'=>Same H H'∧∃ v7 v8 v9,σ=[some (.ref c),some (.ref lp),some (.ref lw),some (.ref ls),some (.int g),some (.int s.pot),some (.int ((left.take i).map (· % g)).sum),v7,v8,v9,none,none])
   ⟨Same.refl _,_,_,_,rfl⟩ (fun i σ H' p=>SqL.of (p.1 _ _ p1)) ?_ ?_
  ·rintro i σ Ha Hb hi ⟨sa,v7,v8,v9,rfl⟩ sb
   rw [hpm] at hi
   have sab:=sa.trans sb
   obtain ⟨t,e1,e2⟩:=p3 i hi
   have e2:=sab _ _ e2
   have et:(tp.map V.ref).getD i .non=.ref t:=by simp [List.getD,e1]
   rw [et]
   have hp0:=G.p0 _ (getD_mem (xs:=s.ps) ("",0) hi)
   show tSeq _ _ _ _ _
   walk_at "q"
   walk_at "s1"
   refine r_ixT (SqT.of e2) (atI_nat (j:=1) rfl) ?_
   walk_at "s1"
   try refine r_mulL (by omega) (by omega) ?_
   walk_at "s1"
   try refine r_iList' (B.ys sab).1 ?_
   refine comp_mapY (ys_list3 (K:=K) (a:=ls) (ts:=tt) (u:=fun i=>.int ((sts.getD i stN).1:Nat)) (v:=fun i=>.int (sts.getD i stN).2.1) (w:=fun i=>.ref (bs.getD i 0)) 0 1 2) (fun j=>[some (.int ((sts.getD j stN).1:Nat)),some (.int (sts.getD j stN).2.1),some (.ref (bs.getD j 0)),some (.int (i:Int))]) (by rintro j σ' (rfl | ⟨k,rfl⟩) <;> rfl) (fun H' s'=>B.ys (sab.trans s')) (by rw [B.tl];exact Nat.le_trans (show _≤1000 by omega) line64)
    (fun j=>.int ((sts.getD j stN).2.2.getD i 0)) ?_ ?_
   ·intro j hj H' G' s' kk
    rw [B.tl] at hj
    obtain ⟨t',b',a1,a2,_,a4⟩:=B.ats j sts[j] (by simp [hj])
    have g1:sts.getD j stN=sts[j]:=by simp [List.getD,hj]
    have g2:bs.getD j 0=b':=by rw [List.getD,a2];rfl
    have hjl:=(hst _ (List.getElem_mem hj)).2
    rw [g2]
    simp only [g1] at kk ⊢
    walk_at "s1"
    refine r_ix (SqL.of (s' _ _ (sab _ _ a4))) (v:=.int ((sts[j]).2.2.getD i 0)) (atI_nat (j:=i) (by simp [List.getD,show i < (sts[j]).2.2.length by omega])) ?_
    exact kk H' (Same.refl _)
   intro l5 Hc fc sc hc
   rw [B.tl,show (List.range sts.length).map (fun j=>V.int ((sts.getD j stN).2.2.getD i 0))=(sts.map fun x=>x.2.2.getD i 0).map V.int by rw [List.map_map];exact range_getD' (fun x:Nat×Int×List Int=>V.int (x.2.2.getD i 0)) stN sts] at hc
   have qc:SqL K Hc l5 ((sts.map fun x=>x.2.2.getD i 0).map V.int):=SqL.of hc
   walk_at "s1"
   rw [← hlg i hi]
   have sac:=sab.trans sc
   walk_at "q"
   walk_at "s1"
   have xc:=X0.same sac
   obtain ⟨dx',d1',d2',w',wt',XC,efp'⟩:=id xc
   refine k_meth XC.at_ (lk_no (by decide +kernel)) ?_
   walk_at "s1"
   refine ⟨rfl,c,fp,_,rfl,xc,fun l6 Hd fd sd rd=>?_⟩
   rw [hps] at rd
   obtain ⟨tq,q1,q2,q3⟩:=rd.at
   obtain ⟨t6,e6,e7⟩:=q3 i (by rw [hzl];exact hi)
   rw [hpget i hi] at e7
   walk_at "s1"
   refine r_ix (SqL.of q1) (v:=.ref t6) (atI_nat (j:=i) (by rw [List.getElem?_map,e6];rfl)) ?_
   walk_at "s1"
   refine r_ixT (SqT.of (sd _ _ (sc _ _ e2))) (atI_nat (j:=0) rfl) ?_
   walk_at "s1"
   refine r_divH g0 gH ?_
   walk_at "s1"
   rename_i t8 He fe se he
   have hnm:=G.ap _ (getD_mem (xs:=s.ps) ("",0) hi)
   refine L2.r_neS (n:=2) (d:=dRowI ((s.ps.getD i ("",0)).1,left.getD i 0 / g)) (.tup (SqT.of (se _ _ e7)) (.cons (.str _) (.cons (.int _) .nil))) (.tup (SqT.of he) (.cons (.str _) (.cons (.int _) .nil))) (nd_tuple fun e he=>?_) (by decide) ?_
   ·rcases List.mem_cons.mp he with rfl | he
    ·exact nd_str hnm
    ·rcases List.mem_cons.mp he with rfl | he
     ·exact nd_int _
     ·cases he
   walk_at "s1"
   refine ⟨((sac.trans sd).trans se),some (.int (i:Int)),some (.ref t),some (.int (left.getD i 0)),?_⟩
   have et2:((left.take (i + 1)).map (· % g)).sum=((left.take i).map (· % g)).sum + left.getD i 0 % g:=by
    rw [List.take_add_one,List.getElem?_eq_getElem (show i < left.length by omega),List.map_append,List.sum_append]
    simp [List.getD,show i < left.length by omega]
   rw [et2]
   rfl
  ·rintro σ Ha ⟨sa,v7,v8,v9,rfl⟩
   rw [hpm,List.take_of_length_le (by omega)]
   exact hF _ _ ⟨sa,v7,v8,v9,rfl⟩
 rintro σ Ha ⟨sa,v7,v8,v9,rfl⟩
 walk_at "q"
 walk_at "s1"
 try refine r_iList' (B.ys sa).1 ?_
 refine comp_mapY (ys_list3 (K:=K) (a:=ls) (ts:=tt) (u:=fun i=>.int ((sts.getD i stN).1:Nat)) (v:=fun i=>.int (sts.getD i stN).2.1) (w:=fun i=>.ref (bs.getD i 0)) 0 1 2) (fun j=>[some (.int ((sts.getD j stN).1:Nat)),some (.int (sts.getD j stN).2.1),some (.ref (bs.getD j 0))]) (by rintro j σ' (rfl | ⟨k,rfl⟩) <;> rfl) (fun H' s'=>B.ys (sa.trans s')) (by rw [B.tl];exact Nat.le_trans (show _≤1000 by omega) line64)
  (fun j=>.int ((sts.getD j stN).1:Nat)) ?_ ?_
 ·intro j hj H' G' s' kk
  walk_at "s1"
  exact kk H' (Same.refl _)
 intro ld Hb fb sb hb
 rw [B.tl,show (List.range sts.length).map (fun j=>V.int ((sts.getD j stN).1:Nat))=(intsOf (sts.map (·.1))).map V.int by unfold intsOf;rw [List.map_map,List.map_map];exact range_getD' (fun x:Nat×Int×List Int=>V.int (x.1:Nat)) stN sts] at hb
 have sab:=sa.trans sb
 have hdm:((intsOf (sts.map (·.1))).map V.int).length=sts.length:=by simp [intsOf]
 walk_at "s1"
 walk_at "q"
 walk_at "s1"
 try refine r_iList' (SqL.of hb) ?_
 refine comp_mapY (ys_list (K:=K) (xs:=(intsOf (sts.map (·.1))).map V.int) 0) (fun j=>[some (((intsOf (sts.map (·.1))).map V.int).getD j .non),some (.ref lw)]) (by rintro j σ' (rfl | ⟨k,rfl⟩) <;> rfl) (fun H' s'=>s'.seq (SqL.of hb)) (by rw [hdm];exact Nat.le_trans (show _≤1000 by omega) line64)
  (fun j=>.int (toldS s (sts.getD j stN)).2.1) ?_ ?_
 ·intro j hj H' G' s' kk
  rw [hdm] at hj
  have ej:((intsOf (sts.map (·.1))).map V.int).getD j .non=.int ((sts.getD j stN).1:Nat):=by simp [intsOf,List.getD,hj]
  have hm:=hst _ (getD_mem stN hj)
  obtain ⟨t0,w0,e1,e2,e3⟩:=w3 (sts.getD j stN).1 (by rw [List.length_map];exact hm.1)
  rw [map_getD (toldC s) ("",0) wN hm.1] at e2
  rw [ej]
  walk_at "s1"
  refine r_ix (SqL.of (s' _ _ (sab _ _ w1))) (v:=.ref t0) (atI_nat (j:=(sts.getD j stN).1) (by rw [List.getElem?_map,e1];rfl)) ?_
  walk_at "s1"
  refine r_ixT (SqT.of (s' _ _ (sab _ _ e2))) (atI_nat (j:=1) rfl) ?_
  exact kk H' (Same.refl _)
 intro le Hc fc sc hc
 rw [hdm,show (List.range sts.length).map (fun j=>V.int (toldS s (sts.getD j stN)).2.1)=((sts.map (toldS s)).map (·.2.1)).map V.int by rw [List.map_map,List.map_map];exact range_getD' (fun x:Nat×Int×List Int=>V.int (toldS s x).2.1) stN sts] at hc
 have sac:=sab.trans sc
 have qc:SqL K Hc le (((sts.map (toldS s)).map (·.2.1)).map V.int):=SqL.of hc
 walk_at "s1"
 walk_at "q"
 walk_at "s1"
 have xc:=X0.same sac
 obtain ⟨dx',d1',d2',w',wt',XC,efp'⟩:=id xc
 refine k_meth XC.at_ (lk_no (by decide +kernel)) ?_
 walk_at "s1"
 have hpsn:(closeP s left g (sts.map (toldS s))).ps.map (·.1)=s.ps.map (·.1):=by
  rw [hps,List.map_fst_zip (by simp;omega)]
 have aP:∀ p∈(closeP s left g (sts.map (toldS s))).ps,Ascii p.1:=fun p hp'=>by
  have:p.1∈s.ps.map (·.1):=by rw [← hpsn];exact List.mem_map.mpr ⟨p,hp',rfl⟩
  obtain ⟨r,hr,e⟩:=List.mem_map.mp this
  rw [← e];exact G.ap r hr
 refine ⟨rfl,c,fp,_,rfl,xc,aP,fun p hp'=>G.ac p (List.mem_filter.mp hp').1,fun p hp'=>G.aw p (List.mem_filter.mp hp').1,by rw [hps,hzl];omega,Nat.le_trans (List.length_filter_le _ _) (by omega),fun l6 us6 Hd fd sd wd _=>?_⟩
 rw [hlw] at wd
 have sad:=sac.trans sd
 have qlw:SqL K Hd lw (ts.map V.ref):=SqL.of (sad _ _ w1)
 walk_at "s1"
 rw [hwm]
 try refine r_rng1' (by omega) (by omega) ?_
 rw [show ((s.cs.length:Int)).toNat=s.cs.length by omega]
 have hdd:=sd _ _ (sc _ _ hb)
 refine comp_filtY (ys_range (lo:=0) (n:=s.cs.length) 0) (fun j=>[some (.int (0 + (j:Int))),some (.ref ld),some (.ref lw)]) (by rintro j σ' (rfl | ⟨k,rfl⟩) <;> rfl) (fun _ _=>trivial) (Nat.le_trans (show _≤1000 by omega) line64) (fun j=>!decide (j∈sts.map (·.1))) (fun j=>.ref (ts.getD j 0)) ?_ ?_ ?_
 ·intro j hj H' G' s' kk
  have qd:SqL K H' ld ((intsOf (sts.map (·.1))).map V.int):=SqL.of (s' _ _ hdd)
  walk_at "s1"
  have e:decide (0 + (j:Int)∈intsOf (sts.map (·.1)))=decide (j∈sts.map (·.1)):=by
   refine decide_eq_decide.mpr ?_
   rw [mem_intsOf]
   exact ⟨fun ⟨k,hk,e⟩=>by rw [show j=k by omega];exact hk,fun h=>⟨j,h,by omega⟩⟩
  rw [e]
  exact kk H' (Same.refl _)
 ·intro j hj hb' H' G' s' kk
  walk_at "s1"
  refine r_ix (s'.seq qlw) (v:=.ref (ts.getD j 0)) (by rw [show (0 + (j:Int))=(j:Int) by omega];exact atI_nat (j:=j) (by simp [List.getD,show j < ts.length by omega])) ?_
  exact kk H' (Same.refl _)
 intro l7 He fe se he
 have sae:=sad.trans se
 have we:WorksL He l7 (((List.range s.cs.length).filter fun k=>!decide (k∈sts.map (·.1))).map fun k=>ts.getD k 0) (((List.range s.cs.length).filter fun k=>!decide (k∈sts.map (·.1))).map fun k=>toldC s (s.cs.getD k ("",0))):=by
  refine ⟨by rw [he,List.map_map];rfl,paired_of_get (by simp) fun k x t hx ht=>?_⟩
  rw [List.getElem?_map] at hx ht
  cases hk:((List.range s.cs.length).filter fun k=>!decide (k∈sts.map (·.1)))[k]? with
  | none=>rw [hk] at hx;cases hx
  | some k'=>
   rw [hk] at hx ht
   cases hx
   cases ht
   have hk':=List.mem_range.mp (List.mem_filter.mp (List.mem_of_getElem? hk)).1
   obtain ⟨t0,w0,e1,e2,e3⟩:=w3 k' (by rw [List.length_map];exact hk')
   rw [map_getD (toldC s) ("",0) wN hk'] at e2 e3
   show TpW He (toldC s (s.cs.getD k' ("",0))) (ts.getD k' 0)
   rw [show ts.getD k' 0=t0 by rw [List.getD,e1];rfl]
   exact ⟨w0,sae _ _ e2,sae _ _ e3⟩
 walk_at "s1"
 refine L2.r_neS (wd.same se).dat we.dat (nd_works fun r hr=>?_) (by decide) ?_
 ·obtain ⟨k,hk,rfl⟩:=List.mem_map.mp hr
  have hk:=List.mem_range.mp (List.mem_filter.mp hk).1
  refine ⟨G.ac _ (getD_mem _ hk),fun z hz=>?_⟩
  obtain ⟨p,hp',e⟩:=List.mem_map.mp (List.mem_filter.mp hz).1
  rw [← e];exact G.ap p hp'
 have xe:=X0.same sae
 obtain ⟨dx2,d12,d22,w22,wt2,XE,efp2⟩:=id xe
 walk_at "s1"
 refine iteP (Int.emod_eq_zero_of_dvd hdv) ?_
 walk_at "s1"
 refine k_meth XE.at_ (lk_no (by decide +kernel)) ?_
 walk_at "s1"
 refine ⟨rfl,c,fp,_,rfl,xe,?_⟩
 walk_at "s1"
 refine r_divH g0 gH ?_
 walk_at "s1"
 refine iteP (show s.pot + (left.map (· % g)).sum / g=_ from rfl) ?_
 walk_at "s1"
 refine k_meth XE.at_ (lk_no (by decide +kernel)) ?_
 walk_at "s1"
 refine ⟨rfl,c,fp,_,rfl,xe,?_⟩
 walk_at "s1"
 rw [show (closeP s left g (sts.map (toldS s))).spt=((sts.map (toldS s)).map (·.2.1)).sum by show s.spt + _=_;rw [hspt,Int.zero_add]]
 rw [decide_eq_true rfl]
 exact q He sae
theorem rk__law_nth:∀ vs H Q E,sp__law_nth K vs H Q E→rd__law_nth K {nx:=fun _ H'=>Q .non H',rt:=Q} (start ["script","k","cell"] vs) H:=by
 rintro vs H Q E ⟨_,a,ns,k,rfl,hS,q⟩
 unfold rd__law_nth
 walk_at "q"
 walk_at "s1"
 rename_i p H1 f1 s1 h1
 obtain ⟨ms,e,_,_⟩:=cut_ints ns (some (k:Int)) (some ((k:Int) + 1))
 rw [e] at h1
 refine for_ys (ys_list (K:=K) (xs:=ms.map V.int) 2) (fun i σ H'=>Same H1 H'∧∃ v,σ=[some (.ref a),some (.int k),v]) ⟨Same.refl _,_,rfl⟩ (fun i σ H' h=>h.1.seq (SqL.of h1)) ?_ ?_
 ·rintro i σ Ha Hb hi ⟨sa,v,rfl⟩ sb
  rw [List.length_map] at hi
  have et:(ms.map V.int).getD i .non=.int (ms.getD i 0):=by simp [List.getD,hi]
  rw [et]
  show tRet _ _ _ _
  walk_at "s1"
  exact q _ Hb ((s1.trans sa).trans sb)
 ·rintro σ Ha ⟨sa,v,rfl⟩
  walk_at "s1"
  exact q 0 Ha (s1.trans sa)
theorem rk__law_rows:∀ vs H Q E,sp__law_rows K vs H Q E→rd__law_rows K {nx:=fun _ H'=>Q .non H',rt:=Q} (start ["people","works","steps","told","work","level","paid","rows"] vs) H:=by
 rintro vs H Q E ⟨_,lp,lw,ls,s,ts,sts,rfl,hp,hw,hs,hv,hn,h12,hst,q⟩
 obtain ⟨tp,p1,p2,p3⟩:=hp.at
 obtain ⟨w2,w3⟩:=hw.at
 have w1:=hw.1
 obtain ⟨tt,bs,B⟩:=hs.b
 have hpm:(tp.map V.ref).length=s.ps.length:=by simp [p2]
 unfold rd__law_rows
 walk_at "q"
 walk_at "s1"
 rename_i lt H1 f1 s1 h1
 walk_at "q"
 walk_at "s1"
 try refine r_iList' (B.ys s1).1 ?_
 refine for_ys (ys_list3 (K:=K) (a:=ls) (ts:=tt) (u:=fun i=>.int ((sts.getD i stN).1:Nat)) (v:=fun i=>.int (sts.getD i stN).2.1) (w:=fun i=>.ref (bs.getD i 0)) 4 5 6)
  (fun i σ H'=>Same H H'∧∃ us v4 v5 v6 v7,ToldM H' lt us ((sts.take i).map (toldS s))∧σ=[some (.ref lp),some (.ref lw),some (.ref ls),some (.ref lt),v4,v5,v6,v7])
  ⟨s1,[],_,_,_,_,⟨⟨h1,.nil⟩,(by intro t ht;cases ht)⟩,rfl⟩ (fun i σ H' p=>B.ys p.1) ?_ ?_
 ·rintro i σ Ha Hb hi ⟨sa,us,v4,v5,v6,v7,T,rfl⟩ sb
  rw [B.tl] at hi
  have hm:=hst _ (getD_mem stN hi)
  obtain ⟨t',b',a1,a2,_,a4⟩:=B.ats i sts[i] (by simp [hi])
  have g1:sts.getD i stN=sts[i]:=by simp [List.getD,hi]
  have g2:bs.getD i 0=b':=by rw [List.getD,a2];rfl
  rw [g2]
  have sab:=sa.trans sb
  have hb':=sab _ _ a4
  rw [← g1] at hb'
  generalize sts.getD i stN=x at *
  show tSeq _ _ _ _ _
  walk_at "q"
  have qlp:SqL K Hb lp (tp.map V.ref):=SqL.of (sab _ _ p1)
  have qb:SqL K Hb b' (x.2.2.map V.int):=SqL.of hb'
  walk_at "s1"
  rw [hpm]
  try refine r_rng1' (by omega) (by omega) ?_
  rw [show ((s.ps.length:Int)).toNat=s.ps.length by omega]
  refine comp_tupsVY (ys_range (lo:=0) (n:=s.ps.length) 0) (fun j=>[some (.int (0 + (j:Int))),some (.ref b'),some (.ref lp)]) (by rintro j σ' (rfl | ⟨k,rfl⟩) <;> rfl) (fun _ _=>trivial) (Nat.le_trans (show _≤1000 by omega) line64)
   (fun j=>decide (0 < x.2.2.getD j 0)) (fun j=>[.str (s.ps.getD j ("",0)).1,.int (x.2.2.getD j 0)]) ?_ ?_ ?_
  ·intro j hj H' G s' kk
   walk_at "s1"
   refine r_ix (s'.seq qb) (v:=.int (x.2.2.getD j 0)) (by rw [show (0 + (j:Int))=(j:Int) by omega];exact atI_nat (j:=j) (by simp [List.getD,show j < x.2.2.length by omega])) ?_
   walk_at "s1"
   exact kk H' (Same.refl _)
  ·intro j hj hb2 H' G s' kk
   obtain ⟨t,e1,e2⟩:=p3 j hj
   walk_at "s1"
   refine r_ix (s'.seq qlp) (v:=.ref t) (by rw [show (0 + (j:Int))=(j:Int) by omega];exact atI_nat (j:=j) (by rw [List.getElem?_map,e1];rfl)) ?_
   walk_at "s1"
   refine r_ixT (SqT.of (s' _ _ (sab _ _ e2))) (atI_nat (j:=0) rfl) ?_
   walk_at "s1"
   refine r_ix (s'.seq qb) (v:=.int (x.2.2.getD j 0)) (by rw [show (0 + (j:Int))=(j:Int) by omega];exact atI_nat (j:=j) (by simp [List.getD,show j < x.2.2.length by omega])) ?_
   walk_at "s1"
   rename_i t3 H3 f3 s3 h3
   exact kk t3 H3 f3 s3 h3
  intro r us' Hc fc sc hc pr
  have hrows:RowsL Hc r (toldS s x).2.2:=by
   rw [toldS_eq hm.2]
   exact ⟨us',hc,paired_mapR (Paired.mapP pr fun i a z=>z)⟩
  have sac:=sab.trans sc
  have Tb:=T.same sb
  have hrl:r≠lt:=fun e=>by rw [e,Tb.1.1] at fc;cases fc
  have T:=Tb.same sc
  obtain ⟨t0,w0,e1,e2,e3⟩:=w3 x.1 (by rw [List.length_map];exact hm.1)
  rw [map_getD (toldC s) ("",0) wN hm.1] at e2
  have e2c:=sac _ _ e2
  walk_at "s1"
  refine ⟨tyL T.1.1,?_⟩
  walk_at "s1"
  refine r_ix (SqL.of (sac _ _ w1)) (v:=.ref t0) (atI_nat (j:=x.1) (by rw [List.getElem?_map,e1];rfl)) ?_
  walk_at "s1"
  refine r_ixT (SqT.of e2c) (atI_nat (j:=0) rfl) ?_
  walk_at "s1"
  refine r_ix (SqL.of (sac _ _ w1)) (v:=.ref t0) (atI_nat (j:=x.1) (by rw [List.getElem?_map,e1];rfl)) ?_
  walk_at "s1"
  refine r_ixT (SqT.of e2c) (atI_nat (j:=1) rfl) ?_
  walk_at "s1"
  rename_i t5 Hd fd sd hd
  have T:=T.same sd
  have hul:us.length=i:=by
   have:=Paired.length T.1.2
   simp at this
   omega
  refine r_appendN T.1.1 (by rw [List.length_map];exact Nat.lt_of_lt_of_le (show _ < 1000 by omega) line64) ?_
  have T2:=T.snoc (x:=toldS s x) hd (hrows.same sd) hrl
  rw [show us.map V.ref ++ [V.ref t5]=(us ++ [t5]).map V.ref by simp]
  have et:(sts.take (i + 1)).map (toldS s)=(sts.take i).map (toldS s) ++ [toldS s x]:=by
   rw [List.take_add_one,List.getElem?_eq_getElem hi,← g1]
   simp
  refine ⟨((sac.trans sd).upd f1),us ++ [t5],_,_,_,_,by rw [et];exact T2,rfl⟩
 ·rintro σ Ha ⟨sa,us,v4,v5,v6,v7,T,rfl⟩
  walk_at "s1"
  rw [B.tl,List.take_of_length_le (Nat.le_refl _)] at T
  exact q lt us Ha f1 sa T.1
theorem rk__law_counts:∀ vs H Q E,sp__law_counts K vs H Q E→rd__law_counts K {nx:=fun _ H'=>Q .non H',rt:=Q} (start ["thing"] vs) H:=by
 rintro vs H Q E ⟨_,i,rfl,q⟩
 unfold rd__law_counts
 walk_at "s1"
 refine r_isiI kit_ib ?_
 walk_at "s1"
 exact r_isiI kit_ii q
theorem rk__law_kinds:∀ vs H Q E,sp__law_kinds K vs H Q E→rd__law_kinds K {nx:=fun _ H'=>Q .non H',rt:=Q} (start ["told","row"] vs) H:=by
 rintro vs H Q E ⟨_,t,l,g,ts,rows,rfl,ht,hl,h20,htl,q⟩
 unfold rd__law_kinds
 have l1:=hl.1
 have hm:(ts.map V.ref).length=ts.length:=by simp
 walk_at "q"
 walk_at "s1"
 refine r_isiT ht kit_tt ?_
 walk_at "s1"
 refine ⟨t,_,rfl,.inr (SqT.of ht),?_⟩
 walk_at "s1"
 try refine iteNS rfl ?_
 walk_at "s1"
 refine r_ixT (SqT.of ht) (atI_nat (j:=0) rfl) ?_
 walk_at "s1"
 refine r_isiL l1 kit_ll ?_
 walk_at "s1"
 refine r_ixT (SqT.of ht) (atI_nat (j:=1) rfl) ?_
 walk_at "s1"
 refine ⟨rfl,g,rfl,?_⟩
 walk_at "s1"
 walk_at "q"
 walk_at "s1"
 refine r_ixT (SqT.of ht) (atI_nat (j:=0) rfl) ?_
 walk_at "s1"
 try refine r_iList' (SqL.of l1) ?_
 refine for_ys (ys_list (K:=K) (xs:=ts.map V.ref) 1) (fun i σ H'=>Same H H'∧∃ v1,σ=[some (.ref t),v1]) ⟨Same.refl _,_,rfl⟩ (fun i σ H' p=>SqL.of (p.1 _ _ l1)) ?_ ?_
 ·rintro i σ Ha Hb hi ⟨sa,v1,rfl⟩ sb
  rw [hm] at hi
  have sab:=sa.trans sb
  have et:(ts.map V.ref).getD i .non=.ref ts[i]:=by simp [List.getD,hi]
  obtain ⟨x,hx,r,z1,us,z2,z3⟩:∃ x∈rows,TpT H x ts[i]:=by
   obtain ⟨r,e,z⟩:=paired_at' hl.2 (show ts[i]?=some ts[i] by simp [hi])
   exact ⟨r,List.mem_of_getElem? e,z⟩
  have y1:=sab _ _ z1
  have y2:=sab _ _ z2
  have hul:us.length≤20:=by rw [← Paired.length z3];exact h20 x hx
  have hum:(us.map V.ref).length=us.length:=by simp
  rw [et]
  show tSeq _ _ _ _ _
  walk_at "q"
  walk_at "s1"
  refine r_isiT y1 kit_tt ?_
  walk_at "s1"
  refine r_ixT (SqT.of y1) (atI_nat (j:=0) rfl) ?_
  walk_at "s1"
  refine r_isiS kit_ss ?_
  walk_at "s1"
  refine r_ixT (SqT.of y1) (atI_nat (j:=1) rfl) ?_
  walk_at "s1"
  refine ⟨rfl,x.2.1,rfl,?_⟩
  walk_at "s1"
  refine r_ixT (SqT.of y1) (atI_nat (j:=2) rfl) ?_
  walk_at "s1"
  refine r_isiL y2 kit_ll ?_
  walk_at "s1"
  refine r_ixT (SqT.of y1) (atI_nat (j:=2) rfl) ?_
  walk_at "s1"
  try refine r_iList' (SqL.of y2) ?_
  refine comp_filtY (ys_list (K:=K) (xs:=us.map V.ref) 0) (fun j=>[some ((us.map V.ref).getD j .non)]) (by rintro j σ' (rfl | ⟨k,rfl⟩) <;> rfl) (fun H' s'=>s'.seq (SqL.of y2)) (by rw [hum];exact Nat.le_trans (show _≤1000 by omega) line64) (fun j=>false) (fun j=>.non) ?_ (fun j hj hf=>by cases hf) ?_
  ·intro j hj H' G s' kk
   rw [hum] at hj
   have eu:(us.map V.ref).getD j .non=.ref us[j]:=by simp [List.getD,hj]
   obtain ⟨p,_,z4⟩:=paired_at' z3 (show us[j]?=some us[j] by simp [hj])
   rw [eu]
   walk_at "s1"
   refine r_ixT (SqT.of (s' _ _ (sab _ _ z4))) (atI_nat (j:=1) rfl) ?_
   walk_at "s1"
   refine ⟨rfl,p.2,rfl,?_⟩
   walk_at "s1"
   exact kk H' (Same.refl _)
  intro l5 Hc fc sc hc
  rw [List.filter_eq_nil_iff.mpr (fun _ _=>by simp)] at hc
  walk_at "s1"
  rename_i l6 Hd fd sd hd
  refine L2.r_neS (d:=.list []) (n:=1) (.lst (SqL.of (sd _ _ hc)) .nil) (.lst (SqL.of hd) .nil) (nd_list fun d hd=>by cases hd) (by decide) ?_
  walk_at "s1"
  exact ⟨(sab.trans sc).trans sd,_,rfl⟩
 ·rintro σ Ha ⟨sa,v1,rfl⟩
  walk_at "s1"
  exact q Ha sa
theorem setup7 {D:Ends}{rest:St}{u:TS}{H:Hp}{a:Addr}{ns:List Int} (hS:SqL K H a (ns.map V.int))
  (q:∀ H' fp s lx kind c many cv cw m n,Same H H'→ChestAt K H' c fp s→LawS cv cw m n s→m≤20→n≤12→s.ws=[]→(∀ x∈fp,H x=none)→u D (some (.ref a)::some (.ref lx)::some (.int kind)::some (.ref c)::some (.int many)::rest) H'):
  (tSeq (tAsg (tCall (sp__law_spins K) [] E0 (tCons (tCall (sp__law_nth K) [] E0 (tCons (tVar 0) (tCons (tC (.int 0)) tNil))) (tCons (tC (.int 4)) tNil))) (gName 1))
  (tSeq (tAsg (tOp oMod (tOp (rIxL K) (tVar 1) (tC (.int 2))) (tC (.int 2))) (gName 2))
  (tSeq (tAsg (tMake (clsA K "Chest") (sp_Chest___init__ K) [] E0 tNil) (gName 3))
  (tSeq (tAsg (tOp (rIxL K) (tLst (tCons (tC (.int 0)) (tCons (tC (.int 20)) (tCons (tOp oMod (tOp oDiv (tOp (rIxL K) (tVar 1) (tC (.int 0))) (tC (.int 24))) (tC (.int 21))) (tCons (tOp oAdd (tC (.int 1)) (tOp oMod (tOp oDiv (tOp (rIxL K) (tVar 1) (tC (.int 0))) (tC (.int 24))) (tC (.int 6)))) tNil))))) (tCB rMin (tCons (tC (.int 3)) (tCons (tOp oMod (tOp (rIxL K) (tVar 1) (tC (.int 0))) (tC (.int 24))) tNil)))) (gName 4))
  (tSeq (tDrop (tCall (sp__law_people K) [] E0 (tCons (tVar 3) (tCons (tCall (sp__law_nth K) [] E0 (tCons (tVar 0) (tCons (tC (.int 1)) tNil))) (tCons (tVar 4) (tCons (tVar 2) tNil))))))
  (tSeq (tAsg (tOp (rIxL K) (tLst (tCons (tC (.int 0)) (tCons (tC (.int 12)) (tCons (tOp oMod (tOp oDiv (tOp (rIxL K) (tVar 1) (tC (.int 1))) (tC (.int 24))) (tC (.int 13))) (tCons (tOp oAdd (tC (.int 1)) (tOp oMod (tOp oDiv (tOp (rIxL K) (tVar 1) (tC (.int 1))) (tC (.int 24))) (tC (.int 6)))) tNil))))) (tCB rMin (tCons (tC (.int 3)) (tCons (tOp oMod (tOp (rIxL K) (tVar 1) (tC (.int 1))) (tC (.int 24))) tNil)))) (gName 4))
  (tSeq (tDrop (tCall (sp__law_plans K) [] E0 (tCons (tVar 3) (tCons (tCall (sp__law_nth K) [] E0 (tCons (tVar 0) (tCons (tC (.int 2)) tNil))) (tCons (tVar 4) (tCons (tVar 2) tNil)))))) u))))))) D (some (.ref a)::none::none::none::none::rest) H:=by
 walk_at "q"
 walk_at "s1"
 refine ⟨rfl,a,ns,0,rfl,hS,fun v0 H1 s1=>?_⟩
 walk_at "s1"
 refine ⟨rfl,v0,4,rfl,by decide,fun lx H2 f2 s2 h2=>?_⟩
 walk_at "s1"
 have gx:∀ {H':Hp} (j:Nat),Same H2 H'→j < 4→SqL K H' lx ((spinL v0 4).map V.int)∧atI ((spinL v0 4).map V.int) (j:Int)=some (.int (spin v0 j)):=fun j s hj=>⟨SqL.of (s _ _ h2),atI_nat (spinL_at hj)⟩
 walk_at "q"
 walk_at "s1"
 refine r_ix (gx 2 (Same.refl _) (by decide)).1 (gx 2 (Same.refl _) (by decide)).2 ?_
 walk_at "s1"
 walk_at "q"
 walk_at "s1"
 refine r_make fun c dx f0 g0 n0=>?_
 refine ⟨rfl,c,dx,rfl,upd_same,fun H3 fp0 x0 b0 w0=>⟨rfl,?_⟩⟩
 obtain ⟨s3,e0⟩:=made f0 g0 b0 w0
 have s02:=s1.trans s2
 have s03:=s02.trans s3
 walk_at "s1"
 walk_at "q"
 walk_at "s1"
 refine r_ix (gx 0 s3 (by decide)).1 (gx 0 s3 (by decide)).2 ?_
 walk_at "s1"
 refine r_ix (gx 0 s3 (by decide)).1 (gx 0 s3 (by decide)).2 ?_
 walk_at "s1"
 rename_i l4 H4 f4 s4 h4
 refine r_ix (gx 0 (s3.trans s4) (by decide)).1 (gx 0 (s3.trans s4) (by decide)).2 ?_
 walk_at "s1"
 obtain ⟨r,m,hr,hm,hm2⟩:=pick4 (spin v0 0) 20 21 (by decide) (by decide) (by decide)
 rw [hr]
 refine r_ix (SqL.of h4) (atI_nat hm) ?_
 walk_at "s1"
 walk_at "q"
 walk_at "s1"
 refine ⟨rfl,a,ns,1,rfl,(s03.trans s4).seq hS,fun v1 H5 s5=>?_⟩
 walk_at "s1"
 have s35:=s4.trans s5
 refine ⟨rfl,c,v1,_,m,fp0,rfl,by omega,x0.same s35,fun H6 fp6 S x6 P b6 n6=>?_⟩
 have fp0n:∀ x∈fp0,H2 x=none:=e0
 have mv6:Mv fp0 fp6 H3 H6:=(Mv.same s35).trans ⟨b6,n6⟩
 have s26:Same H2 H6:=same_but s3 mv6.1 fp0n
 have fp6n:∀ x∈fp6,H2 x=none:=fun x hx=>by
  rcases mv6.2 x hx with z | z
  ·exact fp0n x z
  ·exact s3.free z
 walk_at "s1"
 walk_at "q"
 walk_at "s1"
 refine r_ix (gx 1 s26 (by decide)).1 (gx 1 s26 (by decide)).2 ?_
 walk_at "s1"
 refine r_ix (gx 1 s26 (by decide)).1 (gx 1 s26 (by decide)).2 ?_
 walk_at "s1"
 rename_i l7 H7 f7 s7 h7
 refine r_ix (gx 1 (s26.trans s7) (by decide)).1 (gx 1 (s26.trans s7) (by decide)).2 ?_
 walk_at "s1"
 obtain ⟨r',n,hr',hn,hn2⟩:=pick4 (spin v0 1) 12 13 (by decide) (by decide) (by decide)
 rw [hr']
 refine r_ix (SqL.of h7) (atI_nat hn) ?_
 walk_at "s1"
 walk_at "q"
 walk_at "s1"
 refine ⟨rfl,a,ns,2,rfl,((s02.trans s26).trans s7).seq hS,fun v2 H8 s8=>?_⟩
 walk_at "s1"
 have s68:=s7.trans s8
 refine ⟨rfl,c,v2,_,n,fp6,S,rfl,by omega,x6.same s68,P.cs,fun H9 fp9 cs x9 ec cb b9 n9=>?_⟩
 have mv9:Mv fp6 fp9 H6 H9:=(Mv.same s68).trans ⟨b9,n9⟩
 walk_at "s1"
 refine q H9 fp9 {S with cs:=cs} lx _ c _ v1 (v2 / 3) m n (s02.trans (same_but s26 mv9.1 fp6n)) x9 ⟨P.en,ec,fun p hp=>?_,cb,?_,?_,P.spt,P.pot,P.le⟩ (by omega) (by omega) P.ws fun x hx=>?_
 ·have h1:=P.p0 p hp
  have h2:=P.lp p hp
  have h3:=P.gb
  have h4:=P.pot
  omega
 ·rw [show ({S with cs:=cs}:ChSt).ws=[] from P.ws]
  intro p hp
  cases hp
 ·rw [show ({S with cs:=cs}:ChSt).ws=[] from P.ws]
  exact Nat.zero_le _
 ·rcases mv9.2 x hx with z | z
  ·exact s02.free (fp6n x z)
  ·exact (s02.trans s26).free z
theorem rk_law:∀ vs H Q E,sp_law K vs H Q E→rd_law K {nx:=fun _ H'=>Q .non H',rt:=Q} (start ["script","xs","kind","chest","many","wishes","people","works","pot","grains","steps","told","due","row"] vs) H:=by
 rintro vs H Q E ⟨_,a,ns,rfl,hS,hl63,q⟩
 have hsz:=size_eq
 unfold rd_law
 refine setup7 (rest:=[none,none,none,none,none,none,none,none,none]) hS fun H0 fp s lx kind c many cv cw m n s0 X0 L hm hn hws hfp=>?_
 have G:=L.good hm hn
 have hS0:=s0.seq hS
 walk_at "q"
 walk_at "s1"
 rename_i pz Hb fz sb hz
 have hc1:=cut_le (ns.map V.int) 3 63
 obtain ⟨ms,e9,_,_⟩:=cut_ints ns (some ((3:Nat):Int)) (some ((63:Nat):Int))
 rw [e9,List.length_map] at hc1
 have hz:Hb pz=some (.lst (ms.map V.int)):=by rw [← e9];exact hz
 refine ⟨rfl,c,pz,fp,s,ms,rfl,X0.same sb,G,hws,hz,fun mm=>X0.there _ mm fz,by omega,fun H1 fp1 l5 ws X1 G1 _ _ _ nl5 R5=>?_⟩
 have ht0:({s with ws:=ws}:ChSt).spt=0:=L.spt
 generalize ({s with ws:=ws}:ChSt)=t at *
 obtain ⟨dx,d1,d2,w,wt,X,efp⟩:=id X1
 have hv:=G1.v20
 have hn12:=G1.n12
 walk_at "s1"
 walk_at "q"
 walk_at "s1"
 refine k_meth X.at_ (lk_no (by decide +kernel)) ?_
 walk_at "s1"
 refine ⟨rfl,c,fp1,t,rfl,X1,fun l6 H2 f6 s2 r6=>?_⟩
 walk_at "s1"
 walk_at "q"
 walk_at "s1"
 refine k_meth (X.same s2).at_ (lk_no (by decide +kernel)) ?_
 walk_at "s1"
 refine ⟨rfl,c,fp1,t,rfl,X1.same s2,G1.ap,G1.ac,G1.aw,by omega,by omega,fun l7 ts7 H3 f7 s3 w7 own7=>?_⟩
 have s13:=s2.trans s3
 walk_at "s1"
 walk_at "q"
 walk_at "s1"
 refine k_meth (X.same s13).at_ (lk_no (by decide +kernel)) ?_
 walk_at "s1"
 refine ⟨rfl,c,fp1,t,rfl,X1.same s13,?_⟩
 walk_at "s1"
 walk_at "q"
 walk_at "s1"
 walk_at "q"
 walk_at "s1"
 rename_i l10 H4 f10 s4 h10
 have s14:=s13.trans s4
 have r6d:=(r6.same (s3.trans s4))
 have w7d:=w7.same s4
 have aW:∀ r∈t.cs.map (toldC t),Ascii r.1∧∀ z∈r.2.2,Ascii z:=fun r hr=>by
  obtain ⟨p,hp,rfl⟩:=List.mem_map.mp hr
  refine ⟨G1.ac p hp,fun z hz=>?_⟩
  obtain ⟨p',hp',e⟩:=List.mem_map.mp (List.mem_filter.mp hz).1
  rw [← e];exact G1.ap p' hp'
 with_reducible refine r_cut (fun σ H'=>Same H4 H'∧∃ (g:Int) (ls:Addr) (sts:List (Nat×Int×List Int)),StepsO fp1 H' ls sts∧((t.ps=[]∨t.cs=[])→g=1∧sts=[])∧(t.ps≠[]→t.cs≠[]→g=grC t∧∃ run,sts=stepsF (rowsC t) (pursC t) run∧RunX (townT (costC t) (rowsC t)) (PF (pursC t)) [] run)∧
   σ=[some (.ref a),some (.ref lx),some (.int kind),some (.ref c),some (.int many),some (.ref l5),some (.ref l6),some (.ref l7),some (.int t.pot),some (.int g),some (.ref ls),none,none,none]) (fun F hF=>?_) ?_
 ·walk_at "s1"
  rename_i z1 H5 f5 s5 h5
  refine r_neNilD (n:=1) (r6d.same s5).dat (nd_rowsI G1.ap) h5 (by decide) ?_
  have no:∀ H',Same H4 H'→(t.ps=[]∨t.cs=[])→F [some (.ref a),some (.ref lx),some (.int kind),some (.ref c),some (.int many),some (.ref l5),some (.ref l6),some (.ref l7),some (.int t.pot),some (.int 1),some (.ref l10),none,none,none] H':=fun H' s' h=>
   hF _ _ ⟨s',1,l10,[],⟨fun mm=>X1.there l10 mm (s13.free f10),[],s' _ _ h10,.nil⟩,fun _=>⟨rfl,rfl⟩,fun h1 h2=>(h.elim h1 h2).elim,rfl⟩
  walk_at "s1"
  refine iteDN (fun hp0=>?_) (fun hp0=>?_)
  ·walk_at "s1"
   rename_i z2 H6 f6' s6 h6
   have s46:=s5.trans s6
   refine r_neNilD (n:=2) (w7d.same s46).dat (nd_works aW) h6 (by decide) ?_
   walk_at "s1"
   refine iteDN (fun hc0=>?_) (fun hc0=>?_)
   ·have hp:t.ps≠[]:=fun e=>hp0 (by rw [e];rfl)
    have hc:t.cs≠[]:=fun e=>hc0 (by rw [e];rfl)
    have hpos:0 < t.ps.length:=List.length_pos_iff.mpr hp
    have GT:=G1.town hp
    obtain ⟨g0,gH⟩:=gr_huge ⟨hv,hn12⟩
    obtain ⟨tp,p1,p2,p3⟩:=(r6d.same s46).at
    obtain ⟨w2,w3⟩:=(w7d.same s46).at
    have w1:=(w7d.same s46).1
    have hpm:(tp.map V.ref).length=t.ps.length:=by simp [p2]
    have hwm:(ts7.map V.ref).length=t.cs.length:=by simp [w2]
    have q6:SqL K H6 l6 (tp.map V.ref):=SqL.of p1
    have q7:SqL K H6 l7 (ts7.map V.ref):=SqL.of w1
    walk_at "q"
    walk_at "s1"
    rw [hpm,hwm]
    refine ⟨rfl,t.ps.length,t.cs.length,rfl,hpos,hv,hn12,?_⟩
    rw [show ((tog t.ps.length ^ (t.cs.length + 1):Nat):Int)=(grC t:Int) from rfl]
    walk_at "s1"
    refine comp_mapY (ys_list2 (K:=K) (a:=l6) (ts:=tp) (u:=fun i=>.str (t.ps.getD i ("",0)).1) (v:=fun i=>.int (t.ps.getD i ("",0)).2) 0 1) (fun j=>[some (.str (t.ps.getD j ("",0)).1),some (.int (t.ps.getD j ("",0)).2),some (.int (grC t:Int))]) (by rintro j σ' (rfl | ⟨k,rfl⟩) <;> rfl) (fun H' s'=>⟨s'.seq q6,fun i b hb=>?_⟩) (by rw [p2];exact Nat.le_trans (show _≤1000 by omega) line64)
     (fun j=>.int ((t.ps.getD j ("",0)).2 * (grC t:Int))) ?_ ?_
    ·have hi:i < t.ps.length:=by rw [← p2];exact (List.getElem?_eq_some_iff.mp hb).1
     obtain ⟨t',e1,e2⟩:=p3 i hi
     rw [hb] at e1
     cases e1
     exact SqT.of (s' _ _ e2)
    ·intro j hj H' G' s' kk
     rw [p2] at hj
     have hpj:=G1.p0 _ (getD_mem (xs:=t.ps) ("",0) hj)
     walk_at "s1"
     try refine r_mulL (by omega) (by omega) ?_
     exact kk H' (Same.refl _)
    intro la H7 fa s7 ha
    have e1:(List.range tp.length).map (fun i=>V.int ((t.ps.getD i ("",0)).2 * (grC t:Int)))=(pursC t).map V.int:=by
     unfold pursC
     rw [p2,List.map_map]
     exact range_getD' (fun p:Str×Int=>V.int (p.2 * (grC t:Int))) ("",0) t.ps
    rw [e1] at ha
    walk_at "s1"
    try refine r_iList' (s7.seq q7) ?_
    refine comp_mapY (ys_list (K:=K) (xs:=ts7.map V.ref) 0) (fun j=>[some ((ts7.map V.ref).getD j .non)]) (by rintro j σ' (rfl | ⟨k,rfl⟩) <;> rfl) (fun H' s'=>s'.seq (s7.seq q7)) (by rw [hwm];exact Nat.le_trans (show _≤1000 by omega) line64)
     (fun j=>.int (t.cs.getD j ("",0)).2) ?_ ?_
    ·intro j hj H' G' s' kk
     rw [hwm] at hj
     obtain ⟨t0,w0,e1,e2,e3⟩:=w3 j (by rw [List.length_map];exact hj)
     rw [map_getD (toldC t) ("",0) wN hj] at e2
     have et:(ts7.map V.ref).getD j .non=.ref t0:=by simp [List.getD,e1]
     rw [et]
     walk_at "s1"
     refine r_ixT (SqT.of (s' _ _ (s7 _ _ e2))) (atI_nat (j:=1) rfl) ?_
     exact kk H' (Same.refl _)
    intro lc H8 fc s8 hc8
    have e2:(List.range (ts7.map V.ref).length).map (fun i=>V.int (t.cs.getD i ("",0)).2)=(costC t).map V.int:=by
     unfold costC
     rw [hwm,List.map_map]
     exact range_getD' (fun p:Str×Int=>V.int p.2) ("",0) t.cs
    rw [e2] at hc8
    have s48:=(s46.trans s7).trans s8
    walk_at "s1"
    refine ⟨rfl,la,lc,l5,pursC t,costC t,rowsC t,rfl,SqL.of (s8 _ _ ha),SqL.of hc8,(s14.trans s48).rows R5,GT,fun ls H9 run f9 s9 n9 rx=>?_⟩
    walk_at "s1"
    exact hF _ _ ⟨s48.trans s9,_,ls,_,stepsO_new (fun x hx=>(X1.same (s14.trans s48)).there x hx) f9 n9,fun h=>(h.elim hp hc).elim,fun _ _=>⟨rfl,run,rfl,rx⟩,rfl⟩
   ·walk_at "s1"
    exact no _ s46 (.inr (by
     cases hh:t.cs with
     | nil=>rfl
     | cons x r=>rw [hh] at hc0;cases hc0))
  ·walk_at "s1"
   exact no _ s5 (.inl (by
    cases hh:t.ps with
    | nil=>rfl
    | cons x r=>rw [hh] at hp0;cases hp0))
 rintro σ H5 ⟨s5,g,ls,sts,hst,hE,hNE,rfl⟩
 have s15:=s14.trans s5
 have X5:=X1.same s15
 have r6e:=r6d.same s5
 have w7e:=w7d.same s5
 have l6n:l6∉fp1:=fun mm=>X1.there l6 mm f6
 have l7n:l7∉fp1:=fun mm=>X1.there l7 mm (s2.free f7)
 have w7o:∀ t'∈ts7,∀ x y w,H5 t'=some (.tup [x,y,.ref w])→w∉fp1:=fun t' ht x y w e mm=>by
  obtain ⟨r,_,w',z1,_⟩:=w7.tup t' ht
  have e3:H3 t'=some (.tup [x,y,.ref w]):=by
   rw [(s4.trans s5) _ _ z1] at e
   rw [z1];exact e
  exact (X1.same s2).there w mm (own7 t' ht x y w e3).2
 with_reducible refine r_cut (fun σ H'=>∃ tt l ts fp',ChestAt K H' c fp' (closeP t (leftOf (t.ps.map fun p=>p.2 * g) sts) g (sts.map (toldS t)))∧But fp1 H5 H'∧H5 l=none∧l∉fp'∧H' tt=some (.tup [.ref l,.int g])∧ToldL H' l ts (sts.map (toldS t))∧(∀ t'∈ts,∀ y z r,H' t'=some (.tup [y,z,.ref r])→r≠l∧H5 r=none∧r∉fp')∧
   (0 < g∧g < HUGE)∧sts.length≤12∧(∀ x∈sts,x.1 < t.cs.length∧x.2.2.length=t.ps.length)∧g ∣ ((leftOf (t.ps.map fun p=>p.2 * g) sts).map (· % g)).sum∧
   σ=[some (.ref a),some (.ref lx),some (.int kind),some (.ref c),some (.int many),some (.ref l5),some (.ref l6),some (.ref l7),some (.int t.pot),some (.int g),some (.ref ls),some (.ref tt),none,none]) (fun F hF=>?_) ?_
 ·walk_at "s1"
  refine k_meth (X.same s15).at_ (lk_no (by decide +kernel)) ?_
  walk_at "s1"
  refine ⟨rfl,c,fp1,t,rfl,X5,G1,fun he tt l H' ft fl ntl s' h1 h2=>?_,fun hp hc run tt l ts H' fp' rx b' n' x' ft fl nl h1 T own=>?_⟩
  ·obtain ⟨rfl,rfl⟩:=hE he
   walk_at "s1"
   exact hF _ _ ⟨tt,l,[],fp1,by rw [closeP_one];exact X5.same s',But.of s',fl,fun mm=>X5.there l mm fl,h1,⟨h2,.nil⟩,(by intro t' ht;cases ht),⟨by decide,Int.lt_trans (by decide) huge_big⟩,Nat.zero_le _,(by intro x hx;cases hx),⟨_,(Int.one_mul _).symm⟩,rfl⟩
  ·obtain ⟨rfl,run',rfl,rx'⟩:=hNE hp hc
   have:=run_unique rx.run rx'.run
   subst this
   obtain ⟨b1,b2⟩:=run_bounds rx
   walk_at "s1"
   exact hF _ _ ⟨tt,l,ts,fp',x',b',fl,nl,h1,T,own,gr_huge ⟨hv,hn12⟩,Nat.le_trans b1 hn12,b2,keep_dvd rx,rfl⟩
 rintro σ H6 ⟨tt,l,ts,fp',X6,b6,fl,nl,h6,T6,own6,⟨g0,gH⟩,h12,hsb,hdv,rfl⟩
 walk_at "q"
 walk_at "s1"
 refine ⟨rfl,l6,l7,ls,t,ts7,sts,rfl,r6e.but b6 l6n,w7e.but b6 l7n w7o,(hst.but b6).at,hv,hn12,h12,hsb,fun l8 us H7 f8 s7 T8=>?_⟩
 walk_at "s1"
 rename_i l9 H8 f9 s8 h9
 have s68:=s7.trans s8
 have h6':=s68 _ _ h6
 have T6':=T6.same s68
 have hlen:∀ r∈sts.map (toldS t),r.2.2.length≤20:=fun r hr=>by
  obtain ⟨x,_,rfl⟩:=List.mem_map.mp hr
  exact told_len hv
 walk_at "q"
 walk_at "s1"
 refine ⟨rfl,tt,l,g,ts,_,rfl,h6',T6',hlen,by rw [List.length_map];exact h12,fun H9 s9=>?_⟩
 walk_at "s1"
 have nd:=nd_told (told_ascii G1 fun x hx=>(hsb x hx).1)
 refine L2.r_neS (n:=5) (d:=.tuple [.list ((sts.map (toldS t)).map dT),.int g]) (.tup (SqT.of (s9 _ _ h6')) (.cons (T6'.same s9).dat (.cons (.int _) .nil))) (.tup (SqT.of (s9 _ _ h9)) (.cons ((T8.same s8).same s9).dat (.cons (.int _) .nil))) (nd_tuple fun e he=>?_) (by decide) ?_
 ·rcases List.mem_cons.mp he with rfl | he
  ·exact nd
  ·rcases List.mem_cons.mp he with rfl | he
   ·exact nd_int _
   ·cases he
 walk_at "s1"
 have s69:=s68.trans s9
 have h6d:=s69 _ _ h6
 have T9:=T6.same s69
 have l9':=T9.1
 have own9:∀ t'∈ts,∀ y z r,H9 t'=some (.tup [y,z,.ref r])→r≠l∧H5 r=none∧r∉fp':=fun t' ht y z r e=>own6 t' ht y z r (T6.tup (But.of (l:=[]) s69) t' ht y z r e)
 have tup:∀ t'∈ts,∃ x∈sts.map (toldS t),H9 t'=some (.tup [.str x.1,.int x.2.1,.ref (inW H9 t')])∧RowsL H9 (inW H9 t') x.2.2:=fun t' ht=>by
  obtain ⟨i,hi,e⟩:=List.getElem_of_mem ht
  obtain ⟨x,ex,r,z1,z2⟩:=paired_at' T9.2 (show ts[i]?=some t' by rw [List.getElem?_eq_getElem hi,e])
  rw [inW_of z1]
  exact ⟨x,List.mem_of_getElem? ex,z1,z2⟩
 have hMs:∀ y∈l::ts.map (inW H9),H5 y=none∧y∉fp':=fun y hy=>by
  rcases List.mem_cons.mp hy with rfl | hy
  ·exact ⟨fl,nl⟩
  ·obtain ⟨t',ht,rfl⟩:=List.mem_map.mp hy
   obtain ⟨x,_,z1,_⟩:=tup t' ht
   exact (own9 t' ht _ _ _ z1).2
 have hrl:∀ t'∈ts,inW H9 t'≠l:=fun t' ht=>by
  obtain ⟨x,_,z1,_⟩:=tup t' ht
  exact (own9 t' ht _ _ _ z1).1
 have htl:ts.length≤12:=by
  have:=Paired.length T9.2
  simp at this
  omega
 have htm:(ts.map V.ref).length=ts.length:=by simp
 with_reducible refine r_cut (fun σ H'=>But (l::ts.map (inW H9)) H9 H'∧H' l=some (.lst (ts.map V.ref))∧∃ v13,σ=[some (.ref a),some (.ref lx),some (.int kind),some (.ref c),some (.int many),some (.ref l5),some (.ref l6),some (.ref l7),some (.int t.pot),some (.int g),some (.ref ls),some (.ref tt),some (.ref l9),v13]) (fun F hF=>?_) ?_
 ·walk_at "s1"
  refine r_ixT (SqT.of h6d) (atI_nat (j:=0) rfl) ?_
  walk_at "s1"
  try refine r_iList' (SqL.of l9') ?_
  refine for_ys (ys_list (K:=K) (xs:=ts.map V.ref) 13) (fun i σ H'=>(But (l::ts.map (inW H9)) H9 H'∧H' l=some (.lst (ts.map V.ref))∧∀ t'∈ts,∃ ys,H' (inW H9 t')=some (.lst ys)∧ys.length≤20 + i)∧∃ v13,σ=[some (.ref a),some (.ref lx),some (.int kind),some (.ref c),some (.int many),some (.ref l5),some (.ref l6),some (.ref l7),some (.int t.pot),some (.int g),some (.ref ls),some (.ref tt),some (.ref l9),v13])
   ⟨⟨But.of (Same.refl _),l9',fun t' ht=>?_⟩,_,rfl⟩ (fun i σ H' p=>SqL.of p.1.2.1) ?_ ?_
  ·obtain ⟨x,hx,_,us',z2,z3⟩:=tup t' ht
   exact ⟨_,z2,by rw [List.length_map,← Paired.length z3];exact hlen x hx⟩
  ·rintro i σ Ha Hc hi ⟨⟨ba,hla,hya⟩,v13,rfl⟩ sc
   rw [htm] at hi
   have et:(ts.map V.ref).getD i .non=.ref ts[i]:=by simp [List.getD,hi]
   have hti:=List.getElem_mem hi
   generalize ts[i]=t' at *
   obtain ⟨x,hx,z1,_⟩:=tup t' hti
   obtain ⟨ys,y1,y2⟩:=hya t' hti
   have y1:=sc _ _ y1
   rw [et]
   show tDrop _ _ _ _
   walk_at "s1"
   refine r_ixT (SqT.of (sc _ _ (ba.2.1 _ _ z1))) (atI_nat (j:=2) rfl) ?_
   refine ⟨tyL y1,?_⟩
   walk_at "s1"
   rename_i tz Hd fd sd hd
   refine r_appendN (sd _ _ y1) (by exact Nat.lt_of_lt_of_le (show _ < 1000 by omega) line64) ?_
   have bu:But (l::ts.map (inW H9)) Hd (upd Hd (inW H9 t') (.lst (ys ++ [.ref tz]))):=But.upd (sd _ _ y1) (by intro xs z;cases z) (List.mem_cons_of_mem _ (List.mem_map.mpr ⟨t',hti,rfl⟩))
   have scd:=sc.trans sd
   refine ⟨⟨(ba.trans (But.of scd)).trans bu,by rw [upd_ne (Ne.symm (hrl t' hti))];exact scd _ _ hla,fun t2 ht2=>?_⟩,_,rfl⟩
   by_cases e:inW H9 t2=inW H9 t'
   ·rw [e]
    exact ⟨_,upd_same,by rw [List.length_append,List.length_singleton];omega⟩
   ·obtain ⟨ys2,y3,y4⟩:=hya t2 ht2
    exact ⟨ys2,by rw [upd_ne e];exact scd _ _ y3,by omega⟩
  ·rintro σ Ha ⟨⟨ba,hla,_⟩,v13,rfl⟩
   exact hF _ _ ⟨ba,hla,v13,rfl⟩
 rintro σ Ha ⟨ba,hla,v13,rfl⟩
 walk_at "q"
 walk_at "s1"
 refine r_ixT (SqT.of (ba.2.1 _ _ h6d)) (atI_nat (j:=0) rfl) ?_
 refine ⟨tyL hla,l,_,rfl,rfl,hla,?_⟩
 have bc:But (l::ts.map (inW H9)) H9 (upd Ha l (.lst [])):=ba.trans (But.upd hla (by intro xs z;cases z) (by simp))
 generalize upd Ha l (.lst [])=Hc at *
 have b5:But fp1 H5 Hc:=(b6.trans (But.of s69)).ext bc fun y hy=>(hMs y hy).1
 walk_at "s1"
 exact ⟨rfl,c,l6,l7,ls,g,fp',t,ts7,sts,rfl,(X6.same s69).but bc fun y hy mm=>(hMs y mm).2 hy,G1,ht0,g0,gH,X.nd2,r6e.but b5 l6n,w7e.but b5 l7n w7o,(hst.but b5).at,h12,hsb,hdv,fun H' _=>q H'⟩
end
structure Txt (K:W.Frag) (mg:Str→Option Value):Prop where
 f__law_spins:FunIn K mg "_law_spins" s__law_spins ["cell","many"]
 m_Chest___init__:MethIn K "Chest" "__init__" "Chest.__init__" s_Chest___init__ ["self"]
 f_is_name:FunIn K mg "is_name" s_is_name ["name"]
 f_check_new_name:FunIn K mg "check_new_name" s_check_new_name ["name","names"]
 f_check_place:FunIn K mg "check_place" s_check_place ["names","most"]
 m_Chest_enrol:MethIn K "Chest" "enrol" "Chest.enrol" s_Chest_enrol ["self","name"]
 f_check_coins:FunIn K mg "check_coins" s_check_coins ["coins","least"]
 m_Chest_share:MethIn K "Chest" "share" "Chest.share" s_Chest_share ["self","part"]
 m_Chest_give:MethIn K "Chest" "give" "Chest.give" s_Chest_give ["self","coins"]
 f__law_name:FunIn K mg "_law_name" s__law_name ["cell","k"]
 f__law_coins:FunIn K mg "_law_coins" s__law_coins ["x","kind"]
 f__law_people:FunIn K mg "_law_people" s__law_people ["chest","cell","many","kind"]
 m_Chest_given:MethIn K "Chest" "given" "Chest.given" s_Chest_given ["self"]
 m_Chest_propose:MethIn K "Chest" "propose" "Chest.propose" s_Chest_propose ["self","work","cost"]
 f__law_plans:FunIn K mg "_law_plans" s__law_plans ["chest","cell","many","kind"]
 m_Chest_voters:MethIn K "Chest" "voters" "Chest.voters" s_Chest_voters ["self"]
 m_Chest_wanters:MethIn K "Chest" "wanters" "Chest.wanters" s_Chest_wanters ["self","work"]
 m_Chest_works:MethIn K "Chest" "works" "Chest.works" s_Chest_works ["self"]
 m_Chest_check_voter:MethIn K "Chest" "check_voter" "Chest.check_voter" s_Chest_check_voter ["self","voter"]
 m_Chest_check_work:MethIn K "Chest" "check_work" "Chest.check_work" s_Chest_check_work ["self","work"]
 m_Chest_want:MethIn K "Chest" "want" "Chest.want" s_Chest_want ["self","voter","work"]
 f__law_wishes:FunIn K mg "_law_wishes" s__law_wishes ["chest","cells"]
 m_Chest_pot:MethIn K "Chest" "pot" "Chest.pot" s_Chest_pot ["self"]
 f_least_multiple:FunIn K mg "least_multiple" s_least_multiple ["step","number"]
 f_together:FunIn K mg "together" s_together ["n"]
 f_grains_of:FunIn K mg "grains_of" s_grains_of ["voters","works"]
 f_paid_by:FunIn K mg "paid_by" s_paid_by ["steps","voter"]
 f_left_of:FunIn K mg "left_of" s_left_of ["purses","steps"]
 f_prices_of:FunIn K mg "prices_of" s_prices_of ["costs","wishes"]
 f_rounded_up:FunIn K mg "rounded_up" s_rounded_up ["amount","shares"]
 f_level_for:FunIn K mg "level_for" s_level_for ["purses","price"]
 f_wants_all:FunIn K mg "wants_all" s_wants_all ["wanted","works"]
 f_common_of:FunIn K mg "common_of" s_common_of ["wishes","works"]
 f_wanters_of:FunIn K mg "wanters_of" s_wanters_of ["wishes","work"]
 f_offer_of:FunIn K mg "offer_of" s_offer_of ["purses","wishes","work","price"]
 f_offers_of:FunIn K mg "offers_of" s_offers_of ["purses","costs","wishes","done"]
 f_next_of:FunIn K mg "next_of" s_next_of ["offers"]
 f_works_of:FunIn K mg "works_of" s_works_of ["steps"]
 f_paid_at:FunIn K mg "paid_at" s_paid_at ["purses","level"]
 f_payments_of:FunIn K mg "payments_of" s_payments_of ["purses","wishes","work","level"]
 f_step_behind:FunIn K mg "step_behind" s_step_behind ["purses","costs","wishes","steps"]
 f_choose:FunIn K mg "choose" s_choose ["purses","costs","wishes"]
 m_Chest_keep_coins:MethIn K "Chest" "keep_coins" "Chest.keep_coins" s_Chest_keep_coins ["self","left","grains"]
 m_Chest_wanted_places:MethIn K "Chest" "wanted_places" "Chest.wanted_places" s_Chest_wanted_places ["self","voter"]
 m_Chest_told_step:MethIn K "Chest" "told_step" "Chest.told_step" s_Chest_told_step ["self","place","paid"]
 m_Chest_withdraw:MethIn K "Chest" "withdraw" "Chest.withdraw" s_Chest_withdraw ["self","work"]
 m_Chest_close:MethIn K "Chest" "close" "Chest.close" s_Chest_close ["self"]
 m_Chest_spent:MethIn K "Chest" "spent" "Chest.spent" s_Chest_spent ["self"]
 f__law_behind:FunIn K mg "_law_behind" s__law_behind ["chest","people","works","steps","grains","pot"]
 f__law_nth:FunIn K mg "_law_nth" s__law_nth ["script","k"]
 f__law_rows:FunIn K mg "_law_rows" s__law_rows ["people","works","steps"]
 f__law_counts:FunIn K mg "_law_counts" s__law_counts ["thing"]
 f__law_kinds:FunIn K mg "_law_kinds" s__law_kinds ["told"]
 f_law:FunIn K mg "law" s_law ["script"]
 c_Chest:ClsIn K mg "Chest"
 cls:Cls K
 z_all:mg "all"=none
 z_bool:mg "bool"=none
 z_dict:mg "dict"=none
 z_enumerate:mg "enumerate"=none
 z_int:mg "int"=none
 z_isinstance:mg "isinstance"=none
 z_len:mg "len"=none
 z_list:mg "list"=none
 z_min:mg "min"=none
 z_range:mg "range"=none
 z_sorted:mg "sorted"=none
 z_str:mg "str"=none
 z_sum:mg "sum"=none
 z_tuple:mg "tuple"=none
 z_zip:mg "zip"=none
 k_LETTERS:KonS mg "LETTERS" "abcdefghijklmnopqrstuvwxyz"
 k_MOST_AT_ONCE:KonIn mg "MOST_AT_ONCE" 1000000000
 k_MOST_LETTERS:KonIn mg "MOST_LETTERS" 8
 k_MOST_VOTERS:KonIn mg "MOST_VOTERS" 20
 k_MOST_WORKS:KonIn mg "MOST_WORKS" 12
section
seal PSs PS PE PA PT PC PI PG
variable {P:Program}{w:World}{K:W.Frag}{mg:Str→Option Value}{base:Heap}
theorem pf__law_spins (T:Txt K mg) {f:Addr}{cdv:Value}{A:Around}{outer:List Env}{s:Shared}{H:Hp}{E:XK} (hr:Room 0 (A.deeper (PyProof.Rows.envOfC "_law_spins" (defScope s__law_spins) s.heap.objs.size f cdv))):
  PSs (cxOf CX0 P w K mg base ["cell","many","spins","k","turn"] "_law_spins" (defScope s__law_spins) f cdv A outer s H E).nox (defBody s__law_spins) (rd__law_spins K):=
 (pss_cons (ps_set (i:=2) sc__law_spins.nd rfl (Or.inl rfl) (pe_lst pa_nil))
   (pss_cons (ps_for PassesOwn.never rfl (pi_range1 (by rfl) T.z_range (pa_cons (pv 1) pa_nil)) (pg_name (i:=3) sc__law_spins.nd rfl (Or.inl rfl)) (pss_cons (ps_set (i:=4) sc__law_spins.nd rfl (Or.inl rfl) (pe_op op_addI (pe_op op_addI (pe_op op_modI (pv 0) pe_int) (pe_op op_mulI pe_int (pv 3))) pe_int))
   (pss_one (ps_expr (pe_bm PySem.F.plainAttrs_list PySem.F.slot_list_append PySem.F.type_list_append mt_append (pv 2) (pa_cons (pe_op op_modI (pe_op op_divI (pe_op op_mulI (pe_op op_mulI (pv 4) (pv 4)) (pe_op op_addI (pv 4) (pe_op op_mulI pe_int (pv 3)))) pe_int) pe_int) pa_nil))))))
   (pss_one (ps_ret (pv 2)))))
theorem cal__law_spins (T:Txt K mg):Cal P w K mg base 1 "_law_spins" ["cell","many"] (sp__law_spins K):=T.f__law_spins.cal sc__law_spins (spOf_len rfl) (fun f cdv A outer s H E hr=>pf__law_spins T hr) rk__law_spins
theorem pf_Chest___init__ (T:Txt K mg) {f:Addr}{cdv:Value}{A:Around}{outer:List Env}{s:Shared}{H:Hp}{E:XK} (hr:Room 0 (A.deeper (PyProof.Rows.envOfC "Chest.__init__" (defScope s_Chest___init__) s.heap.objs.size f cdv))):
  PSs (cxOf CX0 P w K mg base ["self"] "Chest.__init__" (defScope s_Chest___init__) f cdv A outer s H E).nox (defBody s_Chest___init__) (rd_Chest___init__ K):=
 (pss_cons (ps_fld (pv 0) pe_dnewK rfl)
   (pss_cons (ps_fld (pv 0) pe_dnewK rfl)
   (pss_cons (ps_fld (pv 0) (pe_lst pa_nil) rfl)
   (pss_cons (ps_fld (pv 0) pe_int rfl)
   (pss_cons (ps_fld (pv 0) pe_int rfl)
   (pss_one (ps_fld (pv 0) pe_int rfl)))))))
theorem mal_Chest___init__ (T:Txt K mg):CalM CX0 P w K mg base 1 "Chest" "__init__" ["self"] (sp_Chest___init__ K):=T.m_Chest___init__.cal sc_Chest___init__ (spOf_len rfl) (fun f cdv A outer s H E hr=>pf_Chest___init__ T hr) (rk_Chest___init__ T.cls)
theorem pf_is_name (T:Txt K mg) {f:Addr}{cdv:Value}{A:Around}{outer:List Env}{s:Shared}{H:Hp}{E:XK} (hr:Room 0 (A.deeper (PyProof.Rows.envOfC "is_name" (defScope s_is_name) s.heap.objs.size f cdv))):
  PSs (cxOf CX0 P w K mg base ["name"] "is_name" (defScope s_is_name) f cdv A outer s H E).nox (defBody s_is_name) (rd_is_name K):=
 (pss_one (ps_ret (pe_and (pe_chain op_leI op_leI pe_int (pe_callB call_lenT (by rfl) T.z_len PySem.boot_len (pa_cons (pv 0) pa_nil)) (T.k_MOST_LETTERS.pe (by rfl))) (pe_one (pe_callB (call_all rfl) (by rfl) T.z_all PyProof.Rows.boot_all (pa_cons (pe_comp (N:=["sign"]) (mp:=[none]) rfl ⟨rfl,by decide +kernel,by rfl,rfl,by rfl⟩ (pi_text (pv 0)) (fun _ _ _ _ _ _=>(pg_name (i:=0) (by show List.Nodup (["sign"]:List Str);decide +kernel) rfl (Or.inl rfl))) (fun _ _ _ _ _ _=>pifs_nil) (fun _ _ _ _ _ _=>(pe_cmpR op_inS (pv 0) (T.k_LETTERS.pe (by rfl)) rfl))) pa_nil))))))
theorem cal_is_name (T:Txt K mg):Cal P w K mg base 1 "is_name" ["name"] (sp_is_name K):=T.f_is_name.cal sc_is_name (spOf_len rfl) (fun f cdv A outer s H E hr=>pf_is_name T hr) rk_is_name
theorem pf_check_new_name (T:Txt K mg) {f:Addr}{cdv:Value}{A:Around}{outer:List Env}{s:Shared}{H:Hp}{E:XK} (hr:Room 1 (A.deeper (PyProof.Rows.envOfC "check_new_name" (defScope s_check_new_name) s.heap.objs.size f cdv))):
  PSs (cxOf CX0 P w K mg base ["name","names"] "check_new_name" (defScope s_check_new_name) f cdv A outer s H E).nox (defBody s_check_new_name) (rd_check_new_name K):=
 (pss_cons (ps_if (pt_not (pt_val (pe_cal (cal_is_name T) (hr.mono (by decide)) (pa_cons (pv 0) pa_nil)))) (pss_one ps_dead) pss_nil)
   (pss_one (ps_if (pt_cmp (pc_din (hu_of hr) (pv 0) (pv 1))) (pss_one ps_dead) pss_nil)))
theorem cal_check_new_name (T:Txt K mg):Cal P w K mg base 2 "check_new_name" ["name","names"] (sp_check_new_name K):=T.f_check_new_name.cal sc_check_new_name (spOf_len rfl) (fun f cdv A outer s H E hr=>pf_check_new_name T hr) rk_check_new_name
theorem pf_check_place (T:Txt K mg) {f:Addr}{cdv:Value}{A:Around}{outer:List Env}{s:Shared}{H:Hp}{E:XK} (hr:Room 0 (A.deeper (PyProof.Rows.envOfC "check_place" (defScope s_check_place) s.heap.objs.size f cdv))):
  PSs (cxOf CX0 P w K mg base ["names","most"] "check_place" (defScope s_check_place) f cdv A outer s H E).nox (defBody s_check_place) (rd_check_place K):=
 (pss_one (ps_if (pt_cmpR op_geI (pe_callB call_lenDk (by rfl) T.z_len PySem.boot_len (pa_cons (pv 0) pa_nil)) (pv 1) (nomark _)) (pss_one ps_dead) pss_nil))
theorem cal_check_place (T:Txt K mg):Cal P w K mg base 1 "check_place" ["names","most"] (sp_check_place K):=T.f_check_place.cal sc_check_place (spOf_len rfl) (fun f cdv A outer s H E hr=>pf_check_place T hr) rk_check_place
theorem pf_Chest_enrol (T:Txt K mg) {f:Addr}{cdv:Value}{A:Around}{outer:List Env}{s:Shared}{H:Hp}{E:XK} (hr:Room 2 (A.deeper (PyProof.Rows.envOfC "Chest.enrol" (defScope s_Chest_enrol) s.heap.objs.size f cdv))):
  PSs (cxOf CX0 P w K mg base ["self","name"] "Chest.enrol" (defScope s_Chest_enrol) f cdv A outer s H E).nox (defBody s_Chest_enrol) (rd_Chest_enrol K):=
 (pss_cons (ps_expr (pe_cal (cal_check_new_name T) (hr.mono (by decide)) (pa_cons (pv 1) (pa_cons (pe_fld (pv 0) rfl) pa_nil))))
   (pss_cons (ps_expr (pe_cal (cal_check_place T) (hr.mono (by decide)) (pa_cons (pe_fld (pv 0) rfl) (pa_cons (T.k_MOST_VOTERS.pe (by rfl)) pa_nil))))
   (pss_one (ps_dput (hu_of hr) (pe_fld (pv 0) rfl) (pv 1) pe_int rfl))))
theorem mal_Chest_enrol (T:Txt K mg):CalM CX0 P w K mg base 3 "Chest" "enrol" ["self","name"] (sp_Chest_enrol K):=T.m_Chest_enrol.cal sc_Chest_enrol (spOf_len rfl) (fun f cdv A outer s H E hr=>pf_Chest_enrol T hr) (rk_Chest_enrol T.cls)
theorem pf_check_coins (T:Txt K mg) {f:Addr}{cdv:Value}{A:Around}{outer:List Env}{s:Shared}{H:Hp}{E:XK} (hr:Room 0 (A.deeper (PyProof.Rows.envOfC "check_coins" (defScope s_check_coins) s.heap.objs.size f cdv))):
  PSs (cxOf CX0 P w K mg base ["coins","least"] "check_coins" (defScope s_check_coins) f cdv A outer s H E).nox (defBody s_check_coins) (rd_check_coins K):=
 (pss_one (ps_if (PW.pt (pw_or (pt_cmpR op_ltI (pv 0) (pv 1) (nomark _)) (pw_or1 (pt_cmpR op_gtI (pv 0) (T.k_MOST_AT_ONCE.pe (by rfl)) (nomark _))))) (pss_one ps_dead) pss_nil))
theorem cal_check_coins (T:Txt K mg):Cal P w K mg base 1 "check_coins" ["coins","least"] (sp_check_coins K):=T.f_check_coins.cal sc_check_coins (spOf_len rfl) (fun f cdv A outer s H E hr=>pf_check_coins T hr) rk_check_coins
theorem pf_Chest_share (T:Txt K mg) {f:Addr}{cdv:Value}{A:Around}{outer:List Env}{s:Shared}{H:Hp}{E:XK} (hr:Room 0 (A.deeper (PyProof.Rows.envOfC "Chest.share" (defScope s_Chest_share) s.heap.objs.size f cdv))):
  PSs (cxOf CX0 P w K mg base ["self","part"] "Chest.share" (defScope s_Chest_share) f cdv A outer s H E).nox (defBody s_Chest_share) (rd_Chest_share K):=
 (pss_cons (ps_fldaug (pv 0) (pe_op op_mulI (pv 1) (pe_callB call_lenDk (by rfl) T.z_len PySem.boot_len (pa_cons (pe_fld (pv 0) rfl) pa_nil))) in_sub)
   (pss_one (ps_fld (pv 0) (pe_callTy (call_dictL rfl) (by rfl) T.z_dict (by decide +kernel) (pa_cons (pe_thaw (pe_comp (N:=["voter","purse","part"]) (mp:=[none,none,some 1]) rfl ⟨rfl,by decide +kernel,by rfl,rfl,by rfl⟩ (pi_items (pe_fld (pv 0) rfl)) (fun _ _ _ _ _ _=>(pg_tup rfl (pgs_cons (pg_name (i:=0) (by show List.Nodup (["voter","purse","part"]:List Str);decide +kernel) rfl (Or.inl rfl)) (pgs_cons (pg_name (i:=1) (by show List.Nodup (["voter","purse","part"]:List Str);decide +kernel) rfl (Or.inl rfl)) pgs_nil)))) (fun _ _ _ _ _ _=>pifs_nil) (fun _ _ _ _ _ _=>(pe_tup (pa_cons (pv 0) (pa_cons (pe_op op_addI (pv 1) (pv 2)) pa_nil)))))) pa_nil)) rfl)))
theorem mal_Chest_share (T:Txt K mg):CalM CX0 P w K mg base 1 "Chest" "share" ["self","part"] (sp_Chest_share K):=T.m_Chest_share.cal sc_Chest_share (spOf_len rfl) (fun f cdv A outer s H E hr=>pf_Chest_share T hr) (rk_Chest_share T.cls)
theorem pf_Chest_give (T:Txt K mg) {f:Addr}{cdv:Value}{A:Around}{outer:List Env}{s:Shared}{H:Hp}{E:XK} (hr:Room 1 (A.deeper (PyProof.Rows.envOfC "Chest.give" (defScope s_Chest_give) s.heap.objs.size f cdv))):
  PSs (cxOf CX0 P w K mg base ["self","coins"] "Chest.give" (defScope s_Chest_give) f cdv A outer s H E).nox (defBody s_Chest_give) (rd_Chest_give K):=
 (pss_cons (ps_expr (pe_cal (cal_check_coins T) (hr.mono (by decide)) (pa_cons (pv 1) (pa_cons pe_int pa_nil))))
   (pss_cons (ps_fldaug (pv 0) (pv 1) in_add)
   (pss_cons (ps_fldaug (pv 0) (pv 1) in_add)
   (pss_one (ps_if (pt_dct (pe_fld (pv 0) rfl)) (pss_one (ps_expr (pe_mcal (mal_Chest_share T) T.c_Chest (hr.mono (by decide)) (pv 0) (pa_cons (pe_op op_divI (pe_fld (pv 0) rfl) (pe_callB call_lenDk (by rfl) T.z_len PySem.boot_len (pa_cons (pe_fld (pv 0) rfl) pa_nil))) pa_nil)))) pss_nil)))))
theorem mal_Chest_give (T:Txt K mg):CalM CX0 P w K mg base 2 "Chest" "give" ["self","coins"] (sp_Chest_give K):=T.m_Chest_give.cal sc_Chest_give (spOf_len rfl) (fun f cdv A outer s H E hr=>pf_Chest_give T hr) (rk_Chest_give T.cls)
theorem pf__law_name (T:Txt K mg) {f:Addr}{cdv:Value}{A:Around}{outer:List Env}{s:Shared}{H:Hp}{E:XK} (hr:Room 1 (A.deeper (PyProof.Rows.envOfC "_law_name" (defScope s__law_name) s.heap.objs.size f cdv))):
  PSs (cxOf CX0 P w K mg base ["cell","k","letters","xs","word","at"] "_law_name" (defScope s__law_name) f cdv A outer s H E).nox (defBody s__law_name) (rd__law_name K):=
 (pss_cons (ps_set (i:=2) sc__law_name.nd rfl (Or.inr rfl) pe_str)
   (pss_cons (ps_set (i:=3) sc__law_name.nd rfl (Or.inl rfl) (pe_cal (cal__law_spins T) (hr.mono (by decide)) (pa_cons (pv 0) (pa_cons pe_int pa_nil))))
   (pss_cons (ps_set (i:=4) sc__law_name.nd rfl (Or.inl rfl) (pe_bm PySem.F.plainAttrs_str PySem.F.slot_str_join PySem.F.type_str_join mt_join pe_str (pa_cons (pe_comp (N:=["x","letters"]) (mp:=[none,some 2]) rfl ⟨rfl,by decide +kernel,by rfl,rfl,by rfl⟩ (pi_list (pe_slice sl_list (pv 3) po_none (po_some pe_int))) (fun _ _ _ _ _ _=>(pg_name (i:=0) (by show List.Nodup (["x","letters"]:List Str);decide +kernel) rfl (Or.inl rfl))) (fun _ _ _ _ _ _=>pifs_nil) (fun _ _ _ _ _ _=>(pe_ix ix_str (pv 1) (pe_op op_modI (pv 0) pe_int) (fun _ _=>rfl)))) pa_nil)))
   (pss_cons (ps_if (pt_cmpR op_eq (pe_op op_modI (pe_ix ix_list (pv 3) pe_int (fun _ _=>rfl)) pe_int) pe_int (nomark _)) (pss_one (ps_ret (pe_op op_addS (pe_ix ix_str (pv 2) (pe_op op_modI (pe_op op_addI (pe_ix ix_list (pv 3) pe_int (fun _ _=>rfl)) (pe_op op_divI (pv 1) pe_int)) pe_int) (fun _ _=>rfl)) (pe_slice sl_str (pv 4) po_none (po_some (pe_op op_modI (pv 1) pe_int)))))) pss_nil)
   (pss_cons (ps_if (pt_cmpR op_eq (pe_op op_modI (pe_ix ix_list (pv 3) pe_int (fun _ _=>rfl)) pe_int) pe_int (nomark _)) (pss_one (ps_ret (pe_op op_addS (pe_slice sl_str (pv 4) (po_some (pe_op op_subI pe_int (pe_op op_modI (pv 1) pe_int))) po_none) (pe_ix ix_str (pv 2) (pe_op op_modI (pe_op op_addI (pe_ix ix_list (pv 3) pe_int (fun _ _=>rfl)) (pe_op op_divI (pv 1) pe_int)) pe_int) (fun _ _=>rfl))))) pss_nil)
   (pss_cons (ps_set (i:=4) sc__law_name.nd rfl (Or.inl rfl) (pe_slice sl_str (pv 4) po_none (po_some (pe_op op_modI (pe_op op_divI (pe_ix ix_list (pv 3) pe_int (fun _ _=>rfl)) pe_int) pe_int))))
   (pss_cons (ps_set (i:=5) sc__law_name.nd rfl (Or.inl rfl) (pe_op op_modI (pe_op op_divI (pe_ix ix_list (pv 3) pe_int (fun _ _=>rfl)) pe_int) (pe_op op_addI (pe_callB call_lenT (by rfl) T.z_len PySem.boot_len (pa_cons (pv 4) pa_nil)) pe_int)))
   (pss_one (ps_ret (pe_op op_addS (pe_op op_addS (pe_slice sl_str (pv 4) po_none (po_some (pv 5))) (pe_ix ix_str (pv 2) (pe_op op_modI (pe_op op_addI (pe_ix ix_list (pv 3) pe_int (fun _ _=>rfl)) (pv 1)) pe_int) (fun _ _=>rfl))) (pe_slice sl_str (pv 4) (po_some (pv 5)) po_none)))))))))))
theorem cal__law_name (T:Txt K mg):Cal P w K mg base 2 "_law_name" ["cell","k"] (sp__law_name K):=T.f__law_name.cal sc__law_name (spOf_len rfl) (fun f cdv A outer s H E hr=>pf__law_name T hr) rk__law_name
theorem pf__law_coins (T:Txt K mg) {f:Addr}{cdv:Value}{A:Around}{outer:List Env}{s:Shared}{H:Hp}{E:XK} (hr:Room 0 (A.deeper (PyProof.Rows.envOfC "_law_coins" (defScope s__law_coins) s.heap.objs.size f cdv))):
  PSs (cxOf CX0 P w K mg base ["x","kind"] "_law_coins" (defScope s__law_coins) f cdv A outer s H E).nox (defBody s__law_coins) (rd__law_coins K):=
 (pss_cons (ps_if (PW.pt (pw_or (pt_cmpR op_eq (pv 1) pe_int (nomark _)) (pw_or1 (pt_cmpR op_eq (pe_op op_modI (pv 0) pe_int) pe_int (nomark _))))) (pss_one (ps_ret (pe_op op_modI (pe_op op_divI (pv 0) pe_int) pe_int))) pss_nil)
   (pss_cons (ps_if (pt_cmpR op_eq (pe_op op_modI (pv 0) pe_int) pe_int (nomark _)) (pss_one (ps_ret (pe_ix ix_list (pe_lst (pa_cons pe_int (pa_cons pe_int (pa_cons (pe_op op_powI pe_int pe_int) (pa_cons (pe_op op_subI (pe_op op_powI pe_int pe_int) pe_int) pa_nil))))) (pe_op op_modI (pe_op op_divI (pv 0) pe_int) pe_int) (fun _ _=>rfl)))) pss_nil)
   (pss_one (ps_ret (pe_op op_modI (pe_op op_mulI (pv 0) pe_int) (pe_op op_addI (pe_op op_powI pe_int pe_int) pe_int))))))
theorem cal__law_coins (T:Txt K mg):Cal P w K mg base 1 "_law_coins" ["x","kind"] (sp__law_coins K):=T.f__law_coins.cal sc__law_coins (spOf_len rfl) (fun f cdv A outer s H E hr=>pf__law_coins T hr) rk__law_coins
theorem pf__law_people (T:Txt K mg) {f:Addr}{cdv:Value}{A:Around}{outer:List Env}{s:Shared}{H:Hp}{E:XK} (hr:Room 3 (A.deeper (PyProof.Rows.envOfC "_law_people" (defScope s__law_people) s.heap.objs.size f cdv))):
  PSs (cxOf CX0 P w K mg base ["chest","cell","many","kind","k"] "_law_people" (defScope s__law_people) f cdv A outer s H E).nox (defBody s__law_people) (rd__law_people K):=
 (pss_one (ps_for PassesOwn.never rfl (pi_range1 (by rfl) T.z_range (pa_cons (pv 2) pa_nil)) (pg_name (i:=4) sc__law_people.nd rfl (Or.inl rfl)) (pss_cons (ps_expr (pe_mcal (mal_Chest_enrol T) T.c_Chest (hr.mono (by decide)) (pv 0) (pa_cons (pe_cal (cal__law_name T) (hr.mono (by decide)) (pa_cons (pv 1) (pa_cons (pv 4) pa_nil))) pa_nil)))
   (pss_one (ps_expr (pe_mcal (mal_Chest_give T) T.c_Chest (hr.mono (by decide)) (pv 0) (pa_cons (pe_cal (cal__law_coins T) (hr.mono (by decide)) (pa_cons (pe_ix ix_list (pe_cal (cal__law_spins T) (hr.mono (by decide)) (pa_cons (pe_op op_addI (pv 1) pe_int) (pa_cons (pv 2) pa_nil))) (pv 4) (fun _ _=>rfl)) (pa_cons (pv 3) pa_nil))) pa_nil)))))))
theorem cal__law_people (T:Txt K mg):Cal P w K mg base 4 "_law_people" ["chest","cell","many","kind"] (sp__law_people K):=T.f__law_people.cal sc__law_people (spOf_len rfl) (fun f cdv A outer s H E hr=>pf__law_people T hr) rk__law_people
theorem pf_Chest_given (T:Txt K mg) {f:Addr}{cdv:Value}{A:Around}{outer:List Env}{s:Shared}{H:Hp}{E:XK} (hr:Room 0 (A.deeper (PyProof.Rows.envOfC "Chest.given" (defScope s_Chest_given) s.heap.objs.size f cdv))):
  PSs (cxOf CX0 P w K mg base ["self"] "Chest.given" (defScope s_Chest_given) f cdv A outer s H E).nox (defBody s_Chest_given) (rd_Chest_given K):=
 (pss_one (ps_ret (pe_fld (pv 0) rfl)))
theorem mal_Chest_given (T:Txt K mg):CalM CX0 P w K mg base 1 "Chest" "given" ["self"] (sp_Chest_given K):=T.m_Chest_given.cal sc_Chest_given (spOf_len rfl) (fun f cdv A outer s H E hr=>pf_Chest_given T hr) (rk_Chest_given T.cls)
theorem pf_Chest_propose (T:Txt K mg) {f:Addr}{cdv:Value}{A:Around}{outer:List Env}{s:Shared}{H:Hp}{E:XK} (hr:Room 2 (A.deeper (PyProof.Rows.envOfC "Chest.propose" (defScope s_Chest_propose) s.heap.objs.size f cdv))):
  PSs (cxOf CX0 P w K mg base ["self","work","cost"] "Chest.propose" (defScope s_Chest_propose) f cdv A outer s H E).nox (defBody s_Chest_propose) (rd_Chest_propose K):=
 (pss_cons (ps_expr (pe_cal (cal_check_new_name T) (hr.mono (by decide)) (pa_cons (pv 1) (pa_cons (pe_fld (pv 0) rfl) pa_nil))))
   (pss_cons (ps_expr (pe_cal (cal_check_coins T) (hr.mono (by decide)) (pa_cons (pv 2) (pa_cons pe_int pa_nil))))
   (pss_cons (ps_expr (pe_cal (cal_check_place T) (hr.mono (by decide)) (pa_cons (pe_fld (pv 0) rfl) (pa_cons (T.k_MOST_WORKS.pe (by rfl)) pa_nil))))
   (pss_one (ps_dput (hu_of hr) (pe_fld (pv 0) rfl) (pv 1) (pv 2) rfl)))))
theorem mal_Chest_propose (T:Txt K mg):CalM CX0 P w K mg base 3 "Chest" "propose" ["self","work","cost"] (sp_Chest_propose K):=T.m_Chest_propose.cal sc_Chest_propose (spOf_len rfl) (fun f cdv A outer s H E hr=>pf_Chest_propose T hr) (rk_Chest_propose T.cls)
theorem pf__law_plans (T:Txt K mg) {f:Addr}{cdv:Value}{A:Around}{outer:List Env}{s:Shared}{H:Hp}{E:XK} (hr:Room 3 (A.deeper (PyProof.Rows.envOfC "_law_plans" (defScope s__law_plans) s.heap.objs.size f cdv))):
  PSs (cxOf CX0 P w K mg base ["chest","cell","many","kind","coins","xs","k","cost"] "_law_plans" (defScope s__law_plans) f cdv A outer s H E).nox (defBody s__law_plans) (rd__law_plans K):=
 (pss_cons (ps_set (i:=4) sc__law_plans.nd rfl (Or.inl rfl) (pe_mcal0 (mal_Chest_given T) T.c_Chest (hr.mono (by decide)) (pv 0)))
   (pss_cons (ps_set (i:=5) sc__law_plans.nd rfl (Or.inl rfl) (pe_cal (cal__law_spins T) (hr.mono (by decide)) (pa_cons (pv 1) (pa_cons (pe_op op_mulI pe_int (pv 2)) pa_nil))))
   (pss_one (ps_for PassesOwn.never rfl (pi_range1 (by rfl) T.z_range (pa_cons (pv 2) pa_nil)) (pg_name (i:=6) sc__law_plans.nd rfl (Or.inl rfl)) (pss_cons (ps_set (i:=7) sc__law_plans.nd rfl (Or.inl rfl) (pe_op op_addI pe_int (pe_op op_modI (pe_cal (cal__law_coins T) (hr.mono (by decide)) (pa_cons (pe_ix ix_list (pv 5) (pe_op op_mulI pe_int (pv 6)) (fun _ _=>rfl)) (pa_cons (pv 3) pa_nil))) (pe_op op_powI pe_int pe_int))))
   (pss_cons (ps_if (pt_cmpR op_gtI (pe_op op_modI (pe_ix ix_list (pv 5) (pe_op op_addI (pe_op op_mulI pe_int (pv 6)) pe_int) (fun _ _=>rfl)) pe_int) pe_int (nomark _)) (pss_one (ps_set (i:=7) sc__law_plans.nd rfl (Or.inl rfl) (pe_op op_addI pe_int (pe_op op_modI (pe_op op_divI (pe_op op_mulI (pv 4) (pe_op op_modI (pe_op op_divI (pe_ix ix_list (pv 5) (pe_op op_addI (pe_op op_mulI pe_int (pv 6)) pe_int) (fun _ _=>rfl)) pe_int) pe_int)) pe_int) (pe_op op_powI pe_int pe_int))))) pss_nil)
   (pss_one (ps_expr (pe_mcal (mal_Chest_propose T) T.c_Chest (hr.mono (by decide)) (pv 0) (pa_cons (pe_cal (cal__law_name T) (hr.mono (by decide)) (pa_cons (pe_op op_divI (pv 1) pe_int) (pa_cons (pv 6) pa_nil))) (pa_cons (pv 7) pa_nil)))))))))))
theorem cal__law_plans (T:Txt K mg):Cal P w K mg base 4 "_law_plans" ["chest","cell","many","kind"] (sp__law_plans K):=T.f__law_plans.cal sc__law_plans (spOf_len rfl) (fun f cdv A outer s H E hr=>pf__law_plans T hr) rk__law_plans
theorem pf_Chest_voters (T:Txt K mg) {f:Addr}{cdv:Value}{A:Around}{outer:List Env}{s:Shared}{H:Hp}{E:XK} (hr:Room 0 (A.deeper (PyProof.Rows.envOfC "Chest.voters" (defScope s_Chest_voters) s.heap.objs.size f cdv))):
  PSs (cxOf CX0 P w K mg base ["self"] "Chest.voters" (defScope s_Chest_voters) f cdv A outer s H E).nox (defBody s_Chest_voters) (rd_Chest_voters K):=
 (pss_one (ps_ret (pe_callTy (call_listV rfl) (by rfl) T.z_list PyProof.Rows.boot_list (pa_cons (pe_bm0 PySem.F.plainAttrs_dict PySem.F.slot_dict_items PySem.F.type_dict_items mt_items (pe_fld (pv 0) rfl)) pa_nil))))
theorem mal_Chest_voters (T:Txt K mg):CalM CX0 P w K mg base 1 "Chest" "voters" ["self"] (sp_Chest_voters K):=T.m_Chest_voters.cal sc_Chest_voters (spOf_len rfl) (fun f cdv A outer s H E hr=>pf_Chest_voters T hr) (rk_Chest_voters T.cls)
theorem pf_Chest_wanters (T:Txt K mg) {f:Addr}{cdv:Value}{A:Around}{outer:List Env}{s:Shared}{H:Hp}{E:XK} (hr:Room 0 (A.deeper (PyProof.Rows.envOfC "Chest.wanters" (defScope s_Chest_wanters) s.heap.objs.size f cdv))):
  PSs (cxOf CX0 P w K mg base ["self","work"] "Chest.wanters" (defScope s_Chest_wanters) f cdv A outer s H E).nox (defBody s_Chest_wanters) (rd_Chest_wanters K):=
 (pss_one (ps_ret (pe_thaw (pe_comp (N:=["voter","work","self"]) (mp:=[none,some 1,some 0]) rfl ⟨rfl,by decide +kernel,by rfl,rfl,by rfl⟩ (pi_keys (pe_fld (pv 0) rfl)) (fun _ _ _ _ _ _=>(pg_name (i:=0) (by show List.Nodup (["voter","work","self"]:List Str);decide +kernel) rfl (Or.inl rfl))) (fun _ _ _ _ _ _=>(pifs_one (pt_cmpR (op_inD hr.units) (pe_tup (pa_cons (pv 0) (pa_cons (pv 1) pa_nil))) (pe_fld (pv 2) rfl) rfl))) (fun _ _ _ _ _ _=>(pv 0))))))
theorem mal_Chest_wanters (T:Txt K mg):CalM CX0 P w K mg base 1 "Chest" "wanters" ["self","work"] (sp_Chest_wanters K):=T.m_Chest_wanters.cal sc_Chest_wanters (spOf_len rfl) (fun f cdv A outer s H E hr=>pf_Chest_wanters T hr) (rk_Chest_wanters T.cls)
theorem pf_Chest_works (T:Txt K mg) {f:Addr}{cdv:Value}{A:Around}{outer:List Env}{s:Shared}{H:Hp}{E:XK} (hr:Room 1 (A.deeper (PyProof.Rows.envOfC "Chest.works" (defScope s_Chest_works) s.heap.objs.size f cdv))):
  PSs (cxOf CX0 P w K mg base ["self"] "Chest.works" (defScope s_Chest_works) f cdv A outer s H E).nox (defBody s_Chest_works) (rd_Chest_works K):=
 (pss_one (ps_ret (pe_thaw (pe_comp (N:=["work","cost","self"]) (mp:=[none,none,some 0]) rfl ⟨rfl,by decide +kernel,by rfl,rfl,by rfl⟩ (pi_items (pe_fld (pv 0) rfl)) (fun _ _ _ _ _ _=>(pg_tup rfl (pgs_cons (pg_name (i:=0) (by show List.Nodup (["work","cost","self"]:List Str);decide +kernel) rfl (Or.inl rfl)) (pgs_cons (pg_name (i:=1) (by show List.Nodup (["work","cost","self"]:List Str);decide +kernel) rfl (Or.inl rfl)) pgs_nil)))) (fun _ _ _ _ _ _=>pifs_nil) (fun _ _ _ _ _ _=>(pe_tup (pa_cons (pv 0) (pa_cons (pv 1) (pa_cons (pe_mcal (mal_Chest_wanters T) T.c_Chest (hr.mono (by decide)) (pv 2) (pa_cons (pv 0) pa_nil)) pa_nil)))))))))
theorem mal_Chest_works (T:Txt K mg):CalM CX0 P w K mg base 2 "Chest" "works" ["self"] (sp_Chest_works K):=T.m_Chest_works.cal sc_Chest_works (spOf_len rfl) (fun f cdv A outer s H E hr=>pf_Chest_works T hr) (rk_Chest_works T.cls)
theorem pf_Chest_check_voter (T:Txt K mg) {f:Addr}{cdv:Value}{A:Around}{outer:List Env}{s:Shared}{H:Hp}{E:XK} (hr:Room 0 (A.deeper (PyProof.Rows.envOfC "Chest.check_voter" (defScope s_Chest_check_voter) s.heap.objs.size f cdv))):
  PSs (cxOf CX0 P w K mg base ["self","voter"] "Chest.check_voter" (defScope s_Chest_check_voter) f cdv A outer s H E).nox (defBody s_Chest_check_voter) (rd_Chest_check_voter K):=
 (pss_one (ps_if (pt_cmp (pc_dnotin (hu_of hr) (pv 1) (pe_fld (pv 0) rfl))) (pss_one ps_dead) pss_nil))
theorem mal_Chest_check_voter (T:Txt K mg):CalM CX0 P w K mg base 1 "Chest" "check_voter" ["self","voter"] (sp_Chest_check_voter K):=T.m_Chest_check_voter.cal sc_Chest_check_voter (spOf_len rfl) (fun f cdv A outer s H E hr=>pf_Chest_check_voter T hr) (rk_Chest_check_voter T.cls)
theorem pf_Chest_check_work (T:Txt K mg) {f:Addr}{cdv:Value}{A:Around}{outer:List Env}{s:Shared}{H:Hp}{E:XK} (hr:Room 0 (A.deeper (PyProof.Rows.envOfC "Chest.check_work" (defScope s_Chest_check_work) s.heap.objs.size f cdv))):
  PSs (cxOf CX0 P w K mg base ["self","work"] "Chest.check_work" (defScope s_Chest_check_work) f cdv A outer s H E).nox (defBody s_Chest_check_work) (rd_Chest_check_work K):=
 (pss_one (ps_if (pt_cmp (pc_dnotin (hu_of hr) (pv 1) (pe_fld (pv 0) rfl))) (pss_one ps_dead) pss_nil))
theorem mal_Chest_check_work (T:Txt K mg):CalM CX0 P w K mg base 1 "Chest" "check_work" ["self","work"] (sp_Chest_check_work K):=T.m_Chest_check_work.cal sc_Chest_check_work (spOf_len rfl) (fun f cdv A outer s H E hr=>pf_Chest_check_work T hr) (rk_Chest_check_work T.cls)
theorem pf_Chest_want (T:Txt K mg) {f:Addr}{cdv:Value}{A:Around}{outer:List Env}{s:Shared}{H:Hp}{E:XK} (hr:Room 1 (A.deeper (PyProof.Rows.envOfC "Chest.want" (defScope s_Chest_want) s.heap.objs.size f cdv))):
  PSs (cxOf CX0 P w K mg base ["self","voter","work"] "Chest.want" (defScope s_Chest_want) f cdv A outer s H E).nox (defBody s_Chest_want) (rd_Chest_want K):=
 (pss_cons (ps_expr (pe_mcal (mal_Chest_check_voter T) T.c_Chest (hr.mono (by decide)) (pv 0) (pa_cons (pv 1) pa_nil)))
   (pss_cons (ps_expr (pe_mcal (mal_Chest_check_work T) T.c_Chest (hr.mono (by decide)) (pv 0) (pa_cons (pv 2) pa_nil)))
   (pss_one (ps_if (pt_cmpR (op_ninD hr.units) (pe_tup (pa_cons (pv 1) (pa_cons (pv 2) pa_nil))) (pe_fld (pv 0) rfl) rfl) (pss_one (ps_expr (pe_bm PySem.F.plainAttrs_list PySem.F.slot_list_append PySem.F.type_list_append mt_append (pe_fld (pv 0) rfl) (pa_cons (pe_tup (pa_cons (pv 1) (pa_cons (pv 2) pa_nil))) pa_nil)))) pss_nil))))
theorem mal_Chest_want (T:Txt K mg):CalM CX0 P w K mg base 2 "Chest" "want" ["self","voter","work"] (sp_Chest_want K):=T.m_Chest_want.cal sc_Chest_want (spOf_len rfl) (fun f cdv A outer s H E hr=>pf_Chest_want T hr) (rk_Chest_want T.cls)
theorem pf__law_wishes (T:Txt K mg) {f:Addr}{cdv:Value}{A:Around}{outer:List Env}{s:Shared}{H:Hp}{E:XK} (hr:Room 2 (A.deeper (PyProof.Rows.envOfC "_law_wishes" (defScope s__law_wishes) s.heap.objs.size f cdv))):
  PSs (cxOf CX0 P w K mg base ["chest","cells","people","plans","wishes","cell","xs","at","work"] "_law_wishes" (defScope s__law_wishes) f cdv A outer s H E).nox (defBody s__law_wishes) (rd__law_wishes K):=
 (pss_cons (ps_setC (i:=2) (N:=["row"]) (mp:=[none]) sc__law_wishes.nd rfl (Or.inl rfl) rfl ⟨rfl,by decide +kernel,by rfl,rfl,by rfl⟩ (pi_list (pe_mcal0 (mal_Chest_voters T) T.c_Chest (hr.mono (by decide)) (pv 0))) (fun _ _ _ _ _ _=>(pg_name (i:=0) (by show List.Nodup (["row"]:List Str);decide +kernel) rfl (Or.inl rfl))) (fun _ _ _ _ _ _=>pifs_nil) (fun _ _ _ _ _ _=>(pe_ix ix_tup (pv 0) pe_int (fun _ _=>rfl))) (by with_unfolding_all rfl))
   (pss_cons (ps_setC (i:=3) (N:=["row"]) (mp:=[none]) sc__law_wishes.nd rfl (Or.inl rfl) rfl ⟨rfl,by decide +kernel,by rfl,rfl,by rfl⟩ (pi_list (pe_mcal0 (mal_Chest_works T) T.c_Chest (hr.mono (by decide)) (pv 0))) (fun _ _ _ _ _ _=>(pg_name (i:=0) (by show List.Nodup (["row"]:List Str);decide +kernel) rfl (Or.inl rfl))) (fun _ _ _ _ _ _=>pifs_nil) (fun _ _ _ _ _ _=>(pe_ix ix_tup (pv 0) pe_int (fun _ _=>rfl))) (by with_unfolding_all rfl))
   (pss_cons (ps_setC (i:=4) (N:=["name"]) (mp:=[none]) sc__law_wishes.nd rfl (Or.inl rfl) rfl ⟨rfl,by decide +kernel,by rfl,rfl,by rfl⟩ (pi_list (pv 2)) (fun _ _ _ _ _ _=>(pg_name (i:=0) (by show List.Nodup (["name"]:List Str);decide +kernel) rfl (Or.inl rfl))) (fun _ _ _ _ _ _=>pifs_nil) (fun _ _ _ _ _ _=>(pe_lst pa_nil)) (by with_unfolding_all rfl))
   (pss_cons (ps_for PassesOwn.never rfl (pi_list (pv 1)) (pg_name (i:=5) sc__law_wishes.nd rfl (Or.inl rfl)) (pss_cons (ps_set (i:=6) sc__law_wishes.nd rfl (Or.inl rfl) (pe_cal (cal__law_spins T) (hr.mono (by decide)) (pa_cons (pv 5) (pa_cons pe_int pa_nil))))
   (pss_one (ps_if (PW.pt (pw_and (pt_cmpR (op_ne_data hr.units) (pv 2) (pe_lst pa_nil) (nomark _)) (pw_and1 (pt_cmpR (op_ne_data hr.units) (pv 3) (pe_lst pa_nil) (nomark _))))) (pss_cons (ps_set (i:=7) sc__law_wishes.nd rfl (Or.inl rfl) (pe_op op_modI (pe_ix ix_list (pv 6) pe_int (fun _ _=>rfl)) (pe_callB call_len_seq (by rfl) T.z_len PySem.boot_len (pa_cons (pv 2) pa_nil))))
   (pss_cons (ps_set (i:=8) sc__law_wishes.nd rfl (Or.inr rfl) (pe_op op_modI (pe_ix ix_list (pv 6) pe_int (fun _ _=>rfl)) (pe_callB call_len_seq (by rfl) T.z_len PySem.boot_len (pa_cons (pv 3) pa_nil))))
   (pss_cons (ps_expr (pe_mcal (mal_Chest_want T) T.c_Chest (hr.mono (by decide)) (pv 0) (pa_cons (pe_ix ix_list (pv 2) (pv 7) (fun _ _=>rfl)) (pa_cons (pe_ix ix_list (pv 3) (pv 8) (fun _ _=>rfl)) pa_nil))))
   (pss_one (ps_asg (pe_callB call_sorted (by rfl) T.z_sorted PyProof.Rows.boot_sorted (pa_cons (pe_op op_cat (pe_comp (N:=["one","work"]) (mp:=[none,some 8]) rfl ⟨rfl,by decide +kernel,by rfl,rfl,by rfl⟩ (pi_list (pe_ix ix_list (pv 4) (pv 7) (fun _ _=>rfl))) (fun _ _ _ _ _ _=>(pg_name (i:=0) (by show List.Nodup (["one","work"]:List Str);decide +kernel) rfl (Or.inl rfl))) (fun _ _ _ _ _ _=>(pifs_one (pt_cmpR op_ne (pv 0) (pv 1) (nomark _)))) (fun _ _ _ _ _ _=>(pv 0))) (pe_lst (pa_cons (pv 8) pa_nil))) pa_nil)) (pg_sub (pv 4) (pv 7) set_list)))))) pss_nil))))
   (pss_one (ps_ret (pv 4)))))))
theorem cal__law_wishes (T:Txt K mg):Cal P w K mg base 3 "_law_wishes" ["chest","cells"] (sp__law_wishes K):=T.f__law_wishes.cal sc__law_wishes (spOf_len rfl) (fun f cdv A outer s H E hr=>pf__law_wishes T hr) rk__law_wishes
theorem pf_Chest_pot (T:Txt K mg) {f:Addr}{cdv:Value}{A:Around}{outer:List Env}{s:Shared}{H:Hp}{E:XK} (hr:Room 0 (A.deeper (PyProof.Rows.envOfC "Chest.pot" (defScope s_Chest_pot) s.heap.objs.size f cdv))):
  PSs (cxOf CX0 P w K mg base ["self"] "Chest.pot" (defScope s_Chest_pot) f cdv A outer s H E).nox (defBody s_Chest_pot) (rd_Chest_pot K):=
 (pss_one (ps_ret (pe_fld (pv 0) rfl)))
theorem mal_Chest_pot (T:Txt K mg):CalM CX0 P w K mg base 1 "Chest" "pot" ["self"] (sp_Chest_pot K):=T.m_Chest_pot.cal sc_Chest_pot (spOf_len rfl) (fun f cdv A outer s H E hr=>pf_Chest_pot T hr) (rk_Chest_pot T.cls)
theorem pf_least_multiple (T:Txt K mg) {f:Addr}{cdv:Value}{A:Around}{outer:List Env}{s:Shared}{H:Hp}{E:XK} (hr:Room 0 (A.deeper (PyProof.Rows.envOfC "least_multiple" (defScope s_least_multiple) s.heap.objs.size f cdv))):
  PSs (cxOf CX0 P w K mg base ["step","number","multiple"] "least_multiple" (defScope s_least_multiple) f cdv A outer s H E).nox (defBody s_least_multiple) (rd_least_multiple K):=
 (pss_cons (ps_set (i:=2) sc_least_multiple.nd rfl (Or.inl rfl) (pv 0))
   (pss_cons (ps_while PassesOwn.never (pt_cmpR op_ne (pe_op op_modI (pv 2) (pv 1)) pe_int (nomark _)) (pss_one (ps_aug (i:=2) sc_least_multiple.nd rfl (Or.inl rfl) (pv 0) (ip_of iop_addI))))
   (pss_one (ps_ret (pv 2)))))
theorem cal_least_multiple (T:Txt K mg):Cal P w K mg base 1 "least_multiple" ["step","number"] (sp_least_multiple K):=T.f_least_multiple.cal sc_least_multiple (spOf_len rfl) (fun f cdv A outer s H E hr=>pf_least_multiple T hr) rk_least_multiple
theorem pf_together (T:Txt K mg) {f:Addr}{cdv:Value}{A:Around}{outer:List Env}{s:Shared}{H:Hp}{E:XK} (hr:Room 1 (A.deeper (PyProof.Rows.envOfC "together" (defScope s_together) s.heap.objs.size f cdv))):
  PSs (cxOf CX0 P w K mg base ["n","least","number"] "together" (defScope s_together) f cdv A outer s H E).nox (defBody s_together) (rd_together K):=
 (pss_cons (ps_set (i:=1) sc_together.nd rfl (Or.inl rfl) pe_int)
   (pss_cons (ps_for PassesOwn.never rfl (pi_range2 (by rfl) T.z_range (pa_cons pe_int (pa_cons (pe_op op_addI (pv 0) pe_int) pa_nil))) (pg_name (i:=2) sc_together.nd rfl (Or.inl rfl)) (pss_one (ps_set (i:=1) sc_together.nd rfl (Or.inl rfl) (pe_cal (cal_least_multiple T) (hr.mono (by decide)) (pa_cons (pv 1) (pa_cons (pv 2) pa_nil))))))
   (pss_one (ps_ret (pv 1)))))
theorem cal_together (T:Txt K mg):Cal P w K mg base 2 "together" ["n"] (sp_together K):=T.f_together.cal sc_together (spOf_len rfl) (fun f cdv A outer s H E hr=>pf_together T hr) rk_together
theorem pf_grains_of (T:Txt K mg) {f:Addr}{cdv:Value}{A:Around}{outer:List Env}{s:Shared}{H:Hp}{E:XK} (hr:Room 2 (A.deeper (PyProof.Rows.envOfC "grains_of" (defScope s_grains_of) s.heap.objs.size f cdv))):
  PSs (cxOf CX0 P w K mg base ["voters","works","factor","grains","work"] "grains_of" (defScope s_grains_of) f cdv A outer s H E).nox (defBody s_grains_of) (rd_grains_of K):=
 (pss_cons (ps_set (i:=2) sc_grains_of.nd rfl (Or.inl rfl) (pe_cal (cal_together T) (hr.mono (by decide)) (pa_cons (pv 0) pa_nil)))
   (pss_cons (ps_set (i:=3) sc_grains_of.nd rfl (Or.inl rfl) (pv 2))
   (pss_cons (ps_for PassesOwn.never rfl (pi_range1 (by rfl) T.z_range (pa_cons (pv 1) pa_nil)) (pg_name (i:=4) sc_grains_of.nd rfl (Or.inl rfl)) (pss_one (ps_aug (i:=3) sc_grains_of.nd rfl (Or.inl rfl) (pv 2) (ip_of iop_mulI))))
   (pss_one (ps_ret (pv 3))))))
theorem cal_grains_of (T:Txt K mg):Cal P w K mg base 3 "grains_of" ["voters","works"] (sp_grains_of K):=T.f_grains_of.cal sc_grains_of (spOf_len rfl) (fun f cdv A outer s H E hr=>pf_grains_of T hr) rk_grains_of
theorem pf_paid_by (T:Txt K mg) {f:Addr}{cdv:Value}{A:Around}{outer:List Env}{s:Shared}{H:Hp}{E:XK} (hr:Room 0 (A.deeper (PyProof.Rows.envOfC "paid_by" (defScope s_paid_by) s.heap.objs.size f cdv))):
  PSs (cxOf CX0 P w K mg base ["steps","voter"] "paid_by" (defScope s_paid_by) f cdv A outer s H E).nox (defBody s_paid_by) (rd_paid_by K):=
 (pss_one (ps_ret (pe_callB (call_sum rfl) (by rfl) T.z_sum PyProof.Rows.boot_sum (pa_cons (pe_comp (N:=["work","level","paid","voter"]) (mp:=[none,none,none,some 1]) rfl ⟨rfl,by decide +kernel,by rfl,rfl,by rfl⟩ (pi_list (pv 0)) (fun _ _ _ _ _ _=>(pg_tup rfl (pgs_cons (pg_name (i:=0) (by show List.Nodup (["work","level","paid","voter"]:List Str);decide +kernel) rfl (Or.inl rfl)) (pgs_cons (pg_name (i:=1) (by show List.Nodup (["work","level","paid","voter"]:List Str);decide +kernel) rfl (Or.inl rfl)) (pgs_cons (pg_name (i:=2) (by show List.Nodup (["work","level","paid","voter"]:List Str);decide +kernel) rfl (Or.inl rfl)) pgs_nil))))) (fun _ _ _ _ _ _=>pifs_nil) (fun _ _ _ _ _ _=>(pe_ix ix_list (pv 2) (pv 3) (fun _ _=>rfl)))) pa_nil))))
theorem cal_paid_by (T:Txt K mg):Cal P w K mg base 1 "paid_by" ["steps","voter"] (sp_paid_by K):=T.f_paid_by.cal sc_paid_by (spOf_len rfl) (fun f cdv A outer s H E hr=>pf_paid_by T hr) rk_paid_by
theorem pf_left_of (T:Txt K mg) {f:Addr}{cdv:Value}{A:Around}{outer:List Env}{s:Shared}{H:Hp}{E:XK} (hr:Room 1 (A.deeper (PyProof.Rows.envOfC "left_of" (defScope s_left_of) s.heap.objs.size f cdv))):
  PSs (cxOf CX0 P w K mg base ["purses","steps"] "left_of" (defScope s_left_of) f cdv A outer s H E).nox (defBody s_left_of) (rd_left_of K):=
 (pss_one (ps_ret (pe_comp (N:=["voter","purse","steps"]) (mp:=[none,none,some 1]) rfl ⟨rfl,by decide +kernel,by rfl,rfl,by rfl⟩ (pi_enum (by rfl) T.z_enumerate (pv 0)) (fun _ _ _ _ _ _=>(pg_tup rfl (pgs_cons (pg_name (i:=0) (by show List.Nodup (["voter","purse","steps"]:List Str);decide +kernel) rfl (Or.inl rfl)) (pgs_cons (pg_name (i:=1) (by show List.Nodup (["voter","purse","steps"]:List Str);decide +kernel) rfl (Or.inl rfl)) pgs_nil)))) (fun _ _ _ _ _ _=>pifs_nil) (fun _ _ _ _ _ _=>(pe_op op_subI (pv 1) (pe_cal (cal_paid_by T) (hr.mono (by decide)) (pa_cons (pv 2) (pa_cons (pv 0) pa_nil))))))))
theorem cal_left_of (T:Txt K mg):Cal P w K mg base 2 "left_of" ["purses","steps"] (sp_left_of K):=T.f_left_of.cal sc_left_of (spOf_len rfl) (fun f cdv A outer s H E hr=>pf_left_of T hr) rk_left_of
theorem pf_prices_of (T:Txt K mg) {f:Addr}{cdv:Value}{A:Around}{outer:List Env}{s:Shared}{H:Hp}{E:XK} (hr:Room 3 (A.deeper (PyProof.Rows.envOfC "prices_of" (defScope s_prices_of) s.heap.objs.size f cdv))):
  PSs (cxOf CX0 P w K mg base ["costs","wishes","grains"] "prices_of" (defScope s_prices_of) f cdv A outer s H E).nox (defBody s_prices_of) (rd_prices_of K):=
 (pss_cons (ps_set (i:=2) sc_prices_of.nd rfl (Or.inr rfl) (pe_cal (cal_grains_of T) (hr.mono (by decide)) (pa_cons (pe_callB call_len_seq (by rfl) T.z_len PySem.boot_len (pa_cons (pv 1) pa_nil)) (pa_cons (pe_callB call_len_seq (by rfl) T.z_len PySem.boot_len (pa_cons (pv 0) pa_nil)) pa_nil))))
   (pss_one (ps_ret (pe_comp (N:=["cost","grains"]) (mp:=[none,some 2]) rfl ⟨rfl,by decide +kernel,by rfl,rfl,by rfl⟩ (pi_list (pv 0)) (fun _ _ _ _ _ _=>(pg_name (i:=0) (by show List.Nodup (["cost","grains"]:List Str);decide +kernel) rfl (Or.inl rfl))) (fun _ _ _ _ _ _=>pifs_nil) (fun _ _ _ _ _ _=>(pe_op op_mulI (pv 0) (pv 1)))))))
theorem cal_prices_of (T:Txt K mg):Cal P w K mg base 4 "prices_of" ["costs","wishes"] (sp_prices_of K):=T.f_prices_of.cal sc_prices_of (spOf_len rfl) (fun f cdv A outer s H E hr=>pf_prices_of T hr) rk_prices_of
theorem pf_rounded_up (T:Txt K mg) {f:Addr}{cdv:Value}{A:Around}{outer:List Env}{s:Shared}{H:Hp}{E:XK} (hr:Room 0 (A.deeper (PyProof.Rows.envOfC "rounded_up" (defScope s_rounded_up) s.heap.objs.size f cdv))):
  PSs (cxOf CX0 P w K mg base ["amount","shares"] "rounded_up" (defScope s_rounded_up) f cdv A outer s H E).nox (defBody s_rounded_up) (rd_rounded_up K):=
 (pss_one (ps_ret (pe_op op_divI (pe_op op_subI (pe_op op_addI (pv 0) (pv 1)) pe_int) (pv 1))))
theorem cal_rounded_up (T:Txt K mg):Cal P w K mg base 1 "rounded_up" ["amount","shares"] (sp_rounded_up K):=T.f_rounded_up.cal sc_rounded_up (spOf_len rfl) (fun f cdv A outer s H E hr=>pf_rounded_up T hr) rk_rounded_up
theorem pf_level_for (T:Txt K mg) {f:Addr}{cdv:Value}{A:Around}{outer:List Env}{s:Shared}{H:Hp}{E:XK} (hr:Room 1 (A.deeper (PyProof.Rows.envOfC "level_for" (defScope s_level_for) s.heap.objs.size f cdv))):
  PSs (cxOf CX0 P w K mg base ["purses","price","missing","payers","purse"] "level_for" (defScope s_level_for) f cdv A outer s H E).nox (defBody s_level_for) (rd_level_for K):=
 (pss_cons (ps_if (pt_cmpR op_ltI (pe_callB (call_sum rfl) (by rfl) T.z_sum PyProof.Rows.boot_sum (pa_cons (pv 0) pa_nil)) (pv 1) (nomark _)) (pss_one (ps_ret pe_non)) pss_nil)
   (pss_cons (ps_set (i:=2) sc_level_for.nd rfl (Or.inl rfl) (pv 1))
   (pss_cons (ps_set (i:=3) sc_level_for.nd rfl (Or.inl rfl) (pe_callB call_len_seq (by rfl) T.z_len PySem.boot_len (pa_cons (pv 0) pa_nil)))
   (pss_cons (ps_for PassesOwn.never rfl (pi_list (pe_callB call_sorted (by rfl) T.z_sorted PyProof.Rows.boot_sorted (pa_cons (pv 0) pa_nil))) (pg_name (i:=4) sc_level_for.nd rfl (Or.inl rfl)) (pss_cons (ps_if (pt_cmpR op_geI (pe_op op_mulI (pv 4) (pv 3)) (pv 2) (nomark _)) (pss_one (ps_ret (pe_cal (cal_rounded_up T) (hr.mono (by decide)) (pa_cons (pv 2) (pa_cons (pv 3) pa_nil))))) pss_nil)
   (pss_cons (ps_aug (i:=2) sc_level_for.nd rfl (Or.inl rfl) (pv 4) (ip_of iop_subI))
   (pss_one (ps_aug (i:=3) sc_level_for.nd rfl (Or.inl rfl) pe_int (ip_of iop_subI))))))
   (pss_one (ps_ret pe_int))))))
theorem cal_level_for (T:Txt K mg):Cal P w K mg base 2 "level_for" ["purses","price"] (sp_level_for K):=T.f_level_for.cal sc_level_for (spOf_len rfl) (fun f cdv A outer s H E hr=>pf_level_for T hr) rk_level_for
theorem pf_wants_all (T:Txt K mg) {f:Addr}{cdv:Value}{A:Around}{outer:List Env}{s:Shared}{H:Hp}{E:XK} (hr:Room 0 (A.deeper (PyProof.Rows.envOfC "wants_all" (defScope s_wants_all) s.heap.objs.size f cdv))):
  PSs (cxOf CX0 P w K mg base ["wanted","works"] "wants_all" (defScope s_wants_all) f cdv A outer s H E).nox (defBody s_wants_all) (rd_wants_all K):=
 (pss_one (ps_ret (pe_callB (call_all rfl) (by rfl) T.z_all PyProof.Rows.boot_all (pa_cons (pe_comp (N:=["work","wanted"]) (mp:=[none,some 0]) rfl ⟨rfl,by decide +kernel,by rfl,rfl,by rfl⟩ (pi_list (pv 1)) (fun _ _ _ _ _ _=>(pg_name (i:=0) (by show List.Nodup (["work","wanted"]:List Str);decide +kernel) rfl (Or.inl rfl))) (fun _ _ _ _ _ _=>pifs_nil) (fun _ _ _ _ _ _=>(pe_cmpR op_in_seq (pv 0) (pv 1) rfl))) pa_nil))))
theorem cal_wants_all (T:Txt K mg):Cal P w K mg base 1 "wants_all" ["wanted","works"] (sp_wants_all K):=T.f_wants_all.cal sc_wants_all (spOf_len rfl) (fun f cdv A outer s H E hr=>pf_wants_all T hr) rk_wants_all
theorem pf_common_of (T:Txt K mg) {f:Addr}{cdv:Value}{A:Around}{outer:List Env}{s:Shared}{H:Hp}{E:XK} (hr:Room 1 (A.deeper (PyProof.Rows.envOfC "common_of" (defScope s_common_of) s.heap.objs.size f cdv))):
  PSs (cxOf CX0 P w K mg base ["wishes","works"] "common_of" (defScope s_common_of) f cdv A outer s H E).nox (defBody s_common_of) (rd_common_of K):=
 (pss_one (ps_ret (pe_comp (N:=["voter","wanted","works"]) (mp:=[none,none,some 1]) rfl ⟨rfl,by decide +kernel,by rfl,rfl,by rfl⟩ (pi_enum (by rfl) T.z_enumerate (pv 0)) (fun _ _ _ _ _ _=>(pg_tup rfl (pgs_cons (pg_name (i:=0) (by show List.Nodup (["voter","wanted","works"]:List Str);decide +kernel) rfl (Or.inl rfl)) (pgs_cons (pg_name (i:=1) (by show List.Nodup (["voter","wanted","works"]:List Str);decide +kernel) rfl (Or.inl rfl)) pgs_nil)))) (fun _ _ _ _ _ _=>(pifs_one (pt_val (pe_cal (cal_wants_all T) (hr.mono (by decide)) (pa_cons (pv 1) (pa_cons (pv 2) pa_nil)))))) (fun _ _ _ _ _ _=>(pv 0)))))
theorem cal_common_of (T:Txt K mg):Cal P w K mg base 2 "common_of" ["wishes","works"] (sp_common_of K):=T.f_common_of.cal sc_common_of (spOf_len rfl) (fun f cdv A outer s H E hr=>pf_common_of T hr) rk_common_of
theorem pf_wanters_of (T:Txt K mg) {f:Addr}{cdv:Value}{A:Around}{outer:List Env}{s:Shared}{H:Hp}{E:XK} (hr:Room 2 (A.deeper (PyProof.Rows.envOfC "wanters_of" (defScope s_wanters_of) s.heap.objs.size f cdv))):
  PSs (cxOf CX0 P w K mg base ["wishes","work"] "wanters_of" (defScope s_wanters_of) f cdv A outer s H E).nox (defBody s_wanters_of) (rd_wanters_of K):=
 (pss_one (ps_ret (pe_cal (cal_common_of T) (hr.mono (by decide)) (pa_cons (pv 0) (pa_cons (pe_lst (pa_cons (pv 1) pa_nil)) pa_nil)))))
theorem cal_wanters_of (T:Txt K mg):Cal P w K mg base 3 "wanters_of" ["wishes","work"] (sp_wanters_of K):=T.f_wanters_of.cal sc_wanters_of (spOf_len rfl) (fun f cdv A outer s H E hr=>pf_wanters_of T hr) rk_wanters_of
theorem pf_offer_of (T:Txt K mg) {f:Addr}{cdv:Value}{A:Around}{outer:List Env}{s:Shared}{H:Hp}{E:XK} (hr:Room 3 (A.deeper (PyProof.Rows.envOfC "offer_of" (defScope s_offer_of) s.heap.objs.size f cdv))):
  PSs (cxOf CX0 P w K mg base ["purses","wishes","work","price"] "offer_of" (defScope s_offer_of) f cdv A outer s H E).nox (defBody s_offer_of) (rd_offer_of K):=
 (pss_one (ps_ret (pe_cal (cal_level_for T) (hr.mono (by decide)) (pa_cons (pe_comp (N:=["voter","purses"]) (mp:=[none,some 0]) rfl ⟨rfl,by decide +kernel,by rfl,rfl,by rfl⟩ (pi_list (pe_cal (cal_wanters_of T) (hr.mono (by decide)) (pa_cons (pv 1) (pa_cons (pv 2) pa_nil)))) (fun _ _ _ _ _ _=>(pg_name (i:=0) (by show List.Nodup (["voter","purses"]:List Str);decide +kernel) rfl (Or.inl rfl))) (fun _ _ _ _ _ _=>pifs_nil) (fun _ _ _ _ _ _=>(pe_ix ix_list (pv 1) (pv 0) (fun _ _=>rfl)))) (pa_cons (pv 3) pa_nil)))))
theorem cal_offer_of (T:Txt K mg):Cal P w K mg base 4 "offer_of" ["purses","wishes","work","price"] (sp_offer_of K):=T.f_offer_of.cal sc_offer_of (spOf_len rfl) (fun f cdv A outer s H E hr=>pf_offer_of T hr) rk_offer_of
theorem pf_offers_of (T:Txt K mg) {f:Addr}{cdv:Value}{A:Around}{outer:List Env}{s:Shared}{H:Hp}{E:XK} (hr:Room 4 (A.deeper (PyProof.Rows.envOfC "offers_of" (defScope s_offers_of) s.heap.objs.size f cdv))):
  PSs (cxOf CX0 P w K mg base ["purses","costs","wishes","done","offers","work","price"] "offers_of" (defScope s_offers_of) f cdv A outer s H E).nox (defBody s_offers_of) (rd_offers_of K):=
 (pss_cons (ps_set (i:=4) sc_offers_of.nd rfl (Or.inl rfl) (pe_lst pa_nil))
   (pss_cons (ps_for PassesOwn.never rfl (pi_enum (by rfl) T.z_enumerate (pe_cal (cal_prices_of T) (hr.mono (by decide)) (pa_cons (pv 1) (pa_cons (pv 2) pa_nil)))) (pg_tup rfl (pgs_cons (pg_name (i:=5) sc_offers_of.nd rfl (Or.inl rfl)) (pgs_cons (pg_name (i:=6) sc_offers_of.nd rfl (Or.inl rfl)) pgs_nil))) (pss_one (ps_expr (pe_bm PySem.F.plainAttrs_list PySem.F.slot_list_append PySem.F.type_list_append mt_append (pv 4) (pa_cons (pe_ifExp (pt_cmpR op_in_seq (pv 5) (pv 3) rfl) pe_non (pe_cal (cal_offer_of T) (hr.mono (by decide)) (pa_cons (pv 0) (pa_cons (pv 2) (pa_cons (pv 5) (pa_cons (pv 6) pa_nil)))))) pa_nil)))))
   (pss_one (ps_ret (pv 4)))))
theorem cal_offers_of (T:Txt K mg):Cal P w K mg base 5 "offers_of" ["purses","costs","wishes","done"] (sp_offers_of K):=T.f_offers_of.cal sc_offers_of (spOf_len rfl) (fun f cdv A outer s H E hr=>pf_offers_of T hr) rk_offers_of
theorem pf_next_of (T:Txt K mg) {f:Addr}{cdv:Value}{A:Around}{outer:List Env}{s:Shared}{H:Hp}{E:XK} (hr:Room 0 (A.deeper (PyProof.Rows.envOfC "next_of" (defScope s_next_of) s.heap.objs.size f cdv))):
  PSs (cxOf CX0 P w K mg base ["offers","best","work","offer"] "next_of" (defScope s_next_of) f cdv A outer s H E).nox (defBody s_next_of) (rd_next_of K):=
 (pss_cons (ps_set (i:=1) sc_next_of.nd rfl (Or.inl rfl) pe_non)
   (pss_cons (ps_for PassesOwn.never rfl (pi_enum (by rfl) T.z_enumerate (pv 0)) (pg_tup rfl (pgs_cons (pg_name (i:=2) sc_next_of.nd rfl (Or.inl rfl)) (pgs_cons (pg_name (i:=3) sc_next_of.nd rfl (Or.inl rfl)) pgs_nil))) (pss_one (ps_if (PW.pt (pw_and (pt_cmpR op_notN (pv 3) pe_non (nomark _)) (pw_and1 (PW.pt (pw_or (pt_cmpR op_isN (pv 1) pe_non (nomark _)) (pw_or1 (pt_cmpR op_ltI (pv 3) (pe_ix ix_list (pv 0) (pv 1) (fun _ _=>rfl)) (nomark _)))))))) (pss_one (ps_set (i:=1) sc_next_of.nd rfl (Or.inl rfl) (pv 2))) pss_nil)))
   (pss_one (ps_ret (pv 1)))))
theorem cal_next_of (T:Txt K mg):Cal P w K mg base 1 "next_of" ["offers"] (sp_next_of K):=T.f_next_of.cal sc_next_of (spOf_len rfl) (fun f cdv A outer s H E hr=>pf_next_of T hr) rk_next_of
theorem pf_works_of (T:Txt K mg) {f:Addr}{cdv:Value}{A:Around}{outer:List Env}{s:Shared}{H:Hp}{E:XK} (hr:Room 0 (A.deeper (PyProof.Rows.envOfC "works_of" (defScope s_works_of) s.heap.objs.size f cdv))):
  PSs (cxOf CX0 P w K mg base ["steps"] "works_of" (defScope s_works_of) f cdv A outer s H E).nox (defBody s_works_of) (rd_works_of K):=
 (pss_one (ps_ret (pe_callB call_sorted (by rfl) T.z_sorted PyProof.Rows.boot_sorted (pa_cons (pe_comp (N:=["work","level","paid"]) (mp:=[none,none,none]) rfl ⟨rfl,by decide +kernel,by rfl,rfl,by rfl⟩ (pi_list (pv 0)) (fun _ _ _ _ _ _=>(pg_tup rfl (pgs_cons (pg_name (i:=0) (by show List.Nodup (["work","level","paid"]:List Str);decide +kernel) rfl (Or.inl rfl)) (pgs_cons (pg_name (i:=1) (by show List.Nodup (["work","level","paid"]:List Str);decide +kernel) rfl (Or.inl rfl)) (pgs_cons (pg_name (i:=2) (by show List.Nodup (["work","level","paid"]:List Str);decide +kernel) rfl (Or.inl rfl)) pgs_nil))))) (fun _ _ _ _ _ _=>pifs_nil) (fun _ _ _ _ _ _=>(pv 0))) pa_nil))))
theorem cal_works_of (T:Txt K mg):Cal P w K mg base 1 "works_of" ["steps"] (sp_works_of K):=T.f_works_of.cal sc_works_of (spOf_len rfl) (fun f cdv A outer s H E hr=>pf_works_of T hr) rk_works_of
theorem pf_paid_at (T:Txt K mg) {f:Addr}{cdv:Value}{A:Around}{outer:List Env}{s:Shared}{H:Hp}{E:XK} (hr:Room 0 (A.deeper (PyProof.Rows.envOfC "paid_at" (defScope s_paid_at) s.heap.objs.size f cdv))):
  PSs (cxOf CX0 P w K mg base ["purses","level"] "paid_at" (defScope s_paid_at) f cdv A outer s H E).nox (defBody s_paid_at) (rd_paid_at K):=
 (pss_one (ps_ret (pe_comp (N:=["purse","level"]) (mp:=[none,some 1]) rfl ⟨rfl,by decide +kernel,by rfl,rfl,by rfl⟩ (pi_list (pv 0)) (fun _ _ _ _ _ _=>(pg_name (i:=0) (by show List.Nodup (["purse","level"]:List Str);decide +kernel) rfl (Or.inl rfl))) (fun _ _ _ _ _ _=>pifs_nil) (fun _ _ _ _ _ _=>(pe_callB (call_min2 rfl) (by rfl) T.z_min PyProof.Rows.boot_min (pa_cons (pv 0) (pa_cons (pv 1) pa_nil)))))))
theorem cal_paid_at (T:Txt K mg):Cal P w K mg base 1 "paid_at" ["purses","level"] (sp_paid_at K):=T.f_paid_at.cal sc_paid_at (spOf_len rfl) (fun f cdv A outer s H E hr=>pf_paid_at T hr) rk_paid_at
theorem pf_payments_of (T:Txt K mg) {f:Addr}{cdv:Value}{A:Around}{outer:List Env}{s:Shared}{H:Hp}{E:XK} (hr:Room 3 (A.deeper (PyProof.Rows.envOfC "payments_of" (defScope s_payments_of) s.heap.objs.size f cdv))):
  PSs (cxOf CX0 P w K mg base ["purses","wishes","work","level","wanters"] "payments_of" (defScope s_payments_of) f cdv A outer s H E).nox (defBody s_payments_of) (rd_payments_of K):=
 (pss_cons (ps_set (i:=4) sc_payments_of.nd rfl (Or.inr rfl) (pe_cal (cal_wanters_of T) (hr.mono (by decide)) (pa_cons (pv 1) (pa_cons (pv 2) pa_nil))))
   (pss_one (ps_ret (pe_comp (N:=["voter","paid","wanters"]) (mp:=[none,none,some 4]) rfl ⟨rfl,by decide +kernel,by rfl,rfl,by rfl⟩ (pi_enum (by rfl) T.z_enumerate (pe_cal (cal_paid_at T) (hr.mono (by decide)) (pa_cons (pv 0) (pa_cons (pv 3) pa_nil)))) (fun _ _ _ _ _ _=>(pg_tup rfl (pgs_cons (pg_name (i:=0) (by show List.Nodup (["voter","paid","wanters"]:List Str);decide +kernel) rfl (Or.inl rfl)) (pgs_cons (pg_name (i:=1) (by show List.Nodup (["voter","paid","wanters"]:List Str);decide +kernel) rfl (Or.inl rfl)) pgs_nil)))) (fun _ _ _ _ _ _=>pifs_nil) (fun _ _ _ _ _ _=>(pe_ifExp (pt_cmpR op_in_seq (pv 0) (pv 2) rfl) (pv 1) pe_int))))))
theorem cal_payments_of (T:Txt K mg):Cal P w K mg base 4 "payments_of" ["purses","wishes","work","level"] (sp_payments_of K):=T.f_payments_of.cal sc_payments_of (spOf_len rfl) (fun f cdv A outer s H E hr=>pf_payments_of T hr) rk_payments_of
theorem pf_step_behind (T:Txt K mg) {f:Addr}{cdv:Value}{A:Around}{outer:List Env}{s:Shared}{H:Hp}{E:XK} (hr:Room 5 (A.deeper (PyProof.Rows.envOfC "step_behind" (defScope s_step_behind) s.heap.objs.size f cdv))):
  PSs (cxOf CX0 P w K mg base ["purses","costs","wishes","steps","left","offers","work","level"] "step_behind" (defScope s_step_behind) f cdv A outer s H E).nox (defBody s_step_behind) (rd_step_behind K):=
 (pss_cons (ps_set (i:=4) sc_step_behind.nd rfl (Or.inl rfl) (pe_cal (cal_left_of T) (hr.mono (by decide)) (pa_cons (pv 0) (pa_cons (pv 3) pa_nil))))
   (pss_cons (ps_set (i:=5) sc_step_behind.nd rfl (Or.inl rfl) (pe_cal (cal_offers_of T) (hr.mono (by decide)) (pa_cons (pv 4) (pa_cons (pv 1) (pa_cons (pv 2) (pa_cons (pe_cal (cal_works_of T) (hr.mono (by decide)) (pa_cons (pv 3) pa_nil)) pa_nil))))))
   (pss_cons (ps_set (i:=6) sc_step_behind.nd rfl (Or.inl rfl) (pe_cal (cal_next_of T) (hr.mono (by decide)) (pa_cons (pv 5) pa_nil)))
   (pss_cons (ps_if (pt_cmpR op_isN (pv 6) pe_non (nomark _)) (pss_one (ps_ret pe_non)) pss_nil)
   (pss_cons (ps_set (i:=7) sc_step_behind.nd rfl (Or.inl rfl) (pe_ix ix_list (pv 5) (pv 6) (fun _ _=>rfl)))
   (pss_one (ps_ret (pe_tup (pa_cons (pv 6) (pa_cons (pv 7) (pa_cons (pe_cal (cal_payments_of T) (hr.mono (by decide)) (pa_cons (pv 4) (pa_cons (pv 2) (pa_cons (pv 6) (pa_cons (pv 7) pa_nil))))) pa_nil)))))))))))
theorem cal_step_behind (T:Txt K mg):Cal P w K mg base 6 "step_behind" ["purses","costs","wishes","steps"] (sp_step_behind K):=T.f_step_behind.cal sc_step_behind (spOf_len rfl) (fun f cdv A outer s H E hr=>pf_step_behind T hr) rk_step_behind
theorem pf_choose (T:Txt K mg) {f:Addr}{cdv:Value}{A:Around}{outer:List Env}{s:Shared}{H:Hp}{E:XK} (hr:Room 6 (A.deeper (PyProof.Rows.envOfC "choose" (defScope s_choose) s.heap.objs.size f cdv))):
  PSs (cxOf CX0 P w K mg base ["purses","costs","wishes","steps","step"] "choose" (defScope s_choose) f cdv A outer s H E).nox (defBody s_choose) (rd_choose K):=
 (pss_cons (ps_set (i:=3) sc_choose.nd rfl (Or.inl rfl) (pe_lst pa_nil))
   (pss_cons (ps_set (i:=4) sc_choose.nd rfl (Or.inl rfl) (pe_cal (cal_step_behind T) (hr.mono (by decide)) (pa_cons (pv 0) (pa_cons (pv 1) (pa_cons (pv 2) (pa_cons (pv 3) pa_nil))))))
   (pss_cons (ps_while PassesOwn.never (pt_cmpR op_notN (pv 4) pe_non (nomark _)) (pss_cons (ps_expr (pe_bm PySem.F.plainAttrs_list PySem.F.slot_list_append PySem.F.type_list_append mt_append (pv 3) (pa_cons (pv 4) pa_nil)))
   (pss_one (ps_set (i:=4) sc_choose.nd rfl (Or.inl rfl) (pe_cal (cal_step_behind T) (hr.mono (by decide)) (pa_cons (pv 0) (pa_cons (pv 1) (pa_cons (pv 2) (pa_cons (pv 3) pa_nil)))))))))
   (pss_one (ps_ret (pv 3))))))
theorem cal_choose (T:Txt K mg):Cal P w K mg base 7 "choose" ["purses","costs","wishes"] (sp_choose K):=T.f_choose.cal sc_choose (spOf_len rfl) (fun f cdv A outer s H E hr=>pf_choose T hr) rk_choose
theorem pf_Chest_keep_coins (T:Txt K mg) {f:Addr}{cdv:Value}{A:Around}{outer:List Env}{s:Shared}{H:Hp}{E:XK} (hr:Room 0 (A.deeper (PyProof.Rows.envOfC "Chest.keep_coins" (defScope s_Chest_keep_coins) s.heap.objs.size f cdv))):
  PSs (cxOf CX0 P w K mg base ["self","left","grains"] "Chest.keep_coins" (defScope s_Chest_keep_coins) f cdv A outer s H E).nox (defBody s_Chest_keep_coins) (rd_Chest_keep_coins K):=
 (pss_cons (ps_fldaug (pv 0) (pe_op op_divI (pe_callB (call_sum rfl) (by rfl) T.z_sum PyProof.Rows.boot_sum (pa_cons (pe_comp (N:=["part","grains"]) (mp:=[none,some 2]) rfl ⟨rfl,by decide +kernel,by rfl,rfl,by rfl⟩ (pi_list (pv 1)) (fun _ _ _ _ _ _=>(pg_name (i:=0) (by show List.Nodup (["part","grains"]:List Str);decide +kernel) rfl (Or.inl rfl))) (fun _ _ _ _ _ _=>pifs_nil) (fun _ _ _ _ _ _=>(pe_op op_modI (pv 0) (pv 1)))) pa_nil)) (pv 2)) in_add)
   (pss_one (ps_fld (pv 0) (pe_dictZ rfl (by rfl) T.z_dict (by rfl) T.z_zip (pa_cons (pe_fld (pv 0) rfl) (pa_cons (pe_comp (N:=["part","grains"]) (mp:=[none,some 2]) rfl ⟨rfl,by decide +kernel,by rfl,rfl,by rfl⟩ (pi_list (pv 1)) (fun _ _ _ _ _ _=>(pg_name (i:=0) (by show List.Nodup (["part","grains"]:List Str);decide +kernel) rfl (Or.inl rfl))) (fun _ _ _ _ _ _=>pifs_nil) (fun _ _ _ _ _ _=>(pe_op op_divI (pv 0) (pv 1)))) pa_nil))) rfl)))
theorem mal_Chest_keep_coins (T:Txt K mg):CalM CX0 P w K mg base 1 "Chest" "keep_coins" ["self","left","grains"] (sp_Chest_keep_coins K):=T.m_Chest_keep_coins.cal sc_Chest_keep_coins (spOf_len rfl) (fun f cdv A outer s H E hr=>pf_Chest_keep_coins T hr) (rk_Chest_keep_coins T.cls)
theorem pf_Chest_wanted_places (T:Txt K mg) {f:Addr}{cdv:Value}{A:Around}{outer:List Env}{s:Shared}{H:Hp}{E:XK} (hr:Room 0 (A.deeper (PyProof.Rows.envOfC "Chest.wanted_places" (defScope s_Chest_wanted_places) s.heap.objs.size f cdv))):
  PSs (cxOf CX0 P w K mg base ["self","voter"] "Chest.wanted_places" (defScope s_Chest_wanted_places) f cdv A outer s H E).nox (defBody s_Chest_wanted_places) (rd_Chest_wanted_places K):=
 (pss_one (ps_ret (pe_thaw (pe_comp (N:=["place","work","voter","self"]) (mp:=[none,none,some 1,some 0]) rfl ⟨rfl,by decide +kernel,by rfl,rfl,by rfl⟩ (pi_enumK (by rfl) T.z_enumerate (pe_fld (pv 0) rfl)) (fun _ _ _ _ _ _=>(pg_tup rfl (pgs_cons (pg_name (i:=0) (by show List.Nodup (["place","work","voter","self"]:List Str);decide +kernel) rfl (Or.inl rfl)) (pgs_cons (pg_name (i:=1) (by show List.Nodup (["place","work","voter","self"]:List Str);decide +kernel) rfl (Or.inl rfl)) pgs_nil)))) (fun _ _ _ _ _ _=>(pifs_one (pt_cmpR (op_inD hr.units) (pe_tup (pa_cons (pv 2) (pa_cons (pv 1) pa_nil))) (pe_fld (pv 3) rfl) rfl))) (fun _ _ _ _ _ _=>(pv 0))))))
theorem mal_Chest_wanted_places (T:Txt K mg):CalM CX0 P w K mg base 1 "Chest" "wanted_places" ["self","voter"] (sp_Chest_wanted_places K):=T.m_Chest_wanted_places.cal sc_Chest_wanted_places (spOf_len rfl) (fun f cdv A outer s H E hr=>pf_Chest_wanted_places T hr) (rk_Chest_wanted_places T.cls)
theorem pf_Chest_told_step (T:Txt K mg) {f:Addr}{cdv:Value}{A:Around}{outer:List Env}{s:Shared}{H:Hp}{E:XK} (hr:Room 0 (A.deeper (PyProof.Rows.envOfC "Chest.told_step" (defScope s_Chest_told_step) s.heap.objs.size f cdv))):
  PSs (cxOf CX0 P w K mg base ["self","place","paid","name","rows"] "Chest.told_step" (defScope s_Chest_told_step) f cdv A outer s H E).nox (defBody s_Chest_told_step) (rd_Chest_told_step K):=
 (pss_cons (ps_set (i:=3) sc_Chest_told_step.nd rfl (Or.inl rfl) (pe_ix ix_list (pe_callTy (call_listD rfl) (by rfl) T.z_list PyProof.Rows.boot_list (pa_cons (pe_fld (pv 0) rfl) pa_nil)) (pv 1) (fun _ _=>rfl)))
   (pss_cons (ps_thawA (ps_setC (i:=4) (N:=["voter","part"]) (mp:=[none,none]) sc_Chest_told_step.nd rfl (Or.inl rfl) rfl ⟨rfl,by decide +kernel,by rfl,rfl,by rfl⟩ (pi_zipK (by rfl) T.z_zip (pa_cons (pe_fld (pv 0) rfl) (pa_cons (pv 2) pa_nil))) (fun _ _ _ _ _ _=>(pg_tup rfl (pgs_cons (pg_name (i:=0) (by show List.Nodup (["voter","part"]:List Str);decide +kernel) rfl (Or.inl rfl)) (pgs_cons (pg_name (i:=1) (by show List.Nodup (["voter","part"]:List Str);decide +kernel) rfl (Or.inl rfl)) pgs_nil)))) (fun _ _ _ _ _ _=>(pifs_one (pt_cmpR op_gtI (pv 1) pe_int (nomark _)))) (fun _ _ _ _ _ _=>(pe_tup (pa_cons (pv 0) (pa_cons (pv 1) pa_nil)))) (by with_unfolding_all rfl)))
   (pss_one (ps_ret (pe_tup (pa_cons (pv 3) (pa_cons (pe_dget (hu_of hr) (pe_fld (pv 0) rfl) (pv 3) (fun _ _=>rfl)) (pa_cons (pv 4) pa_nil))))))))
theorem mal_Chest_told_step (T:Txt K mg):CalM CX0 P w K mg base 1 "Chest" "told_step" ["self","place","paid"] (sp_Chest_told_step K):=T.m_Chest_told_step.cal sc_Chest_told_step (spOf_len rfl) (fun f cdv A outer s H E hr=>pf_Chest_told_step T hr) (rk_Chest_told_step T.cls)
theorem pf_Chest_withdraw (T:Txt K mg) {f:Addr}{cdv:Value}{A:Around}{outer:List Env}{s:Shared}{H:Hp}{E:XK} (hr:Room 1 (A.deeper (PyProof.Rows.envOfC "Chest.withdraw" (defScope s_Chest_withdraw) s.heap.objs.size f cdv))):
  PSs (cxOf CX0 P w K mg base ["self","work"] "Chest.withdraw" (defScope s_Chest_withdraw) f cdv A outer s H E).nox (defBody s_Chest_withdraw) (rd_Chest_withdraw K):=
 (pss_cons (ps_expr (pe_mcal (mal_Chest_check_work T) T.c_Chest (hr.mono (by decide)) (pv 0) (pa_cons (pv 1) pa_nil)))
   (pss_cons (ps_expr (pe_dpop1 (pe_fld (pv 0) rfl) (pv 1) ⟨rfl,rfl,rfl,rfl⟩))
   (pss_one (ps_fld (pv 0) (pe_comp (N:=["voter","other","work"]) (mp:=[none,none,some 1]) rfl ⟨rfl,by decide +kernel,by rfl,rfl,by rfl⟩ (pi_list (pe_fld (pv 0) rfl)) (fun _ _ _ _ _ _=>(pg_tup rfl (pgs_cons (pg_name (i:=0) (by show List.Nodup (["voter","other","work"]:List Str);decide +kernel) rfl (Or.inl rfl)) (pgs_cons (pg_name (i:=1) (by show List.Nodup (["voter","other","work"]:List Str);decide +kernel) rfl (Or.inl rfl)) pgs_nil)))) (fun _ _ _ _ _ _=>(pifs_one (pt_cmpR op_ne (pv 1) (pv 2) (nomark _)))) (fun _ _ _ _ _ _=>(pe_tup (pa_cons (pv 0) (pa_cons (pv 1) pa_nil))))) rfl))))
theorem mal_Chest_withdraw (T:Txt K mg):CalM CX0 P w K mg base 2 "Chest" "withdraw" ["self","work"] (sp_Chest_withdraw K):=T.m_Chest_withdraw.cal sc_Chest_withdraw (spOf_len rfl) (fun f cdv A outer s H E hr=>pf_Chest_withdraw T hr) (rk_Chest_withdraw T.cls)
theorem pf_Chest_close (T:Txt K mg) {f:Addr}{cdv:Value}{A:Around}{outer:List Env}{s:Shared}{H:Hp}{E:XK} (hr:Room 7 (A.deeper (PyProof.Rows.envOfC "Chest.close" (defScope s_Chest_close) s.heap.objs.size f cdv))):
  PSs (cxOf CX0 P w K mg base ["self","grains","purses","wishes","steps","told","name","cost","rows"] "Chest.close" (defScope s_Chest_close) f cdv A outer s H E).nox (defBody s_Chest_close) (rd_Chest_close K):=
 (pss_cons (ps_if (PW.pt (pw_or (pt_not (pt_dct (pe_fld (pv 0) rfl))) (pw_or1 (pt_not (pt_dct (pe_fld (pv 0) rfl)))))) (pss_one (ps_ret (pe_tup (pa_cons (pe_lst pa_nil) (pa_cons pe_int pa_nil))))) pss_nil)
   (pss_cons (ps_set (i:=1) sc_Chest_close.nd rfl (Or.inr rfl) (pe_cal (cal_grains_of T) (hr.mono (by decide)) (pa_cons (pe_callB call_lenDk (by rfl) T.z_len PySem.boot_len (pa_cons (pe_fld (pv 0) rfl) pa_nil)) (pa_cons (pe_callB call_lenDk (by rfl) T.z_len PySem.boot_len (pa_cons (pe_fld (pv 0) rfl) pa_nil)) pa_nil))))
   (pss_cons (ps_thawA (ps_setC (i:=2) (N:=["purse","grains"]) (mp:=[none,some 1]) sc_Chest_close.nd rfl (Or.inl rfl) rfl ⟨rfl,by decide +kernel,by rfl,rfl,by rfl⟩ (pi_vals (pe_fld (pv 0) rfl)) (fun _ _ _ _ _ _=>(pg_name (i:=0) (by show List.Nodup (["purse","grains"]:List Str);decide +kernel) rfl (Or.inl rfl))) (fun _ _ _ _ _ _=>pifs_nil) (fun _ _ _ _ _ _=>(pe_op op_mulI (pv 0) (pv 1))) (by with_unfolding_all rfl)))
   (pss_cons (ps_thawA (ps_setC (i:=3) (N:=["voter","self"]) (mp:=[none,some 0]) sc_Chest_close.nd rfl (Or.inl rfl) rfl ⟨rfl,by decide +kernel,by rfl,rfl,by rfl⟩ (pi_keys (pe_fld (pv 0) rfl)) (fun _ _ _ _ _ _=>(pg_name (i:=0) (by show List.Nodup (["voter","self"]:List Str);decide +kernel) rfl (Or.inl rfl))) (fun _ _ _ _ _ _=>pifs_nil) (fun _ _ _ _ _ _=>(pe_mcal (mal_Chest_wanted_places T) T.c_Chest (hr.mono (by decide)) (pv 1) (pa_cons (pv 0) pa_nil))) (by with_unfolding_all rfl)))
   (pss_cons (ps_set (i:=4) sc_Chest_close.nd rfl (Or.inl rfl) (pe_cal (cal_choose T) (hr.mono (by decide)) (pa_cons (pv 2) (pa_cons (pe_callTy (call_listVal rfl) (by rfl) T.z_list PyProof.Rows.boot_list (pa_cons (pe_bm0 PySem.F.plainAttrs_dict PySem.F.slot_dict_values PySem.F.type_dict_values mt_vals (pe_fld (pv 0) rfl)) pa_nil)) (pa_cons (pv 3) pa_nil)))))
   (pss_cons (ps_setC (i:=5) (N:=["work","level","paid","self"]) (mp:=[none,none,none,some 0]) sc_Chest_close.nd rfl (Or.inl rfl) rfl ⟨rfl,by decide +kernel,by rfl,rfl,by rfl⟩ (pi_list (pv 4)) (fun _ _ _ _ _ _=>(pg_tup rfl (pgs_cons (pg_name (i:=0) (by show List.Nodup (["work","level","paid","self"]:List Str);decide +kernel) rfl (Or.inl rfl)) (pgs_cons (pg_name (i:=1) (by show List.Nodup (["work","level","paid","self"]:List Str);decide +kernel) rfl (Or.inl rfl)) (pgs_cons (pg_name (i:=2) (by show List.Nodup (["work","level","paid","self"]:List Str);decide +kernel) rfl (Or.inl rfl)) pgs_nil))))) (fun _ _ _ _ _ _=>pifs_nil) (fun _ _ _ _ _ _=>(pe_mcal (mal_Chest_told_step T) T.c_Chest (hr.mono (by decide)) (pv 3) (pa_cons (pv 0) (pa_cons (pv 2) pa_nil)))) (by with_unfolding_all rfl))
   (pss_cons (ps_expr (pe_mcal (mal_Chest_keep_coins T) T.c_Chest (hr.mono (by decide)) (pv 0) (pa_cons (pe_cal (cal_left_of T) (hr.mono (by decide)) (pa_cons (pv 2) (pa_cons (pv 4) pa_nil))) (pa_cons (pv 1) pa_nil))))
   (pss_cons (ps_for PassesOwn.never rfl (pi_list (pv 5)) (pg_tup rfl (pgs_cons (pg_name (i:=6) sc_Chest_close.nd rfl (Or.inl rfl)) (pgs_cons (pg_name (i:=7) sc_Chest_close.nd rfl (Or.inl rfl)) (pgs_cons (pg_name (i:=8) sc_Chest_close.nd rfl (Or.inl rfl)) pgs_nil)))) (pss_cons (ps_fldaug (pv 0) (pv 7) in_add)
   (pss_one (ps_expr (pe_mcal (mal_Chest_withdraw T) T.c_Chest (hr.mono (by decide)) (pv 0) (pa_cons (pv 6) pa_nil))))))
   (pss_one (ps_ret (pe_tup (pa_cons (pv 5) (pa_cons (pv 1) pa_nil)))))))))))))
theorem mal_Chest_close (T:Txt K mg):CalM CX0 P w K mg base 8 "Chest" "close" ["self"] (sp_Chest_close K):=T.m_Chest_close.cal sc_Chest_close (spOf_len rfl) (fun f cdv A outer s H E hr=>pf_Chest_close T hr) (rk_Chest_close T.cls)
theorem pf_Chest_spent (T:Txt K mg) {f:Addr}{cdv:Value}{A:Around}{outer:List Env}{s:Shared}{H:Hp}{E:XK} (hr:Room 0 (A.deeper (PyProof.Rows.envOfC "Chest.spent" (defScope s_Chest_spent) s.heap.objs.size f cdv))):
  PSs (cxOf CX0 P w K mg base ["self"] "Chest.spent" (defScope s_Chest_spent) f cdv A outer s H E).nox (defBody s_Chest_spent) (rd_Chest_spent K):=
 (pss_one (ps_ret (pe_fld (pv 0) rfl)))
theorem mal_Chest_spent (T:Txt K mg):CalM CX0 P w K mg base 1 "Chest" "spent" ["self"] (sp_Chest_spent K):=T.m_Chest_spent.cal sc_Chest_spent (spOf_len rfl) (fun f cdv A outer s H E hr=>pf_Chest_spent T hr) (rk_Chest_spent T.cls)
theorem pf__law_behind (T:Txt K mg) {f:Addr}{cdv:Value}{A:Around}{outer:List Env}{s:Shared}{H:Hp}{E:XK} (hr:Room 2 (A.deeper (PyProof.Rows.envOfC "_law_behind" (defScope s__law_behind) s.heap.objs.size f cdv))):
  PSs (cxOf CX0 P w K mg base ["chest","people","works","steps","grains","pot","rest","k","one","left","done","spent"] "_law_behind" (defScope s__law_behind) f cdv A outer s H E).nox (defBody s__law_behind) (rd__law_behind K):=
 (pss_cons (ps_set (i:=6) sc__law_behind.nd rfl (Or.inl rfl) pe_int)
   (pss_cons (ps_for PassesOwn.never rfl (pi_enum (by rfl) T.z_enumerate (pv 1)) (pg_tup rfl (pgs_cons (pg_name (i:=7) sc__law_behind.nd rfl (Or.inr rfl)) (pgs_cons (pg_name (i:=8) sc__law_behind.nd rfl (Or.inl rfl)) pgs_nil))) (pss_cons (ps_set (i:=9) sc__law_behind.nd rfl (Or.inl rfl) (pe_op op_subI (pe_op op_mulI (pe_ix ix_tup (pv 8) pe_int (fun _ _=>rfl)) (pv 4)) (pe_callB (call_sum rfl) (by rfl) T.z_sum PyProof.Rows.boot_sum (pa_cons (pe_comp (N:=["work","level","paid","k"]) (mp:=[none,none,none,some 7]) rfl ⟨rfl,by decide +kernel,by rfl,rfl,by rfl⟩ (pi_list (pv 3)) (fun _ _ _ _ _ _=>(pg_tup rfl (pgs_cons (pg_name (i:=0) (by show List.Nodup (["work","level","paid","k"]:List Str);decide +kernel) rfl (Or.inl rfl)) (pgs_cons (pg_name (i:=1) (by show List.Nodup (["work","level","paid","k"]:List Str);decide +kernel) rfl (Or.inl rfl)) (pgs_cons (pg_name (i:=2) (by show List.Nodup (["work","level","paid","k"]:List Str);decide +kernel) rfl (Or.inl rfl)) pgs_nil))))) (fun _ _ _ _ _ _=>pifs_nil) (fun _ _ _ _ _ _=>(pe_ix ix_list (pv 2) (pv 3) (fun _ _=>rfl)))) pa_nil))))
   (pss_cons (ps_set (i:=6) sc__law_behind.nd rfl (Or.inl rfl) (pe_op op_addI (pv 6) (pe_op op_modI (pv 9) (pv 4))))
   (pss_one (ps_if (pt_cmpR (op_ne_data hr.units) (pe_ix ix_list (pe_mcal0 (mal_Chest_voters T) T.c_Chest (hr.mono (by decide)) (pv 0)) (pv 7) (fun _ _=>rfl)) (pe_tup (pa_cons (pe_ix ix_tup (pv 8) pe_int (fun _ _=>rfl)) (pa_cons (pe_op op_divI (pv 9) (pv 4)) pa_nil))) (nomark _)) (pss_one (ps_ret pe_bl)) pss_nil)))))
   (pss_cons (ps_set (i:=10) sc__law_behind.nd rfl (Or.inr rfl) (pe_comp (N:=["work","level","paid"]) (mp:=[none,none,none]) rfl ⟨rfl,by decide +kernel,by rfl,rfl,by rfl⟩ (pi_list (pv 3)) (fun _ _ _ _ _ _=>(pg_tup rfl (pgs_cons (pg_name (i:=0) (by show List.Nodup (["work","level","paid"]:List Str);decide +kernel) rfl (Or.inl rfl)) (pgs_cons (pg_name (i:=1) (by show List.Nodup (["work","level","paid"]:List Str);decide +kernel) rfl (Or.inl rfl)) (pgs_cons (pg_name (i:=2) (by show List.Nodup (["work","level","paid"]:List Str);decide +kernel) rfl (Or.inl rfl)) pgs_nil))))) (fun _ _ _ _ _ _=>pifs_nil) (fun _ _ _ _ _ _=>(pv 0))))
   (pss_cons (ps_set (i:=11) sc__law_behind.nd rfl (Or.inl rfl) (pe_callB (call_sum rfl) (by rfl) T.z_sum PyProof.Rows.boot_sum (pa_cons (pe_comp (N:=["work","works"]) (mp:=[none,some 2]) rfl ⟨rfl,by decide +kernel,by rfl,rfl,by rfl⟩ (pi_list (pv 10)) (fun _ _ _ _ _ _=>(pg_name (i:=0) (by show List.Nodup (["work","works"]:List Str);decide +kernel) rfl (Or.inl rfl))) (fun _ _ _ _ _ _=>pifs_nil) (fun _ _ _ _ _ _=>(pe_ix ix_tup (pe_ix ix_list (pv 1) (pv 0) (fun _ _=>rfl)) pe_int (fun _ _=>rfl)))) pa_nil)))
   (pss_cons (ps_if (pt_cmpR (op_ne_data hr.units) (pe_mcal0 (mal_Chest_works T) T.c_Chest (hr.mono (by decide)) (pv 0)) (pe_comp (N:=["k","done","works"]) (mp:=[none,some 10,some 2]) rfl ⟨rfl,by decide +kernel,by rfl,rfl,by rfl⟩ (pi_range1 (by rfl) T.z_range (pa_cons (pe_callB call_len_seq (by rfl) T.z_len PySem.boot_len (pa_cons (pv 2) pa_nil)) pa_nil)) (fun _ _ _ _ _ _=>(pg_name (i:=0) (by show List.Nodup (["k","done","works"]:List Str);decide +kernel) rfl (Or.inl rfl))) (fun _ _ _ _ _ _=>(pifs_one (pt_cmpR op_notIn_seq (pv 0) (pv 1) rfl))) (fun _ _ _ _ _ _=>(pe_ix ix_list (pv 2) (pv 0) (fun _ _=>rfl)))) (nomark _)) (pss_one (ps_ret pe_bl)) pss_nil)
   (pss_one (ps_ret (pe_and (pe_cmpR op_eq (pe_op op_modI (pv 6) (pv 4)) pe_int (nomark _)) (pe_and (pe_cmpR op_eq (pe_mcal0 (mal_Chest_pot T) T.c_Chest (hr.mono (by decide)) (pv 0)) (pe_op op_addI (pv 5) (pe_op op_divI (pv 6) (pv 4))) (nomark _)) (pe_one (pe_cmpR op_eq (pe_mcal0 (mal_Chest_spent T) T.c_Chest (hr.mono (by decide)) (pv 0)) (pv 11) (nomark _))))))))))))
theorem cal__law_behind (T:Txt K mg):Cal P w K mg base 3 "_law_behind" ["chest","people","works","steps","grains","pot"] (sp__law_behind K):=T.f__law_behind.cal sc__law_behind (spOf_len rfl) (fun f cdv A outer s H E hr=>pf__law_behind T hr) rk__law_behind
theorem pf__law_nth (T:Txt K mg) {f:Addr}{cdv:Value}{A:Around}{outer:List Env}{s:Shared}{H:Hp}{E:XK} (hr:Room 0 (A.deeper (PyProof.Rows.envOfC "_law_nth" (defScope s__law_nth) s.heap.objs.size f cdv))):
  PSs (cxOf CX0 P w K mg base ["script","k","cell"] "_law_nth" (defScope s__law_nth) f cdv A outer s H E).nox (defBody s__law_nth) (rd__law_nth K):=
 (pss_cons (ps_for PassesOwn.never rfl (pi_list (pe_slice sl_list (pv 0) (po_some (pv 1)) (po_some (pe_op op_addI (pv 1) pe_int)))) (pg_name (i:=2) sc__law_nth.nd rfl (Or.inl rfl)) (pss_one (ps_ret (pv 2))))
   (pss_one (ps_ret pe_int)))
theorem cal__law_nth (T:Txt K mg):Cal P w K mg base 1 "_law_nth" ["script","k"] (sp__law_nth K):=T.f__law_nth.cal sc__law_nth (spOf_len rfl) (fun f cdv A outer s H E hr=>pf__law_nth T hr) rk__law_nth
theorem pf__law_rows (T:Txt K mg) {f:Addr}{cdv:Value}{A:Around}{outer:List Env}{s:Shared}{H:Hp}{E:XK} (hr:Room 0 (A.deeper (PyProof.Rows.envOfC "_law_rows" (defScope s__law_rows) s.heap.objs.size f cdv))):
  PSs (cxOf CX0 P w K mg base ["people","works","steps","told","work","level","paid","rows"] "_law_rows" (defScope s__law_rows) f cdv A outer s H E).nox (defBody s__law_rows) (rd__law_rows K):=
 (pss_cons (ps_set (i:=3) sc__law_rows.nd rfl (Or.inl rfl) (pe_lst pa_nil))
   (pss_cons (ps_for PassesOwn.never rfl (pi_list (pv 2)) (pg_tup rfl (pgs_cons (pg_name (i:=4) sc__law_rows.nd rfl (Or.inl rfl)) (pgs_cons (pg_name (i:=5) sc__law_rows.nd rfl (Or.inl rfl)) (pgs_cons (pg_name (i:=6) sc__law_rows.nd rfl (Or.inr rfl)) pgs_nil)))) (pss_cons (ps_setC (i:=7) (N:=["k","paid","people"]) (mp:=[none,some 6,some 0]) sc__law_rows.nd rfl (Or.inl rfl) rfl ⟨rfl,by decide +kernel,by rfl,rfl,by rfl⟩ (pi_range1 (by rfl) T.z_range (pa_cons (pe_callB call_len_seq (by rfl) T.z_len PySem.boot_len (pa_cons (pv 0) pa_nil)) pa_nil)) (fun _ _ _ _ _ _=>(pg_name (i:=0) (by show List.Nodup (["k","paid","people"]:List Str);decide +kernel) rfl (Or.inl rfl))) (fun _ _ _ _ _ _=>(pifs_one (pt_cmpR op_gtI (pe_ix ix_list (pv 1) (pv 0) (fun _ _=>rfl)) pe_int (nomark _)))) (fun _ _ _ _ _ _=>(pe_tup (pa_cons (pe_ix ix_tup (pe_ix ix_list (pv 2) (pv 0) (fun _ _=>rfl)) pe_int (fun _ _=>rfl)) (pa_cons (pe_ix ix_list (pv 1) (pv 0) (fun _ _=>rfl)) pa_nil)))) (by with_unfolding_all rfl))
   (pss_one (ps_expr (pe_bm PySem.F.plainAttrs_list PySem.F.slot_list_append PySem.F.type_list_append mt_append (pv 3) (pa_cons (pe_tup (pa_cons (pe_ix ix_tup (pe_ix ix_list (pv 1) (pv 4) (fun _ _=>rfl)) pe_int (fun _ _=>rfl)) (pa_cons (pe_ix ix_tup (pe_ix ix_list (pv 1) (pv 4) (fun _ _=>rfl)) pe_int (fun _ _=>rfl)) (pa_cons (pv 7) pa_nil)))) pa_nil))))))
   (pss_one (ps_ret (pv 3)))))
theorem cal__law_rows (T:Txt K mg):Cal P w K mg base 1 "_law_rows" ["people","works","steps"] (sp__law_rows K):=T.f__law_rows.cal sc__law_rows (spOf_len rfl) (fun f cdv A outer s H E hr=>pf__law_rows T hr) rk__law_rows
theorem pf__law_counts (T:Txt K mg) {f:Addr}{cdv:Value}{A:Around}{outer:List Env}{s:Shared}{H:Hp}{E:XK} (hr:Room 0 (A.deeper (PyProof.Rows.envOfC "_law_counts" (defScope s__law_counts) s.heap.objs.size f cdv))):
  PSs (cxOf CX0 P w K mg base ["thing"] "_law_counts" (defScope s__law_counts) f cdv A outer s H E).nox (defBody s__law_counts) (rd__law_counts K):=
 (pss_one (ps_ret (pe_and (pe_not (pe_callB call_isinst (by rfl) T.z_isinstance PyProof.Rows.boot_isinstance (pa_cons (pv 0) (pa_cons (pe_bltn (by rfl) T.z_bool PyProof.Rows.boot_bool rfl) pa_nil)))) (pe_one (pe_callB call_isinst (by rfl) T.z_isinstance PyProof.Rows.boot_isinstance (pa_cons (pv 0) (pa_cons (pe_bltn (by rfl) T.z_int PyProof.Rows.boot_int rfl) pa_nil)))))))
theorem cal__law_counts (T:Txt K mg):Cal P w K mg base 1 "_law_counts" ["thing"] (sp__law_counts K):=T.f__law_counts.cal sc__law_counts (spOf_len rfl) (fun f cdv A outer s H E hr=>pf__law_counts T hr) rk__law_counts
theorem pf__law_kinds (T:Txt K mg) {f:Addr}{cdv:Value}{A:Around}{outer:List Env}{s:Shared}{H:Hp}{E:XK} (hr:Room 1 (A.deeper (PyProof.Rows.envOfC "_law_kinds" (defScope s__law_kinds) s.heap.objs.size f cdv))):
  PSs (cxOf CX0 P w K mg base ["told","row"] "_law_kinds" (defScope s__law_kinds) f cdv A outer s H E).nox (defBody s__law_kinds) (rd__law_kinds K):=
 (pss_cons (ps_if (PW.pt (pw_or (pt_not (pt_val (pe_callB call_isinst (by rfl) T.z_isinstance PyProof.Rows.boot_isinstance (pa_cons (pv 0) (pa_cons (pe_bltn (by rfl) T.z_tuple PyProof.Rows.boot_tuple rfl) pa_nil))))) (pw_or (pt_cmpR op_ne (pe_callB call_len_seq (by rfl) T.z_len PySem.boot_len (pa_cons (pv 0) pa_nil)) pe_int (nomark _)) (pw_or (pt_not (pt_val (pe_callB call_isinst (by rfl) T.z_isinstance PyProof.Rows.boot_isinstance (pa_cons (pe_ix ix_tup (pv 0) pe_int (fun _ _=>rfl)) (pa_cons (pe_bltn (by rfl) T.z_list PyProof.Rows.boot_list rfl) pa_nil))))) (pw_or1 (pt_not (pt_val (pe_cal (cal__law_counts T) (hr.mono (by decide)) (pa_cons (pe_ix ix_tup (pv 0) pe_int (fun _ _=>rfl)) pa_nil))))))))) (pss_one (ps_ret pe_bl)) pss_nil)
   (pss_cons (ps_for PassesOwn.never rfl (pi_list (pe_ix ix_tup (pv 0) pe_int (fun _ _=>rfl))) (pg_name (i:=1) sc__law_kinds.nd rfl (Or.inl rfl)) (pss_cons (ps_if (PW.pt (pw_or (pt_not (pt_val (pe_callB call_isinst (by rfl) T.z_isinstance PyProof.Rows.boot_isinstance (pa_cons (pv 1) (pa_cons (pe_bltn (by rfl) T.z_tuple PyProof.Rows.boot_tuple rfl) pa_nil))))) (pw_or (pt_not (pt_val (pe_callB call_isinst (by rfl) T.z_isinstance PyProof.Rows.boot_isinstance (pa_cons (pe_ix ix_tup (pv 1) pe_int (fun _ _=>rfl)) (pa_cons (pe_bltn (by rfl) T.z_str PyProof.Rows.boot_str rfl) pa_nil))))) (pw_or1 (pt_not (pt_val (pe_cal (cal__law_counts T) (hr.mono (by decide)) (pa_cons (pe_ix ix_tup (pv 1) pe_int (fun _ _=>rfl)) pa_nil)))))))) (pss_one (ps_ret pe_bl)) pss_nil)
   (pss_one (ps_if (PW.pt (pw_or (pt_not (pt_val (pe_callB call_isinst (by rfl) T.z_isinstance PyProof.Rows.boot_isinstance (pa_cons (pe_ix ix_tup (pv 1) pe_int (fun _ _=>rfl)) (pa_cons (pe_bltn (by rfl) T.z_list PyProof.Rows.boot_list rfl) pa_nil))))) (pw_or1 (pt_cmpR (op_ne_data hr.units) (pe_comp (N:=["one"]) (mp:=[none]) rfl ⟨rfl,by decide +kernel,by rfl,rfl,by rfl⟩ (pi_list (pe_ix ix_tup (pv 1) pe_int (fun _ _=>rfl))) (fun _ _ _ _ _ _=>(pg_name (i:=0) (by show List.Nodup (["one"]:List Str);decide +kernel) rfl (Or.inl rfl))) (fun _ _ _ _ _ _=>(pifs_one (pt_not (pt_val (pe_cal (cal__law_counts T) (hr.mono (by decide)) (pa_cons (pe_ix ix_tup (pv 0) pe_int (fun _ _=>rfl)) pa_nil)))))) (fun _ _ _ _ _ _=>(pv 0))) (pe_lst pa_nil) (nomark _))))) (pss_one (ps_ret pe_bl)) pss_nil))))
   (pss_one (ps_ret pe_bl))))
theorem cal__law_kinds (T:Txt K mg):Cal P w K mg base 2 "_law_kinds" ["told"] (sp__law_kinds K):=T.f__law_kinds.cal sc__law_kinds (spOf_len rfl) (fun f cdv A outer s H E hr=>pf__law_kinds T hr) rk__law_kinds
theorem pf_law (T:Txt K mg) {f:Addr}{cdv:Value}{A:Around}{outer:List Env}{s:Shared}{H:Hp}{E:XK} (hr:Room 8 (A.deeper (PyProof.Rows.envOfC "law" (defScope s_law) s.heap.objs.size f cdv))):
  PSs (cxOf CX0 P w K mg base ["script","xs","kind","chest","many","wishes","people","works","pot","grains","steps","told","due","row"] "law" (defScope s_law) f cdv A outer s H E).nox (defBody s_law) (rd_law K):=
 (pss_cons (ps_set (i:=1) sc_law.nd rfl (Or.inl rfl) (pe_cal (cal__law_spins T) (hr.mono (by decide)) (pa_cons (pe_cal (cal__law_nth T) (hr.mono (by decide)) (pa_cons (pv 0) (pa_cons pe_int pa_nil))) (pa_cons pe_int pa_nil))))
   (pss_cons (ps_set (i:=2) sc_law.nd rfl (Or.inl rfl) (pe_op op_modI (pe_ix ix_list (pv 1) pe_int (fun _ _=>rfl)) pe_int))
   (pss_cons (ps_set (i:=3) sc_law.nd rfl (Or.inl rfl) (pe_mkcal0 (mal_Chest___init__ T) T.c_Chest (hr.mono (by decide))))
   (pss_cons (ps_set (i:=4) sc_law.nd rfl (Or.inl rfl) (pe_ix ix_list (pe_lst (pa_cons pe_int (pa_cons pe_int (pa_cons (pe_op op_modI (pe_op op_divI (pe_ix ix_list (pv 1) pe_int (fun _ _=>rfl)) pe_int) pe_int) (pa_cons (pe_op op_addI pe_int (pe_op op_modI (pe_op op_divI (pe_ix ix_list (pv 1) pe_int (fun _ _=>rfl)) pe_int) pe_int)) pa_nil))))) (pe_callB (call_min2 rfl) (by rfl) T.z_min PyProof.Rows.boot_min (pa_cons pe_int (pa_cons (pe_op op_modI (pe_ix ix_list (pv 1) pe_int (fun _ _=>rfl)) pe_int) pa_nil))) (fun _ _=>rfl)))
   (pss_cons (ps_expr (pe_cal (cal__law_people T) (hr.mono (by decide)) (pa_cons (pv 3) (pa_cons (pe_cal (cal__law_nth T) (hr.mono (by decide)) (pa_cons (pv 0) (pa_cons pe_int pa_nil))) (pa_cons (pv 4) (pa_cons (pv 2) pa_nil))))))
   (pss_cons (ps_set (i:=4) sc_law.nd rfl (Or.inl rfl) (pe_ix ix_list (pe_lst (pa_cons pe_int (pa_cons pe_int (pa_cons (pe_op op_modI (pe_op op_divI (pe_ix ix_list (pv 1) pe_int (fun _ _=>rfl)) pe_int) pe_int) (pa_cons (pe_op op_addI pe_int (pe_op op_modI (pe_op op_divI (pe_ix ix_list (pv 1) pe_int (fun _ _=>rfl)) pe_int) pe_int)) pa_nil))))) (pe_callB (call_min2 rfl) (by rfl) T.z_min PyProof.Rows.boot_min (pa_cons pe_int (pa_cons (pe_op op_modI (pe_ix ix_list (pv 1) pe_int (fun _ _=>rfl)) pe_int) pa_nil))) (fun _ _=>rfl)))
   (pss_cons (ps_expr (pe_cal (cal__law_plans T) (hr.mono (by decide)) (pa_cons (pv 3) (pa_cons (pe_cal (cal__law_nth T) (hr.mono (by decide)) (pa_cons (pv 0) (pa_cons pe_int pa_nil))) (pa_cons (pv 4) (pa_cons (pv 2) pa_nil))))))
   (pss_cons (ps_set (i:=5) sc_law.nd rfl (Or.inl rfl) (pe_cal (cal__law_wishes T) (hr.mono (by decide)) (pa_cons (pv 3) (pa_cons (pe_slice sl_list (pv 0) (po_some pe_int) (po_some pe_int)) pa_nil))))
   (pss_cons (ps_set (i:=6) sc_law.nd rfl (Or.inl rfl) (pe_mcal0 (mal_Chest_voters T) T.c_Chest (hr.mono (by decide)) (pv 3)))
   (pss_cons (ps_set (i:=7) sc_law.nd rfl (Or.inl rfl) (pe_mcal0 (mal_Chest_works T) T.c_Chest (hr.mono (by decide)) (pv 3)))
   (pss_cons (ps_set (i:=8) sc_law.nd rfl (Or.inl rfl) (pe_mcal0 (mal_Chest_pot T) T.c_Chest (hr.mono (by decide)) (pv 3)))
   (pss_cons (ps_set (i:=9) sc_law.nd rfl (Or.inr rfl) pe_int)
   (pss_cons (ps_set (i:=10) sc_law.nd rfl (Or.inl rfl) (pe_lst pa_nil))
   (pss_cons (ps_if (PW.pt (pw_and (pt_cmpR (op_ne_data hr.units) (pv 6) (pe_lst pa_nil) (nomark _)) (pw_and1 (pt_cmpR (op_ne_data hr.units) (pv 7) (pe_lst pa_nil) (nomark _))))) (pss_cons (ps_set (i:=9) sc_law.nd rfl (Or.inr rfl) (pe_cal (cal_grains_of T) (hr.mono (by decide)) (pa_cons (pe_callB call_len_seq (by rfl) T.z_len PySem.boot_len (pa_cons (pv 6) pa_nil)) (pa_cons (pe_callB call_len_seq (by rfl) T.z_len PySem.boot_len (pa_cons (pv 7) pa_nil)) pa_nil))))
   (pss_one (ps_set (i:=10) sc_law.nd rfl (Or.inl rfl) (pe_cal (cal_choose T) (hr.mono (by decide)) (pa_cons (pe_comp (N:=["name","coffer","grains"]) (mp:=[none,none,some 9]) rfl ⟨rfl,by decide +kernel,by rfl,rfl,by rfl⟩ (pi_list (pv 6)) (fun _ _ _ _ _ _=>(pg_tup rfl (pgs_cons (pg_name (i:=0) (by show List.Nodup (["name","coffer","grains"]:List Str);decide +kernel) rfl (Or.inl rfl)) (pgs_cons (pg_name (i:=1) (by show List.Nodup (["name","coffer","grains"]:List Str);decide +kernel) rfl (Or.inl rfl)) pgs_nil)))) (fun _ _ _ _ _ _=>pifs_nil) (fun _ _ _ _ _ _=>(pe_op op_mulI (pv 1) (pv 2)))) (pa_cons (pe_comp (N:=["row"]) (mp:=[none]) rfl ⟨rfl,by decide +kernel,by rfl,rfl,by rfl⟩ (pi_list (pv 7)) (fun _ _ _ _ _ _=>(pg_name (i:=0) (by show List.Nodup (["row"]:List Str);decide +kernel) rfl (Or.inl rfl))) (fun _ _ _ _ _ _=>pifs_nil) (fun _ _ _ _ _ _=>(pe_ix ix_tup (pv 0) pe_int (fun _ _=>rfl)))) (pa_cons (pv 5) pa_nil))))))) pss_nil)
   (pss_cons (ps_set (i:=11) sc_law.nd rfl (Or.inl rfl) (pe_mcal0 (mal_Chest_close T) T.c_Chest (hr.mono (by decide)) (pv 3)))
   (pss_cons (ps_set (i:=12) sc_law.nd rfl (Or.inl rfl) (pe_tup (pa_cons (pe_cal (cal__law_rows T) (hr.mono (by decide)) (pa_cons (pv 6) (pa_cons (pv 7) (pa_cons (pv 10) pa_nil)))) (pa_cons (pv 9) pa_nil))))
   (pss_cons (ps_if (PW.pt (pw_or (pt_not (pt_val (pe_cal (cal__law_kinds T) (hr.mono (by decide)) (pa_cons (pv 11) pa_nil)))) (pw_or1 (pt_cmpR (op_ne_data hr.units) (pv 11) (pv 12) (nomark _))))) (pss_one (ps_ret pe_bl)) pss_nil)
   (pss_cons (ps_for PassesOwn.never rfl (pi_list (pe_ix ix_tup (pv 11) pe_int (fun _ _=>rfl))) (pg_name (i:=13) sc_law.nd rfl (Or.inl rfl)) (pss_one (ps_expr (pe_bm PySem.F.plainAttrs_list PySem.F.slot_list_append PySem.F.type_list_append mt_append (pe_ix ix_tup (pv 13) pe_int (fun _ _=>rfl)) (pa_cons (pe_tup (pa_cons pe_str (pa_cons pe_int pa_nil))) pa_nil)))))
   (pss_cons (ps_expr (pe_bm0 PySem.F.plainAttrs_list PySem.F.slot_list_clear PySem.F.type_list_clear mt_clear (pe_ix ix_tup (pv 11) pe_int (fun _ _=>rfl))))
   (pss_one (ps_ret (pe_cal (cal__law_behind T) (hr.mono (by decide)) (pa_cons (pv 3) (pa_cons (pv 6) (pa_cons (pv 7) (pa_cons (pv 10) (pa_cons (pv 9) (pa_cons (pv 8) pa_nil))))))))))))))))))))))))))))
end
end My
open PySem PySem.W PyProof.Rows
noncomputable def PySem.W.Fast.tw16493488236240500810:Unit:=()
noncomputable def PySem.W.Fast.tw14047263184845590273:Unit:=()
noncomputable def PySem.W.Fast.tw10543283953797130416:Unit:=()
noncomputable def PySem.W.Fast.tw15396502267935452347:Unit:=()
noncomputable def PySem.W.Fast.tw7785735537324352636:Unit:=()
noncomputable def PySem.W.Fast.tw2428715972468010085:Unit:=()
noncomputable def PySem.W.Fast.tw5069520947744289399:Unit:=()
noncomputable def PySem.W.Fast.tw13516287572345001328:Unit:=()
noncomputable def PySem.W.Fast.tw14590023512235861260:Unit:=()
noncomputable def PySem.W.Fast.tw14354227068519499986:Unit:=()
noncomputable def PySem.W.Fast.tw13011864875057823649:Unit:=()
noncomputable def PySem.W.Fast.tw4851498094233672393:Unit:=()
noncomputable def PySem.W.Fast.tw9657130308960957754:Unit:=()
noncomputable def PySem.W.Fast.tw4911871199249469343:Unit:=()
noncomputable def PySem.W.Fast.tw960393108526303619:Unit:=()
noncomputable def PySem.W.Fast.tw9689236290349326343:Unit:=()
noncomputable def PySem.W.Fast.tw16968701272784354072:Unit:=()
noncomputable def PySem.W.Fast.tw4572627685089646616:Unit:=()
noncomputable def PySem.W.Fast.tw4591505522390349083:Unit:=()
noncomputable def PySem.W.Fast.tw13320598517821377187:Unit:=()
noncomputable def PySem.W.Fast.tw12474448941223746082:Unit:=()
noncomputable def PySem.W.Fast.tw16929971436248040536:Unit:=()
noncomputable def PySem.W.Fast.tw10600990339892976511:Unit:=()
noncomputable def PySem.W.Fast.tw12596412298340098796:Unit:=()
noncomputable def PySem.W.Fast.tw9919781974714116786:Unit:=()
noncomputable def PySem.W.Fast.tw21859199337035208:Unit:=()
noncomputable def PySem.W.Fast.tw7012763423858590395:Unit:=()
noncomputable def PySem.W.Fast.tw16511351222278819767:Unit:=()
noncomputable def PySem.W.Fast.tw3389511064254921898:Unit:=()
noncomputable def PySem.W.Fast.tw11281053438250110035:Unit:=()
noncomputable def PySem.W.Fast.tw15058482004673608669:Unit:=()
noncomputable def PySem.W.Fast.tw5441056984869074842:Unit:=()
noncomputable def PySem.W.Fast.tw13686604160360590648:Unit:=()
noncomputable def PySem.W.Fast.tw14466762241533535787:Unit:=()
noncomputable def PySem.W.Fast.tw1956180855368914962:Unit:=()
noncomputable def PySem.W.Fast.tw17369183884007124058:Unit:=()
noncomputable def PySem.W.Fast.tw5320126919195296453:Unit:=()
noncomputable def PySem.W.Fast.tw14953964451140761279:Unit:=()
noncomputable def PySem.W.Fast.tw3697424102645073859:Unit:=()
noncomputable def PySem.W.Fast.tw11996470870508985379:Unit:=()
noncomputable def PySem.W.Fast.tw11363628338078388379:Unit:=()
noncomputable def PySem.W.Fast.tw11200555880639526805:Unit:=()
noncomputable def PySem.W.Fast.tw9852891307399878832:Unit:=()
noncomputable def PySem.W.Fast.tw10211737365119111408:Unit:=()
noncomputable def PySem.W.Fast.tw763887064319392225:Unit:=()
noncomputable def PySem.W.Fast.tw11439616911735512010:Unit:=()
noncomputable def PySem.W.Fast.tw6428554693856394727:Unit:=()
noncomputable def PySem.W.Fast.tw3979154771588715997:Unit:=()
noncomputable def PySem.W.Fast.tw18232773179985504730:Unit:=()
set_option maxRecDepth 100000 in
set_option maxHeartbeats 0 in
theorem PySem.Challenge.cw_purse_k44_closing_holds : PySem.Challenge.rw_purse_k44_closing.Holds := by
 w_on;o_law;k_head;(case hw=>w_witness2)
 k_fill
 refine L2.walk_law (l:=PySem.Challenge.rw_purse_k44_closing) (k:=9) rfl rfl ⟨rfl,by decide,by decide⟩ (fun w h Y=>PySem.W.kIn_of Y) ?F
 case F=>
  intro w mg fa h KX G hmg
  have h__law_spins:L2.FunIn (L2.KOf KX) mg "_law_spins" My.s__law_spins ["cell","many"]:=by
   dsimp only [L2.KOf]
   refine' L2.fun_in KX G ?a ?l ?c ?k ?b
   (case a=>k_is);(case l=>k_is);(case c=>k_is);(case k=>k_is);(case b=>exact fun _ _ _ _ _ _ us hl=>match us,hl with | [_,_],_=>rfl)
  have m_Chest___init__:L2.MethIn (L2.KOf KX) "Chest" "__init__" "Chest.__init__" My.s_Chest___init__ ["self"]:=by
   dsimp only [L2.KOf]
   refine' L2.meth_in (h:=h) ?a ?a4 ?fn ?l ?c ?k ?b
   (case a=>k_is);(case a4=>k_is);(case fn=>k_is);(case l=>k_is);(case c=>k_is);(case k=>k_is);(case b=>exact fun _ _ _ _ _ _ us hl=>match us,hl with | [_],_=>rfl)
  have h_is_name:L2.FunIn (L2.KOf KX) mg "is_name" My.s_is_name ["name"]:=by
   dsimp only [L2.KOf]
   refine' L2.fun_in KX G ?a ?l ?c ?k ?b
   (case a=>k_is);(case l=>k_is);(case c=>k_is);(case k=>k_is);(case b=>exact fun _ _ _ _ _ _ us hl=>match us,hl with | [_],_=>rfl)
  have h_check_new_name:L2.FunIn (L2.KOf KX) mg "check_new_name" My.s_check_new_name ["name","names"]:=by
   dsimp only [L2.KOf]
   refine' L2.fun_in KX G ?a ?l ?c ?k ?b
   (case a=>k_is);(case l=>k_is);(case c=>k_is);(case k=>k_is);(case b=>exact fun _ _ _ _ _ _ us hl=>match us,hl with | [_,_],_=>rfl)
  have h_check_place:L2.FunIn (L2.KOf KX) mg "check_place" My.s_check_place ["names","most"]:=by
   dsimp only [L2.KOf]
   refine' L2.fun_in KX G ?a ?l ?c ?k ?b
   (case a=>k_is);(case l=>k_is);(case c=>k_is);(case k=>k_is);(case b=>exact fun _ _ _ _ _ _ us hl=>match us,hl with | [_,_],_=>rfl)
  have m_Chest_enrol:L2.MethIn (L2.KOf KX) "Chest" "enrol" "Chest.enrol" My.s_Chest_enrol ["self","name"]:=by
   dsimp only [L2.KOf]
   refine' L2.meth_in (h:=h) ?a ?a4 ?fn ?l ?c ?k ?b
   (case a=>k_is);(case a4=>k_is);(case fn=>k_is);(case l=>k_is);(case c=>k_is);(case k=>k_is);(case b=>exact fun _ _ _ _ _ _ us hl=>match us,hl with | [_,_],_=>rfl)
  have h_check_coins:L2.FunIn (L2.KOf KX) mg "check_coins" My.s_check_coins ["coins","least"]:=by
   dsimp only [L2.KOf]
   refine' L2.fun_in KX G ?a ?l ?c ?k ?b
   (case a=>k_is);(case l=>k_is);(case c=>k_is);(case k=>k_is);(case b=>exact fun _ _ _ _ _ _ us hl=>match us,hl with | [_,_],_=>rfl)
  have m_Chest_share:L2.MethIn (L2.KOf KX) "Chest" "share" "Chest.share" My.s_Chest_share ["self","part"]:=by
   dsimp only [L2.KOf]
   refine' L2.meth_in (h:=h) ?a ?a4 ?fn ?l ?c ?k ?b
   (case a=>k_is);(case a4=>k_is);(case fn=>k_is);(case l=>k_is);(case c=>k_is);(case k=>k_is);(case b=>exact fun _ _ _ _ _ _ us hl=>match us,hl with | [_,_],_=>rfl)
  have m_Chest_give:L2.MethIn (L2.KOf KX) "Chest" "give" "Chest.give" My.s_Chest_give ["self","coins"]:=by
   dsimp only [L2.KOf]
   refine' L2.meth_in (h:=h) ?a ?a4 ?fn ?l ?c ?k ?b
   (case a=>k_is);(case a4=>k_is);(case fn=>k_is);(case l=>k_is);(case c=>k_is);(case k=>k_is);(case b=>exact fun _ _ _ _ _ _ us hl=>match us,hl with | [_,_],_=>rfl)
  have h__law_name:L2.FunIn (L2.KOf KX) mg "_law_name" My.s__law_name ["cell","k"]:=by
   dsimp only [L2.KOf]
   refine' L2.fun_in KX G ?a ?l ?c ?k ?b
   (case a=>k_is);(case l=>k_is);(case c=>k_is);(case k=>k_is);(case b=>exact fun _ _ _ _ _ _ us hl=>match us,hl with | [_,_],_=>rfl)
  have h__law_coins:L2.FunIn (L2.KOf KX) mg "_law_coins" My.s__law_coins ["x","kind"]:=by
   dsimp only [L2.KOf]
   refine' L2.fun_in KX G ?a ?l ?c ?k ?b
   (case a=>k_is);(case l=>k_is);(case c=>k_is);(case k=>k_is);(case b=>exact fun _ _ _ _ _ _ us hl=>match us,hl with | [_,_],_=>rfl)
  have h__law_people:L2.FunIn (L2.KOf KX) mg "_law_people" My.s__law_people ["chest","cell","many","kind"]:=by
   dsimp only [L2.KOf]
   refine' L2.fun_in KX G ?a ?l ?c ?k ?b
   (case a=>k_is);(case l=>k_is);(case c=>k_is);(case k=>k_is);(case b=>exact fun _ _ _ _ _ _ us hl=>match us,hl with | [_,_,_,_],_=>rfl)
  have m_Chest_given:L2.MethIn (L2.KOf KX) "Chest" "given" "Chest.given" My.s_Chest_given ["self"]:=by
   dsimp only [L2.KOf]
   refine' L2.meth_in (h:=h) ?a ?a4 ?fn ?l ?c ?k ?b
   (case a=>k_is);(case a4=>k_is);(case fn=>k_is);(case l=>k_is);(case c=>k_is);(case k=>k_is);(case b=>exact fun _ _ _ _ _ _ us hl=>match us,hl with | [_],_=>rfl)
  have m_Chest_propose:L2.MethIn (L2.KOf KX) "Chest" "propose" "Chest.propose" My.s_Chest_propose ["self","work","cost"]:=by
   dsimp only [L2.KOf]
   refine' L2.meth_in (h:=h) ?a ?a4 ?fn ?l ?c ?k ?b
   (case a=>k_is);(case a4=>k_is);(case fn=>k_is);(case l=>k_is);(case c=>k_is);(case k=>k_is);(case b=>exact fun _ _ _ _ _ _ us hl=>match us,hl with | [_,_,_],_=>rfl)
  have h__law_plans:L2.FunIn (L2.KOf KX) mg "_law_plans" My.s__law_plans ["chest","cell","many","kind"]:=by
   dsimp only [L2.KOf]
   refine' L2.fun_in KX G ?a ?l ?c ?k ?b
   (case a=>k_is);(case l=>k_is);(case c=>k_is);(case k=>k_is);(case b=>exact fun _ _ _ _ _ _ us hl=>match us,hl with | [_,_,_,_],_=>rfl)
  have m_Chest_voters:L2.MethIn (L2.KOf KX) "Chest" "voters" "Chest.voters" My.s_Chest_voters ["self"]:=by
   dsimp only [L2.KOf]
   refine' L2.meth_in (h:=h) ?a ?a4 ?fn ?l ?c ?k ?b
   (case a=>k_is);(case a4=>k_is);(case fn=>k_is);(case l=>k_is);(case c=>k_is);(case k=>k_is);(case b=>exact fun _ _ _ _ _ _ us hl=>match us,hl with | [_],_=>rfl)
  have m_Chest_wanters:L2.MethIn (L2.KOf KX) "Chest" "wanters" "Chest.wanters" My.s_Chest_wanters ["self","work"]:=by
   dsimp only [L2.KOf]
   refine' L2.meth_in (h:=h) ?a ?a4 ?fn ?l ?c ?k ?b
   (case a=>k_is);(case a4=>k_is);(case fn=>k_is);(case l=>k_is);(case c=>k_is);(case k=>k_is);(case b=>exact fun _ _ _ _ _ _ us hl=>match us,hl with | [_,_],_=>rfl)
  have m_Chest_works:L2.MethIn (L2.KOf KX) "Chest" "works" "Chest.works" My.s_Chest_works ["self"]:=by
   dsimp only [L2.KOf]
   refine' L2.meth_in (h:=h) ?a ?a4 ?fn ?l ?c ?k ?b
   (case a=>k_is);(case a4=>k_is);(case fn=>k_is);(case l=>k_is);(case c=>k_is);(case k=>k_is);(case b=>exact fun _ _ _ _ _ _ us hl=>match us,hl with | [_],_=>rfl)
  have m_Chest_check_voter:L2.MethIn (L2.KOf KX) "Chest" "check_voter" "Chest.check_voter" My.s_Chest_check_voter ["self","voter"]:=by
   dsimp only [L2.KOf]
   refine' L2.meth_in (h:=h) ?a ?a4 ?fn ?l ?c ?k ?b
   (case a=>k_is);(case a4=>k_is);(case fn=>k_is);(case l=>k_is);(case c=>k_is);(case k=>k_is);(case b=>exact fun _ _ _ _ _ _ us hl=>match us,hl with | [_,_],_=>rfl)
  have m_Chest_check_work:L2.MethIn (L2.KOf KX) "Chest" "check_work" "Chest.check_work" My.s_Chest_check_work ["self","work"]:=by
   dsimp only [L2.KOf]
   refine' L2.meth_in (h:=h) ?a ?a4 ?fn ?l ?c ?k ?b
   (case a=>k_is);(case a4=>k_is);(case fn=>k_is);(case l=>k_is);(case c=>k_is);(case k=>k_is);(case b=>exact fun _ _ _ _ _ _ us hl=>match us,hl with | [_,_],_=>rfl)
  have m_Chest_want:L2.MethIn (L2.KOf KX) "Chest" "want" "Chest.want" My.s_Chest_want ["self","voter","work"]:=by
   dsimp only [L2.KOf]
   refine' L2.meth_in (h:=h) ?a ?a4 ?fn ?l ?c ?k ?b
   (case a=>k_is);(case a4=>k_is);(case fn=>k_is);(case l=>k_is);(case c=>k_is);(case k=>k_is);(case b=>exact fun _ _ _ _ _ _ us hl=>match us,hl with | [_,_,_],_=>rfl)
  have h__law_wishes:L2.FunIn (L2.KOf KX) mg "_law_wishes" My.s__law_wishes ["chest","cells"]:=by
   dsimp only [L2.KOf]
   refine' L2.fun_in KX G ?a ?l ?c ?k ?b
   (case a=>k_is);(case l=>k_is);(case c=>k_is);(case k=>k_is);(case b=>exact fun _ _ _ _ _ _ us hl=>match us,hl with | [_,_],_=>rfl)
  have m_Chest_pot:L2.MethIn (L2.KOf KX) "Chest" "pot" "Chest.pot" My.s_Chest_pot ["self"]:=by
   dsimp only [L2.KOf]
   refine' L2.meth_in (h:=h) ?a ?a4 ?fn ?l ?c ?k ?b
   (case a=>k_is);(case a4=>k_is);(case fn=>k_is);(case l=>k_is);(case c=>k_is);(case k=>k_is);(case b=>exact fun _ _ _ _ _ _ us hl=>match us,hl with | [_],_=>rfl)
  have h_least_multiple:L2.FunIn (L2.KOf KX) mg "least_multiple" My.s_least_multiple ["step","number"]:=by
   dsimp only [L2.KOf]
   refine' L2.fun_in KX G ?a ?l ?c ?k ?b
   (case a=>k_is);(case l=>k_is);(case c=>k_is);(case k=>k_is);(case b=>exact fun _ _ _ _ _ _ us hl=>match us,hl with | [_,_],_=>rfl)
  have h_together:L2.FunIn (L2.KOf KX) mg "together" My.s_together ["n"]:=by
   dsimp only [L2.KOf]
   refine' L2.fun_in KX G ?a ?l ?c ?k ?b
   (case a=>k_is);(case l=>k_is);(case c=>k_is);(case k=>k_is);(case b=>exact fun _ _ _ _ _ _ us hl=>match us,hl with | [_],_=>rfl)
  have h_grains_of:L2.FunIn (L2.KOf KX) mg "grains_of" My.s_grains_of ["voters","works"]:=by
   dsimp only [L2.KOf]
   refine' L2.fun_in KX G ?a ?l ?c ?k ?b
   (case a=>k_is);(case l=>k_is);(case c=>k_is);(case k=>k_is);(case b=>exact fun _ _ _ _ _ _ us hl=>match us,hl with | [_,_],_=>rfl)
  have h_paid_by:L2.FunIn (L2.KOf KX) mg "paid_by" My.s_paid_by ["steps","voter"]:=by
   dsimp only [L2.KOf]
   refine' L2.fun_in KX G ?a ?l ?c ?k ?b
   (case a=>k_is);(case l=>k_is);(case c=>k_is);(case k=>k_is);(case b=>exact fun _ _ _ _ _ _ us hl=>match us,hl with | [_,_],_=>rfl)
  have h_left_of:L2.FunIn (L2.KOf KX) mg "left_of" My.s_left_of ["purses","steps"]:=by
   dsimp only [L2.KOf]
   refine' L2.fun_in KX G ?a ?l ?c ?k ?b
   (case a=>k_is);(case l=>k_is);(case c=>k_is);(case k=>k_is);(case b=>exact fun _ _ _ _ _ _ us hl=>match us,hl with | [_,_],_=>rfl)
  have h_prices_of:L2.FunIn (L2.KOf KX) mg "prices_of" My.s_prices_of ["costs","wishes"]:=by
   dsimp only [L2.KOf]
   refine' L2.fun_in KX G ?a ?l ?c ?k ?b
   (case a=>k_is);(case l=>k_is);(case c=>k_is);(case k=>k_is);(case b=>exact fun _ _ _ _ _ _ us hl=>match us,hl with | [_,_],_=>rfl)
  have h_rounded_up:L2.FunIn (L2.KOf KX) mg "rounded_up" My.s_rounded_up ["amount","shares"]:=by
   dsimp only [L2.KOf]
   refine' L2.fun_in KX G ?a ?l ?c ?k ?b
   (case a=>k_is);(case l=>k_is);(case c=>k_is);(case k=>k_is);(case b=>exact fun _ _ _ _ _ _ us hl=>match us,hl with | [_,_],_=>rfl)
  have h_level_for:L2.FunIn (L2.KOf KX) mg "level_for" My.s_level_for ["purses","price"]:=by
   dsimp only [L2.KOf]
   refine' L2.fun_in KX G ?a ?l ?c ?k ?b
   (case a=>k_is);(case l=>k_is);(case c=>k_is);(case k=>k_is);(case b=>exact fun _ _ _ _ _ _ us hl=>match us,hl with | [_,_],_=>rfl)
  have h_wants_all:L2.FunIn (L2.KOf KX) mg "wants_all" My.s_wants_all ["wanted","works"]:=by
   dsimp only [L2.KOf]
   refine' L2.fun_in KX G ?a ?l ?c ?k ?b
   (case a=>k_is);(case l=>k_is);(case c=>k_is);(case k=>k_is);(case b=>exact fun _ _ _ _ _ _ us hl=>match us,hl with | [_,_],_=>rfl)
  have h_common_of:L2.FunIn (L2.KOf KX) mg "common_of" My.s_common_of ["wishes","works"]:=by
   dsimp only [L2.KOf]
   refine' L2.fun_in KX G ?a ?l ?c ?k ?b
   (case a=>k_is);(case l=>k_is);(case c=>k_is);(case k=>k_is);(case b=>exact fun _ _ _ _ _ _ us hl=>match us,hl with | [_,_],_=>rfl)
  have h_wanters_of:L2.FunIn (L2.KOf KX) mg "wanters_of" My.s_wanters_of ["wishes","work"]:=by
   dsimp only [L2.KOf]
   refine' L2.fun_in KX G ?a ?l ?c ?k ?b
   (case a=>k_is);(case l=>k_is);(case c=>k_is);(case k=>k_is);(case b=>exact fun _ _ _ _ _ _ us hl=>match us,hl with | [_,_],_=>rfl)
  have h_offer_of:L2.FunIn (L2.KOf KX) mg "offer_of" My.s_offer_of ["purses","wishes","work","price"]:=by
   dsimp only [L2.KOf]
   refine' L2.fun_in KX G ?a ?l ?c ?k ?b
   (case a=>k_is);(case l=>k_is);(case c=>k_is);(case k=>k_is);(case b=>exact fun _ _ _ _ _ _ us hl=>match us,hl with | [_,_,_,_],_=>rfl)
  have h_offers_of:L2.FunIn (L2.KOf KX) mg "offers_of" My.s_offers_of ["purses","costs","wishes","done"]:=by
   dsimp only [L2.KOf]
   refine' L2.fun_in KX G ?a ?l ?c ?k ?b
   (case a=>k_is);(case l=>k_is);(case c=>k_is);(case k=>k_is);(case b=>exact fun _ _ _ _ _ _ us hl=>match us,hl with | [_,_,_,_],_=>rfl)
  have h_next_of:L2.FunIn (L2.KOf KX) mg "next_of" My.s_next_of ["offers"]:=by
   dsimp only [L2.KOf]
   refine' L2.fun_in KX G ?a ?l ?c ?k ?b
   (case a=>k_is);(case l=>k_is);(case c=>k_is);(case k=>k_is);(case b=>exact fun _ _ _ _ _ _ us hl=>match us,hl with | [_],_=>rfl)
  have h_works_of:L2.FunIn (L2.KOf KX) mg "works_of" My.s_works_of ["steps"]:=by
   dsimp only [L2.KOf]
   refine' L2.fun_in KX G ?a ?l ?c ?k ?b
   (case a=>k_is);(case l=>k_is);(case c=>k_is);(case k=>k_is);(case b=>exact fun _ _ _ _ _ _ us hl=>match us,hl with | [_],_=>rfl)
  have h_paid_at:L2.FunIn (L2.KOf KX) mg "paid_at" My.s_paid_at ["purses","level"]:=by
   dsimp only [L2.KOf]
   refine' L2.fun_in KX G ?a ?l ?c ?k ?b
   (case a=>k_is);(case l=>k_is);(case c=>k_is);(case k=>k_is);(case b=>exact fun _ _ _ _ _ _ us hl=>match us,hl with | [_,_],_=>rfl)
  have h_payments_of:L2.FunIn (L2.KOf KX) mg "payments_of" My.s_payments_of ["purses","wishes","work","level"]:=by
   dsimp only [L2.KOf]
   refine' L2.fun_in KX G ?a ?l ?c ?k ?b
   (case a=>k_is);(case l=>k_is);(case c=>k_is);(case k=>k_is);(case b=>exact fun _ _ _ _ _ _ us hl=>match us,hl with | [_,_,_,_],_=>rfl)
  have h_step_behind:L2.FunIn (L2.KOf KX) mg "step_behind" My.s_step_behind ["purses","costs","wishes","steps"]:=by
   dsimp only [L2.KOf]
   refine' L2.fun_in KX G ?a ?l ?c ?k ?b
   (case a=>k_is);(case l=>k_is);(case c=>k_is);(case k=>k_is);(case b=>exact fun _ _ _ _ _ _ us hl=>match us,hl with | [_,_,_,_],_=>rfl)
  have h_choose:L2.FunIn (L2.KOf KX) mg "choose" My.s_choose ["purses","costs","wishes"]:=by
   dsimp only [L2.KOf]
   refine' L2.fun_in KX G ?a ?l ?c ?k ?b
   (case a=>k_is);(case l=>k_is);(case c=>k_is);(case k=>k_is);(case b=>exact fun _ _ _ _ _ _ us hl=>match us,hl with | [_,_,_],_=>rfl)
  have m_Chest_keep_coins:L2.MethIn (L2.KOf KX) "Chest" "keep_coins" "Chest.keep_coins" My.s_Chest_keep_coins ["self","left","grains"]:=by
   dsimp only [L2.KOf]
   refine' L2.meth_in (h:=h) ?a ?a4 ?fn ?l ?c ?k ?b
   (case a=>k_is);(case a4=>k_is);(case fn=>k_is);(case l=>k_is);(case c=>k_is);(case k=>k_is);(case b=>exact fun _ _ _ _ _ _ us hl=>match us,hl with | [_,_,_],_=>rfl)
  have m_Chest_wanted_places:L2.MethIn (L2.KOf KX) "Chest" "wanted_places" "Chest.wanted_places" My.s_Chest_wanted_places ["self","voter"]:=by
   dsimp only [L2.KOf]
   refine' L2.meth_in (h:=h) ?a ?a4 ?fn ?l ?c ?k ?b
   (case a=>k_is);(case a4=>k_is);(case fn=>k_is);(case l=>k_is);(case c=>k_is);(case k=>k_is);(case b=>exact fun _ _ _ _ _ _ us hl=>match us,hl with | [_,_],_=>rfl)
  have m_Chest_told_step:L2.MethIn (L2.KOf KX) "Chest" "told_step" "Chest.told_step" My.s_Chest_told_step ["self","place","paid"]:=by
   dsimp only [L2.KOf]
   refine' L2.meth_in (h:=h) ?a ?a4 ?fn ?l ?c ?k ?b
   (case a=>k_is);(case a4=>k_is);(case fn=>k_is);(case l=>k_is);(case c=>k_is);(case k=>k_is);(case b=>exact fun _ _ _ _ _ _ us hl=>match us,hl with | [_,_,_],_=>rfl)
  have m_Chest_withdraw:L2.MethIn (L2.KOf KX) "Chest" "withdraw" "Chest.withdraw" My.s_Chest_withdraw ["self","work"]:=by
   dsimp only [L2.KOf]
   refine' L2.meth_in (h:=h) ?a ?a4 ?fn ?l ?c ?k ?b
   (case a=>k_is);(case a4=>k_is);(case fn=>k_is);(case l=>k_is);(case c=>k_is);(case k=>k_is);(case b=>exact fun _ _ _ _ _ _ us hl=>match us,hl with | [_,_],_=>rfl)
  have m_Chest_close:L2.MethIn (L2.KOf KX) "Chest" "close" "Chest.close" My.s_Chest_close ["self"]:=by
   dsimp only [L2.KOf]
   refine' L2.meth_in (h:=h) ?a ?a4 ?fn ?l ?c ?k ?b
   (case a=>k_is);(case a4=>k_is);(case fn=>k_is);(case l=>k_is);(case c=>k_is);(case k=>k_is);(case b=>exact fun _ _ _ _ _ _ us hl=>match us,hl with | [_],_=>rfl)
  have m_Chest_spent:L2.MethIn (L2.KOf KX) "Chest" "spent" "Chest.spent" My.s_Chest_spent ["self"]:=by
   dsimp only [L2.KOf]
   refine' L2.meth_in (h:=h) ?a ?a4 ?fn ?l ?c ?k ?b
   (case a=>k_is);(case a4=>k_is);(case fn=>k_is);(case l=>k_is);(case c=>k_is);(case k=>k_is);(case b=>exact fun _ _ _ _ _ _ us hl=>match us,hl with | [_],_=>rfl)
  have h__law_behind:L2.FunIn (L2.KOf KX) mg "_law_behind" My.s__law_behind ["chest","people","works","steps","grains","pot"]:=by
   dsimp only [L2.KOf]
   refine' L2.fun_in KX G ?a ?l ?c ?k ?b
   (case a=>k_is);(case l=>k_is);(case c=>k_is);(case k=>k_is);(case b=>exact fun _ _ _ _ _ _ us hl=>match us,hl with | [_,_,_,_,_,_],_=>rfl)
  have h__law_nth:L2.FunIn (L2.KOf KX) mg "_law_nth" My.s__law_nth ["script","k"]:=by
   dsimp only [L2.KOf]
   refine' L2.fun_in KX G ?a ?l ?c ?k ?b
   (case a=>k_is);(case l=>k_is);(case c=>k_is);(case k=>k_is);(case b=>exact fun _ _ _ _ _ _ us hl=>match us,hl with | [_,_],_=>rfl)
  have h__law_rows:L2.FunIn (L2.KOf KX) mg "_law_rows" My.s__law_rows ["people","works","steps"]:=by
   dsimp only [L2.KOf]
   refine' L2.fun_in KX G ?a ?l ?c ?k ?b
   (case a=>k_is);(case l=>k_is);(case c=>k_is);(case k=>k_is);(case b=>exact fun _ _ _ _ _ _ us hl=>match us,hl with | [_,_,_],_=>rfl)
  have h__law_counts:L2.FunIn (L2.KOf KX) mg "_law_counts" My.s__law_counts ["thing"]:=by
   dsimp only [L2.KOf]
   refine' L2.fun_in KX G ?a ?l ?c ?k ?b
   (case a=>k_is);(case l=>k_is);(case c=>k_is);(case k=>k_is);(case b=>exact fun _ _ _ _ _ _ us hl=>match us,hl with | [_],_=>rfl)
  have h__law_kinds:L2.FunIn (L2.KOf KX) mg "_law_kinds" My.s__law_kinds ["told"]:=by
   dsimp only [L2.KOf]
   refine' L2.fun_in KX G ?a ?l ?c ?k ?b
   (case a=>k_is);(case l=>k_is);(case c=>k_is);(case k=>k_is);(case b=>exact fun _ _ _ _ _ _ us hl=>match us,hl with | [_],_=>rfl)
  have h_law:L2.FunIn (L2.KOf KX) mg "law" My.s_law ["script"]:=by
   dsimp only [L2.KOf]
   refine' L2.fun_in KX G ?a ?l ?c ?k ?b
   (case a=>k_is);(case l=>k_is);(case c=>k_is);(case k=>k_is);(case b=>exact fun _ _ _ _ _ _ us hl=>match us,hl with | [_],_=>rfl)
  have c_Chest:L2.ClsIn (L2.KOf KX) mg "Chest":=by
   dsimp only [L2.KOf]
   refine' L2.cls_in KX G ?a ?pg ?hd ?po ?sa ?mk ?kp
   (case a=>k_is);(case pg=>k_is);(case hd=>k_is);(case po=>k_is);(case sa=>k_is);(case mk=>k_is);(case kp=>k_is)
  have n_Chest_purses:L2.NoAttr (L2.KOf KX) (L2.clsA (L2.KOf KX) "Chest") "purses":=by
   dsimp only [L2.KOf]
   refine' L2.noattr_in ?a ?n
   (case a=>k_is);(case n=>k_is)
  have n_Chest_costs:L2.NoAttr (L2.KOf KX) (L2.clsA (L2.KOf KX) "Chest") "costs":=by
   dsimp only [L2.KOf]
   refine' L2.noattr_in ?a ?n
   (case a=>k_is);(case n=>k_is)
  have n_Chest_wishes:L2.NoAttr (L2.KOf KX) (L2.clsA (L2.KOf KX) "Chest") "wishes":=by
   dsimp only [L2.KOf]
   refine' L2.noattr_in ?a ?n
   (case a=>k_is);(case n=>k_is)
  have n_Chest_unshared:L2.NoAttr (L2.KOf KX) (L2.clsA (L2.KOf KX) "Chest") "unshared":=by
   dsimp only [L2.KOf]
   refine' L2.noattr_in ?a ?n
   (case a=>k_is);(case n=>k_is)
  have n_Chest_gifts:L2.NoAttr (L2.KOf KX) (L2.clsA (L2.KOf KX) "Chest") "gifts":=by
   dsimp only [L2.KOf]
   refine' L2.noattr_in ?a ?n
   (case a=>k_is);(case n=>k_is)
  have n_Chest_outlay:L2.NoAttr (L2.KOf KX) (L2.clsA (L2.KOf KX) "Chest") "outlay":=by
   dsimp only [L2.KOf]
   refine' L2.noattr_in ?a ?n
   (case a=>k_is);(case n=>k_is)
  have cls:My.Cls (L2.KOf KX):=⟨c_Chest.cls,n_Chest_purses,n_Chest_costs,n_Chest_wishes,n_Chest_unshared,n_Chest_gifts,n_Chest_outlay⟩
  have z_all:mg "all"=none:=by
   refine' L2.mg_name KX G ?z;(case z=>k_is)
  have z_bool:mg "bool"=none:=by
   refine' L2.mg_name KX G ?z;(case z=>k_is)
  have z_dict:mg "dict"=none:=by
   refine' L2.mg_name KX G ?z;(case z=>k_is)
  have z_enumerate:mg "enumerate"=none:=by
   refine' L2.mg_name KX G ?z;(case z=>k_is)
  have z_int:mg "int"=none:=by
   refine' L2.mg_name KX G ?z;(case z=>k_is)
  have z_isinstance:mg "isinstance"=none:=by
   refine' L2.mg_name KX G ?z;(case z=>k_is)
  have z_len:mg "len"=none:=by
   refine' L2.mg_name KX G ?z;(case z=>k_is)
  have z_list:mg "list"=none:=by
   refine' L2.mg_name KX G ?z;(case z=>k_is)
  have z_min:mg "min"=none:=by
   refine' L2.mg_name KX G ?z;(case z=>k_is)
  have z_range:mg "range"=none:=by
   refine' L2.mg_name KX G ?z;(case z=>k_is)
  have z_sorted:mg "sorted"=none:=by
   refine' L2.mg_name KX G ?z;(case z=>k_is)
  have z_str:mg "str"=none:=by
   refine' L2.mg_name KX G ?z;(case z=>k_is)
  have z_sum:mg "sum"=none:=by
   refine' L2.mg_name KX G ?z;(case z=>k_is)
  have z_tuple:mg "tuple"=none:=by
   refine' L2.mg_name KX G ?z;(case z=>k_is)
  have z_zip:mg "zip"=none:=by
   refine' L2.mg_name KX G ?z;(case z=>k_is)
  have k_LETTERS:L2.KonS mg "LETTERS" "abcdefghijklmnopqrstuvwxyz":=by
   refine' L2.konS_in KX G ?z;(case z=>k_is)
  have k_MOST_AT_ONCE:L2.KonIn mg "MOST_AT_ONCE" 1000000000:=by
   refine' L2.kon_in KX G ?z;(case z=>k_is)
  have k_MOST_LETTERS:L2.KonIn mg "MOST_LETTERS" 8:=by
   refine' L2.kon_in KX G ?z;(case z=>k_is)
  have k_MOST_VOTERS:L2.KonIn mg "MOST_VOTERS" 20:=by
   refine' L2.kon_in KX G ?z;(case z=>k_is)
  have k_MOST_WORKS:L2.KonIn mg "MOST_WORKS" 12:=by
   refine' L2.kon_in KX G ?z;(case z=>k_is)
  exact L2.FunIn.law h_law hmg My.sc_law (L2.spOf_len rfl) (fun base f cdv A outer s H E hr=>My.pf_law ⟨h__law_spins,m_Chest___init__,h_is_name,h_check_new_name,h_check_place,m_Chest_enrol,h_check_coins,m_Chest_share,m_Chest_give,h__law_name,h__law_coins,h__law_people,m_Chest_given,m_Chest_propose,h__law_plans,m_Chest_voters,m_Chest_wanters,m_Chest_works,m_Chest_check_voter,m_Chest_check_work,m_Chest_want,h__law_wishes,m_Chest_pot,h_least_multiple,h_together,h_grains_of,h_paid_by,h_left_of,h_prices_of,h_rounded_up,h_level_for,h_wants_all,h_common_of,h_wanters_of,h_offer_of,h_offers_of,h_next_of,h_works_of,h_paid_at,h_payments_of,h_step_behind,h_choose,m_Chest_keep_coins,m_Chest_wanted_places,m_Chest_told_step,m_Chest_withdraw,m_Chest_close,m_Chest_spent,h__law_behind,h__law_nth,h__law_rows,h__law_counts,h__law_kinds,h_law,c_Chest,cls,z_all,z_bool,z_dict,z_enumerate,z_int,z_isinstance,z_len,z_list,z_min,z_range,z_sorted,z_str,z_sum,z_tuple,z_zip,k_LETTERS,k_MOST_AT_ONCE,k_MOST_LETTERS,k_MOST_VOTERS,k_MOST_WORKS⟩ hr) My.rk_law
