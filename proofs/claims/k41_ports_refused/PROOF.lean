import PyProof.Rows.All
import KE.KDictLaws
import KE.KDictOf
import KE.KFromBytes
import KE.KIsAll
import KE.KItem
import Wide.Meth
import PySem.Challenge.RW_wirestream_k41_ports_refused
set_option compiler.extract_closed false
set_option bootstrap.genMatcherCode false
set_option Elab.async false
set_option linter.all false
set_option maxRecDepth 100000
namespace L2
open PySem PySem.Spec PyProof.Rows
abbrev Key:=Sum Int Str
def Zil:Key→Value→Bool
  | .inl k,v=>Value.isInt k v
  | .inr x,v=>Value.isStrOf x v
def Zyy (w:World):Key→Int
  | .inl k=>hashInt k
  | .inr x=>hashStr w x
theorem z7:∀{k:Key} {v:Value},Zil k v=true→(∃i t,k=Sum.inl i∧v=Value.int i t)∨(∃x t,k=Sum.inr x∧v=Value.str x t)
  | .inl i,v,h=>by
    obtain ⟨t,e⟩:=Value.isInt_shape (k:=i) (v:=v) h
    exact .inl ⟨i,t,rfl,e⟩
  | .inr x,v,h=>by
    obtain ⟨t,e⟩:=Value.isStrOf_shape (x:=x) (v:=v) h
    exact .inr ⟨x,t,rfl,e⟩
theorem ZnC (i:Int) (t:Tok):Zil (.inl i) (.int i t)=true:=by simp [Zil,Value.isInt]
theorem ZnB (x:Str) (t:Tok):Zil (.inr x) (.str x t)=true:=by simp [Zil,Value.isStrOf]
theorem ZtJ (a b:Int):decide ((Sum.inl a:Key)=Sum.inl b)=(a == b):=by
  by_cases e:a=b
  · subst e; simp
  · have h:¬(Sum.inl a:Key)=Sum.inl b:=fun q=>e (Sum.inl.inj q)
    rw [decide_eq_false h]
    exact (beq_eq_false_iff_ne.mpr e).symm
theorem ZtG (a b:Str):decide ((Sum.inr a:Key)=Sum.inr b)=decide (a=b):=by
  by_cases e:a=b
  · subst e; simp
  · have h:¬(Sum.inr a:Key)=Sum.inr b:=fun q=>e (Sum.inr.inj q)
    rw [decide_eq_false h,decide_eq_false e]
theorem ZtI (a:Int) (b:Str):decide ((Sum.inl a:Key)=Sum.inr b)=false:=decide_eq_false (fun q=>nomatch q)
theorem ZtH (a:Str) (b:Int):decide ((Sum.inr a:Key)=Sum.inl b)=false:=decide_eq_false (fun q=>nomatch q)
def zQ (prog:Program) (w:World):PySem.KeyKind prog w Key where
  is:=Zil
  hash:=Zyy w
  inj:=fun v a b ha hb=>by
    rcases z7 ha with ⟨i,t,rfl,rfl⟩ | ⟨x,t,rfl,rfl⟩
    · rcases z7 hb with ⟨j,u,rfl,e⟩ | ⟨y,u,rfl,e⟩
      · injection e with e1 _; rw [e1]
      · exact nomatch e
    · rcases z7 hb with ⟨j,u,rfl,e⟩ | ⟨y,u,rfl,e⟩
      · exact nomatch e
      · injection e with e1 _; rw [e1]
  byValue:=fun k v h=>by
    rcases z7 h with ⟨i,t,rfl,rfl⟩ | ⟨x,t,rfl,rfl⟩<;>rfl
  pyHash:=fun hv h=>by
    rcases z7 hv with ⟨i,t,rfl,rfl⟩ | ⟨x,t,rfl,rfl⟩
    · exact wpAny_pyHash_int h
    · exact wpAny_pyHash_str h
  eqBool:=fun hu hv h=>by
    rcases z7 hu with ⟨i,t,rfl,rfl⟩ | ⟨x,t,rfl,rfl⟩
    · rcases z7 hv with ⟨j,u,rfl,rfl⟩ | ⟨y,u,rfl,rfl⟩
      · rw [ZtJ] at h; exact wpAny_eqBool_int h
      · rw [ZtI] at h; exact SeqAt.EqAt.int_str i t y u _ _ _ _ h
    · rcases z7 hv with ⟨j,u,rfl,rfl⟩ | ⟨y,u,rfl,rfl⟩
      · rw [ZtH] at h; exact SeqAt.EqAt.str_int x t j u _ _ _ _ h
      · rw [ZtG] at h; exact wpAny_eqBool_str h
  «strs»:=fun k x t v h=>by
    rcases z7 h with ⟨i,u,rfl,e⟩ | ⟨y,u,rfl,e⟩
    · exact nomatch e
    · injection e with e1 _
      subst e1
      cases v<;>rfl
theorem Zk9 (prog:Program) (w:World) (i:Int) (t:Tok):(zQ prog w).is (.inl i) (.int i t)=true:=ZnC i t
theorem Zk8 (prog:Program) (w:World) (x:Str) (t:Tok):(zQ prog w).is (.inr x) (.str x t)=true:=ZnB x t
end L2
namespace L2
open PySem PySem.Spec PyProof.Rows
inductive V where
  | non | bl (b:Bool) | int (i:Int) | str (x:Str) | byt (b:Array UInt8) | flt (b:UInt64) | ref (a:Addr) | ty (n:String)
  deriving DecidableEq
def RelV:V→Value→Prop
  | .non,u=>u=Value.none
  | .bl b,u=>u=Value.bool b
  | .int i,u=>∃t,u=Value.int i t
  | .str x,u=>∃t,u=Value.str x t
  | .byt b,u=>∃t,u=Value.bytes b t
  | .flt b,u=>∃t,u=Value.float b t
  | .ref a,u=>u=Value.ref a
  | .ty n,u=>u=Value.type n
abbrev Vals:List V→List Value→Prop:=Paired RelV
theorem Vals.length {xs:List V} {us:List Value} (r:Vals xs us):xs.length=us.length:=Paired.length r
theorem Vals.get:∀{xs:List V} {us:List Value} {i:Nat} {x:V},Vals xs us→xs[i]?=some x→∃u,us[i]?=some u∧RelV x u
  | _,_,_,_,.nil,e=>by simp at e
  | _,_,0,_,.cons r _,e=>by simp at e; subst e; exact ⟨_,rfl,r⟩
  | _,_,i+1,x,.cons _ t,e=>by
    obtain ⟨u,h1,h2⟩:=Vals.get (i:=i) (x:=x) t (by simpa using e)
    exact ⟨u,by simpa using h1,h2⟩
theorem Vals.append:∀{xs ys:List V} {us ws:List Value},Vals xs us→Vals ys ws→Vals (xs++ys) (us++ws)
  | _,_,_,_,.nil,s=>s
  | _,_,_,_,.cons r t,s=>.cons r (Vals.append t s)
theorem Vals.take:∀{xs:List V} {us:List Value} (n:Nat),Vals xs us→Vals (xs.take n) (us.take n)
  | _,_,0,_=>.nil
  | _,_,_+1,.nil=>.nil
  | _,_,n+1,.cons r t=>.cons r (Vals.take n t)
theorem Vals.drop:∀{xs:List V} {us:List Value} (n:Nat),Vals xs us→Vals (xs.drop n) (us.drop n)
  | _,_,0,r=>r
  | _,_,_+1,.nil=>.nil
  | _,_,n+1,.cons _ t=>Vals.drop n t
theorem Vals.none_of:∀{xs:List V} {us:List Value} {i:Nat},Vals xs us→xs[i]?=none→us[i]?=none:=fun {xs us i} r e=>by
  have h1:=r.length
  have h2:xs.length≤i:=List.getElem?_eq_none_iff.mp e
  exact List.getElem?_eq_none_iff.mpr (by omega)
def RelO:Option V→Option Value→Prop
  | some v,some u=>RelV v u
  | none,none=>True
  | _,_=>False
def KV {κ:Type}:List (κ×V)→List (κ×Value)→Prop:=Paired fun (p:κ×V) (q:κ×Value)=>p.1=q.1∧RelV p.2 q.2
def kV:Key→V
  | .inl i=>.int i
  | .inr x=>.str x
inductive HO where
  | lst (xs:List V)
  | tup (xs:List V)
  | dK (kvs:List (Key×V)) | dT (kvs:List (List Key×V))
  | set (S:Int→Bool) (n:Nat)
  | ins (C dx:Addr) (fs:List (Str×V))
  | own (x:Addr)
  | xd (fs:List (Str×V))
  | met (f x:Addr)
  | rng (lo hi:Int)
  | frz (o:Obj) (u:HO)
  | tbl (ps:Array Value)
  | ext (φ:Heap→Prop)
abbrev Hp:=Addr→Option HO
def upd (H:Hp) (a:Addr) (o:HO):Hp:=fun b=>if b=a then some o else H b
theorem Z4 {H:Hp} {a:Addr} {o:HO}:upd H a o a=some o:=by unfold upd; rw [if_pos rfl]
theorem ZT {H:Hp} {a b:Addr} {o:HO} (h:b≠a):upd H a o b=H b:=by unfold upd; rw [if_neg h]
theorem Zvg {H:Hp} {a b:Addr} {o u:HO} (h:H a=some o) (h':H b=some u) (d:o≠u):a≠b:=by
  intro e; subst e; rw [h] at h'; exact d (Option.some.inj h')
theorem za {H:Hp} {a b:Addr} {o:HO} (h:H a=some o) (h':H b=none):a≠b:=by
  intro e; subst e; rw [h] at h'; cases h'
section
variable (P:Program) (w:World)
def ObjOk (H:Hp) (h:Heap) (a:Addr):HO→Prop
  | .lst xs=>xs.length≤sizeLine∧∃(its:List Value) (n:Nat),Vals xs its∧h.get? a=some { cls:=.type "list",data:=.seq its.toArray n }
  | .tup xs=>xs.length≤sizeLine∧∃its:List Value,Vals xs its∧IsTup h a its.toArray
  | .dK kvs=>kvs.length≤sizeLine∧(a == sysModules)=false∧∃vs,KV kvs vs∧h.DictOf (zQ P w) a vs
  | .dT kvs=>kvs.length≤sizeLine∧(a == sysModules)=false∧∃xs:List (List Key×Addr×Value),
      Paired (fun (p:List Key×V) (q:List Key×Addr×Value)=>p.1=q.1∧H q.2.1=some (.tup (p.1.map kV))∧RelV p.2 q.2.2) kvs xs∧
      ∃o es ep,h.get? a=some o∧o.ExactDict∧o.data=.dict es ep∧es.toList=xs.map (entryOfKey (tupleKind (zQ P w)))∧(xs.map (·.1)).Nodup
  | .set S n=>h.SetOf (intKind P w) a S n
  | .ins C dx fs=>H dx=some (.own a)∧fs.length≤1000∧dx≠a∧h.get? a=some (PySem.W.instObj C dx)∧
      ∃mA,h.Ns1 dx mA∧(∀f,RelO (fs.lookup f) (mA f))∧PySem.Within mA (fs.map (·.1))
  | .own _=>∃o,h.get? a=some o
  | .xd fs=>∃mA,h.Ns1 a mA∧∀f,RelO (fs.lookup f) (mA f)
  | .rng lo hi=>∃t u v,h.get? a=some { cls:=.type "range",data:=.fields #[.int lo t,.int hi u,.int 1 v] }
  | .frz o u=>h.get? a=some o∧ObjOk H h a u
  | .tbl ps=>h.get? a=some { cls:=.none,data:=.fields ps }
  | .met f x=>h.get? a=some (PySem.W.methodObj (.ref f) (.ref x))
  | .ext φ=>φ h∧(∃o,h.get? a=some o)∧∀h1 h2:Heap,φ h1→(∀o,h1.get? a=some o→h2.get? a=some o)→φ h2
def HOk (H:Hp) (h:Heap):Prop:=∀a o,H a=some o→ObjOk P w H h a o
end
section
variable {P:Program} {w:World} {H H':Hp} {h h':Heap} {a:Addr} {o:HO}
theorem ObjOk.lt (x:ObjOk P w H h a o):a<h.objs.size:=by
  cases o with
  | lst xs=>obtain ⟨_,_,_,_,e⟩:=x; exact Heap.lt_size e
  | tup xs=>obtain ⟨_,_,_,p⟩:=x; exact p.lt
  | dK kvs=>obtain ⟨_,_,_,_,o,_,_,e,_⟩:=x; exact Heap.lt_size e
  | dT kvs=>obtain ⟨_,_,_,_,o,_,_,e,_⟩:=x; exact Heap.lt_size e
  | set S n=>obtain ⟨o,_,_,_,e,_⟩:=x; exact Heap.lt_size e
  | ins C dx fs=>obtain ⟨_,_,_,e,_⟩:=x; exact Heap.lt_size e
  | own y=>obtain ⟨_,e⟩:=x; exact Heap.lt_size e
  | xd fs=>obtain ⟨_,⟨_,_,_,e,_⟩,_⟩:=x; exact Heap.lt_size e
  | rng lo hi=>obtain ⟨_,_,_,e⟩:=x; exact Heap.lt_size e
  | frz ob u=>obtain ⟨e,_⟩:=x; exact Heap.lt_size e
  | tbl ps=>exact Heap.lt_size (show h.get? a=some _ from x)
  | met f y=>exact Heap.lt_size (show h.get? a=some _ from x)
  | ext φ=>obtain ⟨_,⟨_,e⟩,_⟩:=x; exact Heap.lt_size e
theorem Paired.mapP {α β:Type} {F G:α→β→Prop}:∀{l₁:List α} {l₂:List β},Paired F l₁ l₂→(∀a b,F a b→G a b)→Paired G l₁ l₂
  | _,_,.nil,_=>.nil
  | _,_,.cons r t,f=>.cons (f _ _ r) (Paired.mapP t f)
theorem ObjOk.stay (x:ObjOk P w H h a o) (k:∀b u,(b=a∨H b=some (.own a))→h.get? b=some u→h'.get? b=some u)
    (ho:∀b,H b=some (.own a)→H' b=some (.own a)) (ht:∀b xs,H b=some (.tup xs)→H' b=some (.tup xs)):ObjOk P w H' h' a o:=by
  induction o with
  | lst xs=>obtain ⟨z,its,n,r,e⟩:=x; exact ⟨z,its,n,r,k _ _ (.inl rfl) e⟩
  | tup xs=>obtain ⟨z,its,r,ob,e,c⟩:=x; exact ⟨z,its,r,ob,k _ _ (.inl rfl) e,c⟩
  | dK kvs=>obtain ⟨z,y,vs,r,ob,es,ep,e,c⟩:=x; exact ⟨z,y,vs,r,ob,es,ep,k _ _ (.inl rfl) e,c⟩
  | dT kvs=>
    obtain ⟨z,y,xs,r,ob,es,ep,e,c⟩:=x
    exact ⟨z,y,xs,Paired.mapP r fun p q z=>⟨z.1,ht _ _ z.2.1,z.2.2⟩,ob,es,ep,k _ _ (.inl rfl) e,c⟩
  | set S n=>obtain ⟨ob,es,ep,t,e,c⟩:=x; exact ⟨ob,es,ep,t,k _ _ (.inl rfl) e,c⟩
  | ins C dx fs=>
    obtain ⟨d,z,ne,e,mA,⟨od,es,ep,e2,c⟩,r⟩:=x
    exact ⟨ho _ d,z,ne,k _ _ (.inl rfl) e,mA,⟨od,es,ep,k _ _ (.inr d) e2,c⟩,r⟩
  | own y=>obtain ⟨ob,e⟩:=x; exact ⟨ob,k _ _ (.inl rfl) e⟩
  | xd fs=>obtain ⟨mA,⟨od,es,ep,e,c⟩,r⟩:=x; exact ⟨mA,⟨od,es,ep,k _ _ (.inl rfl) e,c⟩,r⟩
  | rng lo hi=>obtain ⟨t,u,v,e⟩:=x; exact ⟨t,u,v,k _ _ (.inl rfl) e⟩
  | frz ob u ih=>obtain ⟨e,q⟩:=x; exact ⟨k _ _ (.inl rfl) e,ih q⟩
  | tbl ps=>
    have e:h.get? a=some { cls:=.none,data:=.fields ps }:=x
    show h'.get? a=some { cls:=.none,data:=.fields ps }
    exact k a _ (.inl rfl) e
  | met f y=>
    have e:h.get? a=some (PySem.W.methodObj (.ref f) (.ref y)):=x
    show h'.get? a=some (PySem.W.methodObj (.ref f) (.ref y))
    exact k a _ (.inl rfl) e
  | ext φ=>obtain ⟨p,⟨o,e⟩,st⟩:=x; exact ⟨st _ _ p fun o q=>k _ _ (.inl rfl) q,⟨o,k _ _ (.inl rfl) e⟩,st⟩
theorem HOk.lt (x:HOk P w H h) (e:H a=some o):a<h.objs.size:=(x a o e).lt
theorem HOk.fresh (x:HOk P w H h) (e:h.objs.size≤a):H a=none:=by
  cases q:H a with
  | none=>rfl
  | some u=>exact absurd (Nat.lt_of_lt_of_le (x.lt q) e) (Nat.lt_irrefl _)
theorem HOk.kept (x:HOk P w H h) (k:∀b u,h.get? b=some u→h'.get? b=some u):HOk P w H h':=fun a o e=>
  (x a o e).stay (fun b u _ q=>k b u q) (fun _ q=>q) fun _ _ q=>q
theorem HOk.laid (x:HOk P w H h) (k:∀b u,h.get? b=some u→h'.get? b=some u) (hp:h.objs.size≤a) (new:ObjOk P w (upd H a o) h' a o):HOk P w (upd H a o) h':=fun b u e=>by
  have hn:=x.fresh hp
  by_cases hb:b=a
  · subst hb; rw [Z4] at e; cases e; exact new
  · rw [ZT hb] at e
    exact (x b u e).stay (fun c v _ q=>k c v q) (fun c q=>by rw [ZT (za q hn)]; exact q) fun c xs q=>by rw [ZT (za q hn)]; exact q
end
def Rd (H:Hp) (a:Addr) (u:HO):Prop:=H a=some u∨∃o,H a=some (.frz o u)
theorem Rd.ok {P:Program} {w:World} {H:Hp} {h:Heap} {a:Addr} {u:HO} (r:Rd H a u) (x:HOk P w H h):ObjOk P w H h a u:=by
  rcases r with r | ⟨o,r⟩
  · exact x a u r
  · obtain ⟨_,q⟩:=x a _ r
    exact q
def Mut:Option HO→Prop
  | some (.lst _)=>True
  | some (.dK _)=>True
  | some (.dT _)=>True
  | some (.set _ _)=>True
  | some (.ins _ _ _)=>True
  | some (.ext _)=>True
  | _=>False
section
variable {P:Program} {w:World} {H:Hp} {h h':Heap} {x e:Addr} {o':HO}
theorem HOk.write (ok:HOk P w H h) (mu:Mut (H x)) (he:e=x∨H e=some (.own x)) (k:∀b u,b≠e→h.get? b=some u→h'.get? b=some u) (heo:∃u,h'.get? e=some u)
    (new:ObjOk P w (upd H x o') h' x o'):HOk P w (upd H x o') h':=fun b u q=>by
  have nown:∀c y,H c=some (.own y)→c≠x:=fun c y r z=>by subst z; rw [r] at mu; exact mu
  have ntup:∀c xs,H c=some (.tup xs)→c≠x:=fun c xs r z=>by subst z; rw [r] at mu; exact mu
  by_cases hb:b=x
  · subst hb; rw [Z4] at q; cases q; exact new
  · rw [ZT hb] at q
    by_cases hbe:b=e
    · have q':H b=some (.own x):=by
        rcases he with z | z
        · exact absurd (hbe.trans z) hb
        · rw [hbe]; exact z
      rw [q] at q'; cases q'
      obtain ⟨v,hv⟩:=heo
      exact ⟨v,by rw [hbe]; exact hv⟩
    · refine (ok b u q).stay (fun c v hc r=>k c v ?_ r) (fun c r=>by rw [ZT (nown c b r)]; exact r) fun c xs r=>by rw [ZT (ntup c xs r)]; exact r
      rcases hc with rfl | hc
      · exact hbe
      · rintro rfl
        rcases he with z | z
        · exact nown c b hc z
        · rw [hc] at z; cases z; exact hb rfl
end
structure Un (fs ex:List Addr) (H H':Hp) (h h':Heap):Prop where
  keep:∀b o,h.get? b=some o→H b=none→b∉fs→b∉ex→h'.get? b=some o
  slot:∀b o,h.get? b=some o→H b=none→b∈fs→b∉ex→∃sl,h'.get? b=some { o with slots:=sl }
  free:∀b o,h.get? b=some o→H b=none→b∉ex→H' b=none
  there:∀b o,h.get? b=some o→b∉ex→∃o',h'.get? b=some o'
  tups:∀b xs,H b=some (.tup xs)→H' b=some (.tup xs)
  frzs:∀b o u,H b=some (.frz o u)→H' b=some (.frz o u)
  tbls:∀b ps,H b=some (.tbl ps)→∃more,H' b=some (.tbl (ps++more))
section
variable {fs fs' ex ex':List Addr} {H H1 H2:Hp} {h h1 h2 h':Heap} {a x e:Addr} {o:HO}
theorem Un.any (u:Un fs ex H H1 h h1) {b:Addr} {ob:Obj} (q:h.get? b=some ob) (n:H b=none) (hx:b∉ex):∃sl,h1.get? b=some { ob with slots:=sl }:=by
  by_cases hb:b∈fs
  · exact u.slot b ob q n hb hx
  · exact ⟨ob.slots,u.keep b ob q n hb hx⟩
theorem Un.kept (k:∀b u,h.get? b=some u→h'.get? b=some u):Un fs ex H H h h':=
  ⟨fun b ob q _ _ _=>k b ob q,fun b ob q _ _ _=>⟨ob.slots,k b ob q⟩,fun _ _ _ n _=>n,fun b ob q _=>⟨ob,k b ob q⟩,fun _ _ q=>q,fun _ _ _ q=>q,fun _ ps q=>⟨#[],by rw [q]; simp⟩⟩
theorem Un.refl:Un fs ex H H h h:=Un.kept fun _ _ q=>q
theorem Un.laid (k:∀b u,h.get? b=some u→h'.get? b=some u) (hp:h.objs.size≤a) (hn:H a=none):Un fs ex H (upd H a o) h h' where
  keep:=fun b u q _ _ _=>k b u q
  slot:=fun b u q _ _ _=>⟨u.slots,k b u q⟩
  free:=fun b u q n _=>by rw [ZT (Nat.ne_of_lt (Nat.lt_of_lt_of_le (Heap.lt_size q) hp))]; exact n
  there:=fun b u q _=>⟨u,k b u q⟩
  tups:=fun b xs q=>by rw [ZT (za q hn)]; exact q
  frzs:=fun b u xs q=>by rw [ZT (za q hn)]; exact q
  tbls:=fun b ps q=>⟨#[],by rw [ZT (za q hn),q]; simp⟩
theorem Un.write (mu:Mut (H x)) (he:e=x∨H e=some (.own x)) (k:∀b u,b≠e→h.get? b=some u→h'.get? b=some u) (heo:∃u,h'.get? e=some u):Un fs ex H (upd H x o) h h':=by
  have hx:∀b,H b=none→b≠x:=fun b n z=>by subst z; rw [n] at mu; exact mu
  have hb:∀b,H b=none→b≠e:=fun b n z=>by
    subst z
    rcases he with r | r
    · exact hx b n r
    · rw [n] at r; cases r
  have hm:∀b u,H b=some u→¬Mut (some u)→b≠x:=fun b u q nm z=>by subst z; rw [q] at mu; exact nm mu
  refine ⟨fun b u q n _ _=>k b u (hb b n) q,fun b u q n _ _=>⟨u.slots,k b u (hb b n) q⟩,fun b u q n _=>by rw [ZT (hx b n)]; exact n,fun b u q _=>?_,
    fun b xs q=>by rw [ZT (hm b _ q fun z=>z)]; exact q,fun b u xs q=>by rw [ZT (hm b _ q fun z=>z)]; exact q,fun b ps q=>⟨#[],by rw [ZT (hm b _ q fun z=>z),q]; simp⟩⟩
  by_cases hbe:b=e
  · subst hbe; exact heo
  · exact ⟨u,k b u hbe q⟩
end
def trk (h:Heap) (H:Hp):List Addr:=(List.range h.objs.size).filter fun a=>(H a).isSome
def Zjd (h:Heap) (H:Hp):Heap:=PySem.W.hideAll h (trk h H)
theorem ZnF (h:Heap) (H:Hp):(Zjd h H).objs.size=h.objs.size:=PySem.W.hideAll_size _ _
theorem Zqr {h:Heap} {H:Hp} {b:Addr} {o:Obj} (e:h.get? b=some o) (n:H b=none):(Zjd h H).get? b=some o:=
  PySem.W.hideAll_get _ e fun hm=>by
    have q:(H b).isSome=true:=(List.mem_filter.mp hm).2
    rw [n] at q; simp at q
theorem Zrz {h:Heap} {H:Hp} {b:Addr} {o:Obj} (e:(Zjd h H).get? b=some o):h.get? b=some o∧H b=none:=by
  have e':h.get? b=some o:=PySem.W.of_hideAll (trk h H) e
  refine ⟨e',?_⟩
  cases q:H b with
  | none=>rfl
  | some x=>
    have hm:b∈trk h H:=List.mem_filter.mpr ⟨List.mem_range.mpr (Heap.lt_size e'),by simp [q]⟩
    have z:(Zjd h H).get? b=none:=PySem.W.hideAll_none (trk h H) hm
    rw [z] at e; cases e
def Zr6 (g h:Heap) (L:Addr):List (Addr×Obj):=(List.range h.objs.size).filterMap fun a=>if a=L∨(g.get? a).isSome=true then none else (h.get? a).map fun o=>(a,o)
def rest (g h:Heap) (L d:Addr):List (Addr×Obj):=(Zr6 g h L).filter fun p=>decide (p.1≠d)
end L2
namespace L2
open PySem PySem.Spec PyProof.Rows
structure Mod (K:PySem.W.Frag) (mg:Str→Option Value) (base:Heap):Prop where
  kin:K.In base
  glob:base.Ns mainGlobals mg
  blt:∃mb,base.Ns builtinsNs mb∧∀x:Str,x≠"__name__"→mb x=bootBuiltins x
  nolimit:base.NoLimit
structure Cx where
  prog:Program
  w:World
  K:PySem.W.Frag
  mg:Str→Option Value
  base:Heap
  A:Around
  N:List Str
  s₀:Shared
  H₀:Hp
  env:Env
  outer:List Env
  stack:List Env
  ex:List Addr
  fn:Str→Bool
  calm:Bool
  pn:List (Addr×Obj)
  xe:Value→Shared→Prop
def frs (l:List Env):List Addr:=l.filterMap (·.frame)
abbrev Cx.fs (X:Cx):List Addr:=frs X.outer
def Vis (sc:Scope) (x:Str):Prop:=sc.names.lookup x=some .local∨sc.names.lookup x=some .cell∨sc.names.lookup x=some .free
def Loc (sc:Scope) (x:Str):Prop:=sc.names.lookup x=some .local∨sc.names.lookup x=some .cell
def Zy1 (env:Env) (h:Heap) (m:Str→Option Value) (x:Str) (u:Value):Prop:=
  (env.kindOf x=some .local∧m x=some u)∨((env.kindOf x=some .cell∨env.kindOf x=some .free)∧∃c,env.cells.lookup x=some c∧h.IsCell c (some u))
structure Cx.Ok (X:Cx):Prop where
  mod:Mod X.K X.mg X.base
  kind:X.env.scope.kind=.function
  glob:X.env.globals=mainGlobals
  blt:X.env.builtins=builtinsNs
  above:X.s₀.heap.objs.size≤X.env.locals
  inj:∀x y c,X.env.cells.lookup x=some c→X.env.cells.lookup y=some c→x=y
  has:∀x,(X.env.kindOf x=some .cell∨X.env.kindOf x=some .free)→∃c,X.env.cells.lookup x=some c
  cab:∀x c,X.fn x=true→X.env.cells.lookup x=some c→X.s₀.heap.objs.size≤c
  hd:X.calm=true→X.A.handled=none
  frames:X.A.frames=some X.stack
  stk:X.stack=X.outer∨(X.stack=X.env::X.outer∧X.env.frame=some X.env.locals)
  exf:∀b∈X.ex,b≠X.env.locals∧∀x c,X.env.cells.lookup x=some c→c≠b
  bs:∀b o,X.base.get? b=some o→X.s₀.heap.get? b=some o∧X.H₀ b=none
  bsz:X.base.objs.size≤X.s₀.heap.objs.size
  noex:∀b o,X.base.get? b=some o→b∉X.ex
  exfs:∀b∈X.ex,b∉X.fs
  funs:X.s₀.heap.FunFrames X.base X.outer
  frf:∀b∈X.fs,X.H₀ b=none
structure Inv (X:Cx) (pins:List (Addr×Obj)) (σ:List (Option V)) (H:Hp) (s:Shared):Prop where
  ok:X.Ok
  os:s.os=X.s₀.os
  bare:AllBare s.gens
  base:Un X.fs X.ex X.H₀ H X.s₀.heap s.heap
  loc:∃m,s.heap.Ns X.env.locals m∧∀(i:Nat) (x:Str) (v:V),X.N[i]?=some x→σ[i]?=some (some v)→Vis X.env.scope x→∃u,RelV v u∧Zy1 X.env s.heap m x u
  cell:∀x c,X.env.cells.lookup x=some c→∃v,s.heap.IsCell c v
  free:H X.env.locals=none
  freeC:∀x c,X.env.cells.lookup x=some c→H c=none
  pin:∀p∈X.pn++pins,s.heap.get? p.1=some p.2∧H p.1=none∧p.1≠X.env.locals∧p.1∉X.fs∧∀v,p.2.data≠.cell v
  hok:HOk X.prog X.w H s.heap
  len:σ.length=X.N.length
section
variable {X:Cx} {pins:List (Addr×Obj)} {σ:List (Option V)} {H H':Hp} {s:Shared} {h':Heap}
theorem Cx.Ok.nofr (ok:X.Ok) {b:Addr} {o:Obj} (e:X.base.get? b=some o):b∉X.fs:=fun hb=>by
  have:=(ok.funs.mem hb).1
  rw [e] at this; cases this
theorem Inv.bs (I:Inv X pins σ H s):∀b o,X.base.get? b=some o→s.heap.get? b=some o∧H b=none:=fun b o e=>
  ⟨I.base.keep b o (I.ok.bs b o e).1 (I.ok.bs b o e).2 (I.ok.nofr e) (I.ok.noex b o e),I.base.free b o (I.ok.bs b o e).1 (I.ok.bs b o e).2 (I.ok.noex b o e)⟩
theorem Inv.bk (I:Inv X pins σ H s):∀b o,X.base.get? b=some o→s.heap.get? b=some o:=fun b o e=>(I.bs b o e).1
theorem Inv.mod (I:Inv X pins σ H s):Mod X.K X.mg X.base:=I.ok.mod
theorem Inv.kIn (I:Inv X pins σ H s):X.K.In s.heap:=I.ok.mod.kin.keeps I.bk
theorem Inv.lt (I:Inv X pins σ H s):X.env.locals<s.heap.objs.size:=let ⟨_,hn,_⟩:=I.loc; hn.lt
theorem Inv.sz (I:Inv X pins σ H s):X.s₀.heap.objs.size≤s.heap.objs.size:=Nat.le_trans I.ok.above (Nat.le_of_lt I.lt)
theorem Inv.nofs (I:Inv X pins σ H s) {a:Addr} (h:s.heap.objs.size≤a):a∉X.fs:=fun hb=>by
  obtain ⟨_,o,ho,_⟩:=I.ok.funs.mem hb
  exact absurd (Nat.lt_of_lt_of_le (Heap.lt_size ho) (Nat.le_trans I.sz h)) (Nat.lt_irrefl _)
theorem Inv.cne (I:Inv X pins σ H s):∀x c,X.env.cells.lookup x=some c→c≠X.env.locals:=fun x c e z=>by
  obtain ⟨v,o,ho,hd⟩:=I.cell x c e
  obtain ⟨m,⟨o',es,ep,ho',hd',_⟩,_⟩:=I.loc
  rw [z,ho'] at ho; cases ho; rw [hd'] at hd; cases hd
theorem Inv.funs (I:Inv X pins σ H s):s.heap.FunFrames X.base X.outer:=by
  have all:∀(l:List Env),(∀b∈frs l,b∈X.fs)→X.s₀.heap.FunFrames X.base l→s.heap.FunFrames X.base l:=by
    intro l
    induction l with
    | nil=>intro _ _; trivial
    | cons env r ih=>
      intro hs hl
      obtain ⟨hk,⟨L,o,hf,hn,ho,hd⟩,hr⟩:=hl
      have hL:L∈X.fs:=hs L (by unfold frs; rw [List.filterMap_cons,hf]; exact List.mem_cons_self)
      obtain ⟨sl,e⟩:=I.base.slot L o ho (I.ok.frf L hL) hL fun z=>I.ok.exfs L z hL
      exact ⟨hk,⟨L,_,hf,hn,e,hd⟩,ih (fun b hb=>hs b (by unfold frs; rw [List.filterMap_cons,hf]; exact List.mem_cons_of_mem _ hb)) hr⟩
  exact all X.outer (fun _ hb=>hb) I.ok.funs
theorem Inv.stack (I:Inv X pins σ H s):s.heap.FunFrames X.base X.stack:=by
  rcases I.ok.stk with e | ⟨e,hf⟩
  · rw [e]; exact I.funs
  · rw [e]
    obtain ⟨m,hn,_⟩:=I.loc
    refine .cons (by rw [I.ok.kind]; decide) hf hn ?_ I.funs
    exact Heap.get?_none_of_le (Nat.le_trans I.ok.bsz I.ok.above)
theorem Inv.stkSub (I:Inv X pins σ H s):∀b∈frs X.stack,b∈X.env.locals::X.fs:=fun b hb=>by
  rcases I.ok.stk with e | ⟨e,hf⟩
  · rw [e] at hb; exact List.mem_cons_of_mem _ hb
  · rw [e] at hb
    unfold frs at hb
    rw [List.filterMap_cons,hf] at hb
    exact hb
theorem Inv.stkFree (I:Inv X pins σ H s):∀b∈frs X.stack,H b=none:=fun b hb=>by
  rcases List.mem_cons.mp (I.stkSub b hb) with e | hb
  · rw [e]; exact I.free
  · obtain ⟨_,o,ho,_⟩:=I.ok.funs.mem hb
    exact I.base.free b o ho (I.ok.frf b hb) fun z=>I.ok.exfs b z hb
theorem Inv.step {g':Array GenState} {t':Nat} {d':Drawn} {ch:List Addr} (I:Inv X pins σ H s)
    (hch:∀b∈ch,(b∈X.ex∨X.s₀.heap.objs.size≤b)∧b≠X.env.locals∧(∀x c,X.env.cells.lookup x=some c→c≠b)∧∀p∈X.pn++pins,p.1≠b)
    (keep:∀b o,b≠X.env.locals→b∉X.fs→b∉ch→s.heap.get? b=some o→H b=none→h'.get? b=some o)
    (slot:∀b o,b≠X.env.locals→b∈X.fs→b∉ch→s.heap.get? b=some o→H b=none→∃sl,h'.get? b=some { o with slots:=sl }) (free:∀b o,b∉ch→s.heap.get? b=some o→H b=none→H' b=none)
    (there:∀b o,b∉ch→s.heap.get? b=some o→∃o',h'.get? b=some o')
    (tups:∀b xs,H b=some (.tup xs)→H' b=some (.tup xs)) (frzs:∀b o u,H b=some (.frz o u)→H' b=some (.frz o u)) (tbls:∀b ps,H b=some (.tbl ps)→∃more,H' b=some (.tbl (ps++more)))
    (ns:∀m,s.heap.Ns X.env.locals m→h'.Ns X.env.locals m) (hok:HOk X.prog X.w H' h') (hg:AllBare g') :
    Inv X pins σ H' { s with heap:=h',gens:=g',drawn:=d',toks:=t' }:=by
  have neL:∀b o,X.s₀.heap.get? b=some o→b≠X.env.locals:=fun b o e=>Nat.ne_of_lt (Nat.lt_of_lt_of_le (Heap.lt_size e) I.ok.above)
  have neC:∀b o,X.s₀.heap.get? b=some o→b∉X.ex→b∉ch:=fun b o e hx hb=>by
    rcases (hch b hb).1 with z | z
    · exact hx z
    · exact absurd (Nat.lt_of_lt_of_le (Heap.lt_size e) z) (Nat.lt_irrefl _)
  have cellK:∀x c,X.env.cells.lookup x=some c→∀v,s.heap.IsCell c v→h'.IsCell c v:=fun x c e v ⟨o,ho,hd⟩=>by
    have nch:c∉ch:=fun z=>(hch c z).2.2.1 x c e rfl
    by_cases hc:c∈X.fs
    · obtain ⟨sl,q⟩:=slot c o (I.cne x c e) hc nch ho (I.freeC x c e)
      exact ⟨_,q,hd⟩
    · exact ⟨o,keep c o (I.cne x c e) hc nch ho (I.freeC x c e),hd⟩
  refine ⟨I.ok,I.os,hg,⟨fun b o e n hb hx=>?_,fun b o e n hb hx=>?_,fun b o e n hx=>?_,fun b o e hx=>?_,fun b xs e=>tups b xs (I.base.tups b xs e),fun b o xs e=>frzs b o xs (I.base.frzs b o xs e),fun b ps e=>?_⟩,?_,fun x c e=>?_,?_,fun x c e=>?_,fun p hp=>?_,hok,I.len⟩
  · exact keep b o (neL b o e) hb (neC b o e hx) (I.base.keep b o e n hb hx) (I.base.free b o e n hx)
  · obtain ⟨sl,e1⟩:=I.base.slot b o e n hb hx
    obtain ⟨sl',e2⟩:=slot b _ (neL b o e) hb (neC b o e hx) e1 (I.base.free b o e n hx)
    exact ⟨sl',e2⟩
  · obtain ⟨o',e1⟩:=I.base.there b o e hx
    exact free b o' (neC b o e hx) e1 (I.base.free b o e n hx)
  · obtain ⟨o',e1⟩:=I.base.there b o e hx
    exact there b o' (neC b o e hx) e1
  · obtain ⟨m1,e1⟩:=I.base.tbls b ps e
    obtain ⟨m2,e2⟩:=tbls b _ e1
    exact ⟨m1++m2,by rw [e2,Array.append_assoc]⟩
  · obtain ⟨m,hn,hl⟩:=I.loc
    refine ⟨m,ns m hn,fun i x v e1 e2 e3=>?_⟩
    obtain ⟨u,r,l⟩:=hl i x v e1 e2 e3
    refine ⟨u,r,?_⟩
    rcases l with l | ⟨k,c,e,z⟩
    · exact .inl l
    · exact .inr ⟨k,c,e,cellK x c e _ z⟩
  · obtain ⟨v,z⟩:=I.cell x c e
    exact ⟨v,cellK x c e v z⟩
  · obtain ⟨m,⟨o,_,_,ho,_⟩,_⟩:=I.loc
    exact free _ o (fun z=>(hch _ z).2.1 rfl) ho I.free
  · obtain ⟨v,o,ho,hd⟩:=I.cell x c e
    exact free c o (fun z=>(hch c z).2.2.1 x c e rfl) ho (I.freeC x c e)
  · obtain ⟨e,n,ne,nf,d⟩:=I.pin p hp
    have nch:p.1∉ch:=fun z=>(hch p.1 z).2.2.2 p hp rfl
    exact ⟨keep p.1 p.2 ne nf nch e n,free p.1 p.2 nch e n,ne,nf,d⟩
theorem Inv.un {t':Nat} (I:Inv X pins σ H s) (u:Un X.fs [] H H' s.heap h') (hok:HOk X.prog X.w H' h'):Inv X pins σ H' { s with heap:=h',toks:=t' }:=by
  obtain ⟨m,⟨o,es,ep,ho,r⟩,_⟩:=id I.loc
  obtain ⟨sl,hL⟩:=u.any ho I.free (by simp)
  exact I.step (g':=s.gens) (d':=s.drawn) (ch:=[]) (fun _ z=>nomatch z) (fun b o _ hb _ e n=>u.keep b o e n hb (by simp)) (fun b o _ hb _ e n=>u.slot b o e n hb (by simp)) (fun b o _ e n=>u.free b o e n (by simp)) (fun b o _ e=>u.there b o e (by simp)) u.tups u.frzs u.tbls (fun m' hm=>by
    obtain ⟨o',es',ep',ho',r'⟩:=hm
    rw [ho] at ho'; cases ho'
    exact ⟨_,es',ep',hL,r'⟩) hok I.bare
theorem Inv.call {g':Array GenState} {t':Nat} {d':Drawn} {ch:List Addr} (I:Inv X pins σ H s) (u:Un (frs X.stack) ch H H' s.heap h') (hok:HOk X.prog X.w H' h') (hg:AllBare g')
    (hch:∀b∈ch,(b∈X.ex∨X.s₀.heap.objs.size≤b)∧b≠X.env.locals∧(∀x c,X.env.cells.lookup x=some c→c≠b)∧∀p∈X.pn++pins,p.1≠b) :
    Inv X pins σ H' { s with heap:=h',gens:=g',drawn:=d',toks:=t' }:=by
  obtain ⟨m,⟨o,es,ep,ho,r⟩,_⟩:=id I.loc
  obtain ⟨sl,hL⟩:=u.any ho I.free fun z=>(hch _ z).2.1 rfl
  exact I.step (ch:=ch) hch (fun b o hL hb hc e n=>u.keep b o e n (fun z=>(List.mem_cons.mp (I.stkSub b z)).elim hL hb) hc) (fun b o _ _ hc e n=>u.any e n hc) (fun b o hc e n=>u.free b o e n hc) (fun b o hc e=>u.there b o e hc) u.tups u.frzs u.tbls (fun m' hm=>by
    obtain ⟨o',es',ep',ho',r'⟩:=hm
    rw [ho] at ho'; cases ho'
    exact ⟨_,es',ep',hL,r'⟩) hok hg
theorem Inv.turned {t':Nat} {it:Addr} (I:Inv X pins σ H s) (k:∀b o,b≠it→s.heap.get? b=some o→h'.get? b=some o) (hn:H it=none) (hL:it≠X.env.locals)
    (h1:it∈X.ex∨X.s₀.heap.objs.size≤it) (h2:∀x c,X.env.cells.lookup x=some c→c≠it) (h3:∀p∈X.pn++pins,p.1≠it):Inv X pins σ H { s with heap:=h',toks:=t' }:=by
  have nit:∀b u,H b=some u→b≠it:=fun b u e z=>by rw [z,hn] at e; cases e
  refine I.step (g':=s.gens) (d':=s.drawn) (ch:=[it]) (fun b hb=>?_) (fun b o _ _ hc e _=>k b o (fun z=>hc (by simp [z])) e) (fun b o _ _ hc e _=>⟨o.slots,k b o (fun z=>hc (by simp [z])) e⟩) (fun _ _ _ _ n=>n)
    (fun b o hc e=>⟨o,k b o (fun z=>hc (by simp [z])) e⟩) (fun _ _ e=>e) (fun _ _ _ e=>e) (fun b ps e=>⟨#[],by rw [e]; simp⟩) (fun m hm=>?_) (fun b u e=>?_) I.bare
  · have e:b=it:=by simpa using hb
    subst e
    exact ⟨h1,hL,h2,h3⟩
  · obtain ⟨o,es,ep,ho,r⟩:=hm
    exact ⟨o,es,ep,k _ o (Ne.symm hL) ho,r⟩
  · refine (I.hok b u e).stay (fun c v hc q=>k c v ?_ q) (fun _ q=>q) fun _ _ q=>q
    rcases hc with z | z
    · rw [z]; exact nit b u e
    · exact nit c _ z
theorem Inv.tok (I:Inv X pins σ H s) (t:Nat):Inv X pins σ H { s with toks:=t }:=I.un (h':=s.heap) (t':=t) Un.refl I.hok
theorem Inv.kept {t':Nat} (I:Inv X pins σ H s) (k:∀b u,s.heap.get? b=some u→h'.get? b=some u):Inv X pins σ H { s with heap:=h',toks:=t' }:=I.un (Un.kept k) (I.hok.kept k)
theorem Inv.laid {a:Addr} {o:HO} {t':Nat} (I:Inv X pins σ H s) (k:∀b u,s.heap.get? b=some u→h'.get? b=some u) (hp:s.heap.objs.size≤a) (new:ObjOk X.prog X.w (upd H a o) h' a o) :
    Inv X pins σ (upd H a o) { s with heap:=h',toks:=t' }:=I.un (Un.laid k hp (I.hok.fresh hp)) (I.hok.laid k hp new)
theorem Inv.write {x e:Addr} {o:HO} {t':Nat} (I:Inv X pins σ H s) (mu:Mut (H x)) (he:e=x∨H e=some (.own x)) (k:∀b u,b≠e→s.heap.get? b=some u→h'.get? b=some u) (heo:∃u,h'.get? e=some u)
    (new:ObjOk X.prog X.w (upd H x o) h' x o):Inv X pins σ (upd H x o) { s with heap:=h',toks:=t' }:=I.un (Un.write mu he k heo) (I.hok.write mu he k heo new)
theorem Inv.pins_of {pins':List (Addr×Obj)} (I:Inv X pins σ H s) (h:∀p∈pins',s.heap.get? p.1=some p.2∧H p.1=none∧p.1≠X.env.locals∧p.1∉X.fs∧∀v,p.2.data≠.cell v):Inv X pins' σ H s:=
  ⟨I.ok,I.os,I.bare,I.base,I.loc,I.cell,I.free,I.freeC,fun p hp=>(List.mem_append.mp hp).elim (fun z=>I.pin p (List.mem_append_left _ z)) (h p),I.hok,I.len⟩
theorem Zfd {N:List Str} (hN:N.Nodup) {i j:Nat} {x:Str} (a:N[i]?=some x) (b:N[j]?=some x):i=j:=by
  obtain ⟨h1,e1⟩:=List.getElem?_eq_some_iff.mp a
  obtain ⟨h2,e2⟩:=List.getElem?_eq_some_iff.mp b
  exact (List.getElem_inj hN).mp (e1.trans e2.symm)
theorem Zne {M:Model} {A:Around} {E:Value→Shared→Prop} {i:Nat} {x:Str} {v:V} {u:Value} {Q:Unit→Shared→Prop} (I:Inv X pins σ H s) (hN:X.N.Nodup) (hi:X.N[i]?=some x) (hx:Loc X.env.scope x) (r:RelV v u)
    (h:∀s',Inv X pins (σ.set i (some v)) H s'→(∃a,Heap.SameBut a s.heap s'.heap∧(a=X.env.locals∨X.env.cells.lookup x=some a))→Q () s') (hf:X.fn x=true∨X.env.scope.names.lookup x=some .local:=by first | exact .inl rfl | exact .inr rfl | assumption):wpAny M A (storeName X.env x u) Q E s:=by
  obtain ⟨m,hn,hl⟩:=id I.loc
  have hcls:(X.env.scope.kind == .class || (X.env.scope.kind == .module && X.env.locals != X.env.globals))=false:=by rw [I.ok.kind]; rfl
  have hiσ:i < σ.length:=by rw [I.len]; exact (List.getElem?_eq_some_iff.mp hi).1
  have cne:=I.cne
  have tracked:∀{a:Addr} {h':Heap},(∃o,s.heap.get? a=some o∧H a=none)→Heap.SameBut a s.heap h'→HOk X.prog X.w H h':=fun {a h'} ha hs b ob e=>by
    obtain ⟨_,_,hfree⟩:=ha
    refine (I.hok b ob e).stay (fun c w' hc q=>(hs.2 c ?_).trans q) (fun _ q=>q) fun _ _ q=>q
    rintro rfl
    rcases hc with rfl | hc
    · rw [hfree] at e; cases e
    · rw [hfree] at hc; cases hc
  rcases hx with hk | hk
  · refine wpAny_storeName_local hk hn (fun h' hn' hs=>?_) hcls
    obtain ⟨oL,_,_,hoL,_⟩:=id hn
    refine h _ ⟨I.ok,I.os,I.bare,⟨fun b o e n hb hx=>?_,fun b o e n hb hx=>?_,I.base.free,fun b o e hx=>?_,I.base.tups,I.base.frzs,I.base.tbls⟩,⟨_,hn',fun j y v' e1 e2 e3=>?_⟩,fun y c e=>?_,I.free,I.freeC,fun p hp=>?_,tracked ⟨oL,hoL,I.free⟩ hs,by simpa using I.len⟩ ⟨_,hs,.inl rfl⟩
    · exact (hs.2 b (Nat.ne_of_lt (Nat.lt_of_lt_of_le (Heap.lt_size e) I.ok.above))).trans (I.base.keep b o e n hb hx)
    · obtain ⟨sl,e1⟩:=I.base.slot b o e n hb hx
      exact ⟨sl,(hs.2 b (Nat.ne_of_lt (Nat.lt_of_lt_of_le (Heap.lt_size e) I.ok.above))).trans e1⟩
    · obtain ⟨o',e1⟩:=I.base.there b o e hx
      exact ⟨o',(hs.2 b (Nat.ne_of_lt (Nat.lt_of_lt_of_le (Heap.lt_size e) I.ok.above))).trans e1⟩
    · by_cases hj:j=i
      · subst hj
        rw [hi] at e1; cases e1
        rw [List.getElem?_set_self hiσ] at e2
        cases e2
        exact ⟨u,r,.inl ⟨hk,by simp⟩⟩
      · rw [List.getElem?_set_ne (Ne.symm hj)] at e2
        obtain ⟨u',r',q⟩:=hl j y v' e1 e2 e3
        refine ⟨u',r',?_⟩
        rcases q with ⟨k,e⟩ | ⟨k,c,e,z⟩
        · refine .inl ⟨k,?_⟩
          have:y≠x:=fun e=>hj (Zfd hN e1 (e ▸ hi))
          simp [this,e]
        · exact .inr ⟨k,c,e,z.sameBut hs (cne y c e)⟩
    · obtain ⟨w',z⟩:=I.cell y c e
      exact ⟨w',z.sameBut hs (cne y c e)⟩
    · obtain ⟨e,n,ne,nf,d⟩:=I.pin p hp
      exact ⟨(hs.2 p.1 ne).trans e,n,ne,nf,d⟩
  · have hfn:X.fn x=true:=by
      rcases hf with z | z
      · exact z
      · rw [z] at hk; cases hk
    obtain ⟨c,hc⟩:=I.ok.has x (.inl hk)
    obtain ⟨w',z⟩:=I.cell x c hc
    refine wpAny_storeName_cell I.ok.kind hk hc z (fun h' hc' hs=>?_)
    obtain ⟨oc,hoc,hocd⟩:=id z
    refine h { s with heap:=h' } ⟨I.ok,I.os,I.bare,⟨fun b o e n hb hx=>?_,fun b o e n hb hx=>?_,I.base.free,fun b o e hx=>?_,I.base.tups,I.base.frzs,I.base.tbls⟩,⟨m,hn.sameBut hs (Ne.symm (cne x c hc)),fun j y v' e1 e2 e3=>?_⟩,fun y c' e=>?_,I.free,I.freeC,fun p hp=>?_,tracked ⟨oc,hoc,I.freeC x c hc⟩ hs,by simpa using I.len⟩ ⟨c,hs,.inr hc⟩
    · exact (hs.2 b (Nat.ne_of_lt (Nat.lt_of_lt_of_le (Heap.lt_size e) (I.ok.cab x c hfn hc)))).trans (I.base.keep b o e n hb hx)
    · obtain ⟨sl,e1⟩:=I.base.slot b o e n hb hx
      exact ⟨sl,(hs.2 b (Nat.ne_of_lt (Nat.lt_of_lt_of_le (Heap.lt_size e) (I.ok.cab x c hfn hc)))).trans e1⟩
    · obtain ⟨o',e1⟩:=I.base.there b o e hx
      exact ⟨o',(hs.2 b (Nat.ne_of_lt (Nat.lt_of_lt_of_le (Heap.lt_size e) (I.ok.cab x c hfn hc)))).trans e1⟩
    · by_cases hj:j=i
      · subst hj
        rw [hi] at e1; cases e1
        rw [List.getElem?_set_self hiσ] at e2
        cases e2
        exact ⟨u,r,.inr ⟨.inl hk,c,hc,hc'⟩⟩
      · rw [List.getElem?_set_ne (Ne.symm hj)] at e2
        obtain ⟨u',r',q⟩:=hl j y v' e1 e2 e3
        refine ⟨u',r',?_⟩
        rcases q with q | ⟨k,c',e,z'⟩
        · exact .inl q
        · refine .inr ⟨k,c',e,z'.sameBut hs ?_⟩
          rintro rfl
          exact hj (Zfd hN e1 (I.ok.inj _ _ _ e hc ▸ hi))
    · by_cases hcc:c'=c
      · subst hcc; exact ⟨_,hc'⟩
      · obtain ⟨w2,z2⟩:=I.cell y c' e
        exact ⟨w2,z2.sameBut hs hcc⟩
    · obtain ⟨e,n,ne,nf,d⟩:=I.pin p hp
      refine ⟨(hs.2 p.1 ?_).trans e,n,ne,nf,d⟩
      intro q
      rw [q,hoc] at e
      have q':oc=p.2:=Option.some.inj e
      exact d w' (by rw [←q']; exact hocd)
theorem ZkU {M:Model} {A:Around} {E:Value→Shared→Prop} {i:Nat} {x:Str} {v:V} {u:Value} {Q:Unit→Shared→Prop} (I:Inv X pins σ H s) (hN:X.N.Nodup) (hi:X.N[i]?=some x) (hx:Loc X.env.scope x) (r:RelV v u)
    (h:∀s',Inv X pins (σ.set i (some v)) H s'→Q () s') (hf:X.fn x=true∨X.env.scope.names.lookup x=some .local:=by first | exact .inl rfl | exact .inr rfl | assumption):wpAny M A (storeName X.env x u) Q E s:=
  Zne I hN hi hx r (fun s' I' _=>h s' I') hf
theorem Inv.call' {s':Shared} {ch:List Addr} (I:Inv X pins σ H s) (ho:s'.os=s.os) (u:Un (frs X.stack) ch H H' s.heap s'.heap) (hok:HOk X.prog X.w H' s'.heap) (hg:AllBare s'.gens)
    (hch:∀b∈ch,(b∈X.ex∨X.s₀.heap.objs.size≤b)∧b≠X.env.locals∧(∀x c,X.env.cells.lookup x=some c→c≠b)∧∀p∈X.pn++pins,p.1≠b):Inv X pins σ H' s':=by
  obtain ⟨h',g',d',t',o'⟩:=s'
  have e:o'=s.os:=ho
  subst e
  exact I.call (g':=g') (t':=t') (d':=d') u hok hg hch
end
abbrev XK:=Value→Option Addr→Hp→Prop
abbrev St:=List (Option V)
abbrev VK:=V→Hp→Prop
abbrev TE:=St→Hp→VK→Prop
abbrev TT:=St→Hp→(Bool→Hp→Prop)→Prop
abbrev TA:=St→Hp→(List V→Hp→Prop)→Prop
structure ZcP where
  nx:St→Hp→Prop
  rt:VK
  bk:St→Hp→Prop:=fun _ _=>False
  ct:St→Hp→Prop:=fun _ _=>False
abbrev TS:=ZcP→St→Hp→Prop
def EP (X:Cx) (pins:List (Addr×Obj)) (σ:St) (Q:VK) (u:Value) (s':Shared):Prop:=∃v H',Inv X pins σ H' s'∧RelV v u∧Q v H'
def TP (X:Cx) (pins:List (Addr×Obj)) (σ:St) (Q:Bool→Hp→Prop) (b:Bool) (s':Shared):Prop:=∃H',Inv X pins σ H' s'∧Q b H'
def AP (X:Cx) (pins:List (Addr×Obj)) (σ:St) (Q:List V→Hp→Prop) (us:List Value) (s':Shared):Prop:=∃vs H',Inv X pins σ H' s'∧Vals vs us∧Q vs H'
def SP (X:Cx) (pins:List (Addr×Obj)) (D:ZcP) (f:Flow) (s':Shared):Prop:=
  match f with
  | .next=>∃σ' H',Inv X pins σ' H' s'∧D.nx σ' H'
  | .brk=>∃σ' H',Inv X pins σ' H' s'∧D.bk σ' H'
  | .cont=>∃σ' H',Inv X pins σ' H' s'∧D.ct σ' H'
  | .ret u=>∃v σ' H',Inv X pins σ' H' s'∧RelV v u∧D.rt v H'
def PE (X:Cx) (e:Expr) (t:TE):Prop:=
  ∀(pins:List (Addr×Obj)) (s:Shared) (σ:St) (H:Hp) (Q:VK),Inv X pins σ H s→t σ H Q→wpAny (model X.prog X.w) X.A (eval e X.env) (EP X pins σ Q) X.xe s
def PT (X:Cx) (e:Expr) (t:TT):Prop:=
  ∀(pins:List (Addr×Obj)) (s:Shared) (σ:St) (H:Hp) (Q:Bool→Hp→Prop),Inv X pins σ H s→t σ H Q→wpAny (model X.prog X.w) X.A (isTrue e X.env (eval e X.env)) (TP X pins σ Q) X.xe s
def PW (X:Cx) (e:Expr) (t:TT):Prop:=
  ∀(whole:Sem Value) (pins:List (Addr×Obj)) (s:Shared) (σ:St) (H:Hp) (Q:Bool→Hp→Prop),Inv X pins σ H s→t σ H Q→wpAny (model X.prog X.w) X.A (isTrue e X.env whole) (TP X pins σ Q) X.xe s
theorem PW.pt {X:Cx} {e:Expr} {t:TT} (h:PW X e t):PT X e t:=h _
def PA (X:Cx) (es:List Expr) (t:TA):Prop:=
  ∀(pos:Pos) (pins:List (Addr×Obj)) (s:Shared) (σ:St) (H:Hp) (Q:List V→Hp→Prop),Inv X pins σ H s→t σ H Q→wpAny (model X.prog X.w) X.A (spliced (backTo pos (starEach es X.env))) (AP X pins σ Q) X.xe s
def PS (X:Cx) (st:Stmt) (t:TS):Prop:=
  ∀(pins:List (Addr×Obj)) (s:Shared) (σ:St) (H:Hp) (D:ZcP),Inv X pins σ H s→t D σ H→wpAny (model X.prog X.w) X.A (exec st X.env) (SP X pins D) X.xe s
def PSs (X:Cx) (st:List Stmt) (t:TS):Prop:=
  ∀(pins:List (Addr×Obj)) (s:Shared) (σ:St) (H:Hp) (D:ZcP),Inv X pins σ H s→t D σ H→wpAny (model X.prog X.w) X.A (execs st X.env) (SP X pins D) X.xe s
theorem thn {α:Type} {t:Sem α} {Q Q':α→Shared→Prop} {M:Model} {A:Around} {E:Value→Shared→Prop} {s:Shared} (h:wpAny M A t Q E s) (hQ:∀a s,Q a s→Q' a s):wpAny M A t Q' E s:=wpAny_mono h hQ fun _ _ x=>x
end L2
namespace L2
open PySem PySem.Spec PyProof.Rows
section
variable {X:Cx}
theorem bin {a b:Expr} {ta tb:TE} (ha:PE X a ta) (hb:PE X b tb) {pins:List (Addr×Obj)} {s:Shared} {σ:St} {H:Hp} {R:V→V→Hp→Prop} (I:Inv X pins σ H s) (h:ta σ H fun x H1=>tb σ H1 fun y H2=>R x y H2)
    {α:Type} {Q:α→Shared→Prop} {f:Value→Value→Sem α}
    (hf:∀v u s2 x y H2,Inv X pins σ H2 s2→RelV x v→RelV y u→R x y H2→wpAny (model X.prog X.w) X.A (f v u) Q X.xe s2) :
    wpAny (model X.prog X.w) X.A (eval a X.env) (fun v s₁=>wpAny (model X.prog X.w) X.A (eval b X.env) (fun u s₂=>wpAny (model X.prog X.w) X.A (f v u) Q X.xe s₂) X.xe s₁) X.xe s:=by
  refine thn (ha pins s σ H _ I h) fun v s1 ⟨x,H1,I1,r1,q1⟩=>?_
  refine thn (hb pins s1 σ H1 _ I1 q1) fun u s2 ⟨y,H2,I2,r2,q2⟩=>?_
  exact hf v u s2 x y H2 I2 r1 r2 q2
def Zx8 (i:Nat):TE:=fun σ H Q=>∃v,σ[i]?=some (some v)∧Q v H
def tC (v:V):TE:=fun _ H Q=>Q v H
theorem ZiS {i:Nat} {x:Str} {pos:Pos} (hN:X.N[i]?=some x) (hv:Vis X.env.scope x) (hd:(x == ("__debug__":Str))=false:=by decide) (hcd:(x == ("__classdict__":Str))=false:=by decide):PE X (.Name x pos) (Zx8 i):=by
  intro pins s σ H Q I h
  obtain ⟨v,e,h⟩:=h
  obtain ⟨m,hn,hl⟩:=I.loc
  obtain ⟨u,r,l⟩:=hl i x v hN e hv
  have fin:EP X pins σ Q u s:=⟨v,H,I,r,h⟩
  rcases l with ⟨hk,hm⟩ | ⟨hk,c,hc,hcell⟩
  · exact wpAny_Name (wpAny_loadName_local I.ok.kind hk hn hm fin) hd
  · rcases hk with hk | hk
    · exact wpAny_Name (wpAny_loadName_cell I.ok.kind hk hc hcell fin) hd
    · exact wpAny_Name (wpAny_loadName_free I.ok.kind hk hc hcell fin hcd) hd
theorem Ztn {i j pos}:PE X (.Constant (.int i) j pos) (tC (.int i)):=fun _ _ _ H _ I h=>wpAny_Constant_int ⟨.int i,H,I.tok _,⟨_,rfl⟩,h⟩
theorem Zu7 {b j pos}:PE X (.Constant (.bool b) j pos) (tC (.bl b)):=fun _ _ _ H _ I h=>Constant_bool ⟨.bl b,H,I,rfl,h⟩
theorem Ztm {j pos}:PE X (.Constant .none j pos) (tC .non):=fun _ _ _ H _ I h=>Constant_none ⟨.non,H,I,rfl,h⟩
theorem Ztl {x j pos}:PE X (.Constant (.str x) j pos) (tC (.str x)):=fun _ _ _ H _ I h=>Calls.Constant_str ⟨.str x,H,I.tok _,⟨_,rfl⟩,h⟩
def Gl (X:Cx) (x:Str):Prop:=X.env.kindOf x=some .globalImplicit
theorem Zer {E:Value→Shared→Prop} {pins:List (Addr×Obj)} {s:Shared} {σ:St} {H:Hp} {x:Str} {u:Value} {pos:Pos} {Q:Value→Shared→Prop} (I:Inv X pins σ H s) (hg:Gl X x) (hm:X.mg x=some u) (h:Q u s)
    (hd:(x == ("__debug__":Str))=false:=by decide):wpAny (model X.prog X.w) X.A (eval (.Name x pos) X.env) Q E s:=
  Calls.Name_function_global I.ok.kind hg (Calls.loadGlobal_global (by rw [I.ok.glob]; exact I.mod.glob.keeps I.bk) hm h) hd
theorem Zhj {E:Value→Shared→Prop} {pins:List (Addr×Obj)} {s:Shared} {σ:St} {H:Hp} {x:Str} {u:Value} {pos:Pos} {Q:Value→Shared→Prop} (I:Inv X pins σ H s) (hg:Gl X x) (hm:X.mg x=none) (hv:bootBuiltins x=some u) (h:Q u s)
    (hn:x≠"__name__":=by decide) (hd:(x == ("__debug__":Str))=false:=by decide):wpAny (model X.prog X.w) X.A (eval (.Name x pos) X.env) Q E s:=by
  obtain ⟨mb,h1,h2⟩:=I.mod.blt
  exact Calls.Name_function_global I.ok.kind hg (Calls.loadGlobal_builtin (by rw [I.ok.glob]; exact I.mod.glob.keeps I.bk) hm (by rw [I.ok.blt]; exact h1.keeps I.bk) ((h2 x hn).trans hv) h) hd
theorem ZiT {x:Str} {v:V} {u:Value} {pos:Pos} (hg:Gl X x) (hm:X.mg x=some u) (r:RelV v u) (hd:(x == ("__debug__":Str))=false:=by decide):PE X (.Name x pos) (tC v):=
  fun _ _ _ H _ I h=>Zer I hg hm ⟨v,H,I,r,h⟩ hd
theorem Zrw {x:Str} {v:V} {u:Value} {pos:Pos} (hg:Gl X x) (hm:X.mg x=none) (hv:bootBuiltins x=some u) (r:RelV v u) (hn:x≠"__name__":=by decide) (hd:(x == ("__debug__":Str))=false:=by decide):PE X (.Name x pos) (tC v):=
  fun _ _ _ H _ I h=>Zhj I hg hm hv ⟨v,H,I,r,h⟩ hn hd
variable {a b:Expr} {ta tb:TE} {pos:Pos}
def PC (X:Cx) (op:CmpOp) (a b:Expr) (t:TE):Prop:=
  ∀(pins:List (Addr×Obj)) (s:Shared) (σ:St) (H:Hp) (Q:VK),Inv X pins σ H s→t σ H Q→
    wpAny (model X.prog X.w) X.A (eval a X.env) (fun v s₁=>wpAny (model X.prog X.w) X.A (eval b X.env) (fun u s₂=>wpAny (model X.prog X.w) X.A (compareOp op v u) (EP X pins σ Q) X.xe s₂) X.xe s₁) X.xe s
theorem Zp8 (b:Expr) {op:CmpOp} (h:op≠.In) (h2:op≠.NotIn):behindInMarks op b=false:=by
  have e1:(op == CmpOp.In)=false:=by cases op<;>first | rfl | exact absurd rfl h
  have e2:(op == CmpOp.NotIn)=false:=by cases op<;>first | rfl | exact absurd rfl h2
  cases b<;>simp [behindInMarks,e1,e2]
def tB (t:TE):TT:=fun σ H Q=>t σ H fun x H1=>∃c,x=.bl c∧Q c H1
theorem ZpG {op:CmpOp} {t:TE} (h:PC X op a b t) (h1:behindInMarks op b=false:=by first | exact Zp8 _ (by decide) (by decide) | rfl):PT X (.Compare a [op] [b] pos) (tB t):=by
  intro pins s σ H Q I hw
  refine wpAny_isTrue_Compare1 (thn (h pins s σ H _ I hw) fun v s1 h1=>thn h1 fun u s2 h2=>thn h2 fun c s3 ⟨x,H1,I1,r1,q1⟩=>?_) h1
  obtain ⟨d,rfl,q⟩:=q1
  cases r1
  exact wpAny_truthy_bool ⟨H1,I1,q⟩
variable {tA tB':TT} {rest:List Expr}
def Zyj (t u:TT):TT:=fun σ H Q=>t σ H fun c H1=>if c=true then u σ H1 Q else Q false H1
def tOr (t u:TT):TT:=fun σ H Q=>t σ H fun c H1=>if c=true then Q true H1 else u σ H1 Q
def Zye (t:TT):TT:=fun σ H Q=>t σ H fun c H1=>Q (!c) H1
theorem Zri (ha:PT X a tA):PW X (.BoolOp .And [a] pos) tA:=by
  intro wh pins s σ H Q I h
  refine isTrue_and (thn (ha pins s σ H Q I h) fun c s1 e=>?_)
  cases c with
  | true=>exact isTrue_and_nil e
  | false=>exact e
theorem Zs8 (ha:PT X a tA):PW X (.BoolOp .Or [a] pos) tA:=by
  intro wh pins s σ H Q I h
  refine isTrue_or (thn (ha pins s σ H Q I h) fun c s1 e=>?_)
  cases c with
  | false=>exact isTrue_or_nil e
  | true=>exact e
theorem Zs9 (ha:PT X a tA) (hb:PW X (.BoolOp .And (b::rest) pos) tB'):PW X (.BoolOp .And (a::b::rest) pos) (Zyj tA tB'):=by
  intro wh pins s σ H Q I h
  refine isTrue_and (thn (ha pins s σ H _ I h) fun c s1 ⟨H1,I1,q1⟩=>?_)
  cases c with
  | true=>exact hb wh pins s1 σ H1 Q I1 q1
  | false=>exact ⟨H1,I1,q1⟩
theorem Zu1 (ha:PT X a tA) (hb:PW X (.BoolOp .Or (b::rest) pos) tB'):PW X (.BoolOp .Or (a::b::rest) pos) (tOr tA tB'):=by
  intro wh pins s σ H Q I h
  refine isTrue_or (thn (ha pins s σ H _ I h) fun c s1 ⟨H1,I1,q1⟩=>?_)
  cases c with
  | true=>exact ⟨H1,I1,q1⟩
  | false=>exact hb wh pins s1 σ H1 Q I1 q1
theorem Ztb (ha:PT X a tA):PT X (.UnaryOp .Not a pos) (Zye tA):=by
  intro pins s σ H Q I h
  exact isTrue_not (ha pins s σ H (fun c H1=>Q (!c) H1) I h)
def ZuQ (ta tb:TE):TE:=fun σ H Q=>ta σ H fun x H1=>∃c,x=.bl c∧if c=true then tb σ H1 Q else Q (.bl false) H1
def Zyd (ta tb:TE):TE:=fun σ H Q=>ta σ H fun x H1=>∃c,x=.bl c∧if c=true then Q (.bl true) H1 else tb σ H1 Q
theorem ZpN {op} {t:TE} (h:PE X a t):PE X (.BoolOp op [a] pos) t:=fun pins s σ H Q I hw=>BoolOp_one (h pins s σ H Q I hw)
theorem ZpX (ha:PE X a ta) (hb:PE X (.BoolOp .And (b::rest) pos) tb):PE X (.BoolOp .And (a::b::rest) pos) (ZuQ ta tb):=by
  intro pins s σ H Q I h
  refine BoolOp_and (thn (ha pins s σ H _ I h) fun v s1 ⟨x,H1,I1,r1,q1⟩=>?_)
  obtain ⟨c,rfl,q1⟩:=q1
  cases r1
  refine wpAny_truthy_bool ?_
  cases c with
  | true=>exact hb pins s1 σ H1 Q I1 q1
  | false=>exact ⟨.bl false,H1,I1,rfl,q1⟩
theorem Zu3 (ha:PE X a ta) (hb:PE X (.BoolOp .Or (b::rest) pos) tb):PE X (.BoolOp .Or (a::b::rest) pos) (Zyd ta tb):=by
  intro pins s σ H Q I h
  refine BoolOp_or (thn (ha pins s σ H _ I h) fun v s1 ⟨x,H1,I1,r1,q1⟩=>?_)
  obtain ⟨c,rfl,q1⟩:=q1
  cases r1
  refine wpAny_truthy_bool ?_
  cases c with
  | false=>exact hb pins s1 σ H1 Q I1 q1
  | true=>exact ⟨.bl true,H1,I1,rfl,q1⟩
def tIf (t:TT) (ta tb:TE):TE:=fun σ H Q=>t σ H fun c H1=>if c=true then ta σ H1 Q else tb σ H1 Q
theorem ZpP {c:Expr} (hc:PT X c tA) (ha:PE X a ta) (hb:PE X b tb):PE X (.IfExp c a b pos) (tIf tA ta tb):=by
  intro pins s σ H Q I h
  refine wpAny_IfExp (thn (hc pins s σ H _ I h) fun d s1 ⟨H1,I1,q1⟩=>?_)
  cases d with
  | true=>exact ha pins s1 σ H1 Q I1 q1
  | false=>exact hb pins s1 σ H1 Q I1 q1
end
end L2
namespace L2
open PySem PySem.Spec PyProof.Rows
def SqL (K:PySem.W.Frag) (H:Hp) (a:Addr) (xs:List V):Prop:=
  Rd H a (.lst xs)∨
    ∃(o:Obj) (its:Array Value) (n:Nat),K.lookup a=some o∧o.cls=.type "list"∧o.dict=none∧o.data=.seq its n∧its.size≤sizeLine∧Vals xs its.toList
def SqT (K:PySem.W.Frag) (H:Hp) (a:Addr) (xs:List V):Prop:=
  Rd H a (.tup xs)∨
    ∃(o:Obj) (its:Array Value) (n:Nat),K.lookup a=some o∧o.cls=.type "tuple"∧o.data=.seq its n∧its.size≤sizeLine∧Vals xs its.toList
def ZyZ:Value→Option V
  | .none=>some .non
  | .bool b=>some (.bl b)
  | .int i _=>some (.int i)
  | .str x _=>some (.str x)
  | .bytes b _=>some (.byt b)
  | .float b _=>some (.flt b)
  | .ref a=>some (.ref a)
  | .type n=>some (.ty n)
  | _=>none
theorem RelV.abs {x:V} {u:Value} (r:RelV x u):ZyZ u=some x:=by
  cases x with
  | non=>cases r; rfl
  | bl _=>cases r; rfl
  | int _=>obtain ⟨t,rfl⟩:=r; rfl
  | str _=>obtain ⟨t,rfl⟩:=r; rfl
  | byt _=>obtain ⟨t,rfl⟩:=r; rfl
  | flt _=>obtain ⟨t,rfl⟩:=r; rfl
  | ref _=>cases r; rfl
  | ty _=>cases r; rfl
theorem RelV.inj {x y:V} {u:Value} (r:RelV x u) (q:RelV y u):x=y:=Option.some.inj (r.abs.symm.trans q.abs)
theorem Vals.inj:∀{xs ys:List V} {us:List Value},Vals xs us→Vals ys us→xs=ys
  | _,_,_,.nil,.nil=>rfl
  | _,_,_,.cons r t,.cons r' t'=>by rw [r.inj r',Vals.inj t t']
section
variable {X:Cx} {pins:List (Addr×Obj)} {σ:St} {H:Hp} {s:Shared} {a:Addr} {xs ys:List V}
theorem SqL.of {K:PySem.W.Frag} (h:H a=some (.lst xs)):SqL K H a xs:=.inl (.inl h)
theorem SqT.of {K:PySem.W.Frag} (h:H a=some (.tup xs)):SqT K H a xs:=.inl (.inl h)
theorem Inv.list (I:Inv X pins σ H s) (h:SqL X.K H a xs):∃its:List Value,Vals xs its∧PlainL s.heap a its.toArray∧xs.length≤sizeLine:=by
  rcases h with h | ⟨o,its,n,hk,hc,hd,hs,hz,r⟩
  · obtain ⟨z,its,n,r,e⟩:=h.ok I.hok
    exact ⟨its,r,⟨_,n,e,rfl,rfl,rfl⟩,z⟩
  · refine ⟨its.toList,r,⟨o,n,I.kIn a o hk,hc,hd,by simpa using hs⟩,?_⟩
    have e:=r.length
    simp only [Array.length_toList] at e
    omega
theorem Inv.tuple (I:Inv X pins σ H s) (h:SqT X.K H a xs):∃its:List Value,Vals xs its∧IsTup s.heap a its.toArray∧xs.length≤sizeLine:=by
  rcases h with h | ⟨o,its,n,hk,hc,hs,hz,r⟩
  · obtain ⟨z,its,r,p⟩:=h.ok I.hok
    exact ⟨its,r,p,z⟩
  · refine ⟨its.toList,r,⟨o,I.kIn a o hk,hc,n,by simpa using hs⟩,?_⟩
    have e:=r.length
    simp only [Array.length_toList] at e
    omega
theorem Inv.list_inj (I:Inv X pins σ H s) (h:SqL X.K H a xs) (h':SqL X.K H a ys):xs=ys:=by
  obtain ⟨its,r,⟨o,n,e,_,_,d⟩,_⟩:=I.list h
  obtain ⟨its',r',⟨o',n',e',_,_,d'⟩,_⟩:=I.list h'
  rw [e] at e'; cases e'
  rw [d] at d'
  injection d' with d1 _
  have:its=its':=by simpa using congrArg Array.toList d1
  subst this
  exact r.inj r'
theorem Inv.tuple_inj (I:Inv X pins σ H s) (h:SqT X.K H a xs) (h':SqT X.K H a ys):xs=ys:=by
  obtain ⟨its,r,⟨o,e,_,n,d⟩,_⟩:=I.tuple h
  obtain ⟨its',r',⟨o',e',_,n',d'⟩,_⟩:=I.tuple h'
  rw [e] at e'; cases e'
  rw [d] at d'
  injection d' with d1 _
  have:its=its':=by simpa using congrArg Array.toList d1
  subst this
  exact r.inj r'
end
abbrev Cx.wish (X:Cx) (E:Value→Shared→Prop):Cx:={ X with xe:=E }
abbrev Cx.nox (X:Cx):Cx:=X.wish fun _ _=>False
theorem Cx.Ok.wish {X:Cx} (ok:X.Ok) (E:Value→Shared→Prop):(X.wish E).Ok:=
  ⟨ok.mod,ok.kind,ok.glob,ok.blt,ok.above,ok.inj,ok.has,ok.cab,ok.hd,ok.frames,ok.stk,ok.exf,ok.bs,ok.bsz,ok.noex,ok.exfs,ok.funs,ok.frf⟩
theorem Cx.Ok.unwish {X:Cx} {E:Value→Shared→Prop} (ok:(X.wish E).Ok):X.Ok:=
  ⟨ok.mod,ok.kind,ok.glob,ok.blt,ok.above,ok.inj,ok.has,ok.cab,ok.hd,ok.frames,ok.stk,ok.exf,ok.bs,ok.bsz,ok.noex,ok.exfs,ok.funs,ok.frf⟩
section
variable {X:Cx} {pins:List (Addr×Obj)} {σ:St} {H:Hp} {s:Shared} {E:Value→Shared→Prop}
theorem Inv.wish (I:Inv X pins σ H s) (E:Value→Shared→Prop):Inv (X.wish E) pins σ H s:=⟨I.ok.wish E,I.os,I.bare,I.base,I.loc,I.cell,I.free,I.freeC,I.pin,I.hok,I.len⟩
theorem Inv.unwish (I:Inv (X.wish E) pins σ H s):Inv X pins σ H s:=⟨I.ok.unwish,I.os,I.bare,I.base,I.loc,I.cell,I.free,I.freeC,I.pin,I.hok,I.len⟩
theorem SP.unwish {D:ZcP} {f:Flow} {s':Shared} (h:SP (X.wish E) pins D f s'):SP X pins D f s':=by
  cases f with
  | next=>obtain ⟨σ',H',I,q⟩:=h; exact ⟨σ',H',I.unwish,q⟩
  | brk=>obtain ⟨σ',H',I,q⟩:=h; exact ⟨σ',H',I.unwish,q⟩
  | cont=>obtain ⟨σ',H',I,q⟩:=h; exact ⟨σ',H',I.unwish,q⟩
  | ret u=>obtain ⟨v,σ',H',I,r,q⟩:=h; exact ⟨v,σ',H',I.unwish,r,q⟩
theorem PT.nox {e:Expr} {t:TT} (h:PT X.nox e t):PT X e t:=fun pins s σ H Q I hw=>
  wpAny_mono (h pins s σ H Q (I.wish _) hw) (fun _ _ ⟨H',I',q⟩=>⟨H',I'.unwish,q⟩) fun _ _ z=>False.elim z
theorem PSs.nox {st:List Stmt} {t:TS} (h:PSs X.nox st t):PSs X st t:=fun pins s σ H D I hw=>
  wpAny_mono (h pins s σ H D (I.wish _) hw) (fun _ _ q=>q.unwish) fun _ _ z=>False.elim z
end
section
variable {X:Cx} {st:Stmt} {rest:List Stmt} {t u:TS} {e:Expr} {te:TE} {pos:Pos}
def ZuJ:TS:=fun D σ H=>D.nx σ H
def Zyb (t u:TS):TS:=fun D σ H=>t { D with nx:=u D } σ H
theorem Zmu:PSs X [] ZuJ:=fun _ _ σ H _ I h=>wpAny_execs_nil ⟨σ,H,I,h⟩
theorem Zk2 (h1:PS X st t) (h2:PSs X rest u):PSs X (st::rest) (Zyb t u):=by
  intro pins s σ H D I h
  refine wpAny_execs_cons (thn (h1 pins s σ H { D with nx:=u D } I h) fun f s1 q=>?_)
  cases f with
  | next=>
    obtain ⟨σ',H',I',q⟩:=q
    exact h2 pins s1 σ' H' D I' q
  | ret v=>exact q
  | brk=>exact q
  | cont=>exact q
theorem ZiQ (h1:PS X st t):PSs X [st] t:=by
  intro pins s σ H D I h
  refine wpAny_execs_cons (thn (h1 pins s σ H D I h) fun f s1 q=>?_)
  cases f with
  | next=>exact wpAny_execs_nil q
  | ret v=>exact q
  | brk=>exact q
  | cont=>exact q
theorem Inv.quiet {pins:List (Addr×Obj)} {σ:St} {H:Hp} {s:Shared} (I:Inv X pins σ H s):interactive X.env=false:=by simp [interactive,I.ok.kind]
def ZuM (te:TE):TS:=fun D σ H=>te σ H fun _ H1=>D.nx σ H1
theorem Zmv (he:PE X e te) (hs:swapsWith e none pos.line X.env=pure false:=by rfl):PS X (.Expr e pos) (ZuM te):=by
  intro pins s σ H D I h
  exact wpAny_Expr_any (thn (he pins s σ H _ I h) fun v s1 ⟨x,H1,I1,r1,q1⟩=>⟨σ,H1,I1,q1⟩) I.quiet hs
def Zyc (te:TE):TS:=fun D σ H=>te σ H D.rt
theorem Ztc (he:PE X e te):PS X (.Return (some e) pos) (Zyc te):=by
  intro pins s σ H D I h
  exact wpAny_Return_some (thn (he pins s σ H _ I h) fun v s1 ⟨x,H1,I1,r1,q1⟩=>⟨x,σ,H1,I1,r1,q1⟩)
def ZuH:TS:=fun D _ H=>D.rt .non H
theorem Zrk:PS X (.Return none pos) ZuH:=fun _ _ σ H _ I h=>wpAny_Return_none ⟨.non,σ,H,I,rfl,h⟩
def Zyg (c:TT) (t u:TS):TS:=fun D σ H=>c σ H fun b H1=>if b=true then t D σ H1 else u D σ H1
theorem Zsn {c:Expr} {a b:List Stmt} {tc:TT} (hc:PT X c tc) (ha:PSs X a t) (hb:PSs X b u):PS X (.If c a b pos) (Zyg tc t u):=by
  intro pins s σ H D I h
  refine wpAny_If (thn (hc pins s σ H _ I h) fun d s1 ⟨H1,I1,q1⟩=>?_)
  cases d with
  | true=>exact ha pins s1 σ H1 D I1 q1
  | false=>exact hb pins s1 σ H1 D I1 q1
end
abbrev TG:=V→St→Hp→(St→Hp→Prop)→Prop
abbrev TGs:=List V→St→Hp→(St→Hp→Prop)→Prop
def PG (X:Cx) (target:Expr) (t:TG):Prop:=
  ∀(pins:List (Addr×Obj)) (s:Shared) (σ:St) (H:Hp) (v:V) (u:Value) (Q:St→Hp→Prop),Inv X pins σ H s→RelV v u→t v σ H Q→
    wpAny (model X.prog X.w) X.A (assign target X.env u) (fun _ s'=>∃σ' H',Inv X pins σ' H' s'∧Q σ' H') X.xe s
def PGs (X:Cx) (ts:List Expr) (t:TGs):Prop:=
  ∀(pins:List (Addr×Obj)) (s:Shared) (σ:St) (H:Hp) (vs:List V) (us:List Value) (Q:St→Hp→Prop),Inv X pins σ H s→Vals vs us→t vs σ H Q→
    wpAny (model X.prog X.w) X.A (assignInOrder ((assignEach ts X.env).map (·.2)) us) (fun _ s'=>∃σ' H',Inv X pins σ' H' s'∧Q σ' H') X.xe s
section
variable {X:Cx} {pos:Pos}
def Zin (i:Nat):TG:=fun v σ H Q=>Q (σ.set i (some v)) H
theorem Zel {i:Nat} {x:Str} (hN:X.N.Nodup) (hi:X.N[i]?=some x) (hx:Loc X.env.scope x) (hf:X.fn x=true∨X.env.scope.names.lookup x=some .local:=by first | exact .inl rfl | exact .inr rfl | assumption):PG X (.Name x pos) (Zin i):=by
  intro pins s σ H v u Q I r h
  exact wpAny_assign_Name (ZkU I hN hi hx r (fun s' I'=>⟨_,H,I',h⟩) hf)
def ZyT:TGs:=fun vs σ H Q=>vs=[]∧Q σ H
def Zvv (t:TG) (u:TGs):TGs:=fun vs σ H Q=>∃v r,vs=v::r∧t v σ H fun σ' H'=>u r σ' H' Q
theorem Zrp:PGs X [] ZyT:=by
  intro pins s σ H vs us Q I r h
  obtain ⟨e,h⟩:=h
  subst e
  cases r
  exact assignInOrder_nil ⟨σ,H,I,h⟩
theorem Zk3 {e:Expr} {es:List Expr} {t:TG} {u:TGs} (h1:PG X e t) (h2:PGs X es u)
    (hs:(assignEach (e::es) X.env).map (·.2)=assign e X.env::(assignEach es X.env).map (·.2):=by rfl):PGs X (e::es) (Zvv t u):=by
  intro pins s σ H vs us Q I r h
  obtain ⟨v,vr,e1,h⟩:=h
  subst e1
  cases r with
  | cons r rr=>
    rw [hs]
    refine assignInOrder_cons (thn (h1 pins s σ H _ _ _ I r h) fun _ s1 ⟨σ1,H1,I1,q1⟩=>?_)
    exact h2 pins s1 σ1 H1 _ _ Q I1 rr q1
def ZyS (K:PySem.W.Frag) (n:Nat) (t:TGs):TG:=fun v σ H Q=>∃a xs,v=.ref a∧SqT K H a xs∧xs.length=n∧t xs σ H Q
theorem Ztj {es:List Expr} {k:Nat} {t:TGs} {n:Nat} (hc:X.calm=true) (h:PGs X es t)
    (hn:(assignEach es X.env).length=n:=by rfl) (hst:(assignEach es X.env).findIdx? (·.1)=none:=by rfl):PG X (.Tuple es k pos) (ZyS X.K n t):=by
  intro pins s σ H v u Q I r hw
  obtain ⟨a,xs,e1,hq,hl,hw⟩:=hw
  subst e1
  cases r
  obtain ⟨its,rv,ht,hz⟩:=I.tuple hq
  refine assign_Tuple_tuple (I.ok.hd hc) ht (by simp [hn,←hl,rv.length]) hst fun h' hx=>?_
  have I1:Inv X pins σ H { s with heap:=h' }:=I.kept (t':=s.toks) fun b o e=>hx b o (Nat.ne_of_lt (Heap.lt_size e)) e
  exact h pins _ σ H xs _ Q I1 (by simpa using rv) hw
def ZuP (te:TE) (g:TG):TS:=fun D σ H=>te σ H fun x H1=>g x σ H1 D.nx
theorem ZlM {i:Nat} {x:Str} {e:Expr} {te:TE} {pos':Pos} (hN:X.N.Nodup) (hi:X.N[i]?=some x) (hx:Loc X.env.scope x) (he:PE X e te) (hs:swapsWith e (some (.Name x pos')) pos.line X.env=pure false:=by rfl) (hf:X.fn x=true∨X.env.scope.names.lookup x=some .local:=by first | exact .inl rfl | exact .inr rfl | assumption) :
    PS X (.Assign [.Name x pos'] e pos) (ZuP te (Zin i)):=by
  intro pins s σ H D I h
  refine wpAny_Assign_Name (thn (he pins s σ H _ I h) fun v s1 ⟨y,H1,I1,r1,q1⟩=>?_) hs
  exact ZkU I1 hN hi hx r1 (fun s2 I2=>⟨_,H1,I2,q1⟩) hf
end
section
variable {X:Cx} {pos:Pos}
def ZsX (c:TT) (tb:TS):TS:=fun D σ H=>∃W:Nat→St→Hp→Prop,(∃m,W m σ H)∧∀m σ H,W m σ H→
  c σ H fun b H1=>if b=true then ∃N:St→Hp→Prop,(∀σ' H',N σ' H'→∃m',m'<m∧W m' σ' H')∧tb { D with nx:=N,ct:=N,bk:=D.nx } σ H1 else D.nx σ H1
theorem ZpH {c:Expr} {body:List Stmt} {tc:TT} {tb:TS} (hp:PassesOwn (model X.prog X.w) X.A X.env X.xe) (hc:PT X c tc) (hb:PSs X body tb):PS X (.While c body [] pos) (ZsX tc tb):=by
  intro pins s σ H D I h
  obtain ⟨W,⟨m0,w0⟩,turn⟩:=h
  refine wpAny_While (codeAny_whileLoop (fun n s'=>∃σ' H',Inv X pins σ' H' s'∧W n σ' H') ?_ m0 ⟨σ,H,I,w0⟩)
  rintro n s1 ⟨σ1,H1,I1,w1⟩
  refine wpAny_passesOwn hp (thn (hc pins s1 σ1 H1 _ I1 (turn n σ1 H1 w1)) fun b s2 ⟨H2,I2,q2⟩=>?_)
  cases b with
  | true=>
    obtain ⟨N,hN,q2⟩:=q2
    rw [if_pos rfl]
    refine wpAny_passesOwn hp (thn (hb pins s2 σ1 H2 _ I2 q2) fun f s3 q3=>?_)
    cases f with
    | next=>
      obtain ⟨σ3,H3,I3,n3⟩:=q3
      obtain ⟨m',hm,w3⟩:=hN σ3 H3 n3
      exact ⟨m',hm,σ3,H3,I3,w3⟩
    | cont=>
      obtain ⟨σ3,H3,I3,n3⟩:=q3
      obtain ⟨m',hm,w3⟩:=hN σ3 H3 n3
      exact ⟨m',hm,σ3,H3,I3,w3⟩
    | brk=>exact q3
    | ret v=>exact q3
  | false=>
    rw [if_neg Bool.false_ne_true]
    exact wpAny_execs_nil ⟨σ1,H2,I2,q2⟩
end
structure It where
  go:Nat→Hp→Prop
  yld:Nat→Hp→V→Hp→Prop
  stop:Nat→Hp→Prop
def Zgf (X:Cx) (pins:List (Addr×Obj)) (H:Hp) (b:Addr):Prop:=
  H b=none∧b≠X.env.locals∧b∉X.fs∧(b∈X.ex∨X.s₀.heap.objs.size≤b)∧(∀x c,X.env.cells.lookup x=some c→c≠b)∧∀p∈X.pn++pins,p.1≠b
theorem Inv.fpOk {X:Cx} {pins:List (Addr×Obj)} {σ:St} {H H':Hp} {s:Shared} {b:Addr} (I:Inv X pins σ H s) (hb:s.heap.objs.size≤b) (hn:H' b=none):Zgf X pins H' b:=by
  refine ⟨hn,Nat.ne_of_gt (Nat.lt_of_lt_of_le I.lt hb),I.nofs hb,.inr (Nat.le_trans I.sz hb),fun x c e z=>?_,fun p hp z=>?_⟩
  · obtain ⟨v,q⟩:=I.cell x c e
    exact absurd (Nat.lt_of_lt_of_le q.lt (by rw [z]; exact hb)) (Nat.lt_irrefl _)
  · exact absurd (Nat.lt_of_lt_of_le (Heap.lt_size (I.pin p hp).1) (by rw [z]; exact hb)) (Nat.lt_irrefl _)
structure Zmi (P:Program) (w:World) (K:PySem.W.Frag) (tg:Expr) (J:It) (fp:List Addr) (it:Addr) (tn:Nat→Heap→Prop):Prop where
  mem:it∈fp
  obj:∀i h,tn i h→∀b∈fp,∃o,h.get? b=some o∧∀v,o.data≠.cell v
  keep:∀i h h',tn i h→(∀b∈fp,∀o,h.get? b=some o→h'.get? b=some o)→tn i h'
  item:∀(X:Cx),X.prog=P→X.w=w→X.K=K→X.calm=true→∀(i:Nat) (pins:List (Addr×Obj)) (s:Shared) (σ:St) (H:Hp) (E:Value→Shared→Prop),Inv X pins σ H s→(∀b∈fp,Zgf X pins H b)→tn i s.heap→J.go i H→
    wpAny (model P w) X.A (pyNext (.ref it)) (fun r s1=>∃u,r=some u∧
      wpAny (model P w) X.A (letOwnedTupleGo tg (.ref it) u) (fun _ s2=>∃x H',Inv X pins σ H' s2∧RelV x u∧J.yld i H x H'∧tn (i+1) s2.heap∧∀b∈fp,H' b=none) E s1) E s
  done:∀(X:Cx),X.prog=P→X.w=w→X.K=K→X.calm=true→∀(i:Nat) (pins:List (Addr×Obj)) (s:Shared) (σ:St) (H:Hp) (E:Value→Shared→Prop),Inv X pins σ H s→(∀b∈fp,Zgf X pins H b)→tn i s.heap→J.stop i H→
    wpAny (model P w) X.A (pyNext (.ref it)) (fun r s1=>r=none∧Inv X pins σ H s1) E s
  self:∀(A:Around) (i:Nat) (s:Shared) (Q:Value→Shared→Prop) (E:Value→Shared→Prop),tn i s.heap→Q (.ref it) s→wpAny (model P w) A (pyIter (.ref it)) Q E s
abbrev TI:=St→Hp→(It→Hp→Prop)→Prop
def PIE (X:Cx) (pins:List (Addr×Obj)) (σ:St) (tg:Expr) (R:It→Hp→Prop) (itv:Value) (s2:Shared):Prop:=
  ∃(it:Addr) (fp:List Addr) (tn:Nat→Heap→Prop) (J:It) (H':Hp),itv=.ref it∧Inv X pins σ H' s2∧Zmi X.prog X.w X.K tg J fp it tn∧tn 0 s2.heap∧(∀b∈fp,Zgf X pins H' b)∧R J H'
def PI (X:Cx) (tg iter:Expr) (wi:TI):Prop:=
  ∀(pins:List (Addr×Obj)) (s:Shared) (σ:St) (H:Hp) (R:It→Hp→Prop),Inv X pins σ H s→wi σ H R→
    wpAny (model X.prog X.w) X.A (eval iter X.env) (fun v s1=>wpAny (model X.prog X.w) X.A (pyIter v) (PIE X pins σ tg R) X.xe s1) X.xe s
theorem Zqs {M:Model} {A:Around} {E:Value→Shared→Prop} {s:Shared} {tg:Expr} {it:Addr} {u:Value} {o:Obj} {n:String} {vs:Array Value} {Q:Unit→Shared→Prop} (ho:s.heap.get? it=some o) (hc:o.cls=.type n) (hd:o.data=.fields vs)
    (hn:["enumerate","zip","dict_itemiterator","dict_reverseitemiterator","odict_iterator","itertools.zip_longest","itertools.pairwise"].contains n=false) (hQ:Q () s):wpAny M A (letOwnedTupleGo tg (.ref it) u) Q E s:=by
  unfold letOwnedTupleGo
  cases tg<;>first
    | exact wpAny_pure hQ
    | (cases u<;>first
        | exact wpAny_pure hQ
        | (refine wpAny_bind (wpAny_load ho ?_)
           rw [hc,hd]
           show wpAny M A (if (["enumerate","zip","dict_itemiterator","dict_reverseitemiterator","odict_iterator","itertools.zip_longest","itertools.pairwise"].contains n && vs[0]? == some (rawInt _))=true then _ else _) Q E s
           rw [if_neg (by intro h; rw [hn,Bool.false_and] at h; cases h)]
           exact wpAny_pure hQ))
def Itl (K:PySem.W.Frag) (a:Addr):It:=
  ⟨fun i H=>∃xs x,SqL K H a xs∧xs[i]?=some x,fun i H x H'=>H'=H∧∀xs,SqL K H a xs→xs[i]?=some x,fun i H=>∃xs,SqL K H a xs∧xs.length≤i⟩
def Itt (K:PySem.W.Frag) (a:Addr):It:=
  ⟨fun i H=>∃xs x,SqT K H a xs∧xs[i]?=some x,fun i H x H'=>H'=H∧∀xs,SqT K H a xs→xs[i]?=some x,fun i H=>∃xs,SqT K H a xs∧xs.length≤i⟩
def Itr (lo:Int) (n:Nat):It:=⟨fun i _=>i<n,fun i H x H'=>H'=H∧x=.int (lo+i),fun i _=>n≤i⟩
theorem Zm8 {P:Program} {w:World} {K:PySem.W.Frag} {tg:Expr} (a it:Addr):Zmi P w K tg (Itl K a) [it] it (fun i h=>h.IsListIter it a i) where
  mem:=by simp
  obj:=fun i h st b hb=>by
    have e:b=it:=by simpa using hb
    subst e
    obtain ⟨o,e,c,d⟩:=st
    exact ⟨o,e,fun v z=>by rw [d] at z; cases z⟩
  keep:=fun i h h' st k=>st.at fun o e=>k it (by simp) o e
  item:=by
    intro X hP hw hK hc i pins s σ H E I hf st hg
    subst hP hw hK
    obtain ⟨xs,x,hq,hx⟩:=hg
    obtain ⟨its,rv,p,hz⟩:=I.list hq
    obtain ⟨u,hu,ru⟩:=rv.get hx
    obtain ⟨f0,f1,f2,f3,f4,f5⟩:=hf it (by simp)
    refine wpAny_pyNext_list_item st p.isList (x:=u) (by simpa using hu) fun h' st' sb=>?_
    have I1:Inv X pins σ H { s with heap:=h' }:=I.turned (t':=s.toks) (fun b o hb e=>(sb.2 b hb).trans e) f0 f1 f3 f4 f5
    obtain ⟨o,e,c,d⟩:=id st'
    exact ⟨u,rfl,Zqs (s:={ s with heap:=h' }) e c d (by decide) ⟨x,H,I1,ru,⟨rfl,fun ys hy=>by rw [I.list_inj hy hq]; exact hx⟩,st',fun b hb=>(hf b hb).1⟩⟩
  done:=by
    intro X hP hw hK hc i pins s σ H E I hf st hg
    subst hP hw hK
    obtain ⟨xs,hq,hx⟩:=hg
    obtain ⟨its,rv,p,hz⟩:=I.list hq
    obtain ⟨f0,f1,f2,f3,f4,f5⟩:=hf it (by simp)
    have hl:=rv.length
    exact wpAny_pyNext_list_end (I.ok.hd hc) st p.isList (by simp; omega) fun h' eb=>⟨rfl,I.turned (t':=s.toks) (fun b o hb e=>eb b o hb e) f0 f1 f3 f4 f5⟩
  self:=fun _ _ _ _ _ st h=>wpAny_pyIter_listiter st h
theorem Zly {P:Program} {w:World} {K:PySem.W.Frag} {tg:Expr} (a it:Addr):Zmi P w K tg (Itt K a) [it] it (fun i h=>h.IsTupleIter it a i) where
  mem:=by simp
  obj:=fun i h st b hb=>by
    have e:b=it:=by simpa using hb
    subst e
    obtain ⟨o,e,c,d⟩:=st
    exact ⟨o,e,fun v z=>by rw [d] at z; cases z⟩
  keep:=fun i h h' st k=>st.at fun o e=>k it (by simp) o e
  item:=by
    intro X hP hw hK hc i pins s σ H E I hf st hg
    subst hP hw hK
    obtain ⟨xs,x,hq,hx⟩:=hg
    obtain ⟨its,rv,p,hz⟩:=I.tuple hq
    obtain ⟨u,hu,ru⟩:=rv.get hx
    obtain ⟨f0,f1,f2,f3,f4,f5⟩:=hf it (by simp)
    refine wpAny_pyNext_tuple_item st (show s.heap.IsTuple a its.toArray from p) (x:=u) (by simpa using hu) fun h' st' sb=>?_
    have I1:Inv X pins σ H { s with heap:=h' }:=I.turned (t':=s.toks) (fun b o hb e=>(sb.2 b hb).trans e) f0 f1 f3 f4 f5
    obtain ⟨o,e,c,d⟩:=id st'
    exact ⟨u,rfl,Zqs (s:={ s with heap:=h' }) e c d (by decide) ⟨x,H,I1,ru,⟨rfl,fun ys hy=>by rw [I.tuple_inj hy hq]; exact hx⟩,st',fun b hb=>(hf b hb).1⟩⟩
  done:=by
    intro X hP hw hK hc i pins s σ H E I hf st hg
    subst hP hw hK
    obtain ⟨xs,hq,hx⟩:=hg
    obtain ⟨its,rv,p,hz⟩:=I.tuple hq
    obtain ⟨f0,f1,f2,f3,f4,f5⟩:=hf it (by simp)
    have hl:=rv.length
    exact wpAny_pyNext_tuple_end (I.ok.hd hc) st (show s.heap.IsTuple a its.toArray from p) (by simp; omega) fun h' eb=>⟨rfl,I.turned (t':=s.toks) (fun b o hb e=>eb b o hb e) f0 f1 f3 f4 f5⟩
  self:=fun _ _ _ _ _ st h=>wpAny_pyIter_tupleiter st h
theorem Zlz {P:Program} {w:World} {K:PySem.W.Frag} {tg:Expr} (it:Addr) (lo:Int) (n:Nat):Zmi P w K tg (Itr lo n) [it] it (fun i h=>IsRangeIter h it (lo+(i:Nat)*1) ((n:Int)-(i:Nat)) 1) where
  mem:=by simp
  obj:=fun i h st b hb=>by
    have e:b=it:=by simpa using hb
    subst e
    exact ⟨_,st,fun v z=>by
      have z':Data.fields _=Data.cell v:=z
      cases z'⟩
  keep:=fun i h h' st k=>k it (by simp) _ st
  item:=by
    intro X hP hw hK hc i pins s σ H E I hf st hg
    subst hP hw hK
    obtain ⟨f0,f1,f2,f3,f4,f5⟩:=hf it (by simp)
    have W:=Walks.range (prog:=X.prog) (w:=X.w) (I.ok.hd hc) it lo 1 n
    refine W.item i s _ _ hg st fun v h' tk hv st' kk=>?_
    obtain ⟨t,rfl⟩:=hv
    have I1:Inv X pins σ H { s with heap:=h',toks:=tk }:=I.turned (fun b o hb e=>kk b o (by simpa using hb) e) f0 f1 f3 f4 f5
    refine ⟨_,rfl,Zqs (s:={ s with heap:=h',toks:=tk }) (n:="range_iterator") st' rfl rfl (by decide) ⟨.int (lo+i),H,I1,⟨t,?_⟩,⟨rfl,rfl⟩,st',fun b hb=>(hf b hb).1⟩⟩
    rw [Int.mul_one]
  done:=by
    intro X hP hw hK hc i pins s σ H E I hf st hg
    subst hP hw hK
    obtain ⟨f0,f1,f2,f3,f4,f5⟩:=hf it (by simp)
    exact wpAny_pyNext_range_end (I.ok.hd hc) st (by have:n≤i:=hg; omega) fun h' eb=>⟨rfl,I.turned (t':=s.toks) (fun b o hb e=>eb b o hb e) f0 f1 f3 f4 f5⟩
  self:=fun _ _ _ _ _ st h=>wpAny_pyIter_rangeiter st h
end L2
namespace L2
open PySem PySem.Spec PyProof.Rows
section
variable {X:Cx} {tg:Expr}
theorem ZpC {pins:List (Addr×Obj)} {σ:St} {H:Hp} {s:Shared} {R:It→Hp→Prop} {E:Value→Shared→Prop} {lo hi:Int} {t u v:Tok} {tk:Nat} (I:Inv X pins σ H s) (h1 : -(2 ^ 62)≤lo) (h2:lo<2 ^ 62) (h3 : -(2 ^ 62)≤hi) (h4:hi<2 ^ 62)
    (q:R (Itr lo (hi-lo).toNat) H):wpAny (model X.prog X.w) X.A (pyIter (.ref s.heap.objs.size)) (PIE X pins σ tg R) E { s with heap:=s.heap.push { cls:=.type "range",data:=.fields #[.int lo t,.int hi u,.int 1 v] },toks:=tk }:=by
  refine wpAny_pyIter_range (IsRange.new ..) (small_one h1 h2 h3 h4) ?_
  have I1:Inv X pins σ H { s with heap:=s.heap.push { cls:=.type "range",data:=.fields #[.int lo t,.int hi u,.int 1 v] },toks:=tk }:=I.kept fun b o e=>Heap.get?_push_of_some _ e
  refine ⟨(s.heap.push { cls:=.type "range",data:=.fields #[.int lo t,.int hi u,.int 1 v] }).objs.size,[(s.heap.push { cls:=.type "range",data:=.fields #[.int lo t,.int hi u,.int 1 v] }).objs.size],_,_,H,rfl,
    I1.kept (t':=tk) fun b o e=>Heap.get?_push_of_some _ e,Zlz _ lo (hi-lo).toNat,?_,fun b hb=>?_,q⟩
  · have e1:lo+((0:Nat):Int)*1=lo:=by simp
    have e2:(((hi-lo).toNat:Nat):Int)-((0:Nat):Int)=Builtin.Range.rangeSize lo hi 1:=by rw [rangeSize_one]; split<;>omega
    show IsRangeIter _ _ (lo+((0:Nat):Int)*1) ((((hi-lo).toNat:Nat):Int)-((0:Nat):Int)) 1
    rw [e1,e2]
    exact Heap.get?_push_size _ rfl
  · have e:b=(s.heap.push { cls:=.type "range",data:=.fields #[.int lo t,.int hi u,.int 1 v] }).objs.size:=by simpa using hb
    subst e
    exact I1.fpOk (Nat.le_refl _) (I1.hok.fresh (Nat.le_refl _))
def Zvr (ta:TA):TI:=fun σ H R=>ta σ H fun vs H1=>∃j:Int,vs=[.int j]∧-(2 ^ 62)≤j∧j<2 ^ 62∧R (Itr 0 j.toNat) H1
theorem Znj {a:Expr} {ta:TA} {p pos:Pos} (hg:Gl X "range") (hm:X.mg "range"=none) (ha:PA X [a] ta) (hs:starEach [a] X.env=[(false,eval a X.env)]:=by rfl):PI X tg (.Call (.Name "range" p) [a] [] pos) (Zvr ta):=by
  intro pins s σ H R I h
  refine Call_ (Zhj I hg hm boot_range (PyProof.Rows.callWith_type1 (thn (ha pos pins s σ H _ I h) fun us s1 ⟨vs,H1,I1,r1,q1⟩=>?_) hs rfl))
  obtain ⟨j,e,q1,q2,q⟩:=q1
  subst e
  cases r1 with
  | cons r rr=>
    cases rr
    obtain ⟨t,rfl⟩:=r
    exact call_range_1 (ZpC I1 (by omega) (by omega) q1 q2 (by simpa using q))
def Zyh (wi:TI) (g:TG) (tb:TS):TS:=fun D σ H=>wi σ H fun J H1=>∃W:Nat→Nat→St→Hp→Prop,(∃m,W 0 m σ H1)∧∀i m σ H,W i m σ H→
  (J.stop i H∧D.nx σ H)∨(J.go i H∧∃N:St→Hp→Prop,(∀σ' H',N σ' H'→∃m',m'<m∧W (i+1) m' σ' H')∧∀x H',J.yld i H x H'→g x σ H' fun σ2 H2=>tb { D with nx:=N,ct:=N,bk:=D.nx } σ2 H2)
def ZiR (fp:List Addr) (h:Heap):List (Addr×Obj):=fp.filterMap fun b=>(h.get? b).map fun o=>(b,o)
theorem ZaG {fp:List Addr} {h:Heap} {b:Addr} {o:Obj} (hb:b∈fp) (e:h.get? b=some o):(b,o)∈ZiR fp h:=List.mem_filterMap.mpr ⟨b,hb,by rw [e]; rfl⟩
theorem Zno {fp:List Addr} {h:Heap} {p:Addr×Obj} (hp:p∈ZiR fp h):p.1∈fp∧h.get? p.1=some p.2:=by
  obtain ⟨b,hb,e⟩:=List.mem_filterMap.mp hp
  cases q:h.get? b with
  | none=>rw [q] at e; cases e
  | some o=>
    rw [q] at e
    have e':(b,o)=p:=Option.some.inj e
    subst e'
    exact ⟨hb,q⟩
theorem Inv.pinned {pins:List (Addr×Obj)} {σ:St} {H:Hp} {s:Shared} {fp:List Addr} (I:Inv X pins σ H s) (hf:∀b∈fp,Zgf X pins H b) (ho:∀b∈fp,∃o,s.heap.get? b=some o∧∀v,o.data≠.cell v):Inv X (pins++ZiR fp s.heap) σ H s:=
  I.pins_of fun p hp=>(List.mem_append.mp hp).elim (fun z=>I.pin p (List.mem_append_right _ z)) fun z=>by
    obtain ⟨hb,e⟩:=Zno z
    obtain ⟨f0,f1,f2,_⟩:=hf p.1 hb
    obtain ⟨o,e',d⟩:=ho p.1 hb
    rw [e] at e'; cases e'
    exact ⟨e,f0,f1,f2,d⟩
theorem Inv.unpinned {pins pl:List (Addr×Obj)} {σ:St} {H:Hp} {s:Shared} (I:Inv X (pins++pl) σ H s):Inv X pins σ H s:=I.pins_of fun p hp=>I.pin p (List.mem_append_right _ (List.mem_append_left _ hp))
theorem ZpJ {iter:Expr} {body:List Stmt} {wi:TI} {g:TG} {tb:TS} {pos:Pos} (hp:PassesOwn (model X.prog X.w) X.A X.env X.xe) (hc:X.calm=true) (hi:PI X tg iter wi) (hg:PG X tg g) (hb:PSs X body tb)
    (hs:∀x,foldedSetIterable iter X.env x=pure x:=by intro _; rfl):PS X (.For tg iter body [] pos) (Zyh wi g tb):=by
  intro pins s σ H D I h
  refine wpAny_For (thn (hi pins s σ H _ I h) fun v s1 h1=>thn h1 fun itv s2 h2=>?_) hs
  obtain ⟨it,fp,tn,J,H2,e,I2,T,st2,f2,W,⟨m0,w0⟩,turn⟩:=h2
  subst e
  have stat:∀{H':Hp},(∀b∈fp,H' b=none)→∀b∈fp,Zgf X pins H' b:=fun hn b hb=>⟨hn b hb,(f2 b hb).2⟩
  refine codeAny_forLoop_any (fun n s'=>∃i σ' H',Inv X pins σ' H' s'∧tn i s'.heap∧(∀b∈fp,H' b=none)∧W i n σ' H') ?_ m0 ⟨0,σ,H2,I2,st2,fun b hb=>(f2 b hb).1,w0⟩
  rintro n s3 ⟨i,σ3,H3,I3,st3,fr3,w3⟩
  rcases turn i n σ3 H3 w3 with ⟨stop,qn⟩ | ⟨go,N,hN,step⟩
  · refine wpAny_passesOwn hp (thn (T.done X rfl rfl rfl hc i pins s3 σ3 H3 X.xe I3 (stat fr3) st3 stop) fun r s4 ⟨hr,I4⟩=>?_)
    subst hr
    exact wpAny_execs_nil ⟨σ3,H3,I4,qn⟩
  · refine wpAny_passesOwn hp (thn (T.item X rfl rfl rfl hc i pins s3 σ3 H3 X.xe I3 (stat fr3) st3 go) fun r s4 ⟨u,hr,h4⟩=>?_)
    subst hr
    refine wpAny_passesOwn hp (thn h4 fun _ s5 ⟨x,H5,I5,r5,y5,st5,fr5⟩=>?_)
    have I5':=I5.pinned (stat fr5) (T.obj _ _ st5)
    refine wpAny_passesOwn hp (thn (hg _ s5 σ3 H5 x u _ I5' r5 (step x H5 y5)) fun _ s6 ⟨σ6,H6,I6,q6⟩=>?_)
    refine wpAny_passesOwn hp (thn (hb _ s6 σ6 H6 _ I6 q6) fun f s7 q7=>?_)
    have again:∀{σ7:St} {H7:Hp},Inv X (pins++ZiR fp s5.heap) σ7 H7 s7→N σ7 H7→∃m,m<n∧∃i σ' H',Inv X pins σ' H' s7∧tn i s7.heap∧(∀b∈fp,H' b=none)∧W i m σ' H':=fun {σ7 H7} I7 n7=>by
      obtain ⟨m',hm,w7⟩:=hN σ7 H7 n7
      refine ⟨m',hm,i+1,σ7,H7,I7.unpinned,T.keep _ _ _ st5 fun b hb o e=>(I7.pin (b,o) (List.mem_append_right _ (List.mem_append_right _ (ZaG hb e)))).1,fun b hb=>?_,w7⟩
      obtain ⟨o,e,d⟩:=T.obj _ _ st5 b hb
      exact (I7.pin (b,o) (List.mem_append_right _ (List.mem_append_right _ (ZaG hb e)))).2.1
    cases f with
    | next=>obtain ⟨σ7,H7,I7,n7⟩:=q7; exact again I7 n7
    | cont=>obtain ⟨σ7,H7,I7,n7⟩:=q7; exact again I7 n7
    | brk=>obtain ⟨σ7,H7,I7,q7⟩:=q7; exact ⟨σ7,H7,I7.unpinned,q7⟩
    | ret v=>obtain ⟨x7,σ7,H7,I7,r7,q7⟩:=q7; exact ⟨x7,σ7,H7,I7.unpinned,r7,q7⟩
end
end L2
namespace L2
open PySem PySem.Spec PyProof.Rows
abbrev R2:=V→V→Hp→VK→Prop
def OpR (X:Cx) (f:Value→Value→Sem Value) (r:R2):Prop:=
  ∀(pins:List (Addr×Obj)) (s:Shared) (σ:St) (H:Hp) (x y:V) (v u:Value) (Q:VK),Inv X pins σ H s→RelV x v→RelV y u→r x y H Q→
    wpAny (model X.prog X.w) X.A (f v u) (EP X pins σ Q) X.xe s
def CallR (X:Cx) (f:Value) (r:List V→Hp→VK→Prop):Prop:=
  ∀(pins:List (Addr×Obj)) (s:Shared) (σ:St) (H:Hp) (xs:List V) (us:List Value) (Q:VK),Inv X pins σ H s→Vals xs us→r xs H Q→
    wpAny (model X.prog X.w) X.A (call f us) (EP X pins σ Q) X.xe s
def Zy0 (X:Cx) (r:V→Hp→(Bool→Hp→Prop)→Prop):Prop:=
  ∀(pins:List (Addr×Obj)) (s:Shared) (σ:St) (H:Hp) (x:V) (v:Value) (Q:Bool→Hp→Prop),Inv X pins σ H s→RelV x v→r x H Q→
    wpAny (model X.prog X.w) X.A (truthy v) (TP X pins σ Q) X.xe s
def tOp (r:R2) (ta tb:TE):TE:=fun σ H Q=>ta σ H fun x H1=>tb σ H1 fun y H2=>r x y H2 Q
def rI (C:Int→Int→Prop) (g:Int→Int→V):R2:=fun x y H Q=>∃i j,x=.int i∧y=.int j∧C i j∧Q (g i j) H
def rI0 (g:Int→Int→V):R2:=fun x y H Q=>∃i j,x=.int i∧y=.int j∧Q (g i j) H
section
variable {X:Cx} {a b c:Expr} {ta tb tc:TE} {pos:Pos}
theorem ZtU (ha:PE X a ta) (hb:PE X b tb) {pins:List (Addr×Obj)} {s:Shared} {σ:St} {H:Hp} {R:V→V→Hp→Prop} (I:Inv X pins σ H s)
    (h:ta σ H fun x H1=>tb σ H1 fun y H2=>R x y H2) {Q:Value→Shared→Prop} {f:Value→Value→Sem Value}
    (hf:∀v u s2 x y H2,Inv X pins σ H2 s2→RelV x v→RelV y u→R x y H2→wpAny (model X.prog X.w) X.A (f v u) Q X.xe s2) :
    wpAny (model X.prog X.w) X.A (eval a X.env) (fun v s₁=>wpAny (model X.prog X.w) X.A (eval b X.env) (fun u s₂=>wpAny (model X.prog X.w) X.A (f v u) Q X.xe s₂) X.xe s₁) X.xe s:=by
  refine thn (ha pins s σ H _ I h) fun v s1 ⟨x,H1,I1,r1,q1⟩=>?_
  refine thn (hb pins s1 σ H1 _ I1 q1) fun u s2 ⟨y,H2,I2,r2,q2⟩=>?_
  exact hf v u s2 x y H2 I2 r1 r2 q2
theorem Zu4 {op:Operator} {r:R2} (ho:OpR X (binaryOp op) r) (ha:PE X a ta) (hb:PE X b tb):PE X (.BinOp a op b pos) (tOp r ta tb):=by
  intro pins s σ H Q I h
  exact wpAny_BinOp (ZtU ha hb I h fun v u s2 x y H2 I2 rx ry q=>ho pins s2 σ H2 x y v u Q I2 rx ry q)
theorem opI {f:Value→Value→Sem Value} {C:Int→Int→Prop} {g:Int→Int→Int}
    (rule:∀(i j:Int) (t u:Tok) (s:Shared) (Q:Value→Shared→Prop) (E:Value→Shared→Prop),C i j→Q (.int (g i j) s.toks) { s with toks:=s.toks+1 }→wpAny (model X.prog X.w) X.A (f (.int i t) (.int j u)) Q E s) :
    OpR X f (rI C fun i j=>.int (g i j)):=by
  intro pins s σ H x y v u Q I rx ry h
  obtain ⟨i,j,rfl,rfl,hc,q⟩:=h
  obtain ⟨t,rfl⟩:=rx
  obtain ⟨t',rfl⟩:=ry
  exact rule i j t t' s _ _ hc ⟨.int (g i j),H,I.tok _,⟨_,rfl⟩,q⟩
theorem Zty {f:Value→Value→Sem Value} {g:Int→Int→Int}
    (rule:∀(i j:Int) (t u:Tok) (s:Shared) (Q:Value→Shared→Prop) (E:Value→Shared→Prop),Q (.int (g i j) s.toks) { s with toks:=s.toks+1 }→wpAny (model X.prog X.w) X.A (f (.int i t) (.int j u)) Q E s) :
    OpR X f (rI0 fun i j=>.int (g i j)):=by
  intro pins s σ H x y v u Q I rx ry h
  obtain ⟨i,j,rfl,rfl,q⟩:=h
  obtain ⟨t,rfl⟩:=rx
  obtain ⟨t',rfl⟩:=ry
  exact rule i j t t' s _ _ ⟨.int (g i j),H,I.tok _,⟨_,rfl⟩,q⟩
theorem Zry {f:Value→Value→Sem Value} {g:Int→Int→Bool}
    (rule:∀(i j:Int) (t u:Tok) (s:Shared) (Q:Value→Shared→Prop) (E:Value→Shared→Prop),Q (.bool (g i j)) s→wpAny (model X.prog X.w) X.A (f (.int i t) (.int j u)) Q E s) :
    OpR X f (rI0 fun i j=>.bl (g i j)):=by
  intro pins s σ H x y v u Q I rx ry h
  obtain ⟨i,j,rfl,rfl,q⟩:=h
  obtain ⟨t,rfl⟩:=rx
  obtain ⟨t',rfl⟩:=ry
  exact rule i j t t' s _ _ ⟨.bl (g i j),H,I,rfl,q⟩
def CMul (i j:Int):Prop:=(-(2 ^ 64)<i∧i<2 ^ 64)∨(-(2 ^ 64)<j∧j<2 ^ 64)
theorem CMul.ok {i j:Int} (h:CMul i j):IntMulOk i j:=by
  rcases h with ⟨h1,h2⟩ | ⟨h1,h2⟩
  · exact .of_left (intBits_le_64 h1 h2)
  · exact .of_right (intBits_le_64 h1 h2)
theorem op_add:OpR X (binaryOp .Add) (rI0 fun i j=>.int (i+j)):=Zty fun _ _ _ _ _ _ _ q=>add_int q
theorem Ztq:OpR X (binaryOp .Sub) (rI0 fun i j=>.int (i-j)):=Zty fun _ _ _ _ _ _ _ q=>sub_int q
theorem op_mul:OpR X (binaryOp .Mult) (rI CMul fun i j=>.int (i*j)):=opI fun _ _ _ _ _ _ _ hc q=>mul_int q hc.ok
theorem Ztt:OpR X (binaryOp .Mod) (rI (fun _ j=>0<j) fun i j=>.int (i % j)):=opI fun i j _ _ _ _ _ hc q=>by
  have h1:(0:Int)<j:=hc
  exact mod_int' (by omega) (by rw [Int.fmod_eq_emod_of_nonneg i (by omega)]; exact q)
theorem Ztx:OpR X (binaryOp .BitAnd) (rI0 fun i j=>.int (Builtin.bitAnd i j)):=Zty fun _ _ _ _ _ _ _ q=>and_int q
end
section
variable {X:Cx} {a b c:Expr} {ta tb tc:TE} {pos:Pos}
theorem Zqv {pins:List (Addr×Obj)} {σ:St} {H:Hp} {s:Shared} {Q:VK} {k k':Bool} (I:Inv X pins σ H s) (q:Q (.bl k) H) (e:k=k'):EP X pins σ Q (.bool k') s:=by
  subst e
  exact ⟨.bl k,H,I,rfl,q⟩
theorem Zvb:OpR X (compareOp .Lt) (rI0 fun i j=>.bl (decide (i<j))):=Zry fun _ _ _ _ _ _ _ q=>lt_int q
theorem Zvc:OpR X (compareOp .LtE) (rI0 fun i j=>.bl (decide (i≤j))):=Zry fun _ _ _ _ _ _ _ q=>le_int q
theorem Zvd:OpR X (compareOp .Gt) (rI0 fun i j=>.bl (decide (j<i))):=Zry fun _ _ _ _ _ _ _ q=>gt_int q
theorem Zve:OpR X (compareOp .GtE) (rI0 fun i j=>.bl (decide (j≤i))):=Zry fun _ _ _ _ _ _ _ q=>ge_int q
theorem op_isN:OpR X (compareOp .Is) (fun x y H Q=>y=.non∧Q (.bl (decide (x=.non))) H):=by
  intro pins s σ H x y v u Q I rx ry h
  obtain ⟨rfl,q⟩:=h
  cases ry
  refine is_none_gen (Zqv I q ?_)
  cases x<;>first
    | (cases rx; rfl)
    | (obtain ⟨t,rfl⟩:=rx; rfl)
theorem op_notN:OpR X (compareOp .IsNot) (fun x y H Q=>y=.non∧Q (.bl (!decide (x=.non))) H):=by
  intro pins s σ H x y v u Q I rx ry h
  obtain ⟨rfl,q⟩:=h
  cases ry
  refine isnot_none_gen (Zqv I q ?_)
  cases x<;>first
    | (cases rx; rfl)
    | (obtain ⟨t,rfl⟩:=rx; rfl)
def Zvl:HO→Bool
  | .lst _=>true
  | .ins _ _ _=>true
  | _=>false
theorem obj_there {pins:List (Addr×Obj)} {s:Shared} {σ:St} {H:Hp} {a:Addr} {o:HO} (I:Inv X pins σ H s) (h:H a=some o) (p:Zvl o=true):∃ob,s.heap.get? a=some ob∧ob.cls≠.type "tuple":=by
  cases o with
  | lst xs=>
    obtain ⟨_,its,n,_,e⟩:xs.length≤sizeLine∧∃(its:List Value) (n:Nat),Vals xs its∧s.heap.get? a=some { cls:=.type "list",data:=.seq its.toArray n }:=I.hok a _ h
    exact ⟨_,e,(by show Value.type "list"≠.type "tuple"; decide +kernel)⟩
  | ins C dx fs=>
    have x:=I.hok a _ h
    obtain ⟨_,_,_,e,_⟩:=x
    exact ⟨_,e,(by show Value.ref C≠.type "tuple"; exact fun z=>by cases z)⟩
  | _=>exact absurd (show false=true from p) Bool.false_ne_true
theorem OpR.or {f:Value→Value→Sem Value} {r r':R2} (h:OpR X f r) (h':OpR X f r'):OpR X f (fun x y H Q=>r x y H Q∨r' x y H Q):=by
  intro pins s σ H x y v u Q I rx ry q
  rcases q with q | q
  · exact h pins s σ H x y v u Q I rx ry q
  · exact h' pins s σ H x y v u Q I rx ry q
theorem Zp7 (b:Expr) {op:CmpOp} (h:op≠.In:=by decide) (h2:op≠.NotIn:=by decide):behindInMarks op b=false:=by
  have e1:(op == CmpOp.In)=false:=by cases op<;>first | rfl | exact absurd rfl h
  have e2:(op == CmpOp.NotIn)=false:=by cases op<;>first | rfl | exact absurd rfl h2
  cases b<;>simp [behindInMarks,e1,e2]
theorem Zru {op:CmpOp} {r:R2} (ho:OpR X (compareOp op) r) (ha:PE X a ta) (hb:PE X b tb) (hm:behindInMarks op b=false):PE X (.Compare a [op] [b] pos) (tOp r ta tb):=by
  intro pins s σ H Q I h
  exact wpAny_Compare1 (ZtU ha hb I h fun v u s2 x y H2 I2 rx ry q=>ho pins s2 σ H2 x y v u Q I2 rx ry q) hm
def ZuG (t:TE):TT:=fun σ H Q=>t σ H fun x H'=>∃k,x=.bl k∧Q k H'
theorem Zrj {op:CmpOp} {r:R2} (ho:OpR X (compareOp op) r) (ha:PE X a ta) (hb:PE X b tb) (hm:behindInMarks op b=false):PT X (.Compare a [op] [b] pos) (ZuG (tOp r ta tb)):=by
  intro pins s σ H Q I h
  refine wpAny_isTrue_Compare1 (thn (ha pins s σ H _ I h) fun v s1 ⟨x,H1,I1,r1,q1⟩=>thn (hb pins s1 σ H1 _ I1 q1) fun u s2 ⟨y,H2,I2,r2,q2⟩=>
    thn (ho pins s2 σ H2 x y v u _ I2 r1 r2 q2) fun c s3 ⟨z,H3,I3,r3,k,e,q3⟩=>?_) hm
  subst e
  cases r3
  exact wpAny_truthy_bool ⟨H3,I3,q3⟩
def Zpw (r r':R2) (ta tb tc:TE):TE:=fun σ H Q=>ta σ H fun x H1=>tb σ H1 fun y H2=>r x y H2 fun z H3=>∃k,z=.bl k∧
  (if k=true then tc σ H3 fun w' H4=>r' y w' H4 Q else Q (.bl false) H3)
theorem ZpV {op op':CmpOp} {r r':R2} (ho:OpR X (compareOp op) r) (ho':OpR X (compareOp op') r') (ha:PE X a ta) (hb:PE X b tb) (hc:PE X c tc)
    (hm:lastMarks [op,op'] [b,c]=false:=by with_unfolding_all rfl):PE X (.Compare a [op,op'] [b,c] pos) (Zpw r r' ta tb tc):=by
  intro pins s σ H Q I h
  refine Compare_chain (thn (ha pins s σ H _ I h) fun v s1 ⟨x,H1,I1,r1,q1⟩=>chain_link (thn (hb pins s1 σ H1 _ I1 q1) fun u s2 ⟨y,H2,I2,r2,q2⟩=>
    thn (ho pins s2 σ H2 x y v u _ I2 r1 r2 q2) fun d s3 ⟨z,H3,I3,r3,k,e,q3⟩=>?_)) hm
  subst e
  cases r3
  refine wpAny_truthy_bool ?_
  cases k with
  | false=>exact ite_ff ⟨.bl false,H3,I3,rfl,q3⟩
  | true=>exact ite_tt (chain_last (thn (hc pins s3 σ H3 _ I3 q3) fun w' s4 ⟨z',H4,I4,r4,q4⟩=>ho' pins s4 σ H4 y z' u w' Q I4 r2 r4 q4))
def TruV (K:PySem.W.Frag) (x:V) (H:Hp) (k:Bool):Prop:=
  match x with
  | .non=>k=false
  | .bl b=>k=b
  | .int i=>k=(i != 0)
  | .str y=>y.length≤sizeLine∧k=((y.length:Int) != 0)
  | .byt y=>y.size≤sizeLine∧k=((y.size:Int) != 0)
  | .ref p=>(∃xs,SqL K H p xs∧k=!xs.isEmpty)∨(∃xs,SqT K H p xs∧k=!xs.isEmpty)∨∃kvs,H p=some (.dK kvs)∧k=!kvs.isEmpty
  | _=>False
theorem Zl4 {κ:Type} {kvs:List (κ×V)} {vs:List (κ×Value)} (r:KV kvs vs):(!vs.isEmpty)=!kvs.isEmpty:=by
  cases r<;>rfl
theorem Zhk {xs:List V} {its:List Value} (r:Vals xs its):(!its.toArray.isEmpty)=!xs.isEmpty:=by
  cases r<;>simp
theorem Zf2:(sizeLine:Nat)<2 ^ 63:=by rw [sizeLine_eq]; decide
theorem Zpk:Zy0 X (fun x H Q=>∃k,TruV X.K x H k∧Q k H):=by
  intro pins s σ H x v Q I rx h
  obtain ⟨k,e,q⟩:=h
  have hl:=Zf2
  have hs:sizeLine=16777216:=sizeLine_eq
  cases x with
  | non=>
    cases rx
    have e':k=false:=e
    subst e'
    exact truthy_none ⟨H,I,q⟩
  | bl b=>
    cases rx
    have e':k=b:=e
    subst e'
    exact wpAny_truthy_bool ⟨H,I,q⟩
  | int i=>
    obtain ⟨t,rfl⟩:=rx
    have e':k=(i != 0):=e
    subst e'
    exact PySem.P.truthy_int ⟨H,I,q⟩
  | str y=>
    obtain ⟨t,rfl⟩:=rx
    obtain ⟨hy,e'⟩:y.length≤sizeLine∧k=((y.length:Int) != 0):=e
    subst e'
    exact PySem.P.truthy_str (by omega) ⟨H,I.tok _,q⟩
  | byt y=>
    obtain ⟨t,rfl⟩:=rx
    obtain ⟨hy,e'⟩:y.size≤sizeLine∧k=((y.size:Int) != 0):=e
    subst e'
    exact PySem.W.truthy_bytes (by omega) ⟨H,I.tok _,q⟩
  | ref p=>
    cases rx
    have e':(∃xs,SqL X.K H p xs∧k=!xs.isEmpty)∨(∃xs,SqT X.K H p xs∧k=!xs.isEmpty)∨∃kvs,H p=some (.dK kvs)∧k=!kvs.isEmpty:=e
    rcases e' with ⟨xs,hx,e'⟩ | ⟨xs,hx,e'⟩ | ⟨kvs,hx,e'⟩
    · subst e'
      obtain ⟨its,r,pl,hz⟩:=I.list hx
      have hlen:=r.length
      exact wpAny_truthy_list pl.isList (by simp only [List.size_toArray]; omega) ⟨H,I.tok _,by rw [Zhk r]; exact q⟩
    · subst e'
      obtain ⟨its,r,pl,hz⟩:=I.tuple hx
      have hlen:=r.length
      exact truthy_tuple pl (by simp only [List.size_toArray]; omega) ⟨H,I.tok _,by rw [Zhk r]; exact q⟩
    · subst e'
      obtain ⟨hz,hS,vs,r,m⟩:kvs.length≤sizeLine∧(p == sysModules)=false∧∃vs,KV kvs vs∧s.heap.DictOf (zQ X.prog X.w) p vs:=I.hok p _ hx
      have hlen:kvs.length=vs.length:=Paired.length r
      exact wpAny_truthy_dict hS m (by omega) ⟨H,I.tok _,by rw [Zl4 r]; exact q⟩
  | _=>exact (show False from e).elim
theorem ZpF (ha:PE X a ta) (he:∀whole,isTrue a X.env whole=(do let v ←whole; standAt a.pos; holding [v] (truthy v))) :
    PT X a (fun σ H Q=>ta σ H fun x H'=>∃k,TruV X.K x H' k∧Q k H'):=by
  intro pins s σ H Q I h
  exact isTrue_plain (thn (ha pins s σ H _ I h) fun v s1 ⟨x,H1,I1,r1,q1⟩=>Zpk pins s1 σ H1 x v Q I1 r1 q1) (he _)
theorem op_add_str:OpR X (binaryOp .Add) (fun x y H Q=>∃i j,x=.str i∧y=.str j∧i.length+j.length≤sizeLine∧Q (.str (i++j)) H):=by
  intro pins s σ H x y v u Q I rx ry h
  obtain ⟨i,j,rfl,rfl,hz,q⟩:=h
  obtain ⟨t,rfl⟩:=rx
  obtain ⟨t',rfl⟩:=ry
  exact add_str (fun t' tk=>⟨.str (i++j),H,I.tok _,⟨_,rfl⟩,q⟩) hz
theorem Zgg {x:V} {us:List Value} (r:Vals [x] us):∃u,us=[u]∧RelV x u:=by
  cases r with
  | cons r1 r2=>cases r2; exact ⟨_,rfl,r1⟩
theorem Zph {x y:V} {us:List Value} (r:Vals [x,y] us):∃u w',us=[u,w']∧RelV x u∧RelV y w':=by
  cases r with
  | cons r1 r2=>
    cases r2 with
    | cons r3 r4=>cases r4; exact ⟨_,_,rfl,r1,r3⟩
theorem ZnO (hc:X.calm=true):CallR X (.builtin "max") (fun xs H Q=>∃i j,xs=[.int i,.int j]∧Q (.int (if j > i then j else i)) H):=by
  intro pins s σ H xs us Q I r h
  obtain ⟨i,j,rfl,q⟩:=h
  obtain ⟨u,w',rfl,⟨t,rfl⟩,⟨t',rfl⟩⟩:=Zph r
  refine max_two_ints (I.ok.hd hc) fun h' tk k=>⟨_,H,I.kept k,?_,q⟩
  by_cases hj:j > i
  · rw [if_pos hj,if_pos hj]; exact ⟨_,rfl⟩
  · rw [if_neg hj,if_neg hj]; exact ⟨_,rfl⟩
theorem ZnN (hc:X.calm=true):CallR X (.builtin "min") (fun xs H Q=>∃i j,xs=[.int i,.int j]∧Q (.int (if j<i then j else i)) H):=by
  intro pins s σ H xs us Q I r h
  obtain ⟨i,j,rfl,q⟩:=h
  obtain ⟨u,w',rfl,⟨t,rfl⟩,⟨t',rfl⟩⟩:=Zph r
  refine min_two_ints (I.ok.hd hc) fun h' tk k=>⟨_,H,I.kept k,?_,q⟩
  by_cases hj:j<i
  · rw [if_pos hj,if_pos hj]; exact ⟨_,rfl⟩
  · rw [if_neg hj,if_neg hj]; exact ⟨_,rfl⟩
theorem ZnP:CallR X (.type "int") (fun xs H Q=>(∃i,xs=[.int i]∧Q (.int i) H)∨∃k,xs=[.bl k]∧Q (.int (if k then 1 else 0)) H):=by
  intro pins s σ H xs us Q I r h
  rcases h with ⟨i,rfl,q⟩ | ⟨k,rfl,q⟩
  · obtain ⟨u,rfl,t,rfl⟩:=Zgg r
    exact call_int_int ⟨.int i,H,I,⟨_,rfl⟩,q⟩
  · obtain ⟨u,rfl,r1⟩:=Zgg r
    cases r1
    exact call_int_bool ⟨.int (if k then 1 else 0),H,I.tok _,⟨_,rfl⟩,q⟩
end
end L2
namespace L2
open PySem PySem.Spec PyProof.Rows
structure ObjM (h:Heap) (x dx C:Addr) (mA:Str→Option Value):Prop where
  obj:h.get? x=some (PySem.W.instObj C dx)
  ns:h.Ns1 dx mA
  ne:dx≠x
theorem Znz {h:Heap} {dx:Addr} {mA:Str→Option Value} (n:h.Ns1 dx mA):∃od,h.get? dx=some od∧∀name,PySem.W.lookIn name od=some (mA name):=by
  obtain ⟨o,es,ep,ho,hd,hk,_,hm⟩:=n
  refine ⟨o,ho,fun name=>?_⟩
  have e:=hm name
  unfold nsFind findBy at e
  rw [←Array.find?_toList] at e
  unfold PySem.W.lookIn
  rw [hd]
  dsimp only
  split
  · rename_i y q
    rw [q] at e
    exact congrArg some e
  · rename_i q
    rw [q] at e
    have a:es.toList.any (·.refKey)=false:=by
      rw [List.any_eq_false]
      intro y hy
      obtain ⟨z,t,hkey⟩:=hk y (Array.mem_toList_iff.mp hy)
      simp [DictEntry.refKey,hkey]
    have a':¬es.toList.any (·.refKey)=true:=by rw [a]; exact Bool.false_ne_true
    rw [if_neg a']
    exact congrArg some e
theorem ObjM.look {h:Heap} {x dx C:Addr} {mA:Str→Option Value} (I:ObjM h x dx C mA):∃od,PySem.W.InstAt h x (PySem.W.instObj C dx) C (some od)∧∀name,PySem.W.lookIn name od=some (mA name):=
  let ⟨od,ho,hl⟩:=Znz I.ns
  ⟨od,⟨I.obj,rfl,rfl,ho⟩,hl⟩
section
variable {prog:Program} {w:World} {A:Around} {E:Value→Shared→Prop} {s:Shared} {K:PySem.W.Frag} {x dx C f:Addr} {mA:Str→Option Value} {name:Str} {v:Value}
theorem ZrM {expr:Bool} {Q:Value→Shared→Prop} (X:K.In s.heap) (I:ObjM s.heap x dx C mA) (hg:PySem.W.plainGet K C name=true) (hh:PySem.W.hasDictIn K C=true)
    (ha:PySem.W.findIn K (.ref C) name=some none) (hv:mA name=some v) (hv':PySem.W.handedIn v=true) (h:Q v { s with toks:=s.toks+1 }) :
    wpAny (model prog w) A (getAttr (.ref x) name expr) Q E s:=by
  obtain ⟨od,J,hl⟩:=I.look
  exact PySem.W.get_value X J (PySem.W.plainGet_of hg).1 (PySem.W.findObj_own hh ha rfl (by rw [hl,hv])) hv' h
theorem Zqt {pl:Sem Bool} {Q:Value×List Value→Shared→Prop} (X:K.In s.heap) (I:ObjM s.heap x dx C mA) (hg:PySem.W.plainGet K C name=true)
    (hf:PySem.W.findIn K (.ref C) name=some (some (.ref f))) (ht:PySem.W.isFn K (.ref f)=true) (hv:mA name=none) (h:Q (.ref f,[.ref x]) s) :
    wpAny (model prog w) A (getMethod (.ref x) name pl) Q E s:=by
  obtain ⟨od,J,hl⟩:=I.look
  exact PySem.W.method_fn X J (PySem.W.plainGet_of hg).1 (PySem.W.plainGet_of hg).2 hf (beq_iff_eq.mp ht) (by show (PySem.W.lookIn name od).map (·.isSome)=some false; rw [hl,hv]; rfl) h
theorem Zq9 {ns:List Str} {Q:Unit→Shared→Prop} (X:K.In s.heap) (I:ObjM s.heap x dx C mA)
    (hs:PySem.W.findIn K (.ref C) "__setattr__"=some (some (.builtin "object.__setattr__"))) (hp:PySem.W.plainOver K C=true) (ht:PySem.W.takerIn K C name=some none) (hh:PySem.W.hasDictIn K C=true)
    (hw:PySem.Within mA ns) (hsz:ns.length≤sizeLine)
    (h:∀h',ObjM h' x dx C (fun y=>if y=name then some v else mA y)→Heap.SameBut dx s.heap h'→Q () { s with heap:=h',toks:=s.toks+2 }) :
    wpAny (model prog w) A (setAttr (.ref x) name v) Q E s:=by
  obtain ⟨od,J,hl⟩:=I.look
  refine PySem.W.set_plain X J hs (PySem.W.osa_open (s:={ s with toks:=s.toks+1 }) (r:=none) X J hp ht fun b=>?_)
  obtain ⟨cd,hc,hd'⟩:=PySem.W.any_some hh
  have hx:s.heap.get? x=some ⟨.ref C,some dx,.plain,#[]⟩:=I.obj
  refine wpAny_bind (wpAny_pure (wpAny_bind (wpAny_bind (wpAny_loadPart hx (wpAny_bind (PySem.W.Looks.here (s:={ s with toks:=s.toks+1 }) (PySem.W.looks_clsIn X hc) ?_))))))
  rw [hd']
  refine wpAny_pure (a:=some dx) (wpAny_bind (wpAny_pure (wpAny_bind ?_)))
  refine wpAny_nsSet1 (s:={ s with toks:=s.toks+1 }) I.ns fun h' hn2 hs2=>?_
  obtain ⟨oD,esD,epD,hoD,hdD,hcD⟩:=hn2.count (PySem.Within.cons name v hw)
  refine wpAny_bind (wpAny_lookBehind hoD (by rw [hdD]; exact pastItsLine_dict (Nat.le_trans hcD (by rw [List.length_cons]; omega))) ?_)
  exact wpAny_pure (h _ ⟨(hs2.2 _ (Ne.symm I.ne)).trans I.obj,hn2,I.ne⟩ hs2)
theorem Zqi {R:Result→Shared→Prop} {vs:List Value} {kw:List (Str×Value)} (X:K.In s.heap) (hm:PySem.W.makesIn K C=true)
    (hi:PySem.W.findIn K (.ref C) "__init__"=some (some (.ref f))) (hf:PySem.W.typeIn K (.ref f)=some (.type "function"))
    (h:codeAny (model prog w) (A.under (.builtin "type.__call__" ⟨.ref C::vs,kw⟩)) (.call (.ref f) ⟨.ref (s.heap.objs.size+1)::vs,kw⟩) (PySem.W.InitBack (s.heap.objs.size+1) R)
      { s with heap:=(s.heap.push PySem.W.emptyDict).push (PySem.W.instObj C s.heap.objs.size) }) :
    codeAny (model prog w) A (.call (.ref C) ⟨vs,kw⟩) R s:=by
  obtain ⟨hh,g,d,t,os⟩:=s
  exact PySem.W.make_core (PySem.W.makes_of X hm) (PySem.W.looks_findIn X hi) (fun self=>PySem.W.bind_fn X self hf) (.inl rfl) h
end
def ZcU (f:Str) (v:V):List (Str×V)→List (Str×V)
  | []=>[(f,v)]
  | (g,x)::r=>if g=f then (g,v)::r else (g,x)::ZcU f v r
theorem Zgk (f g:Str) (v:V):∀fs:List (Str×V),(ZcU f v fs).lookup g=if g=f then some v else fs.lookup g
  | []=>by
    show List.lookup g [(f,v)]=_
    by_cases h:g=f
    · have hb:(g == f)=true:=beq_iff_eq.mpr h
      simp only [List.lookup,hb,if_pos h]
    · have hb:(g == f)=false:=beq_eq_false_iff_ne.mpr h
      simp only [List.lookup,hb,if_neg h]
  | (k,x)::r=>by
    have ih:=Zgk f g v r
    rw [show ZcU f v ((k,x)::r)=(if k=f then (k,v)::r else (k,x)::ZcU f v r) from rfl]
    by_cases hk:k=f
    · rw [if_pos hk]
      by_cases h:g=k
      · have hb:(g == k)=true:=beq_iff_eq.mpr h
        simp only [List.lookup,hb,if_pos (h.trans hk)]
      · have hb:(g == k)=false:=beq_eq_false_iff_ne.mpr h
        simp only [List.lookup,hb,if_neg (fun e:g=f=>h (e.trans hk.symm))]
    · rw [if_neg hk]
      by_cases h:g=k
      · have hb:(g == k)=true:=beq_iff_eq.mpr h
        simp only [List.lookup,hb,if_neg (fun e:g=f=>hk (h.symm.trans e))]
      · have hb:(g == k)=false:=beq_eq_false_iff_ne.mpr h
        simp only [List.lookup,hb]
        exact ih
theorem Zf4 (f:Str) (v:V):∀fs:List (Str×V),f∈(ZcU f v fs).map (·.1)∧∀g,g∈fs.map (·.1)→g∈(ZcU f v fs).map (·.1)
  | []=>⟨by simp [ZcU],fun g h=>by simp at h⟩
  | (k,x)::r=>by
    obtain ⟨i1,i2⟩:=Zf4 f v r
    rw [show ZcU f v ((k,x)::r)=(if k=f then (k,v)::r else (k,x)::ZcU f v r) from rfl]
    by_cases hk:k=f
    · rw [if_pos hk]
      subst hk
      exact ⟨by simp,fun g h=>by simpa using h⟩
    · rw [if_neg hk]
      refine ⟨?_,fun g h=>?_⟩
      · rw [List.map_cons]
        exact List.mem_cons_of_mem _ i1
      · rw [List.map_cons] at h ⊢
        rcases List.mem_cons.mp h with e | e
        · exact List.mem_cons.mpr (.inl e)
        · exact List.mem_cons_of_mem _ (i2 g e)
theorem Zgl (f:Str) (v:V):∀fs:List (Str×V),(ZcU f v fs).length≤fs.length+1
  | []=>by simp [ZcU]
  | (k,x)::r=>by
    have ih:=Zgl f v r
    rw [show ZcU f v ((k,x)::r)=(if k=f then (k,v)::r else (k,x)::ZcU f v r) from rfl]
    by_cases hk:k=f
    · rw [if_pos hk,List.length_cons,List.length_cons]; omega
    · rw [if_neg hk,List.length_cons,List.length_cons]; omega
theorem RelO.some_of {v:V} {o:Option Value} (r:RelO (some v) o):∃u,o=some u∧RelV v u:=by
  cases o with
  | none=>exact (show False from r).elim
  | some u=>exact ⟨u,rfl,r⟩
theorem RelO.none_of {o:Option Value} (r:RelO none o):o=none:=by
  cases o with
  | none=>rfl
  | some u=>exact (show False from r).elim
theorem ZnH {v:V} {u:Value} (r:RelV v u):PySem.W.handedIn u=true:=by
  cases v with
  | non=>cases (show u=Value.none from r); rfl
  | bl b=>cases (show u=Value.bool b from r); rfl
  | int i=>obtain ⟨t,e⟩:=(show ∃t,u=Value.int i t from r); cases e; rfl
  | str x=>obtain ⟨t,e⟩:=(show ∃t,u=Value.str x t from r); cases e; rfl
  | byt b=>obtain ⟨t,e⟩:=(show ∃t,u=Value.bytes b t from r); cases e; rfl
  | flt b=>obtain ⟨t,e⟩:=(show ∃t,u=Value.float b t from r); cases e; rfl
  | ref a=>cases (show u=Value.ref a from r); rfl
  | ty n=>cases (show u=Value.type n from r); rfl
section
variable {P:Program} {w:World} {H H':Hp} {h h':Heap} {a C dx:Addr} {fs fs':List (Str×V)}
theorem Zjb (hok:HOk P w H h) (e:H a=some (.ins C dx fs)):∃mA,ObjM h a dx C mA∧(∀f,RelO (fs.lookup f) (mA f))∧PySem.Within mA (fs.map (·.1))∧fs.length≤1000∧H dx=some (.own a):=by
  obtain ⟨d,z,ne,ob,mA,n,r,q⟩:=(show ObjOk P w H h a (.ins C dx fs) from hok a _ e)
  exact ⟨mA,⟨ob,n,ne⟩,r,q,z,d⟩
end
structure Cls (K:PySem.W.Frag) (C:Addr):Prop where
  pg:PySem.W.plainGet K C Str.empty=true
  hd:PySem.W.hasDictIn K C=true
  po:PySem.W.plainOver K C=true
  sa:PySem.W.findIn K (.ref C) "__setattr__"=some (some (.builtin "object.__setattr__"))
theorem Cls.get {K:PySem.W.Frag} {C:Addr} (c:Cls K C) (f:Str):PySem.W.plainGet K C f=true:=c.pg
def NoAttr (K:PySem.W.Frag) (C:Addr) (f:Str):Prop:=PySem.W.findIn K (.ref C) f=some none
theorem NoAttr.taker {K:PySem.W.Frag} {C:Addr} {f:Str} (n:NoAttr K C f):PySem.W.takerIn K C f=some none:=by
  unfold PySem.W.takerIn
  rw [show PySem.W.findIn K (.ref C) f=some none from n]
  rfl
structure Con (K:PySem.W.Frag) (C:Addr) (f:Str) (v:V) (u:Value):Prop where
  at_:PySem.W.findIn K (.ref C) f=some (some u)
  rel:RelV v u
  get:PySem.W.specialIn K u "__get__"=some none
  cp:PySem.W.copiedNames.contains f=false
structure Meth (K:PySem.W.Frag) (C:Addr) (m:Str) (f:Addr):Prop where
  at_:PySem.W.findIn K (.ref C) m=some (some (.ref f))
  fn:PySem.W.isFn K (.ref f)=true
  kp:PySem.W.keepIn K (.ref f)=true
section
variable {X:Cx} {pins:List (Addr×Obj)} {σ:St} {H:Hp} {s:Shared} {a C dx:Addr} {fs:List (Str×V)} {f:Str} {v:V} {A:Around} {E:Value→Shared→Prop}
theorem Zl8 {b:Bool} {Q:Value→Shared→Prop} (I:Inv X pins σ H s) (e:H a=some (.ins C dx fs)) (c:Cls X.K C) (n:NoAttr X.K C f) (l:fs.lookup f=some v)
    (h:∀u s',Inv X pins σ H s'→RelV v u→Q u s'):wpAny (model X.prog X.w) A (getAttr (.ref a) f b) Q E s:=by
  obtain ⟨mA,O,r,_,_,_⟩:=Zjb I.hok e
  obtain ⟨u,hu,ru⟩:=RelO.some_of (v:=v) (o:=mA f) (by rw [←l]; exact r f)
  exact ZrM I.kIn O (c.get f) c.hd n hu (ZnH ru) (h u _ (I.tok _) ru)
theorem ZeU {m:Str} {g:Addr} {pl:Sem Bool} {Q:Value×List Value→Shared→Prop} (I:Inv X pins σ H s) (e:H a=some (.ins C dx fs)) (c:Cls X.K C) (k:Meth X.K C m g) (l:fs.lookup m=none)
    (h:Q (.ref g,[.ref a]) s):wpAny (model X.prog X.w) A (getMethod (.ref a) m pl) Q E s:=by
  obtain ⟨mA,O,r,_,_,_⟩:=Zjb I.hok e
  have hn:mA m=none:=RelO.none_of (by rw [←l]; exact r m)
  exact Zqt I.kIn O (c.get m) k.at_ k.fn hn h
theorem ZlG {y:V} {u:Value} {Q:Unit→Shared→Prop} (I:Inv X pins σ H s) (e:H a=some (.ins C dx fs)) (c:Cls X.K C) (n:NoAttr X.K C f) (hl:fs.length<1000) (ry:RelV y u)
    (h:∀s',Inv X pins σ (upd H a (.ins C dx (ZcU f y fs))) s'→Q () s'):wpAny (model X.prog X.w) A (setAttr (.ref a) f u) Q E s:=by
  obtain ⟨mA,O,r,wi,_,ho⟩:=Zjb I.hok e
  have hz:(fs.map (·.1)).length≤sizeLine:=by rw [List.length_map,sizeLine_eq]; omega
  refine Zq9 I.kIn O c.sa c.po n.taker c.hd wi hz fun h' O' sb=>h _ ?_
  have hd:∃o,h'.get? dx=some o:=let ⟨o,_,_,e',_⟩:=O'.ns; ⟨o,e'⟩
  refine I.write (x:=a) (e:=dx) (by rw [e]; exact True.intro) (.inr ho) (fun b q hb z=>(sb.2 b hb).trans z) hd ?_
  refine ⟨by rw [ZT O.ne]; exact ho,?_,O.ne,O'.obj,_,O'.ns,fun g=>?_,fun g hg=>?_⟩
  · have:=Zgl f y fs; omega
  · show RelO ((ZcU f y fs).lookup g) (if g=f then some u else mA g)
    rw [Zgk]
    by_cases q:g=f
    · rw [if_pos q,if_pos q]; exact ry
    · rw [if_neg q,if_neg q]; exact r g
  · by_cases q:g=f
    · rw [q]; exact (Zf4 f y fs).1
    · refine (Zf4 f y fs).2 g (wi g fun z=>hg ?_)
      show (if g=f then some u else mA g)=none
      rw [if_neg q]; exact z
theorem Inv.made (I:Inv X pins σ H s):Inv X pins σ (upd (upd H s.heap.objs.size (.own (s.heap.objs.size+1))) (s.heap.objs.size+1) (.ins C s.heap.objs.size []))
    { s with heap:=(s.heap.push PySem.W.emptyDict).push (PySem.W.instObj C s.heap.objs.size) }:=by
  have e1:(s.heap.push PySem.W.emptyDict).get? s.heap.objs.size=some PySem.W.emptyDict:=Heap.get?_push_size s.heap rfl
  have e2:((s.heap.push PySem.W.emptyDict).push (PySem.W.instObj C s.heap.objs.size)).get? (s.heap.objs.size+1)=some (PySem.W.instObj C s.heap.objs.size):=by
    have:=Heap.get?_push_size (s.heap.push PySem.W.emptyDict) (o:=PySem.W.instObj C s.heap.objs.size) rfl
    rwa [Heap.size_push] at this
  have e3:(s.heap.push PySem.W.emptyDict).Ns s.heap.objs.size (fun _=>none):=⟨PySem.W.emptyDict,#[],_,e1,rfl,(fun e he=>absurd he (by simp)),fun _=>rfl⟩
  have I1:=I.laid (a:=s.heap.objs.size) (o:=.own (s.heap.objs.size+1)) (h':=s.heap.push PySem.W.emptyDict) (t':=s.toks) (fun b u q=>Heap.get?_push_of_some _ q) (Nat.le_refl _) ⟨_,e1⟩
  refine I1.laid (a:=s.heap.objs.size+1) (o:=.ins C s.heap.objs.size []) (t':=s.toks) (fun b u q=>Heap.get?_push_of_some _ q) (Nat.le_of_eq (Heap.size_push _ _)) ?_
  have ne:s.heap.objs.size≠s.heap.objs.size+1:=Nat.ne_of_lt (Nat.lt_succ_self _)
  refine ⟨by rw [ZT ne,Z4],Nat.zero_le _,ne,e2,fun _=>none,(Heap.Ns1.of_empty e3).at fun o q=>Heap.get?_push_of_some _ q,fun _=>True.intro,fun y hy=>absurd rfl hy⟩
theorem Zr1 {prog:Program} {w:World} {env:Env} {e:Expr} {f:Str} {pos:Pos} {s:Shared} {Q:Value→Shared→Prop} (hb:attributeBase e f env (eval e env)=eval e env)
    (h:wpAny (model prog w) A (eval e env) (fun o s₁=>wpAny (model prog w) A (getAttr o f true) Q E s₁) E s):wpAny (model prog w) A (eval (.Attribute e f pos) env) Q E s:=
  Attribute_any_ h (by rw [arm_eval_Attribute,hb])
end
def Zyi (K:PySem.W.Frag) (ta:TE) (f:Str):TE:=fun σ H Q=>ta σ H fun x H1=>∃a C dx fs v,x=.ref a∧H1 a=some (.ins C dx fs)∧Cls K C∧NoAttr K C f∧fs.lookup f=some v∧Q v H1
def Zyn (K:PySem.W.Frag) (ta tv:TE) (f:Str):TS:=fun D σ H=>tv σ H fun y H1=>ta σ H1 fun x H2=>∃a C dx fs,x=.ref a∧H2 a=some (.ins C dx fs)∧Cls K C∧NoAttr K C f∧fs.length<1000∧
  D.nx σ (upd H2 a (.ins C dx (ZcU f y fs)))
section
variable {X:Cx} {o e value:Expr} {f:Str} {pos pos' tpos:Pos} {ta tv:TE}
theorem Zto (he:PE X e ta) (hb:attributeBase e f X.env (eval e X.env)=eval e X.env):PE X (.Attribute e f pos) (Zyi X.K ta f):=by
  intro pins s σ H Q I h
  refine Zr1 hb (thn (he pins s σ H _ I h) fun u s1 ⟨x,H1,I1,rx,a,C,dx,fs,v,ex,ea,c,n,l,q⟩=>?_)
  subst ex
  obtain rfl:u=Value.ref a:=rx
  exact Zl8 I1 ea c n l fun u' s2 I2 ru=>⟨v,H1,I2,ru,q⟩
theorem Zte (ha:PE X o ta) (hv:PE X value tv) (hs:swapsWith value (some (.Attribute o f pos')) pos.line X.env=pure false):PS X (.Assign [.Attribute o f pos'] value pos) (Zyn X.K ta tv f):=by
  intro pins s σ H D I h
  refine plainObj_wpAny_Assign_Attribute (thn (hv pins s σ H _ I h) fun u s1 ⟨y,H1,I1,ry,q⟩=>thn (ha pins s1 σ H1 _ I1 q) fun ov s2 ⟨x,H2,I2,rx,a,C,dx,fs,ex,ea,c,n,l,q2⟩=>?_) hs
  subst ex
  obtain rfl:ov=Value.ref a:=rx
  exact ZlG I2 ea c n l ry fun s3 I3=>⟨σ,_,I3,q2⟩
theorem Zsu {pl:Sem Bool} {m:Str} {apos:Pos} {args:List Expr} {pins:List (Addr×Obj)} {s:Shared} {σ:St} {H:Hp} {Q:Value→Shared→Prop} {te:TE} (he:PE X e te) (I:Inv X pins σ H s)
    (h:te σ H fun x H1=>∃a C dx fs g,x=.ref a∧H1 a=some (.ins C dx fs)∧Cls X.K C∧Meth X.K C m g∧fs.lookup m=none∧
      ∀s1,Inv X pins σ H1 s1→wpAny (model X.prog X.w) X.A (callWith pos (.ref g) [.ref a] (backTo pos (starEach args X.env)) (backToKw pos (keywordEach [] X.env))) Q X.xe s1)
    (ht:eval (.Call (.Attribute e m apos) args [] pos) X.env=(do
      let ov ←eval e X.env
      standAt apos.atName
      let (f,first) ←holding [ov] (getMethod ov m pl)
      callWith pos f first (backTo pos (starEach args X.env)) (backToKw pos (keywordEach [] X.env)))) :
    wpAny (model X.prog X.w) X.A (eval (.Call (.Attribute e m apos) args [] pos) X.env) Q X.xe s:=by
  refine PySem.W.methodCall_KW (pl:=pl) (thn (he pins s σ H _ I h) fun u s1 ⟨x,H1,I1,rx,a,C,dx,fs,g,ex,ea,c,k,l,q⟩=>?_) ht
  subst ex
  obtain rfl:u=Value.ref a:=rx
  exact ZeU I1 ea c k l (q s1 I1)
end
section
variable {X:Cx} {pins:List (Addr×Obj)} {σ:St} {H:Hp} {s:Shared} {A:Around} {E:Value→Shared→Prop} {Q:Value→Shared→Prop} {c:Value} {b:Bool}
inductive ZhP (K:PySem.W.Frag) (H:Hp):V→Value→Prop where
  | non:ZhP K H .non (.type "NoneType")
  | bl (x:Bool):ZhP K H (.bl x) (.type "bool")
  | int (i:Int):ZhP K H (.int i) (.type "int")
  | str (x:Str):ZhP K H (.str x) (.type "str")
  | flt (x:UInt64):ZhP K H (.flt x) (.type "float")
  | lst {a:Addr} {xs:List V} (e:H a=some (.lst xs)):ZhP K H (.ref a) (.type "list")
  | frz {a:Addr} {o:Obj} {xs:List V} (e:H a=some (.frz o (.lst xs))):ZhP K H (.ref a) (.type "list")
  | tup {a:Addr} {xs:List V} (e:H a=some (.tup xs)):ZhP K H (.ref a) (.type "tuple")
  | dK {a:Addr} {kvs:List (Key×V)} (e:H a=some (.dK kvs)):ZhP K H (.ref a) (.type "dict")
  | dT {a:Addr} {kvs:List (List Key×V)} (e:H a=some (.dT kvs)):ZhP K H (.ref a) (.type "dict")
  | ins {a C dx:Addr} {fs:List (Str×V)} (e:H a=some (.ins C dx fs)) (cl:Cls K C) (ha:PySem.W.findIn K (.ref C) "__class__"=some (some (.builtin "object.__class__")))
      (hn:PySem.W.specialIn K (.builtin "object.__class__") "__get__"=some (some (.builtin "getset_descriptor.__get__"))) (htk:PySem.W.takesIn K (.builtin "object.__class__")=some true)
      (hm:PySem.W.mroIn K C (.type "object")=some true):ZhP K H (.ref a) (.ref C)
end
end L2
namespace L2
open PySem PySem.Spec PyProof.Rows
structure Room (k:Nat) (A:Around):Prop where
  hd:A.handled=none
  dp:A.depth+3*k+5<recursionLimit
  un:A.units+16*k+200<cLine
theorem Room.mono {j k:Nat} {A:Around} (r:Room k A) (h:j≤k):Room j A:=⟨r.hd,by have:=r.dp; omega,by have:=r.un; omega⟩
theorem Room.deeper {k:Nat} {A:Around} (r:Room (k+1) A) (env:Env):Room k (A.deeper env):=
  ⟨r.hd,by have:=r.dp; show A.depth+1+3*k+5<_; omega,by have:=r.un; show A.units+3+16*k+200<_; omega⟩
theorem Zl0 {A:Around} {C:Addr} {us:List Value} {kw:List (Str×Value)}:(A.under (.builtin "type.__call__" ⟨.ref C::us,kw⟩)).depth=A.depth+1:=by
  first | rfl | simp [Around.under,Code.weight,Code.isCreation,Code.isGuard,Code.isCaller,Code.frames,Code.isFrame,guardIds]
theorem ZlZ {A:Around} {C:Addr} {us:List Value} {kw:List (Str×Value)}:(A.under (.builtin "type.__call__" ⟨.ref C::us,kw⟩)).units=A.units+1:=by
  first | rfl | simp [Around.under,Code.cUnits,Code.frames,Code.isFrame]
theorem Room.make {k:Nat} {A:Around} (r:Room (k+1) A) (C:Addr) (us:List Value) (kw:List (Str×Value)):Room k (A.under (.builtin "type.__call__" ⟨.ref C::us,kw⟩)):=
  ⟨r.hd,by have:=r.dp; rw [Zl0]; omega,by have:=r.un; rw [ZlZ]; omega⟩
theorem Room.depth {k:Nat} {A:Around} (r:Room k A):A.depth<recursionLimit:=by have:=r.dp; omega
theorem Room.units {k:Nat} {A:Around} (r:Room k A):A.units+64<cLine:=by have:=r.un; omega
def Zpt:TA:=fun _ H Q=>Q [] H
def Zmr (ta:TE) (tr:TA):TA:=fun σ H Q=>ta σ H fun x H1=>tr σ H1 fun xs H2=>Q (x::xs) H2
section
variable {X:Cx} {e:Expr} {es:List Expr} {te:TE} {t:TA} {pos:Pos}
theorem ZdM:PA X [] Zpt:=fun _ _ _ _ H Q I h=>Calls.spliced_nil ⟨[],H,I,.nil,h⟩
theorem ZbI (ha:PE X e te) (hr:PA X es t) (hs:starEach (e::es) X.env=(false,eval e X.env)::starEach es X.env:=by rfl):PA X (e::es) (Zmr te t):=by
  intro pos pins s σ H Q I h
  rw [hs]
  show wpAny _ _ (spliced ((false,eval e X.env)::backTo pos (starEach es X.env))) _ _ s
  refine Calls.spliced_cons (thn (ha pins s σ H _ I h) fun u s1 ⟨x,H1,I1,r1,q1⟩=>?_)
  exact thn (hr pos pins s1 σ H1 _ I1 q1) fun us s2 ⟨xs,H2,I2,r2,q2⟩=>⟨x::xs,H2,I2,.cons r1 r2,q2⟩
def Zx9 (t:TA):TE:=fun σ H Q=>t σ H fun xs H1=>xs.length≤sizeLine∧∀p,H1 p=none→Q (.ref p) (upd H1 p (.tup xs))
def Zyf (t:TA):TE:=fun σ H Q=>t σ H fun xs H1=>xs.length≤sizeLine∧∀p,H1 p=none→Q (.ref p) (upd H1 p (.lst xs))
theorem Ztk {x1} (h:PA X es t):PE X (.Tuple es x1 pos) (Zx9 t):=by
  intro pins s σ H Q I hq
  refine wpAny_Tuple_spliced (thn (h pos pins s σ H _ I hq) fun us s1 ⟨xs,H1,I1,r,z,q⟩=>⟨by rw [←r.length]; exact z,?_⟩)
  have hf:H1 s1.heap.objs.size=none:=I1.hok.fresh (Nat.le_refl _)
  refine ⟨.ref s1.heap.objs.size,upd H1 s1.heap.objs.size (.tup xs),I1.laid (t':=s1.toks) (fun b u e=>Heap.get?_push_of_some _ e) (Nat.le_refl _) ?_,rfl,q _ hf⟩
  exact ⟨z,us,r,⟨_,Heap.get?_push_size _ rfl,rfl,_,rfl⟩⟩
theorem ZlP (h:PA X es t):PE X (.List es pos) (Zyf t):=by
  intro pins s σ H Q I hq
  refine wpAny_List_spliced (thn (h pos pins s σ H _ I hq) fun us s1 ⟨xs,H1,I1,r,z,q⟩=>⟨by rw [←r.length]; exact z,?_⟩)
  have hf:H1 s1.heap.objs.size=none:=I1.hok.fresh (Nat.le_refl _)
  refine ⟨.ref s1.heap.objs.size,upd H1 s1.heap.objs.size (.lst xs),I1.laid (t':=s1.toks) (fun b u e=>Heap.get?_push_of_some _ e) (Nat.le_refl _) ?_,rfl,q _ hf⟩
  exact ⟨z,us,0,r,Heap.get?_push_size _ rfl⟩
end
abbrev Sp:=List V→Hp→VK→XK→Prop
abbrev CXT:=List Env→Hp→Shared→XK→Value→Shared→Prop
structure Env0 (P:Program) (w:World) (K:PySem.W.Frag) (mg:Str→Option Value) (base:Heap) (A:Around) (outer:List Env) (s:Shared) (H:Hp):Prop where
  frames:A.frames=some outer
  mod:Mod K mg base
  bs:∀b o,base.get? b=some o→s.heap.get? b=some o∧H b=none
  bsz:base.objs.size≤s.heap.objs.size
  funs:s.heap.FunFrames base outer
  frf:∀b∈frs outer,H b=none
  hok:HOk P w H s.heap
  bare:AllBare s.gens
def CE (outer:List Env) (P:Program) (w:World) (H:Hp) (s:Shared) (Q:VK) (u:Value) (s':Shared):Prop:=
  ∃v H',s'.os=s.os∧AllBare s'.gens∧Un (frs outer) [] H H' s.heap s'.heap∧HOk P w H' s'.heap∧RelV v u∧Q v H'
def CR (CX:CXT) (outer:List Env) (P:Program) (w:World) (H:Hp) (s:Shared) (Q:VK) (E:XK) (r:Result) (s':Shared):Prop:=
  match r with
  | .ok (.ret u)=>CE outer P w H s Q u s'
  | .ok _=>False
  | .error e=>CX outer H s E e s'
structure FnOk (P:Program) (w:World) (K:PySem.W.Frag) (mg:Str→Option Value) (base:Heap) (CX:CXT) (k:Nat) (f:Addr) (fd:FuncData) (ps:List Str) (sp:Sp):Prop where
  len:∀vs H Q E,sp vs H Q E→vs.length=ps.length
  run:∀(A:Around) (outer:List Env) (s:Shared) (H:Hp) (args:Args) (us:List Value) (vs:List V) (Q:VK) (E:XK),Room k A→Env0 P w K mg base A outer s H→BindsTo s fd args (ps.zip us)→Vals vs us→sp vs H Q E→
    codeAny (model P w) A (.call (.ref f) args) (CR CX outer P w H s Q E) s
theorem FnOk.imp {P:Program} {w:World} {K:PySem.W.Frag} {mg:Str→Option Value} {base:Heap} {CX:CXT} {k:Nat} {f:Addr} {fd:FuncData} {ps:List Str} {sp sp':Sp} (F:FnOk P w K mg base CX k f fd ps sp)
    (h:∀vs H Q E,sp' vs H Q E→sp vs H Q E):FnOk P w K mg base CX k f fd ps sp':=
  ⟨fun vs H Q E q=>F.len vs H Q E (h _ _ _ _ q),fun A outer s H args us vs Q E hr he hb hv hs=>F.run A outer s H args us vs Q E hr he hb hv (h _ _ _ _ hs)⟩
theorem Env0.make {P:Program} {w:World} {K:PySem.W.Frag} {mg:Str→Option Value} {base:Heap} {A:Around} {outer:List Env} {s:Shared} {H:Hp} (e:Env0 P w K mg base A outer s H) (C:Addr) (us:List Value) (kw:List (Str×Value)) :
    Env0 P w K mg base (A.under (.builtin "type.__call__" ⟨.ref C::us,kw⟩)) outer s H:=⟨by first | exact e.frames | (simpa [Around.under,Code.envs,Code.isFrame,pushEnvs] using e.frames),e.mod,e.bs,e.bsz,e.funs,e.frf,e.hok,e.bare⟩
section
variable {X:Cx} {pins:List (Addr×Obj)} {σ:St} {H:Hp} {s s':Shared}
theorem Inv.env0 (I:Inv X pins σ H s):Env0 X.prog X.w X.K X.mg X.base X.A X.stack s H:=
  ⟨I.ok.frames,I.ok.mod,I.bs,Nat.le_trans I.ok.bsz I.sz,I.stack,I.stkFree,I.hok,I.bare⟩
theorem Inv.after {Q:VK} {u:Value} (I:Inv X pins σ H s) (h:CE X.stack X.prog X.w H s Q u s'):EP X pins σ Q u s':=by
  obtain ⟨v,H',os,bare,un,hok,r,q⟩:=h
  obtain ⟨hh,g,d,t,os'⟩:=s'
  obtain rfl:os'=s.os:=os
  exact ⟨v,H',I.call (h':=hh) (g':=g) (d':=d) (t':=t) (ch:=[]) un hok bare (fun b z=>absurd z (by simp)),r,q⟩
end
def Zsj (sp:Sp) (dvs:List V) (E:XK) (t:TA):TE:=fun σ H Q=>t σ H fun vs H1=>sp (vs++dvs) H1 Q E
def ZuK (C:Addr) (m:Str) (sp:Sp) (dvs:List V) (E:XK) (ta:TE) (t:TA):TE:=fun σ H Q=>ta σ H fun x H1=>∃a dx fs,x=.ref a∧H1 a=some (.ins C dx fs)∧fs.lookup m=none∧
  t σ H1 fun vs H2=>sp (x::(vs++dvs)) H2 Q E
def Zsh (C:Addr) (sp:Sp) (dvs:List V) (E:XK) (t:TA):TE:=fun σ H Q=>t σ H fun vs H1=>∀x dx,H1 x=none→H1 dx=none→dx≠x→
  sp (.ref x::(vs++dvs)) (upd (upd H1 dx (.own x)) x (.ins C dx [])) (fun v H2=>v=.non∧Q (.ref x) H2) E
def Binds (K:PySem.W.Frag) (fd:FuncData) (ps:List Str) (ds:List Value):Prop:=
  ∀(s:Shared) (us:List Value),K.In s.heap→(us++ds).length=ps.length→BindsTo s fd ⟨us,[]⟩ (ps.zip (us++ds))
theorem Binds.all {K:PySem.W.Frag} {fd:FuncData} {ps:List Str} (h:∀us:List Value,us.length=ps.length→bindArgs fd ⟨us,[]⟩=pure (ps.zip us)):Binds K fd ps []:=fun s us _ hl=>by
  rw [List.append_nil] at hl ⊢
  exact .of_eq (h us hl)
def Ze2 (CX:CXT) (X:Cx) (E:XK):Prop:=∀(pins:List (Addr×Obj)) (σ:St) (H:Hp) (s:Shared) (e:Value) (s':Shared),Inv X pins σ H s→CX X.stack H s E e s'→X.xe e s'
section
variable {X:Cx} {CX:CXT} {k:Nat} {f C:Addr} {fd:FuncData} {ps:List Str} {sp:Sp} {dvs:List V} {ds:List Value} {E:XK} {x m:Str} {p pos apos:Pos} {e o:Expr} {es:List Expr} {ta:TE} {t:TA}
theorem ZpA {pins:List (Addr×Obj)} {σ:St} {H:Hp} {s:Shared} {Q:VK} {us:List Value} {vs:List V} (F:FnOk X.prog X.w X.K X.mg X.base CX k f fd ps sp) (hr:Room k X.A) (hb:Binds X.K fd ps ds) (hd:Vals dvs ds) (hx:Ze2 CX X E)
    (I:Inv X pins σ H s) (r:Vals vs us) (h:sp (vs++dvs) H Q E):wpAny (model X.prog X.w) X.A (call (.ref f) us) (EP X pins σ Q) X.xe s:=by
  have r2:Vals (vs++dvs) (us++ds):=r.append hd
  have hl:(us++ds).length=ps.length:=by rw [←r2.length]; exact F.len _ _ _ _ h
  refine wpAny_call (codeAny_mono (F.run X.A X.stack s H ⟨us,[]⟩ (us++ds) (vs++dvs) Q E hr I.env0 (hb s us I.kIn hl) r2 h) fun r s' hq=>?_)
  cases r with
  | error e=>exact hx pins σ H s e s' I hq
  | ok fl=>
    cases fl with
    | ret u=>exact I.after hq
    | next=>exact False.elim hq
    | brk=>exact False.elim hq
    | cont=>exact False.elim hq
theorem Zrv (F:FnOk X.prog X.w X.K X.mg X.base CX k f fd ps sp) (hr:Room k X.A) (hg:Gl X x) (hm:X.mg x=some (.ref f)) (hk:PySem.W.keepIn X.K (.ref f)=true) (hb:Binds X.K fd ps ds) (hd:Vals dvs ds) (hx:Ze2 CX X E)
    (ha:PA X (e::es) t) (hdb:(x == ("__debug__":Str))=false:=by decide) (he:starEach (e::es) X.env=(false,eval e X.env)::starEach es X.env:=by rfl) (hpl:(backTo pos (starEach es X.env)).any (·.1)=false:=by rfl) :
    PE X (.Call (.Name x p) (e::es) [] pos) (Zsj sp dvs E t):=by
  intro pins s σ H Q I h
  refine wpAny_Call_Name_kw (Zer I hg hm ?_ hdb)
  refine PySem.W.callWith_K (h₀:=X.base) I.ok.mod.kin hk (thn (ha pos pins s σ H _ I h) fun us s1 ⟨vs,H1,I1,r,q⟩=>⟨I1.kIn,?_⟩) he hpl
  exact ZpA F hr hb hd hx I1 r q
theorem Zrq {pl:Sem Bool} (he:PE X o ta) (c:Cls X.K C) (hm:Meth X.K C m f) (F:FnOk X.prog X.w X.K X.mg X.base CX k f fd ps sp) (hr:Room k X.A) (hb:Binds X.K fd ps ds) (hd:Vals dvs ds) (hx:Ze2 CX X E) (ha:PA X (e::es) t)
    (hst:starEach (e::es) X.env=(false,eval e X.env)::starEach es X.env:=by rfl) (hpl:(backTo pos (starEach es X.env)).any (·.1)=false:=by rfl)
    (ht:eval (.Call (.Attribute o m apos) (e::es) [] pos) X.env=(do
      let ov ←eval o X.env
      standAt apos.atName
      let (f,first) ←holding [ov] (getMethod ov m pl)
      callWith pos f first (backTo pos (starEach (e::es) X.env)) (backToKw pos (keywordEach [] X.env))):=by rfl) :
    PE X (.Call (.Attribute o m apos) (e::es) [] pos) (ZuK C m sp dvs E ta t):=by
  intro pins s σ H Q I h
  refine PySem.W.methodCall_KW (pl:=pl) (thn (he pins s σ H _ I h) fun u s1 ⟨x,H1,I1,rx,a,dx,fs,ex,ea,l,q⟩=>?_) ht
  subst ex
  obtain rfl:u=Value.ref a:=rx
  refine ZeU I1 ea c hm l ?_
  refine PySem.W.callWith_K (first:=[.ref a]) (h₀:=X.base) I.ok.mod.kin hm.kp (thn (ha pos pins s1 σ H1 _ I1 q) fun us s2 ⟨vs,H2,I2,r,q2⟩=>⟨I2.kIn,?_⟩) hst hpl
  exact ZpA (us:=.ref a::us) (vs:=.ref a::vs) F hr hb hd hx I2 (.cons rfl r) q2
structure Mk (K:PySem.W.Frag) (C f:Addr):Prop where
  makes:PySem.W.makesIn K C=true
  init:PySem.W.findIn K (.ref C) "__init__"=some (some (.ref f))
  fn:PySem.W.isFn K (.ref f)=true
  kp:PySem.W.keepIn K (.ref C)=true
theorem ZkY {pins:List (Addr×Obj)} {σ:St} {H:Hp} {s:Shared} {Q:VK} {us:List Value} {vs:List V} (M:Mk X.K C f) (F:FnOk X.prog X.w X.K X.mg X.base CX k f fd ps sp) (hr:Room (k+1) X.A) (hb:Binds X.K fd ps ds) (hd:Vals dvs ds)
    (hx:Ze2 CX X E) (I:Inv X pins σ H s) (r:Vals vs us)
    (h:∀x dx,H x=none→H dx=none→dx≠x→sp (.ref x::(vs++dvs)) (upd (upd H dx (.own x)) x (.ins C dx [])) (fun v H2=>v=.non∧Q (.ref x) H2) E) :
    wpAny (model X.prog X.w) X.A (call (.ref C) us) (EP X pins σ Q) X.xe s:=by
  have hq:=h (s.heap.objs.size+1) s.heap.objs.size (I.hok.fresh (Nat.le_succ _)) (I.hok.fresh (Nat.le_refl _)) (Nat.ne_of_lt (Nat.lt_succ_self _))
  have I2:=Inv.made (C:=C) I
  have r2:Vals (V.ref (s.heap.objs.size+1)::(vs++dvs)) (Value.ref (s.heap.objs.size+1)::(us++ds)):=.cons rfl (r.append hd)
  have hl:(Value.ref (s.heap.objs.size+1)::us++ds).length=ps.length:=by
    have e:=r2.length
    rw [F.len _ _ _ _ hq] at e
    exact e.symm
  refine wpAny_call (Zqi (f:=f) I.kIn M.makes M.init (beq_iff_eq.mp M.fn) (codeAny_mono (F.run _ X.stack _ _ ⟨Value.ref (s.heap.objs.size+1)::us,[]⟩ (Value.ref (s.heap.objs.size+1)::(us++ds)) _ _ E (hr.make C us [])
    (I2.env0.make C us []) (hb _ (Value.ref (s.heap.objs.size+1)::us) I2.kIn hl) r2 hq) fun r s' hq'=>?_))
  cases r with
  | error e=>exact hx pins σ _ _ e s' I2 hq'
  | ok fl=>
    cases fl with
    | ret u=>
      obtain ⟨v,H',I3,rv,ev,q3⟩:=I2.after hq'
      subst ev
      exact ⟨rv,⟨V.ref (s.heap.objs.size+1),H',I3,rfl,q3⟩⟩
    | next=>exact False.elim hq'
    | brk=>exact False.elim hq'
    | cont=>exact False.elim hq'
theorem Zrr (M:Mk X.K C f) (F:FnOk X.prog X.w X.K X.mg X.base CX k f fd ps sp) (hr:Room (k+1) X.A) (hg:Gl X x) (hm:X.mg x=some (.ref C)) (hb:Binds X.K fd ps ds) (hd:Vals dvs ds) (hx:Ze2 CX X E)
    (ha:PA X (e::es) t) (hdb:(x == ("__debug__":Str))=false:=by decide) (he:starEach (e::es) X.env=(false,eval e X.env)::starEach es X.env:=by rfl) (hpl:(backTo pos (starEach es X.env)).any (·.1)=false:=by rfl) :
    PE X (.Call (.Name x p) (e::es) [] pos) (Zsh C sp dvs E t):=by
  intro pins s σ H Q I h
  refine wpAny_Call_Name_kw (Zer I hg hm ?_ hdb)
  refine PySem.W.callWith_K (h₀:=X.base) I.ok.mod.kin M.kp (thn (ha pos pins s σ H _ I h) fun us s1 ⟨vs,H1,I1,r,q⟩=>⟨I1.kIn,?_⟩) he hpl
  exact ZkY M F hr hb hd hx I1 r q
theorem ZpO (M:Mk X.K C f) (F:FnOk X.prog X.w X.K X.mg X.base CX k f fd ps sp) (hr:Room (k+1) X.A) (hg:Gl X x) (hm:X.mg x=some (.ref C)) (hb:Binds X.K fd ps ds) (hd:Vals dvs ds) (hx:Ze2 CX X E)
    (hdb:(x == ("__debug__":Str))=false:=by decide):PE X (.Call (.Name x p) [] [] pos) (Zsh C sp dvs E Zpt):=by
  intro pins s σ H Q I h
  refine wpAny_Call_Name_kw (Zer I hg hm ?_ hdb)
  exact PySem.W.callWith_K0 I.kIn M.kp (ZkY (us:=[]) M F hr hb hd hx I .nil h)
end
section
variable {X:Cx} {CX:CXT} {k:Nat} {f C:Addr} {fd:FuncData} {ps ks:List Str} {sp:Sp} {E:XK} {x m:Str} {p pos apos kpos:Pos} {e o:Expr} {es:List Expr} {kws:List Keyword} {te ta:TE} {t tk:TA} {nm:Option Str}
structure Zy2 (K:PySem.W.Frag) (fd:FuncData) (ps ks:List Str) (g:List Value→List Value→List Value) (gV:List V→List V→List V):Prop where
  to:∀(s:Shared) (us ws:List Value),K.In s.heap→(g us ws).length=ps.length→BindsTo s fd ⟨us,ks.zip ws⟩ (ps.zip (g us ws))
  rel:∀{vs:List V} {us:List Value} {zs:List V} {ws:List Value},Vals vs us→Vals zs ws→Vals (gV vs zs) (g us ws)
variable {g:List Value→List Value→List Value} {gV:List V→List V→List V}
end
structure Zp (N P:List Str) (sc:Scope):Prop where
  kind:sc.kind=.function
  co:sc.isCoroutine=false
  gen:sc.isGenerator=false
  nd:N.Nodup
  pre:N.take P.length=P
  par:∀x∈P,sc.names.lookup x=some .local∨sc.names.lookup x=some .cell
  nofree:∀y∈sc.names,y.2≠.free
theorem Ziu {kindOf:Str→Option NameKind} {x:Str}:∀{binds:List (Str×Value)} {m:Str→Option Value},(∀v,(x,v)∉binds)→bindL kindOf binds m x=m x
  | [],_,_=>rfl
  | (n,v)::r,m,h=>by
    unfold bindL
    rw [Ziu fun w hw=>h w (List.mem_cons_of_mem _ hw)]
    split
    · have:x≠n:=by rintro rfl; exact h v List.mem_cons_self
      simp [this]
    · rfl
theorem Ziw {kindOf:Str→Option NameKind} {x:Str}:∀{binds:List (Str×Value)} {m:Str→Option Value},(∀v,(x,v)∉binds)→bindC kindOf binds m x=m x
  | [],_,_=>rfl
  | (n,v)::r,m,h=>by
    unfold bindC
    rw [Ziw fun w hw=>h w (List.mem_cons_of_mem _ hw)]
    split
    · rfl
    · have:x≠n:=by rintro rfl; exact h v List.mem_cons_self
      simp [this]
theorem Ziv {kindOf:Str→Option NameKind} {x:Str} {v:Value}:∀{P:List Str} {vs:List Value} {i:Nat} {m:Str→Option Value},P.Nodup→P[i]?=some x→vs[i]?=some v→kindOf x=some .local→
    bindL kindOf (P.zip vs) m x=some v
  | [],_,_,_,_,h,_,_=>by simp at h
  | _::_,[],_,_,_,_,h,_=>by simp at h
  | p::P,w::vs,0,m,nd,h1,h2,hk=>by
    simp at h1 h2; subst h1; subst h2
    show bindL kindOf ((p,w)::P.zip vs) m p=_
    unfold bindL
    rw [Ziu fun v hv=>(List.nodup_cons.mp nd).1 (List.of_mem_zip hv).1,if_pos hk]
    simp
  | p::P,w::vs,i+1,m,nd,h1,h2,hk=>by
    show bindL kindOf ((p,w)::P.zip vs) m x=_
    unfold bindL
    exact Ziv (i:=i) (List.nodup_cons.mp nd).2 (by simpa using h1) (by simpa using h2) hk
theorem Zix {kindOf:Str→Option NameKind} {x:Str} {v:Value}:∀{P:List Str} {vs:List Value} {i:Nat} {m:Str→Option Value},P.Nodup→P[i]?=some x→vs[i]?=some v→kindOf x≠some .local→
    bindC kindOf (P.zip vs) m x=some v
  | [],_,_,_,_,h,_,_=>by simp at h
  | _::_,[],_,_,_,_,h,_=>by simp at h
  | p::P,w::vs,0,m,nd,h1,h2,hk=>by
    simp at h1 h2; subst h1; subst h2
    show bindC kindOf ((p,w)::P.zip vs) m p=_
    unfold bindC
    rw [Ziw fun v hv=>(List.nodup_cons.mp nd).1 (List.of_mem_zip hv).1,if_neg hk]
    simp
  | p::P,w::vs,i+1,m,nd,h1,h2,hk=>by
    show bindC kindOf ((p,w)::P.zip vs) m x=_
    unfold bindC
    exact Zix (i:=i) (List.nodup_cons.mp nd).2 (by simpa using h1) (by simpa using h2) hk
def Zdy (N:List Str) (vs:List V):St:=vs.map some++List.replicate (N.length-vs.length) none
def Zc4 (CX:CXT) (P:Program) (w:World) (K:PySem.W.Frag) (mg:Str→Option Value) (base:Heap) (N:List Str) (qual:Str) (scope:Scope) (f:Addr) (cd:Value) (A:Around) (outer:List Env) (s:Shared) (H:Hp) (E:XK):Cx where
  prog:=P
  w:=w
  K:=K
  mg:=mg
  base:=base
  A:=A.deeper (envOfC qual scope s.heap.objs.size f cd)
  N:=N
  s₀:=s
  H₀:=H
  env:=envOfC qual scope s.heap.objs.size f cd
  outer:=outer
  stack:=envOfC qual scope s.heap.objs.size f cd::outer
  ex:=[]
  calm:=true
  fn:=fun _=>true
  pn:=[]
  xe:=fun e s'=>wpAny (model P w) (A.deeper (envOfC qual scope s.heap.objs.size f cd)) (leaving (envOfC qual scope s.heap.objs.size f cd) e) (fun _ s''=>CX outer H s E e s'') (fun e' s''=>CX outer H s E e' s'') s'
theorem Zls {sc:Scope} {n:Nat} {x:Str} (h:sc.names.lookup x=some .cell):∃c,(cellsFrom n sc.names []).lookup x=some c:=by
  have q:=PySem.W.cellsFrom_some sc.names n [] (.inl h)
  exact Option.isSome_iff_exists.mp q
theorem ZnD {CX:CXT} {P:Program} {w:World} {K:PySem.W.Frag} {mg:Str→Option Value} {base:Heap} {N ps:List Str} {qual:Str} {scope:Scope} {f:Addr} {cd:Value} {A:Around} {outer:List Env} {s s1:Shared} {H:Hp} {E:XK} {us:List Value} {vs:List V}
    (S:Zp N ps scope) (hd:A.handled=none) (e0:Env0 P w K mg base A outer s H) (hl:vs.length=ps.length) (r:Vals vs us)
    (x:InCallC s s.heap.objs.size (bindL (envOfC qual scope s.heap.objs.size f cd).kindOf (ps.zip us) fun _=>none) (cellsFrom (s.heap.objs.size+1) scope.names []) (bindC (envOfC qual scope s.heap.objs.size f cd).kindOf (ps.zip us) fun _=>none) s1) :
    Inv (Zc4 CX P w K mg base N qual scope f cd A outer s H E) [] (Zdy N vs) H s1:=by
  have hpl:ps.length≤N.length:=by have:=congrArg List.length S.pre; rw [List.length_take] at this; omega
  obtain ⟨h1,tk,rfl,hk⟩:=x.done
  have noA:∀b:Addr,b∉(Zc4 CX P w K mg base N qual scope f cd A outer s H E).ex:=fun b z=>absurd (show b∈([]:List Addr) from z) (by simp)
  refine ⟨⟨e0.mod,S.kind,rfl,rfl,Nat.le_refl _,fun y z c h1 h2=>?_,fun y hy=>?_,fun y c _ h=>?_,fun _=>hd,Around.frames_deeper e0.frames,.inr ⟨rfl,rfl⟩,fun b z=>absurd z (noA b),e0.bs,e0.bsz,fun b _ _=>noA b,fun b z=>absurd z (noA b),e0.funs,e0.frf⟩,
    rfl,e0.bare,Un.kept hk,⟨_,x.toInCall.ns,fun i y v h1 h2 h3=>?_⟩,fun y c h=>⟨_,x.cell y c h⟩,e0.hok.fresh (Nat.le_refl _),fun y c h=>?_,fun p hp=>absurd (show p∈([]:List (Addr×Obj)) from hp) (by simp),e0.hok.kept hk,?_⟩
  · exact name_of_addr x.apart (PySem.mem_of_lookup h1) (PySem.mem_of_lookup h2)
  · have hy:scope.names.lookup y=some .cell∨scope.names.lookup y=some .free:=hy
    rcases hy with hy | hy
    · exact Zls hy
    · exact absurd rfl (S.nofree _ (PySem.mem_of_lookup hy))
  · exact Nat.le_of_lt (x.above y c (PySem.mem_of_lookup h))
  · have hi:i<vs.length:=by
      unfold Zdy at h2
      by_cases hi:i<vs.length
      · exact hi
      · rw [List.getElem?_append_right (by simpa using hi)] at h2
        rw [List.getElem?_replicate] at h2
        split at h2<;>cases h2
    have ha:vs[i]?=some v:=by
      unfold Zdy at h2
      rw [List.getElem?_append_left (by simpa using hi),List.getElem?_map] at h2
      cases e:vs[i]? with
      | none=>rw [e] at h2; cases h2
      | some a=>rw [e] at h2; cases h2; rfl
    obtain ⟨u,hu,rv⟩:=r.get ha
    have hp:ps[i]?=some y:=by
      rw [←S.pre,List.getElem?_take_of_lt (by omega)]; exact h1
    have ndP:ps.Nodup:=by rw [←S.pre]; exact S.nd.sublist (List.take_sublist _ _)
    refine ⟨u,rv,?_⟩
    rcases S.par y (List.mem_of_getElem? hp) with k | k
    · exact .inl ⟨k,Ziv ndP hp hu k⟩
    · obtain ⟨c,e⟩:=Zls (n:=s.heap.objs.size+1) k
      refine .inr ⟨.inl k,c,e,?_⟩
      have q:=x.cell y c e
      rw [Zix ndP hp hu (by show scope.names.lookup y≠_; rw [k]; decide)] at q
      exact q
  · exact e0.hok.fresh (Nat.le_of_lt (x.above y c (PySem.mem_of_lookup h)))
  · unfold Zdy
    show _=N.length
    rw [List.length_append,List.length_map,List.length_replicate]
    omega
theorem ZsC {CX:CXT} {P:Program} {w:World} {K:PySem.W.Frag} {mg:Str→Option Value} {base:Heap} {k:Nat} {f:Addr} {name qual:Str} {params:Arguments} {body:List Stmt} {scope:Scope} {dV kV doc pm cdv ct oc:Value} {an od:Option Addr}
    {osl:Array (Option Value)} {N ps:List Str} {sp:Sp} (lk:K.lookup f=some ⟨oc,od,.func (PySem.W.fnOf name qual params body scope dV kV doc pm an cdv ct),osl⟩) (hcd:PySem.W.codeIn K cdv qual=true) (S:Zp N ps scope)
    (len:∀vs H Q E,sp vs H Q E→vs.length=ps.length)
    (hbody:∀(A:Around) (outer:List Env) (s:Shared) (H:Hp) (vs:List V) (Q:VK) (E:XK),Room k (A.deeper (envOfC qual scope s.heap.objs.size f cdv))→sp vs H Q E→
      ∃t,PSs (Zc4 CX P w K mg base N qual scope f cdv A outer s H E) body t∧t { nx:=fun _ H'=>Q .non H',rt:=Q } (Zdy N vs) H) :
    FnOk P w K mg base CX (k+1) f (PySem.W.fnOf name qual params body scope dV kV doc pm an cdv ct) ps sp:=by
  refine ⟨len,fun A outer s H args us vs Q E hr e0 hb r hsp=>?_⟩
  have hl:=len _ _ _ _ hsp
  have KX:K.In s.heap:=e0.mod.kin.keeps fun b o e=>(e0.bs b o e).1
  have lim:s.heap.NoLimit:=e0.mod.nolimit.keeps fun b o e=>(e0.bs b o e).1
  have hkind:∀y∈ps.zip us,scope.names.lookup y.1=some .local∨(scope.names.lookup y.1=some .cell∧((cellsFrom (s.heap.objs.size+1) scope.names []).lookup y.1).isSome=true):=fun ⟨n,v⟩ hy=>by
    rcases S.par n (List.of_mem_zip hy).1 with q | q
    · exact .inl q
    · exact .inr ⟨q,PySem.W.cellsFrom_some _ _ _ (.inl q)⟩
  refine codeAny_call_function hr.depth (KX _ _ lk) rfl S.co S.gen rfl (PySem.W.codeRec_of KX hcd) (hb _ _ _ _ ?_)
  refine wpAny_newFunctionEnv_cells S.kind hkind fun env he s1 x=>?_
  subst he
  refine ⟨lim.keeps x.toInCall.keep,codeAny_func ?_⟩
  obtain ⟨t,ht,hq⟩:=hbody A outer s H vs Q E (hr.deeper _) hsp
  have I:Inv (Zc4 CX P w K mg base N qual scope f cdv A outer s H E) [] (Zdy N vs) H s1:=ZnD S hr.hd e0 hl r x
  refine wpAny_mono (ht [] s1 (Zdy N vs) H _ I hq) (fun fl s' hs=>?_) fun e s' hs=>hs
  have fin:∀{σ':St} {H':Hp} {v:V} {u:Value},Inv (Zc4 CX P w K mg base N qual scope f cdv A outer s H E) [] σ' H' s'→RelV v u→Q v H'→CE outer P w H s Q u s':=
    fun {σ' H' v u} J rv q=>⟨v,H',J.os,J.bare,J.base,J.hok,rv,q⟩
  cases fl with
  | ret u=>
    obtain ⟨v,σ',H',J,rv,q⟩:=hs
    exact fin J rv q
  | next=>
    obtain ⟨σ',H',J,q⟩:=hs
    exact fin (v:=V.non) (u:=Value.none) J rfl q
  | brk=>
    obtain ⟨_,_,_,q⟩:=hs
    exact False.elim q
  | cont=>
    obtain ⟨_,_,_,q⟩:=hs
    exact False.elim q
end L2
namespace L2
open PySem PySem.Spec PyProof.Rows
section
variable {X:Cx} {x:Str} {p pos:Pos} {e:Expr} {es:List Expr} {t:TA} {id T:String} {r:List V→Hp→VK→Prop}
def tCB (r:List V→Hp→VK→Prop) (t:TA):TE:=fun σ H Q=>t σ H fun vs H1=>r vs H1 Q
theorem Zg4 (hc:CallR X (.builtin id) r) (hg:Gl X x) (hm:X.mg x=none) (hv:bootBuiltins x=some (.builtin id)) (ha:PA X (e::es) t) (hn:x≠"__name__":=by decide) (hdb:(x == ("__debug__":Str))=false:=by decide)
    (he:starEach (e::es) X.env=(false,eval e X.env)::starEach es X.env:=by rfl) (hpl:(backTo pos (starEach es X.env)).any (·.1)=false:=by rfl):PE X (.Call (.Name x p) (e::es) [] pos) (tCB r t):=by
  intro pins s σ H Q I h
  refine wpAny_Call_Name_kw (Zhj I hg hm hv ?_ hn hdb)
  exact PyProof.Rows.callWith_builtin1 (thn (ha pos pins s σ H _ I h) fun us s1 ⟨vs,H1,I1,r1,q1⟩=>hc pins s1 σ H1 vs us Q I1 r1 q1) he hpl
theorem Znl (hc:CallR X (.type T) r) (hg:Gl X x) (hm:X.mg x=none) (hv:bootBuiltins x=some (.type T)) (ha:PA X (e::es) t) (hn:x≠"__name__":=by decide) (hdb:(x == ("__debug__":Str))=false:=by decide)
    (he:starEach (e::es) X.env=(false,eval e X.env)::starEach es X.env:=by rfl) (hpl:(backTo pos (starEach es X.env)).any (·.1)=false:=by rfl):PE X (.Call (.Name x p) (e::es) [] pos) (tCB r t):=by
  intro pins s σ H Q I h
  refine wpAny_Call_Name_kw (Zhj I hg hm hv ?_ hn hdb)
  exact PyProof.Rows.callWith_type1 (thn (ha pos pins s σ H _ I h) fun us s1 ⟨vs,H1,I1,r1,q1⟩=>hc pins s1 σ H1 vs us Q I1 r1 q1) he hpl
end
end L2
namespace HT
open PySem PyProof.Rows
section
open PySem.SeqAt
open PySem.AutoSeq1 (wpAny_loadPart')
open PySem.MeetsSeq PySem.MeetsSeq2 PySem.MeetsSeq3
end
section
variable {prog:Program} {w:World} {A:Around} {E:Value→Shared→Prop} {s:Shared}
theorem cat_tup {t b:Addr} {vs ws:List Value} {Q:Value→Shared→Prop} (ht:IsTup s.heap t vs.toArray) (hb:IsTup s.heap b ws.toArray) (hv:vs≠[])
    (h1:ws=[]→Q (.ref t) s) (h2:ws≠[]→Q (.ref s.heap.objs.size) { s with heap:=s.heap.push { cls:=.type "tuple",data:=.seq (vs++ws).toArray } })
    (hsz:vs.length+ws.length≤sizeLine):wpAny (model prog w) A (binaryOp .Add (.ref t) (.ref b)) Q E s:=by
  obtain ⟨⟨cls,dd,data,sl⟩,ho,hc,n,hd⟩:=id ht
  obtain ⟨⟨cls2,dd2,data2,sl2⟩,ho2,hc2,n2,hd2⟩:=id hb
  simp only at hc hd hc2 hd2
  subst hc hd hc2 hd2
  have e:vs.toArray++ws.toArray=(vs++ws).toArray:=by simp
  by_cases hw:ws=[]
  · exact concat_meets ⟨_,ho,rfl⟩ ⟨_,ho2,rfl⟩ noFill_tuple_add seq_tuple_add PySem.F.slot_tuple_add PySem.F.entry_tuple_add (PySem.F.args_tuple_add_2 _ _)
      (tuple_addW1 t b vs.toArray ws.toArray n n2 dd dd2 sl sl2 (by simpa using hv) (by simp [hw])) ⟨ho,ho2,h1 hw⟩
  · refine concat_meets ⟨_,ho,rfl⟩ ⟨_,ho2,rfl⟩ noFill_tuple_add seq_tuple_add PySem.F.slot_tuple_add PySem.F.entry_tuple_add (PySem.F.args_tuple_add_2 _ _)
      (tuple_addW2 t b vs.toArray ws.toArray n n2 dd dd2 sl sl2 (by simpa using hv) (by simpa using hw) (by rw [List.size_toArray,List.size_toArray]; exact hsz)) ⟨ho,ho2,?_⟩
    rw [e]
    exact h2 hw
def sIx (n d:Nat):Option Int→Nat
  | none=>d
  | some v=>if v<0 then (v+(n:Int)).toNat else min v.toNat n
theorem sIx_none (n d:Nat):sIx n d none=d:=rfl
theorem sIx_nat (n d k:Nat):sIx n d (some (k:Int))=min k n:=by
  show (if (k:Int)<0 then ((k:Int)+(n:Int)).toNat else min (k:Int).toNat n)=min k n
  rw [if_neg (by omega),Int.toNat_natCast]
theorem Zs5 (n d:Nat) (hd:d≤n) (o:Option Int):sIx n d o≤n:=by
  cases o with
  | none=>exact hd
  | some v=>
    show (if v<0 then (v+(n:Int)).toNat else min v.toNat n)≤n
    by_cases hv:v<0
    · rw [if_pos hv]; omega
    · rw [if_neg hv]; exact Nat.min_le_right _ _
theorem ZmW (v:Int) (n d:Nat):(if v<0 then max (v+(n:Int)) 0 else min v (n:Int))=((sIx n d (some v):Nat):Int):=by
  show (if v<0 then max (v+(n:Int)) 0 else min v (n:Int))=(((if v<0 then (v+(n:Int)).toNat else min v.toNat n):Nat):Int)
  by_cases hv:v<0
  · simp only [if_pos hv]; omega
  · simp only [if_neg hv]; omega
theorem Zmh (lo hi:Option Int) (n:Nat):Builtin.Slice.sliceAdjust lo hi 1 (n:Int)=(((sIx n 0 lo:Nat):Int),((sIx n n hi:Nat):Int)):=by
  have h1:¬((1:Int)<0):=by omega
  unfold Builtin.Slice.sliceAdjust
  simp only [h1,if_false]
  refine Prod.ext ?_ ?_
  · cases lo with
    | none=>rfl
    | some v=>exact ZmW v n 0
  · cases hi with
    | none=>rfl
    | some v=>exact ZmW v n n
theorem ZlO (i j:Nat):Builtin.Slice.slicePlaces (i:Int) (j:Int) 1=j-i:=by
  unfold Builtin.Slice.slicePlaces
  have h1:(1:Int) > 0:=by omega
  simp only [h1,if_true,Int.ediv_one]
  split<;>omega
theorem Zg1 {v:Value} {o:Option Int} {Q:Option Int→Shared→Prop} (p:IsPart v o) (h:Q o s):wpAny (model prog w) A (Builtin.Slice.slicePartIndex v) Q E s:=by
  cases p with
  | none=>exact slicePart_none h
  | int i t=>exact slicePart_int h
theorem ZfU {sl:Addr} {vl vu:Value} {lo hi:Option Int} {n:Nat} {Q:Int×Int×Nat→Shared→Prop} (hs:s.heap.IsSliceOf sl vl vu .none) (pl:IsPart vl lo) (pu:IsPart vu hi)
    (h:Q (((sIx n 0 lo:Nat):Int),1,sIx n n hi-sIx n 0 lo) s):wpAny (model prog w) A (Builtin.Slice.sliceApplied (.ref sl) (pure (n:Int))) Q E s:=by
  obtain ⟨os,hos,hcs,hds⟩:=id hs
  unfold Builtin.Slice.sliceApplied Builtin.Slice.sliceFields
  refine wpAny_bind (wpAny_bind (wpAny_field hos hds (x:=vl) rfl (wpAny_bind (wpAny_field hos hds (x:=vu) rfl (wpAny_bind (wpAny_field hos hds (x:=.none) rfl (wpAny_pure ?_)))))))
  refine wpAny_bind (slicePart_none ?_)
  show wpAny _ _ (if ((1:Int) == 0)=true then _ else _) _ _ s
  rw [if_neg (by decide)]
  refine wpAny_bind (Zg1 pl (wpAny_bind (Zg1 pu (wpAny_bind (wpAny_pure ?_)))))
  show wpAny _ _ (match Builtin.Slice.sliceAdjust lo hi 1 (n:Int) with | (lo,hi)=>pure (lo,(1:Int),Builtin.Slice.slicePlaces lo hi 1)) _ _ s
  rw [Zmh lo hi n]
  show wpAny _ _ (pure (((sIx n 0 lo:Nat):Int),(1:Int),Builtin.Slice.slicePlaces ((sIx n 0 lo:Nat):Int) ((sIx n n hi:Nat):Int) 1)) _ _ s
  rw [ZlO]
  exact wpAny_pure h
theorem ZpL (xs:Array Value) (i k:Nat):((List.range k).filterMap fun (m:Nat)=>xs[((i:Int)+(m:Int)*1).toNat]?).toArray=((xs.toList.drop i).take k).toArray:=by
  have e:(fun (m:Nat)=>xs[((i:Int)+(m:Int)*1).toNat]?)=fun m=>xs[i+m]?:=by
    funext m
    have:((i:Int)+(m:Int)*1).toNat=i+m:=by omega
    rw [this]
  rw [e]
  have:=pick_run xs i k
  rw [List.filterMap_map] at this
  have e2:((fun x=>xs[x]?)∘fun x=>i+x)=fun m=>xs[i+m]?:=rfl
  rw [e2] at this
  rw [this]
theorem getItem_tuple_cut {t sl:Addr} {items:Array Value} {vl vu:Value} {lo hi:Option Int} {Q:Value→Shared→Prop} (ht:IsTup s.heap t items) (hs:s.heap.IsSliceOf sl vl vu .none) (pl:IsPart vl lo) (pu:IsPart vu hi)
    (hw:¬(sIx items.size 0 lo=0∧sIx items.size items.size hi=items.size))
    (h:Q (.ref s.heap.objs.size) { s with heap:=s.heap.push { cls:=.type "tuple",data:=.seq ((items.toList.drop (sIx items.size 0 lo)).take (sIx items.size items.size hi-sIx items.size 0 lo)).toArray } })
    (hsz:items.size≤sizeLine):wpAny (model prog w) A (getItem (.ref t) (.ref sl)) Q E s:=by
  have htake:sizeOk (.seq ((items.toList.drop (sIx items.size 0 lo)).take (sIx items.size items.size hi-sIx items.size 0 lo)).toArray):=by
    show ((items.toList.drop (sIx items.size 0 lo)).take (sIx items.size items.size hi-sIx items.size 0 lo)).toArray.size≤sizeLine
    rw [List.size_toArray,List.length_take,List.length_drop,Array.length_toList]
    omega
  have hj:sIx items.size items.size hi≤items.size:=Zs5 _ _ (Nat.le_refl _) hi
  obtain ⟨os,hos,hcs,hds⟩:=id hs
  have hTs:s.TypeIs (.ref sl) "slice":=⟨os,hos,hcs⟩
  unfold getItem
  try with_reducible refine wpAny_holding ?_
  first | refine wpAny_bind (wpAny_pure ?_) | skip
  refine wpAny_bind (wpAny_sequenceKey ht.typeIs (by decide) ?_)
  refine wpAny_bind (wpAny_callSpecial?_slot (name:=Str.ofString "__getitem__") ht.typeIs PyProof.Rows.slot_tuple_getitem
    (wpAny_call_entry PyProof.Rows.slot_tuple_getitem ht.typeIs entry_tuple_getitem ?_ (args_tuple_getitem _ _)))
  show wpAny _ _ (Builtin.Tuple.tupleItemsOf (.ref t) >>= _) _ _ s
  refine wpAny_bind (tupleItemsOf_ ht ?_)
  refine wpAny_bind (wpAny_typeOf hTs ?_)
  rw [if_pos (by decide)]
  refine wpAny_bind (ZfU hs pl pu ?_)
  have hno:¬((((sIx items.size 0 lo:Nat):Int) == 0 && (1:Int) == 1 && (sIx items.size items.size hi-sIx items.size 0 lo) == items.size)=true):=by
    intro q
    rw [Bool.and_eq_true,Bool.and_eq_true] at q
    have q1:((sIx items.size 0 lo:Nat):Int)=0:=eq_of_beq q.1.1
    have q2:sIx items.size items.size hi-sIx items.size 0 lo=items.size:=eq_of_beq q.2
    exact hw ⟨by omega,by omega⟩
  show wpAny _ _ (if (((sIx items.size 0 lo:Nat):Int) == 0 && (1:Int) == 1 && (sIx items.size items.size hi-sIx items.size 0 lo) == items.size)=true then _ else _) _ _ s
  rw [if_neg hno,ZpL]
  first
    | exact wpAny_bind (m:=Builtin.Tuple.tupleExact _) (wpAny_newObj_type (wpAny_pure ⟨_,rfl,wpAny_pure h⟩) htake)
    | exact wpAny_bind (m:=Builtin.Tuple.tupleExact _) (wpAny_newObj_type (wpAny_bind (wpAny_pure (wpAny_pure ⟨_,rfl,wpAny_pure h⟩))) htake)
    | exact wpAny_bind (wpAny_bind (m:=Builtin.Tuple.tupleExact _) (wpAny_newObj_type (wpAny_pure (wpAny_pure ⟨_,rfl,wpAny_pure h⟩)) htake))
    | exact wpAny_bind (wpAny_bind (m:=Builtin.Tuple.tupleExact _) (wpAny_newObj_type (wpAny_pure ⟨_,rfl,wpAny_pure h⟩) htake))
end
end HT
namespace L2
open PySem PySem.Spec PyProof.Rows
abbrev TO:=St→Hp→(Option Int→Hp→Prop)→Prop
def PO (X:Cx) (e:Option Expr) (t:TO):Prop:=
  ∀(pins:List (Addr×Obj)) (s:Shared) (σ:St) (H:Hp) (Q:Option Int→Hp→Prop),Inv X pins σ H s→t σ H Q→
    wpAny (model X.prog X.w) X.A (evalPart e X.env) (fun u s'=>∃o H',Inv X pins σ H' s'∧IsPart u o∧Q o H') X.xe s
def Zq6:TO:=fun _ H Q=>Q none H
def ZuI (t:TE):TO:=fun σ H Q=>t σ H fun x H1=>∃i,x=.int i∧Q (some i) H1
section
variable {X:Cx} {e:Expr} {te:TE} {lo hi:Option Expr} {tl th:TO} {pos p2:Pos}
theorem Zrn:PO X none Zq6:=by
  intro pins s σ H Q I h
  rw [evalPart_none]
  exact wpAny_pure ⟨none,H,I,.none,h⟩
theorem Zrm (h:PE X e te):PO X (some e) (ZuI te):=by
  intro pins s σ H Q I hw
  rw [evalPart_some]
  refine thn (h pins s σ H _ I hw) fun u s1 ⟨x,H1,I1,r1,q1⟩=>?_
  obtain ⟨i,rfl,q⟩:=q1
  obtain ⟨t,rfl⟩:=r1
  exact ⟨some i,H1,I1,.int i t,q⟩
def SlR (X:Cx) (r:V→Option Int→Option Int→Hp→VK→Prop):Prop:=
  ∀(pins:List (Addr×Obj)) (s:Shared) (σ:St) (H:Hp) (x:V) (v vl vu:Value) (lo hi:Option Int) (sl:Addr) (Q:VK),Inv X pins σ H s→RelV x v→s.heap.IsSliceOf sl vl vu .none→IsPart vl lo→IsPart vu hi→r x lo hi H Q→
    ∃T id,typeLookup (.type T) "__getitem__"=pure (some (.builtin id))∧s.TypeIs v T∧wpAny (model X.prog X.w) X.A (getItem v (.ref sl)) (EP X pins σ Q) X.xe s
theorem SlR.or {r r':V→Option Int→Option Int→Hp→VK→Prop} (h:SlR X r) (h':SlR X r'):SlR X (fun x lo hi H Q=>r x lo hi H Q∨r' x lo hi H Q):=by
  intro pins s σ H x v vl vu lo hi sl Q I rx hs pl pu q
  rcases q with q | q
  · exact h pins s σ H x v vl vu lo hi sl Q I rx hs pl pu q
  · exact h' pins s σ H x v vl vu lo hi sl Q I rx hs pl pu q
def tSl (r:V→Option Int→Option Int→Hp→VK→Prop) (te:TE) (tl th:TO):TE:=fun σ H Q=>te σ H fun x H1=>tl σ H1 fun l H2=>th σ H2 fun u H3=>r x l u H3 Q
theorem ZpM {r:V→Option Int→Option Int→Hp→VK→Prop} (hr:SlR X r) (he:PE X e te) (hl:PO X lo tl) (hu:PO X hi th):PE X (.Subscript e (.Slice lo hi none p2) pos) (tSl r te tl th):=by
  intro pins s σ H Q I h
  refine Subscript_ (thn (he pins s σ H _ I h) fun v s1 ⟨x,H1,I1,r1,q1⟩=>?_)
  refine wpAny_Slice (thn (hl pins s1 σ H1 _ I1 q1) fun vl s2 ⟨l,H2,I2,pl,q2⟩=>thn (hu pins s2 σ H2 _ I2 q2) fun vu s3 ⟨u,H3,I3,pu,q3⟩=>?_)
  rw [evalPart_none]
  refine wpAny_pure ?_
  have I4:Inv X pins σ H3 { s3 with heap:=s3.heap.push { cls:=.type "slice",data:=.fields #[vl,vu,.none] } }:=I3.kept (t':=s3.toks) fun b ob q=>Heap.get?_push_of_some _ q
  obtain ⟨T,id,hT,ht,hg⟩:=hr pins { s3 with heap:=s3.heap.push { cls:=.type "slice",data:=.fields #[vl,vu,.none] } } σ H3 x v vl vu l u s3.heap.objs.size Q I4 r1 (Heap.IsSliceOf.new ..) pl pu q3
  show wpAny (model X.prog X.w) X.A (subscriptTail e (.Slice lo hi none p2) v (.ref s3.heap.objs.size)) (EP X pins σ Q) X.xe { s3 with heap:=s3.heap.push { cls:=.type "slice",data:=.fields #[vl,vu,.none] } }
  exact tail_any (ops:=[.ref s3.heap.objs.size,v]) ht hT hg (by with_unfolding_all rfl)
def Zlq (xs:List V) (lo hi:Option Int):List V:=(xs.drop (HT.sIx xs.length 0 lo)).take (HT.sIx xs.length xs.length hi-HT.sIx xs.length 0 lo)
theorem Zgn (xs:List V) (lo hi:Option Int):(Zlq xs lo hi).length≤xs.length:=by
  unfold Zlq
  rw [List.length_take,List.length_drop]
  omega
def Zyo (K:PySem.W.Frag):V→Option Int→Option Int→Hp→VK→Prop:=fun x lo hi H Q=>∃a xs,x=.ref a∧SqT K H a xs∧
  ¬(HT.sIx xs.length 0 lo=0∧HT.sIx xs.length xs.length hi=xs.length)∧∀p,H p=none→Q (.ref p) (upd H p (.tup (Zlq xs lo hi)))
theorem Zs3:SlR X (Zyo X.K):=by
  intro pins s σ H x v vl vu lo hi sl Q I rx hs pl pu h
  obtain ⟨a,xs,rfl,hx,hw,q⟩:=h
  cases rx
  obtain ⟨its,r,ht,hz⟩:=I.tuple hx
  have hlen:its.toArray.size=xs.length:=by rw [List.size_toArray]; exact r.length.symm
  refine ⟨"tuple",_,PyProof.Rows.slot_tuple_getitem.lookup,ht.typeIs,?_⟩
  refine HT.getItem_tuple_cut ht hs pl pu (by rw [hlen]; exact hw) ?_ (by rw [hlen]; exact hz)
  rw [hlen]
  refine ⟨.ref s.heap.objs.size,_,I.laid (t':=s.toks) (o:=.tup (Zlq xs lo hi)) (fun b ob q=>Heap.get?_push_of_some _ q) (Nat.le_refl _) ?_,rfl,q _ (I.hok.fresh (Nat.le_refl _))⟩
  exact ⟨Nat.le_trans (Zgn xs lo hi) hz,_,(r.drop (HT.sIx xs.length 0 lo)).take (HT.sIx xs.length xs.length hi-HT.sIx xs.length 0 lo),IsTup.new _ _⟩
def Zu0 (K:PySem.W.Frag):R2:=fun x y H Q=>∃a b xs ys,x=.ref a∧y=.ref b∧SqT K H a xs∧SqT K H b ys∧xs≠[]∧xs.length+ys.length≤sizeLine∧
  (ys=[]→Q (.ref a) H)∧(ys≠[]→∀p,H p=none→Q (.ref p) (upd H p (.tup (xs++ys))))
theorem Vals.nil_iff {xs:List V} {us:List Value} (r:Vals xs us):us=[]↔xs=[]:=by
  cases r with
  | nil=>simp
  | cons _ _=>simp
theorem op_catT:OpR X (binaryOp .Add) (Zu0 X.K):=by
  intro pins s σ H x y v u Q I rx ry h
  obtain ⟨a,b,xs,ys,rfl,rfl,ha,hb,hx,hz,q1,q2⟩:=h
  cases rx
  cases ry
  obtain ⟨its,r1,p1,_⟩:=I.tuple ha
  obtain ⟨its2,r2,p2,_⟩:=I.tuple hb
  refine HT.cat_tup p1 p2 (fun z=>hx (r1.nil_iff.mp z)) (fun z=>⟨.ref a,H,I,rfl,q1 (r2.nil_iff.mp z)⟩) (fun z=>?_) (by rw [←r1.length,←r2.length]; exact hz)
  refine ⟨.ref s.heap.objs.size,_,I.laid (t':=s.toks) (o:=.tup (xs++ys)) (fun b ob q=>Heap.get?_push_of_some _ q) (Nat.le_refl _) ?_,rfl,q2 (fun w=>z (r2.nil_iff.mpr w)) _ (I.hok.fresh (Nat.le_refl _))⟩
  exact ⟨by rw [List.length_append]; exact hz,_,r1.append r2,IsTup.new _ _⟩
end
end L2
namespace L2
open PySem PySem.Spec PyProof.Rows
def ixN (n:Nat) (i:Int):Option Nat:=if 0≤i then (if i<n then some i.toNat else none) else if -(n:Int)≤i then some (i+n).toNat else none
def atI {α:Type} (xs:List α) (i:Int):Option α:=(ixN xs.length i).bind fun j=>xs[j]?
theorem ZrI {n:Nat} {i:Int} {j:Nat} (h:ixN n i=some j):seqIndex? i n=some j∧j<n∧-(n:Int)≤i∧i<n:=by
  unfold ixN at h
  by_cases h0:0≤i
  · rw [if_pos h0] at h
    by_cases h1:i<n
    · rw [if_pos h1] at h
      have e:i.toNat=j:=Option.some.inj h
      exact ⟨by rw [seqIndex_of h0 h1,e],by omega,by omega,h1⟩
    · rw [if_neg h1] at h; cases h
  · rw [if_neg h0] at h
    by_cases h1 : -(n:Int)≤i
    · rw [if_pos h1] at h
      have e:(i+n).toNat=j:=Option.some.inj h
      exact ⟨by rw [seqIndex_neg (by omega) h1,e],by omega,h1,by omega⟩
    · rw [if_neg h1] at h; cases h
theorem Zjt {α:Type} {xs:List α} {i:Int} {v:α} (h:atI xs i=some v):∃j,seqIndex? i xs.length=some j∧xs[j]?=some v∧j<xs.length∧-(xs.length:Int)≤i∧i<xs.length:=by
  unfold atI at h
  cases e:ixN xs.length i with
  | none=>rw [e] at h; cases h
  | some j=>
    rw [e] at h
    obtain ⟨h1,h2,h3,h4⟩:=ZrI e
    exact ⟨j,h1,h,h2,h3,h4⟩
theorem Zm3 {α:Type} {xs:List α} {j:Nat} {v:α} (h:xs[j]?=some v):atI xs (j:Int)=some v:=by
  have hj:j<xs.length:=(List.getElem?_eq_some_iff.mp h).1
  have e:ixN xs.length (j:Int)=some j:=by
    unfold ixN
    rw [if_pos (by omega),if_pos (by omega)]; simp
  unfold atI; rw [e]; exact h
def Zm4 (b:Expr):Prop:=∀o i,subscripted b false o i=operate [o,i] (getItem o i)
def IxR (X:Cx) (r:R2):Prop:=
  ∀(value slice:Expr) (pins:List (Addr×Obj)) (s:Shared) (σ:St) (H:Hp) (x y:V) (v u:Value) (Q:VK),Inv X pins σ H s→RelV x v→RelV y u→r x y H Q→
    subscripted slice false v u=operate [v,u] (getItem v u)→wpAny (model X.prog X.w) X.A (subscriptTail value slice v u) (EP X pins σ Q) X.xe s
def MtR (X:Cx) (id:String) (r:V→List V→Hp→VK→Prop):Prop:=
  ∀(pins:List (Addr×Obj)) (s:Shared) (σ:St) (H:Hp) (x:V) (xs:List V) (v:Value) (us:List Value) (Q:VK),Inv X pins σ H s→RelV x v→Vals xs us→r x xs H Q→
    wpAny (model X.prog X.w) X.A (call (.builtin id) (v::us)) (EP X pins σ Q) X.xe s
section
variable {X:Cx} {a b:Expr} {ta tb:TE} {pos:Pos}
theorem IxR.or {r r':R2} (h:IxR X r) (h':IxR X r'):IxR X (fun x y H Q=>r x y H Q∨r' x y H Q):=by
  intro value slice pins s σ H x y v u Q I rx ry q hs
  rcases q with q | q
  · exact h value slice pins s σ H x y v u Q I rx ry q hs
  · exact h' value slice pins s σ H x y v u Q I rx ry q hs
theorem Zu6 {r:R2} (hr:IxR X r) (ha:PE X a ta) (hb:PE X b tb) (hs:Zm4 b):PE X (.Subscript a b pos) (tOp r ta tb):=by
  intro pins s σ H Q I h
  exact Subscript_ (ZtU ha hb I h fun v u s2 x y H2 I2 rx ry q=>hr a b pins s2 σ H2 x y v u Q I2 rx ry q (hs _ _))
def ZuZ (K:PySem.W.Frag):R2:=fun x y H Q=>∃p xs i v,x=.ref p∧y=.int i∧SqL K H p xs∧atI xs i=some v∧Q v H
def ZuX (K:PySem.W.Frag):R2:=fun x y H Q=>∃p xs i v,x=.ref p∧y=.int i∧SqT K H p xs∧atI xs i=some v∧Q v H
def ZuY:R2:=fun x y H Q=>∃z i c,x=.str z∧y=.int i∧z.length≤sizeLine∧atI z.cps.toList i=some c∧Q (.str ⟨#[c]⟩) H
theorem ix_list:IxR X (ZuZ X.K):=by
  intro value slice pins s σ H x y v u Q I rx ry h hs
  obtain ⟨p,xs,i,z,rfl,rfl,hq,he,q⟩:=h
  cases rx
  obtain ⟨t,rfl⟩:=ry
  obtain ⟨its,r,pl,hz⟩:=I.list hq
  obtain ⟨j,h1,h2,h3,h4,h5⟩:=Zjt he
  obtain ⟨w,ew,rw'⟩:=r.get h2
  have hl:=r.length
  have hn:=Zf2
  have fin:EP X pins σ Q w s:=⟨z,H,I,rw',q⟩
  by_cases h0:0≤i
  · have hj:i.toNat=j:=by
      rw [seqIndex_of h0 h5] at h1
      exact Option.some.inj h1
    exact item_listR pl.isList h0 (by omega) (by rw [hj]; simpa using ew) fin hs
  · have hj:(i+(its.toArray.size:Int)).toNat=j:=by
      rw [seqIndex_neg (by omega) h4] at h1
      rw [List.size_toArray,←hl]
      exact Option.some.inj h1
    exact subscriptTail_builtinR (x:=w) pl.isList.typeIs slot_list_getitem.lookup
      (wpAny_getItem_list_neg (Q:=fun r s'=>r=w∧EP X pins σ Q r s') pl.isList (by omega) (by rw [List.size_toArray]<;>omega) (by omega) (by rw [hj]; simpa using ew) ⟨rfl,fin⟩) hs
theorem ix_tup:IxR X (ZuX X.K):=by
  intro value slice pins s σ H x y v u Q I rx ry h hs
  obtain ⟨p,xs,i,z,rfl,rfl,hq,he,q⟩:=h
  cases rx
  obtain ⟨t,rfl⟩:=ry
  obtain ⟨its,r,pl,hz⟩:=I.tuple hq
  obtain ⟨j,h1,h2,h3,h4,h5⟩:=Zjt he
  obtain ⟨w,ew,rw'⟩:=r.get h2
  have hl:=r.length
  have hn:=Zf2
  have fin:EP X pins σ Q w s:=⟨z,H,I,rw',q⟩
  exact subscriptTail_builtinR (x:=w) pl.typeIs slot_tuple_getitem.lookup
    (getItem_tuple (j:=j) (Q:=fun r s'=>r=w∧EP X pins σ Q r s') pl (by omega) (by omega) (by rw [List.size_toArray,←hl]; exact h1) (by simpa using ew) ⟨rfl,fin⟩) hs
theorem ZtL:IxR X ZuY:=by
  intro value slice pins s σ H x y v u Q I rx ry h hs
  obtain ⟨z,i,c,rfl,rfl,hz,he,q⟩:=h
  obtain ⟨t,rfl⟩:=rx
  obtain ⟨t',rfl⟩:=ry
  obtain ⟨j,h1,h2,h3,h4,h5⟩:=Zjt he
  have hl:z.cps.toList.length=z.length:=by simp [Str.length]
  rw [hl] at h1 h4 h5
  have hn:=Zf2
  exact tail_any (typeIs_str s z t) slot_str_getitem.lookup (getItem_str (c:=c) (by
    have e1:decide (i < -(2 ^ 63:Int))=false:=decide_eq_false (by omega)
    have e2:decide (i≥2 ^ 63)=false:=decide_eq_false (by omega)
    rw [e1,e2,Bool.or_false]) (by rw [h1]; simpa using h2) ⟨.str ⟨#[c]⟩,H,I.tok _,⟨_,rfl⟩,q⟩) hs
def rIx (K:PySem.W.Frag):R2:=fun x y H Q=>ZuZ K x y H Q∨ZuX K x y H Q∨ZuY x y H Q
theorem ZtM:IxR X (rIx X.K):=ix_list.or (ix_tup.or ZtL)
theorem ZiF (lo hi:Option Int) (n:Nat):(sliceBounds lo hi none n).1=((HT.sIx n 0 lo:Nat):Int)∧(sliceBounds lo hi none n).2.1=((HT.sIx n n hi:Nat):Int)∧(sliceBounds lo hi none n).2.2=1:=by
  refine ⟨?_,?_,rfl⟩
  · cases lo with
    | none=>simp [sliceBounds,HT.sIx]
    | some i=>
      simp only [sliceBounds,HT.sIx,Option.getD_none,show (1:Int) > 0 by decide,if_true]
      by_cases h:i<0
      · simp only [h,if_true]<;>omega
      · simp only [h,if_false]<;>omega
  · cases hi with
    | none=>simp [sliceBounds,HT.sIx]
    | some i=>
      simp only [sliceBounds,HT.sIx,Option.getD_none,show (1:Int) > 0 by decide,if_true]
      by_cases h:i<0
      · simp only [h,if_true]<;>omega
      · simp only [h,if_false]<;>omega
theorem ZhS (its:List Value) (lo hi:Option Int):slicePick its.toArray lo hi none=((its.drop (HT.sIx its.length 0 lo)).take (HT.sIx its.length its.length hi-HT.sIx its.length 0 lo)).toArray:=by
  obtain ⟨h1,h2,h3⟩:=ZiF lo hi its.toArray.size
  unfold slicePick
  rw [h1,h2,h3]
  simp only [sliceRange_one,pick_run,List.size_toArray]<;>rfl
def ZuV (K:PySem.W.Frag):V→Option Int→Option Int→Hp→VK→Prop:=fun x lo hi H Q=>∃a xs,x=.ref a∧SqL K H a xs∧∀p,H p=none→Q (.ref p) (upd H p (.lst (Zlq xs lo hi)))
theorem sl_list:SlR X (ZuV X.K):=by
  intro pins s σ H x v vl vu lo hi sl Q I rx hs pl pu h
  obtain ⟨a,xs,rfl,hx,q⟩:=h
  cases rx
  obtain ⟨its,r,ht,hz⟩:=I.list hx
  have hlen:=r.length
  refine ⟨"list",_,slot_list_getitem.lookup,ht.isList.typeIs,?_⟩
  refine wpAny_getItem_list_slice ht.isList hs pl pu .none (by simp) ?_ (by rw [List.size_toArray]<;>omega)
  rw [ZhS,←hlen]
  refine ⟨.ref s.heap.objs.size,_,I.laid (t':=s.toks) (o:=.lst (Zlq xs lo hi)) (fun b ob q=>Heap.get?_push_of_some _ q) (Nat.le_refl _) ?_,rfl,q _ (I.hok.fresh (Nat.le_refl _))⟩
  exact ⟨Nat.le_trans (Zgn xs lo hi) hz,_,0,(r.drop (HT.sIx xs.length 0 lo)).take (HT.sIx xs.length xs.length hi-HT.sIx xs.length 0 lo),Heap.get?_push_size _ rfl⟩
def Zcy:V→Bool
  | .non=>true
  | .bl _=>true
  | .int _=>true
  | .str _=>true
  | _=>false
def eqV:V→V→Bool
  | .non,.non=>true
  | .bl a,.bl b=>a == b
  | .bl a,.int b=>(if a then 1 else 0) == b
  | .int a,.bl b=>a == (if b then 1 else 0)
  | .int a,.int b=>a == b
  | .str a,.str b=>a == b
  | _,_=>false
theorem ZtP {A:Around} {s:Shared} {y x:V} {u v:Value} (ry:RelV y u) (rx:RelV x v) (fy:Zcy y=true) (fx:Zcy x=true):SeqAt.EqAt A s u v (eqV y x):=by
  cases y with
  | non=>
    cases ry
    cases x with
    | non=>cases rx; exact SeqAt.EqAt.same _
    | bl b=>cases rx; exact SeqAt.EqAt.none_bool b
    | int b=>obtain ⟨t,rfl⟩:=rx; exact SeqAt.EqAt.none_int b t
    | str b=>obtain ⟨t,rfl⟩:=rx; exact SeqAt.EqAt.none_str b t
    | _=>exact absurd (show false=true from fx) Bool.false_ne_true
  | bl a=>
    cases ry
    cases x with
    | non=>cases rx; exact SeqAt.EqAt.bool_none a
    | bl b=>cases rx; exact SeqAt.EqAt.bool_bool a b
    | int b=>obtain ⟨t,rfl⟩:=rx; exact SeqAt.EqAt.bool_int a b t
    | str b=>obtain ⟨t,rfl⟩:=rx; exact SeqAt.EqAt.bool_str a b t
    | _=>exact absurd (show false=true from fx) Bool.false_ne_true
  | int a=>
    obtain ⟨t',rfl⟩:=ry
    cases x with
    | non=>cases rx; exact SeqAt.EqAt.int_none a t'
    | bl b=>cases rx; exact SeqAt.EqAt.int_bool a t' b
    | int b=>obtain ⟨t,rfl⟩:=rx; exact SeqAt.EqAt.int_int a t' b t
    | str b=>obtain ⟨t,rfl⟩:=rx; exact SeqAt.EqAt.int_str a t' b t
    | _=>exact absurd (show false=true from fx) Bool.false_ne_true
  | str a=>
    obtain ⟨t',rfl⟩:=ry
    cases x with
    | non=>cases rx; exact SeqAt.EqAt.str_none a t'
    | bl b=>cases rx; exact SeqAt.EqAt.str_bool a t' b
    | int b=>obtain ⟨t,rfl⟩:=rx; exact SeqAt.EqAt.str_int a t' b t
    | str b=>obtain ⟨t,rfl⟩:=rx; exact SeqAt.EqAt.str_str a t' b t
    | _=>exact absurd (show false=true from fx) Bool.false_ne_true
  | _=>exact absurd (show false=true from fy) Bool.false_ne_true
def eqU (x:V) (u:Value):Bool:=match u with
  | .none=>eqV .non x
  | .bool b=>eqV (.bl b) x
  | .int i _=>eqV (.int i) x
  | .str z _=>eqV (.str z) x
  | _=>false
theorem Zqw {x y:V} {u:Value} (r:RelV y u) (f:Zcy y=true):eqU x u=eqV y x:=by
  cases y with
  | non=>cases r; rfl
  | bl b=>cases r; rfl
  | int i=>obtain ⟨t,rfl⟩:=r; rfl
  | str z=>obtain ⟨t,rfl⟩:=r; rfl
  | _=>exact absurd (show false=true from f) Bool.false_ne_true
theorem ZfN {x:V}:∀{xs:List V} {us:List Value},Vals xs us→xs.all Zcy=true→us.any (eqU x)=xs.any fun y=>eqV y x
  | _,_,.nil,_=>rfl
  | y::xs,u::us,.cons r t,f=>by
    rw [List.all_cons,Bool.and_eq_true] at f
    rw [List.any_cons,List.any_cons,Zqw r f.1,ZfN t f.2]
theorem ZdY {A:Around} {s:Shared} {x:V} {v:Value} (rx:RelV x v) (fx:Zcy x=true):∀{xs:List V} {us:List Value},Vals xs us→xs.all Zcy=true→∀u∈us,SeqAt.EqAt A s u v (eqU x u)
  | _,_,.nil,_=>fun u hu=>by cases hu
  | y::xs,u::us,.cons r t,f=>fun u' hu=>by
    rw [List.all_cons,Bool.and_eq_true] at f
    rcases List.mem_cons.mp hu with rfl | hu
    · rw [Zqw r f.1]; exact ZtP r rx f.1 fx
    · exact ZdY rx fx t f.2 u' hu
def inV (x:V) (xs:List V):Bool:=xs.any fun y=>eqV y x
def rIn (K:PySem.W.Frag) (neg:Bool):R2:=fun x y H Q=>∃p xs,y=.ref p∧(SqL K H p xs∨SqT K H p xs)∧Zcy x=true∧xs.all Zcy=true∧Q (.bl (if neg then !inV x xs else inV x xs)) H
theorem Znn:OpR X (compareOp .In) (rIn X.K false):=by
  intro pins s σ H x y v u Q I rx ry h
  obtain ⟨p,xs,rfl,hq,fx,fs,q⟩:=h
  cases ry
  rcases hq with hq | hq
  · obtain ⟨its,r,pl,hz⟩:=I.list hq
    refine SeqAt.in_listAt (eqU x) pl.isList (fun w hw=>ZdY rx fx r fs w (by simpa using hw)) ⟨.bl _,H,I,rfl,?_⟩
    rw [show its.toArray.any (eqU x)=its.any (eqU x) by simp,ZfN r fs]
    exact q
  · obtain ⟨its,r,pl,hz⟩:=I.tuple hq
    refine SeqAt.in_tupleAt (eqU x) pl (fun w hw=>ZdY rx fx r fs w (by simpa using hw)) ⟨.bl _,H,I,rfl,?_⟩
    rw [show its.toArray.any (eqU x)=its.any (eqU x) by simp,ZfN r fs]
    exact q
theorem ZiU:OpR X (compareOp .NotIn) (rIn X.K true):=by
  intro pins s σ H x y v u Q I rx ry h
  obtain ⟨p,xs,rfl,hq,fx,fs,q⟩:=h
  cases ry
  rcases hq with hq | hq
  · obtain ⟨its,r,pl,hz⟩:=I.list hq
    refine SeqAt.notIn_listAt (eqU x) pl.isList (fun w hw=>ZdY rx fx r fs w (by simpa using hw)) ⟨.bl _,H,I,rfl,?_⟩
    rw [show its.toArray.any (eqU x)=its.any (eqU x) by simp,ZfN r fs]
    exact q
  · obtain ⟨its,r,pl,hz⟩:=I.tuple hq
    refine SeqAt.notIn_tupleAt (eqU x) pl (fun w hw=>ZdY rx fx r fs w (by simpa using hw)) ⟨.bl _,H,I,rfl,?_⟩
    rw [show its.toArray.any (eqU x)=its.any (eqU x) by simp,ZfN r fs]
    exact q
theorem Zjk:CallR X (.builtin "len") (fun xs H Q=>∃p ys,xs=[.ref p]∧(SqL X.K H p ys∨SqT X.K H p ys)∧Q (.int ys.length) H):=by
  intro pins s σ H xs us Q I r h
  obtain ⟨p,ys,rfl,hq,q⟩:=h
  obtain ⟨u,rfl,rx⟩:=Zgg r
  cases rx
  have hn:=Zf2
  rcases hq with hq | hq
  · obtain ⟨its,r',pl,hz⟩:=I.list hq
    have hlen:=r'.length
    exact Calls.call_len_list pl.isList (by simp only [List.size_toArray]<;>omega) ⟨.int ys.length,H,I.tok _,⟨s.toks+1,by rw [List.size_toArray,hlen]⟩,q⟩
  · obtain ⟨its,r',pl,hz⟩:=I.tuple hq
    have hlen:=r'.length
    exact len_tuple pl (by simp only [List.size_toArray]<;>omega) ⟨.int ys.length,H,I.tok _,⟨s.toks+1,by rw [List.size_toArray,hlen]⟩,q⟩
theorem call_len_str:CallR X (.builtin "len") (fun xs H Q=>∃z,xs=[.str z]∧z.length≤sizeLine∧Q (.int z.length) H):=by
  intro pins s σ H xs us Q I r h
  obtain ⟨z,rfl,hz,q⟩:=h
  obtain ⟨u,rfl,t,rfl⟩:=Zgg r
  have hn:=Zf2
  exact len_str (by omega) ⟨.int z.length,H,I.tok _,⟨_,rfl⟩,q⟩
theorem CallR.or {f:Value} {r r':List V→Hp→VK→Prop} (h:CallR X f r) (h':CallR X f r'):CallR X f (fun xs H Q=>r xs H Q∨r' xs H Q):=by
  intro pins s σ H xs us Q I rs q
  rcases q with q | q
  · exact h pins s σ H xs us Q I rs q
  · exact h' pins s σ H xs us Q I rs q
theorem Zjj:CallR X (.type "list") (fun xs H Q=>∃p ys,xs=[.ref p]∧(SqL X.K H p ys∨SqT X.K H p ys)∧∀l,H l=none→Q (.ref l) (upd H l (.lst ys))):=by
  intro pins s σ H xs us Q I r h
  obtain ⟨p,ys,rfl,hq,q⟩:=h
  obtain ⟨u,rfl,rx⟩:=Zgg r
  cases rx
  have fin:∀(its:List Value),Vals ys its→ys.length≤sizeLine→∀(h':Heap) (c':Nat),(∀b o',s.heap.get? b=some o'→h'.get? b=some o')→
      h'.get? s.heap.objs.size=some { cls:=.type "list",dict:=none,data:=.seq its.toArray c',slots:=#[] }→EP X pins σ Q (.ref s.heap.objs.size) { s with heap:=h' }:=fun its r' hz h' c' kp e=>
    ⟨.ref s.heap.objs.size,_,I.laid (t':=s.toks) kp (Nat.le_refl _) (show ObjOk X.prog X.w _ h' _ (.lst ys) from ⟨hz,its,c',r',e⟩),rfl,q _ (I.hok.fresh (Nat.le_refl _))⟩
  rcases hq with hq | hq
  · obtain ⟨its,r',pl,hz⟩:=I.list hq
    have hlen:=r'.length
    obtain ⟨o,ho,hc,n,hd⟩:=pl.isList
    exact call_list_seq p (.inl rfl) ho hc hd (fun h' c' kp e=>fin its r' hz h' c' kp e) (by simp only [List.size_toArray]<;>omega)
  · obtain ⟨its,r',pl,hz⟩:=I.tuple hq
    have hlen:=r'.length
    obtain ⟨o,ho,hc,n,hd⟩:=pl
    exact call_list_seq p (.inr rfl) ho hc hd (fun h' c' kp e=>fin its r' hz h' c' kp e) (by simp only [List.size_toArray]<;>omega)
theorem ZhY:CallR X (.type "tuple") (fun xs H Q=>∃p ys,xs=[.ref p]∧((SqL X.K H p ys∧∀l,H l=none→Q (.ref l) (upd H l (.tup ys)))∨(SqT X.K H p ys∧Q (.ref p) H))):=by
  intro pins s σ H xs us Q I r h
  obtain ⟨p,ys,rfl,h⟩:=h
  obtain ⟨u,rfl,rx⟩:=Zgg r
  cases rx
  rcases h with ⟨hq,q⟩ | ⟨hq,q⟩
  · obtain ⟨its,r',pl,hz⟩:=I.list hq
    have hlen:=r'.length
    refine call_tuple_list pl.isList (fun h' kp=>?_) (by simp only [List.size_toArray]<;>omega)
    have I1:Inv X pins σ H { s with heap:=h' }:=I.kept (t':=s.toks) kp
    have I2:Inv X pins σ (upd H h'.objs.size (.tup ys)) { s with heap:=h'.push { cls:=.type "tuple",data:=.seq its.toArray } }:=
      I1.laid (t':=s.toks) (fun b o e=>Heap.get?_push_of_some _ e) (Nat.le_refl _) (show ObjOk X.prog X.w _ _ _ (.tup ys) from ⟨hz,its,r',IsTup.new _ _⟩)
    exact ⟨.ref h'.objs.size,_,I2,rfl,q _ (I1.hok.fresh (Nat.le_refl _))⟩
  · obtain ⟨its,r',pl,hz⟩:=I.tuple hq
    exact call_tuple_same pl ⟨.ref p,H,I,rfl,q⟩
def tyV (K:PySem.W.Frag) (T:String) (x:V) (H:Hp):Prop:=match x with
  | .str _=>T = "str"
  | .int _=>T = "int"
  | .ref p=>(T = "list"∧∃xs,SqL K H p xs)∨(T = "tuple"∧∃o,K.lookup p=some o∧o.cls=.type "tuple"∧o.dict=none)∨
      (T = "dict"∧((∃kvs,H p=some (.dK kvs))∨∃kvs,H p=some (.dT kvs)))∨(T = "set"∧∃S n,H p=some (.set S n))
  | _=>False
theorem ZsP {pins:List (Addr×Obj)} {σ:St} {H:Hp} {s:Shared} {T:String} {x:V} {v:Value} (I:Inv X pins σ H s) (r:RelV x v) (ty:tyV X.K T x H) :
    s.TypeIs v T∧∀a,v=.ref a→∃ob,s.heap.get? a=some ob∧ob.dict=none:=by
  cases x with
  | str z=>
    obtain ⟨t,rfl⟩:=r
    cases (show T = "str" from ty)
    exact ⟨typeIs_str s z t,fun _ e=>nomatch e⟩
  | int i=>
    obtain ⟨t,rfl⟩:=r
    cases (show T = "int" from ty)
    exact ⟨typeIs_int s i t,fun _ e=>nomatch e⟩
  | ref p=>
    cases r
    rcases ty with ⟨rfl,xs,hq⟩ | ⟨rfl,o,hk,hc,hd⟩ | ⟨rfl,hk⟩ | ⟨rfl,S,n,hk⟩
    · obtain ⟨its,_,pl,_⟩:=I.list hq
      refine ⟨pl.isList.typeIs,fun a e=>?_⟩
      cases e
      obtain ⟨o,n,e,c,hd,_⟩:=pl
      exact ⟨o,e,hd⟩
    · refine ⟨⟨o,I.kIn p o hk,hc⟩,fun a e=>?_⟩
      cases e
      exact ⟨o,I.kIn _ o hk,hd⟩
    · have z:∃o,s.heap.get? p=some o∧o.ExactDict:=by
        rcases hk with ⟨kvs,hk⟩ | ⟨kvs,hk⟩
        · obtain ⟨_,_,_,_,o,_,_,e,ex,_⟩:=I.hok p _ hk
          exact ⟨o,e,ex⟩
        · obtain ⟨_,_,_,_,o,_,_,e,ex,_⟩:=I.hok p _ hk
          exact ⟨o,e,ex⟩
      obtain ⟨o,e,ex⟩:=z
      refine ⟨⟨o,e,ex.1⟩,fun a e2=>?_⟩
      cases e2
      exact ⟨o,e,ex.2.1⟩
    · obtain ⟨o,_,_,_,e,ex,_⟩:=I.hok p _ hk
      refine ⟨⟨o,e,ex.1⟩,fun a e2=>?_⟩
      cases e2
      exact ⟨o,e,ex.2.1⟩
  | _=>exact False.elim ty
def tBM (K:PySem.W.Frag) (T:String) (r:V→List V→Hp→VK→Prop) (to:TE) (t:TA):TE:=fun σ H Q=>to σ H fun x H1=>tyV K T x H1∧t σ H1 fun xs H2=>r x xs H2 Q
variable {o e:Expr} {es:List Expr} {to:TE} {t:TA} {name:Str} {apos cpos:Pos} {T id:String} {r:V→List V→Hp→VK→Prop}
theorem Zmy (pa:PlainAttrs T) (slot:Slot T name id) (hty:typeOf (.builtin id)=pure (.type "method_descriptor")) (hm:MtR X id r) (ho:PE X o to) (ha:PA X (e::es) t)
    (hbase:attributeBase o name X.env (eval o X.env)=eval o X.env:=by rfl)
    (hfew:((backTo cpos (starEach (e::es) X.env)).all (fun x=>!x.1) && (backToKw cpos (keywordEach [] X.env)).all (fun x=>x.1.isSome)
      && decide ((e::es).length+([]:List Keyword).length+(if ([]:List Keyword).isEmpty then 0 else 1)<30))=true:=by rfl)
    (hline:(apos.endLine == cpos.line)=true:=by rfl) (hs:starEach (e::es) X.env=(false,eval e X.env)::starEach es X.env:=by rfl) (hplain:(backTo cpos (starEach es X.env)).any (·.1)=false:=by rfl) :
    PE X (.Call (.Attribute o name apos) (e::es) [] cpos) (tBM X.K T r to t):=by
  intro pins s σ H Q I h
  refine wpAny_Call_method_late hbase hfew hline rfl (thn (ho pins s σ H _ I h) fun v s1 ⟨x,H1,I1,r1,ty,q1⟩=>?_)
  obtain ⟨h1,h2⟩:=ZsP I1 r1 ty
  refine ⟨T,id,pa,slot,hty,h1,h2,?_⟩
  have hA:=ha cpos pins s1 σ H1 _ I1 q1
  rw [hs] at hA ⊢
  refine Calls.callWith_builtin (by show (false || (backTo cpos (starEach es X.env)).any (·.1))=false; rw [hplain]<;>rfl) (Calls.evalArgs_plain ?_)
  exact thn hA fun us s2 ⟨vs,H2,I2,r2,q2⟩=>hm pins s2 σ H2 x vs v us Q I2 r1 r2 q2
end
end L2
namespace L2
open PySem PySem.Spec PyProof.Rows
def MtM (X:Cx) (id:String) (r:V→List V→Hp→VK→Prop):Prop:=
  ∀(pins:List (Addr×Obj)) (s:Shared) (σ:St) (H:Hp) (x:V) (xs:List V) (v:Value) (us:List Value) (Q:VK),Inv X pins σ H s→RelV x v→Vals xs us→r x xs H Q→
    wpAny (model X.prog X.w) X.A (call (.builtin id) (v::us)) (EP X pins σ Q) X.xe s
theorem Vals.one:∀{x:V} {us:List Value},Vals [x] us→∃u,us=[u]∧RelV x u
  | _,_,.cons r .nil=>⟨_,rfl,r⟩
theorem Vals.rep {xs:List V} {us:List Value} (h:Vals xs us):∀k:Nat,Vals (List.replicate k xs).flatten (List.replicate k us).flatten
  | 0=>.nil
  | k+1=>by
    rw [List.replicate_succ,List.replicate_succ,List.flatten_cons,List.flatten_cons]
    exact Vals.append h (Vals.rep h k)
theorem Zeu (its:List Value):∀(k:Nat) (acc:List Value),
    List.foldl (fun x1 x2=>x1++x2) acc.toArray (List.replicate k its.toArray)=(acc++(List.replicate k its).flatten).toArray
  | 0,acc=>by simp
  | k+1,acc=>by
    have e:acc.toArray++its.toArray=(acc++its).toArray:=by simp
    have e2:(acc++its)++(List.replicate k its).flatten=acc++(List.replicate (k+1) its).flatten:=by
      rw [List.replicate_succ,List.flatten_cons,List.append_assoc]
    rw [←e2,←Zeu its k (acc++its),←e,List.replicate_succ,List.foldl_cons]
section
variable {X:Cx} {pins:List (Addr×Obj)} {σ:St} {H:Hp} {s:Shared} {l b:Addr} {xs ys zs:List V}
theorem Inv.lset {its its':List Value} {n:Nat} {f:Array Value→Array Value} {t':Nat} (I:Inv X pins σ H s) (hH:H l=some (.lst xs))
    (e:s.heap.get? l=some { cls:=.type "list",data:=.seq its.toArray n }) (hf:f its.toArray=its'.toArray) (hv:Vals ys its') (hz:ys.length≤sizeLine) :
    Inv X pins σ (upd H l (.lst ys)) { s with heap:=s.heap.update l (Obj.mapSeq f),toks:=t' }:=by
  have q:=PySem.IsL.update e f
  rw [hf] at q
  refine I.write (x:=l) (e:=l) (by rw [hH]; exact trivial) (.inl rfl) (fun b' u hb hu=>(Heap.get?_update_other s.heap (Obj.mapSeq f) (Ne.symm hb)).trans hu) ⟨_,q⟩ ?_
  exact ⟨hz,its',_,hv,q⟩
theorem Inv.lnew {its:List Value} {t':Nat} (I:Inv X pins σ H s) (hv:Vals ys its) (hz:ys.length≤sizeLine) :
    Inv X pins σ (upd H s.heap.objs.size (.lst ys)) { s with heap:=s.heap.push { cls:=.type "list",data:=.seq its.toArray },toks:=t' }:=
  I.laid (fun _ _ q=>Heap.get?_push_of_some _ q) (Nat.le_refl _) ⟨hz,its,0,hv,Heap.get?_push_size _ rfl⟩
theorem Inv.fresh (I:Inv X pins σ H s):H s.heap.objs.size=none:=I.hok.fresh (Nat.le_refl _)
theorem Inv.lstM (I:Inv X pins σ H s) (hH:H l=some (.lst xs)):xs.length≤sizeLine∧∃(its:List Value) (n:Nat),Vals xs its∧xs.length=its.length∧s.heap.get? l=some { cls:=.type "list",data:=.seq its.toArray n }:=by
  obtain ⟨z,its,n,r,e⟩:=I.hok l _ hH
  exact ⟨z,its,n,r,r.length,e⟩
theorem Zfc {n:Nat} (h:n≤sizeLine):Builtin.List.listTooLong n=false:=by
  unfold Builtin.List.listTooLong
  exact decide_eq_false (by omega)
end
section
variable {X:Cx}
def ZiL:V→List V→Hp→VK→Prop:=fun x vs H Q=>∃l xs y,x=.ref l∧vs=[y]∧H l=some (.lst xs)∧xs.length<sizeLine∧Q .non (upd H l (.lst (xs++[y])))
theorem Zen:MtM X "list.append" ZiL:=by
  intro pins s σ H x vs v us Q I rx rv h
  obtain ⟨l,xs,y,rfl,rfl,hH,hz,q⟩:=h
  cases rx
  obtain ⟨u,rfl,ru⟩:=rv.one
  obtain ⟨z,its,n,r,hl,e⟩:=I.lstM hH
  refine call_meets F.slot_list_append ⟨_,e,rfl⟩ F.entry_list_append (F.args_list_append_2 _ _) (PySem.list_append l its.toArray n u (by rw [List.size_toArray]; omega)) ⟨e,?_⟩
  refine ⟨.non,_,I.lset (its':=its++[u]) hH e (by simp) (r.append (.cons ru .nil)) ?_,rfl,q⟩
  rw [List.length_append,List.length_singleton]
  omega
def Zrh:V→List V→Hp→VK→Prop:=fun x vs H Q=>∃l b xs zs,x=.ref l∧vs=[.ref b]∧H l=some (.lst xs)∧H b=some (.lst zs)∧xs.length+zs.length≤sizeLine∧Q .non (upd H l (.lst (xs++zs)))
theorem Zug:MtM X "list.extend" Zrh:=by
  intro pins s σ H x vs v us Q I rx rv h
  obtain ⟨l,b,xs,zs,rfl,rfl,hH,hB,hz,q⟩:=h
  cases rx
  obtain ⟨u,rfl,ru⟩:=rv.one
  cases ru
  obtain ⟨z,its,n,r,hl,e⟩:=I.lstM hH
  obtain ⟨z2,its2,n2,r2,hl2,e2⟩:=I.lstM hB
  have hsz:its.toArray.size+its2.toArray.size≤sizeLine:=by rw [List.size_toArray,List.size_toArray]; omega
  have hlong:¬(!its.toArray.isEmpty && Builtin.List.listTooLong (its.toArray.size+its2.toArray.size))=true:=by
    rw [Zfc hsz,Bool.and_false]
    exact Bool.false_ne_true
  refine call_meets F.slot_list_extend ⟨_,e,rfl⟩ F.entry_list_extend (F.args_list_extend_2 _ _)
    (AutoSeq1.list_extend_list_list_0 l its.toArray n b its2.toArray n2 hlong (by rw [List.size_toArray]; omega) (by omega)) ⟨e,e2,?_⟩
  refine ⟨.non,_,I.lset (its':=its++its2) hH e (by simp) (r.append r2) ?_,rfl,q⟩
  rw [List.length_append]
  omega
def Zyq:R2:=fun x y H Q=>∃l b xs zs,x=.ref l∧y=.ref b∧H l=some (.lst xs)∧H b=some (.lst zs)∧xs.length+zs.length≤sizeLine∧∀p,H p=none→Q (.ref p) (upd H p (.lst (xs++zs)))
theorem Ztw:OpR X (binaryOp .Add) Zyq:=by
  intro pins s σ H x y v u Q I rx ry h
  obtain ⟨l,b,xs,zs,rfl,rfl,hH,hB,hz,q⟩:=h
  cases rx
  cases ry
  obtain ⟨z,its,n,r,hl,e⟩:=I.lstM hH
  obtain ⟨z2,its2,n2,r2,hl2,e2⟩:=I.lstM hB
  refine PySem.P.add_list e e2 ?_ (by rw [List.size_toArray,List.size_toArray]; omega)
  have ea:its.toArray++its2.toArray=(its++its2).toArray:=by simp
  rw [ea]
  exact ⟨.ref _,_,I.lnew (t':=s.toks) (r.append r2) (by rw [List.length_append]; omega),rfl,q _ I.fresh⟩
def Zyp:R2:=fun x y H Q=>∃l k xs,x=.ref l∧y=.int k∧H l=some (.lst xs)∧-(2 ^ 63)≤k∧k<2 ^ 63∧xs.length*k.toNat≤sizeLine∧
  ∀p,H p=none→Q (.ref p) (upd H p (.lst (List.replicate k.toNat xs).flatten))
theorem Zi9 {α:Type} (xs:List α) (k:Nat):(List.replicate k xs).flatten.length=k*xs.length:=by
  induction k with
  | zero=>simp
  | succ k ih=>rw [List.replicate_succ,List.flatten_cons,List.length_append,ih,Nat.succ_mul,Nat.add_comm]
theorem Ztr:OpR X (binaryOp .Mult) Zyp:=by
  intro pins s σ H x y v u Q I rx ry h
  obtain ⟨l,k,xs,rfl,rfl,hH,h1,h2,hz,q⟩:=h
  cases rx
  obtain ⟨t,rfl⟩:=ry
  obtain ⟨z,its,n,r,hl,e⟩:=I.lstM hH
  have hlen:its.toArray.size*k.toNat≤sizeLine:=by rw [List.size_toArray,←hl]; exact hz
  have hcap:¬its.toArray.size*k.toNat > (2 ^ 63-1)/8:=by
    have:(sizeLine:Nat)≤(2 ^ 63-1)/8:=by decide
    omega
  have hfit:¬(!Builtin.List.listFitsIndex k)=true:=by
    rw [fitsIndex_both h1 h2]
    exact Bool.false_ne_true
  have hlong:¬Builtin.List.listTooLong (its.toArray.size*k.toNat)=true:=by
    rw [Zfc hlen]
    exact Bool.false_ne_true
  have hnew:List.foldl (fun x1 x2=>x1++x2) #[] (List.replicate (if its.toArray.isEmpty=true then 0 else k.toNat) its.toArray)=(List.replicate k.toNat its).flatten.toArray:=by
    have f0:∀m:Nat,List.foldl (fun x1 x2=>x1++x2) #[] (List.replicate m its.toArray)=(List.replicate m its).flatten.toArray:=fun m=>by
      have:=Zeu its m []
      rw [List.nil_append] at this
      exact this
    rw [f0]
    cases its with
    | nil=>simp
    | cons a r'=>rw [if_neg (by simp)]
  refine wpAny_binaryOp_repeat_ref (T:="list") (U:="int") (by decide) ⟨_,e,rfl⟩ (fun s'=>typeIs_int s' k t) noFill_list_mul F.fills_int_mul F.slot_int_rmul repeat_list F.slot_int_index.lookup
    (call_meets F.slot_int_rmul (typeIs_int s k t) F.entry_int_rmul (F.args_int_rmul_2 _ _) (int___rmul___int_list k t l its.toArray n)
      ⟨e,rfl,⟨_,e,rfl⟩,call_meets F.slot_list_mul ⟨_,e,rfl⟩ F.entry_list_mul (F.args_list_mul_2 _ _) (AutoListH.list___mul___list_int_3 l its.toArray n k t hfit hcap hlong) ⟨e,?_⟩⟩)
  rw [hnew]
  exact ⟨.ref _,_,I.lnew (t':=s.toks) (r.rep k.toNat) (by rw [Zi9,Nat.mul_comm]; exact hz),rfl,q _ I.fresh⟩
end
section
variable {prog:Program} {w:World} {A:Around} {E:Value→Shared→Prop} {s:Shared}
theorem Zme {a c n:Nat} (hac:a≤c) (hc:c≤n):sliceBounds (some (a:Int)) (some (c:Int)) none n=((a:Int),(c:Int),1):=by
  simp only [sliceBounds,Option.getD_none]
  have h1:¬((a:Int)<0):=by omega
  have h2:¬((c:Int)<0):=by omega
  simp only [h1,h2,if_false,show (1:Int) > 0 by decide,if_true]
  congr 1
  · omega
  · congr 1; omega
set_option maxRecDepth 100000 in
theorem ZqV {l b sl:Addr} {items new:Array Value} {n n2:Nat} {vl vu:Value} {a c:Nat} {Q:Unit→Shared→Prop}
    (e:s.heap.get? l=some { cls:=.type "list",data:=.seq items n }) (e2:s.heap.get? b=some { cls:=.type "list",data:=.seq new n2 }) (hne:l≠b)
    (hs:s.heap.IsSliceOf sl vl vu .none) (pl:IsPart vl (some (a:Int))) (pu:IsPart vu (some (c:Int))) (hac:a≤c) (hc:c≤items.size)
    (hsz:items.size+new.size≤sizeLine) (h:Q () { s with heap:=s.heap.update l (Obj.mapSeq fun xs=>xs.extract 0 a++new++xs.extract c xs.size) }) :
    wpAny (model prog w) A (setItem (.ref l) (.ref sl) (.ref b)) Q E s:=by
  have hl:s.heap.IsList l items:=PySem.IsL.isList e
  have hb:s.heap.IsList b new:=PySem.IsL.isList e2
  obtain ⟨os,hos,hcs,hds⟩:=id hs
  have hTs:s.TypeIs (.ref sl) "slice":=⟨os,hos,hcs⟩
  have hstep:¬((rawPart none == rawInt 0)=true):=Bool.false_ne_true
  have hsame:Builtin.List.listSameRef (.ref l) (.ref b)=false:=by
    unfold Builtin.List.listSameRef
    exact beq_eq_false_iff_ne.mpr hne
  have hmax:(max (a:Int) (c:Int)).toNat=c:=by omega
  have hz':((fun xs:Array Value=>xs.extract 0 a++new++xs.extract c xs.size) items).size≤sizeLine+1:=by
    simp only [Array.size_append,Array.size_extract]
    omega
  unfold setItem
  try with_reducible refine wpAny_holding ?_
  first | refine wpAny_bind (wpAny_pure ?_) | skip
  refine wpAny_bind (wpAny_sequenceKey hl.typeIs (by decide) ?_)
  refine wpAny_bind (wpAny_callSpecial?_slot (name:=Str.ofString "__setitem__") hl.typeIs slot_list_setitem
    (wpAny_call_entry slot_list_setitem hl.typeIs entry_list_setitem ?_ (args_list_setitem _ _ _)))
  show wpAny _ _ (Builtin.List.listSubscript? (.ref sl) >>= _) _ _ s
  refine wpAny_bind ?_
  unfold Builtin.List.listSubscript?
  refine wpAny_bind (wpAny_specialOf hTs slice_no_index ?_)
  simp only [Option.isNone_none,if_true]
  refine wpAny_pure ?_
  show wpAny _ _ (typeOf (.ref sl) >>= _) _ _ s
  refine wpAny_bind (wpAny_typeOf hTs ?_)
  first
    | rw [if_neg (by decide)]
    | refine PySem.W.KFB.if_not (by decide) ?_
  rw [listSliceParts_eq]
  refine wpAny_bind (wpAny_bind (wpAny_field hos hds (x:=.none) rfl (wpAny_bind (wpAny_listPart .none ?_))))
  rw [if_neg hstep]
  refine wpAny_bind (wpAny_field hos hds (x:=vl) rfl (wpAny_bind (wpAny_listPart pl ?_)))
  refine wpAny_bind (wpAny_field hos hds (x:=vu) rfl (wpAny_bind (wpAny_listPart pu (wpAny_pure ?_))))
  first
    | simp only [hsame,Bool.false_eq_true,if_false]
    | refine PySem.W.KFB.if_not hsame ?_
    | (dsimp only
       rw [if_neg (by rw [hsame]; exact Bool.false_ne_true)])
  refine wpAny_bind (m:=Builtin.List.listAllItems (.ref b) "must assign iterable to extended slice") ?_
  unfold Builtin.List.listAllItems
  refine wpAny_bind (wpAny_typeOf hb.typeIs ?_)
  first
    | refine PySem.W.KFB.if_so (by decide) ?_
    | rw [if_pos (by decide)]
    | simp only [beq_self_eq_true,Bool.true_or,if_true]
  unfold Builtin.List.listItems
  refine wpAny_bind (wpAny_seqItems e2 rfl (wpAny_pure ?_))
  refine wpAny_bind (wpAny_bind (wpAny_seqItems e rfl (wpAny_pure ?_)))
  refine wpAny_bind (wpAny_of_eq ((sliceIndices_raw (some (a:Int)) (some (c:Int)) none items.size (by simp)).trans (congrArg (pure:Int×Int×Int→Sem (Int×Int×Int)) (Zme hac hc))) ?_)
  show wpAny _ _ (if ((1:Int) == 1)=true then _ else _) _ _ s
  rw [if_pos (by decide)]
  refine wpAny_bind (wpAny_rule ?_)
  first
    | simp only [Zfc hsz,Bool.false_eq_true,if_false]
    | refine PySem.W.KFB.if_not (Zfc hsz) ?_
  first | refine wpAny_bind (wpAny_pure ?_) | skip
  show wpAny _ _ (updateSeq l (fun xs=>xs.extract 0 ((a:Int)).toNat++new++xs.extract (max (a:Int) (c:Int)).toNat xs.size) >>= _) _ _ s
  rw [hmax,Int.toNat_natCast]
  refine wpAny_bind (wpAny_updateSeq (hz:=Nat.le_trans (Nat.le_add_right _ _) hsz) (_hz':=hz') e rfl ?_)
  refine wpAny_bind (wpAny_letGo ?_)
  first
    | exact wpAny_bind (wpAny_pure (wpAny_pure ⟨.none,rfl,wpAny_pure h⟩))
    | exact wpAny_pure ⟨.none,rfl,wpAny_pure h⟩
end
section
variable {X:Cx}
end
end L2
namespace Att
open PySem PySem.W PySem.Calls PyProof.Rows
theorem ZgA {P:Params} {h:Heap}:∀(ns:List Int) (vs:List Value),WellAll P h vs (ns.map WData.int)→IntsAre vs ns:=by
  intro ns
  induction ns with
  | nil=>
    intro vs w
    rw [List.map_nil] at w
    cases w
    exact .nil
  | cons n ns ih=>
    intro vs w
    rw [List.map_cons] at w
    cases w with
    | cons a b=>
      cases a
      exact .cons _ _ (ih _ b)
theorem Zng {l:OpenLaw} {n:Nat} (hn:l.most=some n) {P:Params} {h:Heap} {args:List WData} {vals:List Value}
    (hpre:l.row.toRowW.claim.pre args=true) (hwl:WellAll P h vals args) :
    ∃a vs ns,vals=[Value.ref a]∧args=[WData.list (ns.map WData.int)]∧h.get? a=some { cls:=.type "list",data:=.seq vs.toArray }∧IntsAre vs ns∧ns.length≤n:=by
  have hsh:WShape.hasAll [] args [.list .int]=true:=(pre_splitW hpre).1
  have hc:l.pre.holds [] { args:=args }=true:=(pre_splitW hpre).2
  obtain ⟨d,r,rfl,h1,h2⟩:=hasAllW_cons hsh
  obtain rfl:=hasAllW_nil h2
  obtain ⟨xs,rfl,h3⟩:=hasW_list h1
  obtain ⟨ns,rfl⟩:=items_int h3
  have hlen:ns.length≤n:=by
    unfold OpenLaw.pre at hc
    have h4:(WTm.not (.lt (.lit (.int (n:Int))) (.len (.arg 0)))).holds [] { args:=[.list (ns.map .int)] }=true:=by
      have h4:=(holds_andW hc).1
      rw [hn] at h4
      exact h4
    have h5:=condW_of h4 (w_not (w_lt w_lit (w_len_list (w_arg rfl))))
    rw [List.length_map] at h5
    refine Nat.le_of_not_lt fun q=>?_
    have q':(n:Int)<((ns.length:Nat):Int):=by omega
    first
      | (rw [decide_eq_true q'] at h5; exact absurd h5 (by decide))
      | (simp at h5; omega)
  cases hwl with
  | cons w1 w2=>
    cases w2
    cases w1 with
    | list ho hall=>exact ⟨_,_,ns,rfl,rfl,ho,ZgA ns _ hall,hlen⟩
theorem Zni (l:OpenLaw) (args:List WData):l.row.toRowW.claim.post args (.bool true) args=true:=
  postW_of (r:=l.row.toRowW) (X:=(true == true))
    (show WShape.has [] (.bool true) .bool=true by first | rfl | decide | simp [WShape.has,WShape.arms,WShape.armsAll])
    (show (WTm.eq .res (.lit (.bool true))).value [] { args:=args,res:=some (.bool true),after:=args }=some (.bool (true == true)) from w_eq_bool (w_res rfl) w_lit) rfl
theorem attach_call {l:OpenLaw} {n:Nat} {q:Program} {loose:List Str} {XP:(Str→Option Value)→Heap→Prop} {YP:World→Heap→Prop} {d:DefRec}
    (hn:l.most=some n) (hdf:d.params.defaults=[])
    (call:∀(w:World) (s₀ s₁:Shared) (mg mb:Str→Option Value) (fa:Addr) (o:Obj) (pm cd doc:Value) (a:Addr) (vs:List Value) (ns:List Int),
      Ground q loose [] XP w s₀ mg mb s₁.heap→YP w s₁.heap→
      s₁.heap.get? fa=some o→o.data=.func (docDef d.name d.params d.body d.scope pm cd doc)→s₁.heap.CodeRec cd d.name→mg d.name=some (.ref fa)→
      s₁.heap.get? a=some { cls:=.type "list",data:=.seq vs.toArray }→IntsAre vs ns→ns.length≤n→s₁.gens=#[]→
      codeAny (model l.prog w) callerA (.call (.ref fa) ⟨[.ref a],[]⟩) (fun r s'=>r=.ok (.ret (.bool true))∧OldK s₁.heap s'.heap∧s'.os=s₁.os∧AllBare s'.gens) s₁) :
    WalkO q loose XP YP l.row.toRowW d [] (fun f vs=>PySem.call f vs):=by
  intro w s₀ s₁ mg mb G Y fa o pm cd doc dV kV ho hd hcd hD hmg hg args vals as hpre hlay hrd hwl hlo
  obtain rfl:dV=.none:=Dflts.none hD hdf
  obtain rfl:kV=.none:=Dflts.noKw hD
  obtain ⟨a,vs,ns,rfl,rfl,hobj,hints,hlen⟩:=Zng hn hpre hwl
  refine enter_call (codeAny_mono (call w s₀ s₁ mg mb fa o pm cd doc a vs ns G Y ho (fd_plain hd) hcd hmg hobj hints hlen hg) fun r s' hq=>?_)
  obtain ⟨rfl,h2,h3,h4⟩:=hq
  exact ⟨.inl ⟨.bool true,.bool true,[],rfl,fun _=>rfl,.bool true,Zni l _,fun _=>⟨List.Pairwise.nil,fun _ hm=>(nomatch hm)⟩⟩,h2,h3,h4⟩
section
variable {prog:Program} {w:World} {A:Around} {E:Value→Shared→Prop} {s:Shared} {K:Frag}
end
end Att
namespace L2
open PySem PySem.Spec PyProof.Rows
theorem Zh1:∀{vs:List Value} {ns:List Int},IntsAre vs ns→Vals (ns.map V.int) vs
  | _,_,.nil=>.nil
  | _,_,.cons n t h=>.cons ⟨t,rfl⟩ (Zh1 h)
def Zr7 (H:Hp):Prop:=∀b,H b=none∨∃o xs,H b=some (.frz o (.lst xs))
theorem Zqk {P:Program} {w:World} {K:PySem.W.Frag} {mg mb:Str→Option Value} {CX:CXT} {k:Nat} {fa a:Addr} {fd:FuncData} {x:Str} {sp:Sp} {s₁:Shared} {vs:List Value} {ns:List Int}
    (KX:K.In s₁.heap) (hns:s₁.heap.Ns mainGlobals mg) (hb:s₁.heap.Ns builtinsNs mb) (hbb:∀x:Str,x≠"__name__"→mb x=bootBuiltins x) (hlim:s₁.heap.NoLimit) (hg:s₁.gens=#[])
    (ha:s₁.heap.get? a=some { cls:=.type "list",data:=.seq vs.toArray }) (hi:IntsAre vs ns) (hl:ns.length≤sizeLine) (hr:Room k callerA)
    (F:∀base:Heap,K.In base→base.Ns mainGlobals mg→FnOk P w K mg base CX k fa fd [x] sp) (hbind:∀(s:Shared) (u:Value),BindsTo s fd ⟨[u],[]⟩ [(x,u)])
    (hsp:∀H:Hp,Zr7 H→SqL K H a (ns.map V.int)→sp [.ref a] H (fun v _=>v=.bl true) fun _ _ _=>False)
    (hCX:∀H e s',CX [] H s₁ (fun _ _ _=>False) e s'→False) :
    codeAny (model P w) callerA (.call (.ref fa) ⟨[.ref a],[]⟩) (fun r s'=>r=.ok (.ret (.bool true))∧OldK s₁.heap s'.heap∧s'.os=s₁.os∧AllBare s'.gens) s₁:=by
  have rv:=Zh1 hi
  have lenV:=hi.length
  have core:∀H:Hp,Zr7 H→SqL K H a (ns.map V.int)→HOk P w H s₁.heap→(∀b,H b≠none→b=a)→(H a≠none→K.lookup a=none)→
      codeAny (model P w) callerA (.call (.ref fa) ⟨[.ref a],[]⟩) (fun r s'=>r=.ok (.ret (.bool true))∧OldK s₁.heap s'.heap∧s'.os=s₁.os∧AllBare s'.gens) s₁:=by
    intro H hO hS hok hA hK
    have base_of:∀{b:Addr} {o:Obj},s₁.heap.get? b=some o→H b=none→(Zjd s₁.heap H).get? b=some o:=fun e n=>Zqr e n
    have noA:∀{b:Addr} {o:Obj} {es:Array DictEntry} {ep:Nat},s₁.heap.get? b=some o→o.data=.dict es ep→H b=none:=fun {b o es ep} e d=>by
      cases q:H b with
      | none=>rfl
      | some u=>
        have e':b=a:=hA b (by rw [q]; simp)
        subst e'
        rw [ha] at e; cases e
        have d':Data.seq vs.toArray _=Data.dict es ep:=d
        cases d'
    have nsK:∀{b:Addr} {m:Str→Option Value},s₁.heap.Ns b m→(Zjd s₁.heap H).Ns b m:=fun {b m} ⟨o,es,ep,e,d,r⟩=>⟨o,es,ep,base_of e (noA e d),d,r⟩
    have hKb:K.In (Zjd s₁.heap H):=fun b o e=>base_of (KX b o e) (by
      cases q:H b with
      | none=>rfl
      | some u=>
        have e':b=a:=hA b (by rw [q]; simp)
        subst e'
        rw [hK (by rw [q]; simp)] at e; cases e)
    have hM:Mod K mg (Zjd s₁.heap H):=⟨hKb,nsK hns,⟨mb,nsK hb,hbb⟩,let ⟨mc,h1,h2⟩:=hlim; ⟨mc,nsK h1,h2⟩⟩
    have e0:Env0 P w K mg (Zjd s₁.heap H) callerA [] s₁ H:=⟨rfl,hM,fun b o e=>Zrz e,Nat.le_of_eq (ZnF _ _),trivial,fun b hb=>absurd (show b∈([]:List Addr) from hb) (by simp),hok,.of_eq hg⟩
    refine codeAny_mono ((F _ hKb (nsK hns)).run callerA [] s₁ H ⟨[.ref a],[]⟩ [.ref a] [.ref a] _ _ hr e0 (hbind s₁ (.ref a)) (.cons rfl .nil) (hsp H hO hS)) fun r s' h=>?_
    cases r with
    | error e=>exact (hCX H e s' h).elim
    | ok fl=>
      cases fl with
      | next=>exact False.elim h
      | brk=>exact False.elim h
      | cont=>exact False.elim h
      | ret u=>
        obtain ⟨v,H',os,bare,un,hok',r',q⟩:=h
        have q':v=.bl true:=q
        subst q'
        obtain rfl:u=Value.bool true:=r'
        refine ⟨rfl,OldK.of_keep fun b o e=>?_,os,bare⟩
        cases q:H b with
        | none=>exact un.keep b o e q (by intro z; exact absurd (show b∈([]:List Addr) from z) (by simp)) (by simp)
        | some u=>
          rcases hO b with z | ⟨ob,xs,z⟩
          · rw [q] at z; cases z
          · have z2:=un.frzs b ob _ z
            obtain ⟨e1,_⟩:=hok b _ z
            obtain ⟨e2,_⟩:=hok' b _ z2
            rw [e] at e1; cases e1
            exact e2
  cases hk:K.lookup a with
  | some o=>
    have e:=KX a o hk
    rw [ha] at e
    cases e
    refine core (fun _=>none) (fun _=>.inl rfl) (.inr ⟨_,vs.toArray,_,hk,rfl,rfl,rfl,by rw [List.size_toArray,lenV]; exact hl,by simpa using rv⟩) (fun b u z=>by have z':(none:Option HO)=some u:=z; cases z') (fun b z=>absurd rfl z) fun z=>absurd rfl z
  | none=>
    refine core (fun b=>if b=a then some (.frz { cls:=.type "list",data:=.seq vs.toArray } (.lst (ns.map V.int))) else none) (fun b=>?_) (.inl (.inr ⟨{ cls:=.type "list",data:=.seq vs.toArray },if_pos rfl⟩)) (fun b u z=>?_) (fun b z=>?_) fun _=>hk
    · by_cases hb:b=a
      · exact .inr ⟨_,_,if_pos hb⟩
      · exact .inl (if_neg hb)
    · by_cases hb:b=a
      · have z':=(if_pos hb).symm.trans z
        cases z'
        subst hb
        exact ⟨ha,by rw [List.length_map]; exact hl,vs,_,rv,ha⟩
      · have z':=(if_neg hb).symm.trans z
        cases z'
    · by_cases hb:b=a
      · exact hb
      · exact absurd (if_neg hb) z
end L2
namespace L2
open PySem PySem.Spec PyProof.Rows
theorem ZqZ {l:PySem.W.OpenLaw} {n k:Nat} {q:Program} {loose:List Str} {XP:(Str→Option Value)→Heap→Prop} {YP:World→Heap→Prop} {d:DefRec} {K:Params→PySem.W.Frag} {CX:World→CXT} {sp:World→Sp} {x:Str}
    (hn:l.most=some n) (hn2:n≤sizeLine) (hdf:d.params.defaults=[]) (hr:Room k callerA)
    (hY:∀(w:World) (h:Heap),YP w h→(K w.params).In h)
    (F:∀(w:World) (mg:Str→Option Value) (fa:Addr) (h:Heap),(K w.params).In h→h.Ns mainGlobals mg→mg d.name=some (.ref fa)→
      ∃fd:FuncData,(∀(s:Shared) (u:Value),BindsTo s fd ⟨[u],[]⟩ [(x,u)])∧
        ∀base:Heap,(K w.params).In base→base.Ns mainGlobals mg→FnOk l.prog w (K w.params) mg base (CX w) k fa fd [x] (sp w))
    (hsp:∀(w:World) (H:Hp) (a:Addr) (ns:List Int),ns.length≤n→Zr7 H→SqL (K w.params) H a (ns.map V.int)→sp w [.ref a] H (fun v _=>v=.bl true) fun _ _ _=>False)
    (hCX:∀(w:World) (H:Hp) (s:Shared) (e:Value) (s':Shared),CX w [] H s (fun _ _ _=>False) e s'→False) :
    PySem.W.WalkO q loose XP YP l.row.toRowW d [] (fun f vs=>PySem.call f vs):=by
  refine Att.attach_call hn hdf fun w s₀ s₁ mg mb fa o pm cd doc a vs ns G Y ho hd hcd hmg hobj hints hlen hg=>?_
  have KX:=hY w _ Y
  obtain ⟨fd,hb,hF⟩:=F w mg fa _ KX G.T.g hmg
  exact Zqk KX G.T.g G.T.b G.T.builtins G.T.nolimit hg hobj hints (Nat.le_trans hlen hn2) hr hF hb (fun H hO hS=>hsp w H a ns hlen hO hS) fun H e s'=>hCX w H s₁ e s'
end L2
namespace L2
open PySem PySem.Spec PyProof.Rows
def Zcx (s:Stmt) (j:Nat):Stmt:=match s with
  | .ClassDef _ _ _ body _ _ _ _ _ _ _=>body.getD j (.Pass ⟨0,0,0,0⟩)
  | _=>.Pass ⟨0,0,0,0⟩
def Zs (s:Stmt):Arguments:=match s with
  | .FunctionDef _ a _ _ _ _ _ _ _ _=>a
  | _=>{ posonlyargs:=[],args:=[],vararg:=none,kwonlyargs:=[],kw_defaults:=[],kwarg:=none,defaults:=[] }
def Zn (s:Stmt):List Stmt:=match s with
  | .FunctionDef _ _ b _ _ _ _ _ _ _=>b
  | _=>[]
def Zg (s:Stmt):Scope:=match s with
  | .FunctionDef _ _ _ _ _ _ sc _ _ _=>sc
  | _=>{ kind:=.function,names:=[],isGenerator:=false,isCoroutine:=false }
abbrev CX0:CXT:=fun _ _ _ _ _ _=>False
abbrev E0:XK:=fun _ _ _=>False
theorem Zmz {X:Cx}:Ze2 CX0 X E0:=fun _ _ _ _ _ _ _ h=>h.elim
structure Fun (K:PySem.W.Frag) (x qual:Str) (st:Stmt) (f:Addr) (fd:FuncData):Prop where
  ex:∃(oc:Value) (od:Option Addr) (kV doc pm:Value) (an:Option Addr) (cdv ct:Value) (osl:Array (Option Value)),
    fd=PySem.W.fnOf x qual (Zs st) (Zn st) (Zg st) .none kV doc pm an cdv ct∧K.lookup f=some ⟨oc,od,.func fd,osl⟩∧PySem.W.codeIn K cdv qual=true
  kp:PySem.W.keepIn K (.ref f)=true
section
variable {P:Program} {w:World} {K:PySem.W.Frag} {mg:Str→Option Value} {base:Heap}
theorem Fun.ok {x qual:Str} {st:Stmt} {f:Addr} {fd:FuncData} {N ps:List Str} {k:Nat} {sp:Sp} (F:Fun K x qual st f fd) (S:Zp N ps (Zg st)) (len:∀vs H Q E,sp vs H Q E→vs.length=ps.length)
    (hbody:∀(cdv:Value) (A:Around) (outer:List Env) (s:Shared) (H:Hp) (vs:List V) (Q:VK) (E:XK),Room k (A.deeper (envOfC qual (Zg st) s.heap.objs.size f cdv))→sp vs H Q E→
      ∃t,PSs (Zc4 CX0 P w K mg base N qual (Zg st) f cdv A outer s H E).nox (Zn st) t∧t { nx:=fun _ H'=>Q .non H',rt:=Q } (Zdy N vs) H):FnOk P w K mg base CX0 (k+1) f fd ps sp:=by
  obtain ⟨oc,od,kV,doc,pm,an,cdv,ct,osl,rfl,lk,hcd⟩:=F.ex
  refine ZsC lk hcd S len fun A outer s H vs Q E hr hsp=>?_
  obtain ⟨t,h,q⟩:=hbody cdv A outer s H vs Q E hr hsp
  exact ⟨t,h.nox,q⟩
theorem Fun.binds {x qual:Str} {st:Stmt} {f:Addr} {fd:FuncData} {ps:List Str} (F:Fun K x qual st f fd)
    (h:∀(kV doc pm:Value) (an:Option Addr) (cdv ct:Value) (us:List Value),us.length=ps.length→bindArgs (PySem.W.fnOf x qual (Zs st) (Zn st) (Zg st) .none kV doc pm an cdv ct) ⟨us,[]⟩=pure (ps.zip us)):Binds K fd ps []:=by
  obtain ⟨oc,od,kV,doc,pm,an,cdv,ct,osl,rfl,lk,hcd⟩:=F.ex
  exact .all (h kV doc pm an cdv ct)
theorem Zx {x qual:Str} {st:Stmt} {f:Addr} {oc:Value} {od an:Option Addr} {osl:Array (Option Value)} {kV doc pm cdv ct:Value} (l:K.lookup f=some ⟨oc,od,.func (PySem.W.fnOf x qual (Zs st) (Zn st) (Zg st) .none kV doc pm an cdv ct),osl⟩)
    (c:PySem.W.codeIn K cdv qual=true) (k:PySem.W.keepIn K (.ref f)=true):Fun K x qual st f (PySem.W.fnOf x qual (Zs st) (Zn st) (Zg st) .none kV doc pm an cdv ct):=⟨⟨oc,od,kV,doc,pm,an,cdv,ct,osl,rfl,l,c⟩,k⟩
end
section
variable {X:Cx}
end
end L2
namespace L2
open PySem PySem.Spec PyProof.Rows
section
variable {P:Program} {w:World} {K:PySem.W.Frag} {mg:Str→Option Value} {base:Heap}
def Zq (K:PySem.W.Frag) (mg:Str→Option Value) (x:Str) (st:Stmt) (ps:List Str):Prop:=
  ∃(f:Addr) (fd:FuncData),Fun K x x st f fd∧Binds K fd ps []∧mg x=some (.ref f)
def Def (P:Program) (w:World) (K:PySem.W.Frag) (mg:Str→Option Value) (base:Heap) (k:Nat) (x:Str) (ps:List Str) (sp:Sp):Prop:=
  ∃(f:Addr) (fd:FuncData),FnOk P w K mg base CX0 k f fd ps sp∧Binds K fd ps []∧PySem.W.keepIn K (.ref f)=true∧mg x=some (.ref f)
end
section
variable {X:Cx} {k:Nat} {x:Str} {ps:List Str} {sp:Sp} {p pos:Pos} {e:Expr} {es:List Expr} {t:TA}
theorem ZpW {j:Nat} (D:Def X.prog X.w X.K X.mg X.base k x ps sp) (hr:Room j X.A) (hj:k≤j) (ha:PA X (e::es) t) (hg:Gl X x:=by rfl) (hdb:(x == ("__debug__":Str))=false:=by decide)
    (he:starEach (e::es) X.env=(false,eval e X.env)::starEach es X.env:=by rfl) (hpl:(backTo pos (starEach es X.env)).any (·.1)=false:=by rfl):PE X (.Call (.Name x p) (e::es) [] pos) (Zsj sp [] E0 t):=by
  obtain ⟨f,fd,F,b,kp,m⟩:=D
  exact Zrv F (hr.mono hj) hg m kp b .nil Zmz ha hdb he hpl
theorem Zrs {i:Int} (h:∃t,X.mg x=some (.int i t)) (hg:Gl X x:=by rfl) (hd:(x == ("__debug__":Str))=false:=by decide):PE X (.Name x pos) (tC (.int i)):=by
  obtain ⟨t,h⟩:=h
  exact ZiT hg h ⟨t,rfl⟩ hd
def ZvL (_ j:Int):Prop:=0<j∧j.natAbs.log2<9000
theorem Zp0:OpR X (binaryOp .FloorDiv) (rI ZvL fun i j=>.int (i/j)):=opI fun i j _ _ _ _ _ hc q=>by
  have h1:(0:Int)<j:=hc.1
  exact floordiv_int (by omega) (by rw [Int.fdiv_eq_ediv_of_nonneg i (by omega)]; exact q) (.inl (PyProof.noPylong_of_log2 hc.2))
end
end L2
set_option maxHeartbeats 4000000
namespace L2
open PySem PySem.Spec PyProof.Rows
theorem Zft {scope:Scope} {env:Env} (h:∀x∈scope.names,x.2=.free→∃c,env.cells.lookup x.1=some c) :
    ∃cl:List (Str×Addr),closureFor scope env=pure cl∧(∀n c,(n,c)∈cl→env.cells.lookup n=some c)∧∀x∈scope.names,x.2=.free→∃c,(x.1,c)∈cl:=by
  have key:∀(names:List (Str×NameKind)) (acc:List (Str×Addr)),(∀x∈names,x.2=.free→∃c,env.cells.lookup x.1=some c)→(∀n c,(n,c)∈acc→env.cells.lookup n=some c)→
      ∃cl:List (Str×Addr),(forIn names acc fun (x:Str×NameKind) (cs:List (Str×Addr))=>if (x.2 == NameKind.free)=true then (do let c ←cellOf env x.1; pure (ForInStep.yield ((x.1,c)::cs)):Sem _) else pure (ForInStep.yield cs))=(pure cl:Sem _)∧
        (∀n c,(n,c)∈cl→env.cells.lookup n=some c)∧(∀p∈acc,p∈cl)∧∀x∈names,x.2=.free→∃c,(x.1,c)∈cl:=by
    intro names
    induction names with
    | nil=>intro acc _ ha; exact ⟨acc,rfl,ha,fun _ p=>p,fun x hx=>nomatch hx⟩
    | cons y r ih=>
      intro acc hx ha
      obtain ⟨n,k⟩:=y
      by_cases hk:k=.free
      · subst hk
        obtain ⟨c,hc⟩:=hx (n,.free) List.mem_cons_self rfl
        obtain ⟨cl,e,h1,h2,h3⟩:=ih ((n,c)::acc) (fun x z=>hx x (List.mem_cons_of_mem _ z)) (fun m d z=>by
          rcases List.mem_cons.mp z with z | z
          · cases z; exact hc
          · exact ha m d z)
        refine ⟨cl,?_,h1,fun p z=>h2 p (List.mem_cons_of_mem _ z),fun x z zf=>?_⟩
        · have ec:cellOf env n=pure c:=by unfold cellOf; rw [hc]
          rw [List.forIn_cons]
          simp only [beq_self_eq_true,if_true,ec,pure_bind]
          exact e
        · rcases List.mem_cons.mp z with z | z
          · cases z; exact ⟨c,h2 _ List.mem_cons_self⟩
          · exact h3 x z zf
      · obtain ⟨cl,e,h1,h2,h3⟩:=ih acc (fun x z=>hx x (List.mem_cons_of_mem _ z)) ha
        refine ⟨cl,?_,h1,h2,fun x z zf=>?_⟩
        · have hb:(k == NameKind.free)=false:=by simpa using hk
          rw [List.forIn_cons]
          simp only [hb,Bool.false_eq_true,if_false,pure_bind]
          exact e
        · rcases List.mem_cons.mp z with z | z
          · cases z; exact absurd zf hk
          · exact h3 x z zf
  obtain ⟨cl,e,h1,_,h3⟩:=key scope.names [] h (fun n c z=>nomatch z)
  refine ⟨cl,?_,h1,h3⟩
  simp only [closureFor]
  rw [e]
  rfl
def Cx.comp (X:Cx) (scope:Scope) (N':List Str) (cl:List (Str×Addr)) (C:Addr) (s₀:Shared) (H₀:Hp) (fp:List Addr):Cx where
  prog:=X.prog
  w:=X.w
  K:=X.K
  mg:=X.mg
  base:=X.base
  A:=X.A
  N:=N'
  s₀:=s₀
  H₀:=H₀
  env:=compEnvC scope cl C X.env
  outer:=X.stack
  stack:=X.stack
  ex:=fp
  fn:=fun _=>false
  calm:=X.calm
  pn:=[]
  xe:=fun _ _=>False
def inner (src:List Nat) (σ:St) (x:Option V):St:=x::src.map fun j=>(σ[j]?).join
theorem Zhi {α:Type} {l:List (Str×α)} {n:Str} {c:α} (h:(n,c)∈l):∃d,l.lookup n=some d:=by
  induction l with
  | nil=>cases h
  | cons y r ih=>
    obtain ⟨m,d⟩:=y
    by_cases e:n == m
    · exact ⟨d,by rw [List.lookup_cons,e]⟩
    · rcases List.mem_cons.mp h with z | z
      · cases z; exact absurd (beq_self_eq_true n) e
      · obtain ⟨d',q⟩:=ih z
        exact ⟨d',by rw [List.lookup_cons,Bool.eq_false_iff.mpr e]; exact q⟩
theorem Zdi {env:Env} {n:Str}:∀{names:List (Str×NameKind)} {k:NameKind},(∀y∈names,y.2≠.cell)→
    (names.map fun (n,k)=>if (k == NameKind.free && env.scope.kind == .function && env.kindOf n == some .cell) then (n,NameKind.cell) else (n,k)).lookup n=some k→(k=.cell∨k=.free)→(n,NameKind.free)∈names
  | [],_,_,h,_=>by simp at h
  | (m,j)::r,k,hc,h,hk=>by
    have nc:j≠.cell:=hc (m,j) List.mem_cons_self
    rw [List.map_cons] at h
    by_cases e:n == m
    · have en:n=m:=by simpa using e
      subst en
      by_cases cnd:(j == NameKind.free && env.scope.kind == .function && env.kindOf n == some .cell)=true
      · have:j=.free:=by
          simp only [Bool.and_eq_true,beq_iff_eq] at cnd
          exact cnd.1.1
        rw [this]
        exact List.mem_cons_self
      · simp only [cnd] at h
        rw [if_neg (by simp),List.lookup_cons,beq_self_eq_true] at h
        cases h
        rcases hk with rfl | rfl
        · exact absurd rfl nc
        · exact List.mem_cons_self
    · refine List.mem_cons_of_mem _ (Zdi (env:=env) (k:=k) (fun y hy=>hc y (List.mem_cons_of_mem _ hy)) ?_ hk)
      rw [List.lookup_cons] at h
      have e2:(n == (if (j == NameKind.free && env.scope.kind == .function && env.kindOf m == some .cell)=true then (m,NameKind.cell) else (m,j)).1)=false:=by
        split<;>exact Bool.eq_false_iff.mpr e
      rw [e2] at h
      exact h
theorem Ze7 {env:Env}:∀{names:List (Str×NameKind)} {x:Str},names.lookup x=some .free→
    (names.map fun (n,k)=>if (k == NameKind.free && env.scope.kind == .function && env.kindOf n == some .cell) then (n,NameKind.cell) else (n,k)).lookup x=some .cell∨
    (names.map fun (n,k)=>if (k == NameKind.free && env.scope.kind == .function && env.kindOf n == some .cell) then (n,NameKind.cell) else (n,k)).lookup x=some .free
  | [],_,h=>by simp at h
  | (n,k)::r,x,h=>by
    have ih:=@Ze7 env r x
    rw [List.map_cons]
    cases hx:x == n with
    | true=>
      simp only [List.lookup_cons,hx] at h
      cases h
      by_cases hc:(NameKind.free == NameKind.free && env.scope.kind == .function && env.kindOf n == some .cell)=true
      · left
        show List.lookup x ((if (NameKind.free == NameKind.free && env.scope.kind == .function && env.kindOf n == some .cell)=true then (n,NameKind.cell) else (n,NameKind.free))::_)=_
        rw [if_pos hc,List.lookup_cons,hx]
      · right
        show List.lookup x ((if (NameKind.free == NameKind.free && env.scope.kind == .function && env.kindOf n == some .cell)=true then (n,NameKind.cell) else (n,NameKind.free))::_)=_
        rw [if_neg hc,List.lookup_cons,hx]
    | false=>
      simp only [List.lookup_cons,hx] at h
      have e:∀t,List.lookup x ((if (k == NameKind.free && env.scope.kind == .function && env.kindOf n == some .cell)=true then (n,NameKind.cell) else (n,k))::t)=List.lookup x t:=fun t=>by
        split<;>rw [List.lookup_cons,hx]
      rcases ih h with q | q
      · exact .inl ((e _).trans q)
      · exact .inr ((e _).trans q)
section
variable {X:Cx} {x:Str} {px:Pos} {iter elt:Expr} {scope:Scope} {pos:Pos} {N':List Str} {src:List Nat} {wi:TI} {te:TE}
structure ZaU (scope sc:Scope) (x:Str) (N N':List Str) (src:List Nat):Prop where
  kind:scope.kind=.function
  cell:∀y∈scope.names,y.2≠.cell
  loc:∀y∈scope.names,y.2=.local→scope.names.lookup y.1=some .local
  own:scope.names.lookup x=some .local
  free:∀y∈scope.names,y.2=.free→sc.names.lookup y.1=some .cell
  nd:N'.Nodup
  names:N'=x::src.map fun j=>N.getD j x
  all:∀j∈src,j<N.length
  fr:∀j∈src,sc.names.lookup (N.getD j x)=some .cell∧scope.names.lookup (N.getD j x)=some .free
theorem Zhs {pins:List (Addr×Obj)} {σ:St} {H:Hp} {s s':Shared} {C:Addr} {cl:List (Str×Addr)} {fp:List Addr} (I:Inv X pins σ H s) (S:ZaU scope X.env.scope x X.N N' src)
    (hcl:∀n c,(n,c)∈cl→X.env.cells.lookup n=some c) (hcl2:∀y∈scope.names,y.2=.free→∃c,(y.1,c)∈cl) (hC:s.heap.objs.size≤C) (hfp:∀b∈fp,Zgf X pins H b) (hfl:∀b∈fp,b<s.heap.objs.size)
    (hn:∃m,s'.heap.Ns C m) (hk:∀b o,s.heap.get? b=some o→s'.heap.get? b=some o) (ho:s'.os=s.os) (hg:s'.gens=s.gens) :
    Inv (X.comp scope N' cl C s H fp) [] (inner src σ none) H s':=by
  have cll:∀n c,cl.lookup n=some c→X.env.cells.lookup n=some c:=fun n c e=>hcl n c (PySem.mem_of_lookup e)
  refine ⟨⟨I.ok.mod,S.kind,I.ok.glob,I.ok.blt,hC,fun y z c h1 h2=>I.ok.inj y z c (cll _ _ h1) (cll _ _ h2),fun y hy=>?_,fun y c h=>absurd (show false=true from h) (by decide),I.ok.hd,I.ok.frames,.inl rfl,fun b hb=>⟨Nat.ne_of_lt (Nat.lt_of_lt_of_le (hfl b hb) hC),fun y c e=>(hfp b hb).2.2.2.2.1 y c (cll y c e)⟩,
    I.bs,Nat.le_trans I.ok.bsz I.sz,fun b o e hb=>?_,fun b hb=>?_,I.stack,I.stkFree⟩,ho,?_,Un.kept hk,?_,fun y c e=>?_,I.hok.fresh hC,fun y c e=>I.freeC y c (cll y c e),fun p hp=>absurd (show p∈([]:List (Addr×Obj)) from hp) (by simp),I.hok.kept hk,?_⟩
  · have hy':(relabel scope X.env).names.lookup y=some .cell∨(relabel scope X.env).names.lookup y=some .free:=hy
    have:(y,NameKind.free)∈scope.names:=by
      rcases hy' with h | h
      · exact Zdi S.cell h (.inl rfl)
      · exact Zdi S.cell h (.inr rfl)
    obtain ⟨c,hc⟩:=hcl2 _ this rfl
    exact Zhi hc
  · rcases (hfp b hb).2.2.2.1 with z | z
    · exact I.ok.noex b o e z
    · exact absurd (Nat.lt_of_lt_of_le (Heap.lt_size e) (Nat.le_trans I.ok.bsz z)) (Nat.lt_irrefl _)
  · intro hs
    rcases List.mem_cons.mp (I.stkSub b hs) with z | z
    · exact (hfp b hb).2.1 z
    · exact (hfp b hb).2.2.1 z
  · rw [hg]; exact I.bare
  · obtain ⟨m,hm⟩:=hn
    refine ⟨m,hm,fun i y v h1 h2 h3=>?_⟩
    have h1':N'[i]?=some y:=h1
    rw [S.names] at h1'
    cases i with
    | zero=>cases (show (some none:Option (Option V))=some (some v) from h2)
    | succ k=>
      rw [List.getElem?_cons_succ,List.getElem?_map] at h1'
      have h2':(src.map fun j=>(σ[j]?).join)[k]?=some (some v):=h2
      rw [List.getElem?_map] at h2'
      cases e:src[k]? with
      | none=>rw [e] at h1'; cases h1'
      | some j=>
        rw [e] at h1' h2'
        have hj:=List.mem_of_getElem? e
        have ey:X.N.getD j x=y:=Option.some.inj h1'
        have ev:(σ[j]?).join=some v:=Option.some.inj h2'
        have eN:X.N[j]?=some y:=by
          have:=S.all j hj
          rw [List.getElem?_eq_getElem this]
          rw [List.getD_eq_getElem?_getD,List.getElem?_eq_getElem this] at ey
          exact congrArg some ey
        have eσ:σ[j]?=some (some v):=by
          cases q:σ[j]? with
          | none=>rw [q] at ev; cases ev
          | some z=>rw [q] at ev; exact congrArg some ev
        obtain ⟨k1,k2⟩:=S.fr j hj
        rw [ey] at k1 k2
        obtain ⟨mo,hmo,hl⟩:=I.loc
        obtain ⟨u,r,l⟩:=hl j y v eN eσ (.inr (.inl k1))
        refine ⟨u,r,?_⟩
        rcases l with ⟨z,_⟩ | ⟨_,c,hc,hcell⟩
        · have z':X.env.scope.names.lookup y=some .local:=z
          rw [k1] at z'; cases z'
        · obtain ⟨c',hc'⟩:=hcl2 _ (PySem.mem_of_lookup k2) rfl
          obtain ⟨d,hd⟩:=Zhi hc'
          have ed:d=c:=by
            have:=cll _ _ hd
            rw [hc] at this
            exact (Option.some.inj this).symm
          subst ed
          obtain ⟨o,e1,e2⟩:=hcell
          refine .inr ⟨?_,d,hd,o,hk _ _ e1,e2⟩
          rcases h3 with z | z | z
          · have z':(relabel scope X.env).names.lookup y=some .local:=z
            rcases Ze7 (env:=X.env) k2 with w | w
            · have w':(relabel scope X.env).names.lookup y=some .cell:=w
              rw [w'] at z'; cases z'
            · have w':(relabel scope X.env).names.lookup y=some .free:=w
              rw [w'] at z'; cases z'
          · exact .inl z
          · exact .inr z
  · obtain ⟨v,o,e1,e2⟩:=I.cell y c (cll y c e)
    exact ⟨v,o,hk _ _ e1,e2⟩
  · show (inner src σ none).length=N'.length
    rw [S.names]
    unfold inner
    rw [List.length_cons,List.length_cons,List.length_map,List.length_map]
theorem Zlr {prog:Program} {w:World} {A:Around} {R:Result→Shared→Prop} {s:Shared} {elt target iter:Expr} {scope:Scope} {pos:Pos} {it acc:Value} {env:Env} (I:Nat→Shared→Prop)
    (turn:∀n s,I n s→wpAny (model prog w) A (pyNext it) (fun r s₁=>match r with
      | none=>R (.ok .next) s₁
      | some v=>wpAny (model prog w) A (letOwnedTupleGo target it v) (fun _ s₂=>wpAny (model prog w) A (assign target env v) (fun _ s₃=>wpAny (model prog w) A (eval elt env) (fun x s₄=>
          wpAny (model prog w) A (call (.builtin "list.append") [acc,x]) (fun _ s₅=>∃m,m<n∧I m s₅) (notedBy (model prog w) A env fun e s'=>R (.error e) s') s₄) (notedBy (model prog w) A env fun e s'=>R (.error e) s') s₃)
          (notedBy (model prog w) A env fun e s'=>R (.error e) s') s₂) (notedBy (model prog w) A env fun e s'=>R (.error e) s') s₁) (notedBy (model prog w) A env fun e s'=>R (.error e) s') s)
    (n:Nat) (h:I n s):codeAny (model prog w) A (.compLoop (.ListComp elt [⟨target,iter,[],0⟩] scope pos) 0 it acc env) R s:=by
  refine codeAny_loop rfl I (fun n s hI=>?_) n h
  show wpAny _ A ((compTurn (.ListComp elt [⟨target,iter,[],0⟩] scope pos) 0 it acc env).onRaise (fun x=>do noteFrame x env; theTreesLotGoes x)) _ _ s
  refine wpAny_noted ?_
  rw [compTurn_list1]
  refine wpAny_bind (wpAny_standAt (wpAny_bind (thn (turn n s hI) fun r s₁ h₁=>?_)))
  cases r with
  | none=>exact wpAny_pure h₁
  | some v=>
    refine wpAny_bind (thn h₁ fun _ s₂ h₂=>wpAny_bind (thn h₂ fun _ s₃ h₃=>?_))
    exact wpAny_bind (wpAny_bind (thn h₃ fun x s₄ h₄=>wpAny_bind (thn h₄ fun _ s₅ h₅=>wpAny_pure (wpAny_pure ⟨rfl,h₅⟩))))
def lcR (J:It) (src:List Nat) (σ:St) (te:TE) (H1:Hp) (Q:VK):Prop:=∃(n:Nat) (Pv:Nat→List V→Hp→Prop),n≤sizeLine∧Pv 0 [] H1∧
  (∀i ys H,i<n→Pv i ys H→J.go i H∧∀y H',J.yld i H y H'→te (inner src σ (some y)) H' fun z H2=>Pv (i+1) (ys++[z]) H2)∧
  ∀ys H,Pv n ys H→J.stop n H∧∀p,H p=none→Q (.ref p) (upd H p (.lst ys))
def tLc (wi:TI) (src:List Nat) (te:TE):TE:=fun σ H Q=>wi σ H fun J H1=>lcR J src σ te H1 Q
theorem HOk.lay {P:Program} {w:World} {H:Hp} {h:Heap} {a:Addr} {o:HO} (x:HOk P w H h) (hn:H a=none) (new:ObjOk P w (upd H a o) h a o):HOk P w (upd H a o) h:=fun b u e=>by
  by_cases hb:b=a
  · subst hb; rw [Z4] at e; cases e; exact new
  · rw [ZT hb] at e
    exact (x b u e).stay (fun c v _ q=>q) (fun c q=>by rw [ZT (za q hn)]; exact q) fun c xs q=>by rw [ZT (za q hn)]; exact q
theorem Un.lay {fs ex:List Addr} {H H1:Hp} {h h1:Heap} {a:Addr} {o:HO} (u:Un fs ex H H1 h h1) (hn:H1 a=none) (hh:h.get? a=none):Un fs ex H (upd H1 a o) h h1 where
  keep:=u.keep
  slot:=u.slot
  free:=fun b ob q n hx=>by rw [ZT (fun z=>by rw [z,hh] at q; cases q)]; exact u.free b ob q n hx
  there:=u.there
  tups:=fun b xs q=>by rw [ZT (za (u.tups b xs q) hn)]; exact u.tups b xs q
  frzs:=fun b ob xs q=>by rw [ZT (za (u.frzs b ob xs q) hn)]; exact u.frzs b ob xs q
  tbls:=fun b ps q=>by
    obtain ⟨m,e⟩:=u.tbls b ps q
    exact ⟨m,by rw [ZT (za e hn)]; exact e⟩
theorem ZtF {pins:List (Addr×Obj)} {σ:St} {H:Hp} {s:Shared} {cl:List (Str×Addr)} {it:Addr} {fp:List Addr} {tn:Nat→Heap→Prop} {J:It} {n:Nat} {Pv:Nat→List V→Hp→Prop} {RR:Value→Addr→Result→Shared→Prop} {E:Value→Shared→Prop}
    (I:Inv X pins σ H s) (hcm:X.calm=true) (S:ZaU scope X.env.scope x X.N N' src) (hcl:∀n c,(n,c)∈cl→X.env.cells.lookup n=some c) (hcl2:∀y∈scope.names,y.2=.free→∃c,(y.1,c)∈cl)
    (T:Zmi X.prog X.w X.K (.Name x px) J fp it tn) (t0:tn 0 s.heap) (hfp:∀b∈fp,Zgf X pins H b)
    (helt:∀(cl:List (Str×Addr)) (C:Addr) (s₀:Shared) (H₀:Hp) (fp:List Addr),PE (X.comp scope N' cl C s₀ H₀ fp) elt te)
    (hn:n≤sizeLine) (p0:Pv 0 [] H) (turn:∀i ys H,i<n→Pv i ys H→J.go i H∧∀y H',J.yld i H y H'→te (inner src σ (some y)) H' fun z H2=>Pv (i+1) (ys++[z]) H2) (stop:∀ys H,Pv n ys H→J.stop n H)
    (hR:∀(D C:Addr) (o:Obj) (ys:List V) (H':Hp) (s':Shared),Pv n ys H'→H' D=none→Inv X (pins++[(C,o)]) σ (upd H' D (.lst ys)) s'→(∃m,s'.heap.Ns C m)→Zgf X pins (upd H' D (.lst ys)) C→RR (.ref D) C (.ok .next) s') :
    wpAny (model X.prog X.w) X.A (newList []) (fun acc s₃=>wpAny (model X.prog X.w) X.A (newFunctionEnv scope X.env.globals cl [] X.env.qual none .none (some X.env)) (fun cenv s₄=>
      codeAny (model X.prog X.w) X.A (.compStart (.ListComp elt [⟨.Name x px,iter,[],0⟩] scope pos) 0 (.ref it) acc { cenv with scope:=relabel scope X.env }) (RR acc cenv.locals) s₄) E s₃) E s:=by
  refine wpAny_newObj_type (wpAny_newFunctionEnv S.cell (by intro y hy; simp at hy) (fun h₁ hns₁ hsb₁=>?_) S.kind)
  dsimp only at hns₁ hsb₁ ⊢
  generalize hH2:s.heap.push { cls:=.type "list",dict:=none,data:=.seq ([]:List Value).toArray }=H2 at hns₁ hsb₁ ⊢
  have hC:H2.objs.size=s.heap.objs.size+1:=by rw [←hH2,Heap.size_push]
  have hDC:s.heap.objs.size≠H2.objs.size:=by rw [hC]; exact Nat.ne_of_lt (Nat.lt_succ_self _)
  have hCle:s.heap.objs.size≤H2.objs.size:=by rw [hC]; exact Nat.le_succ _
  have below:∀b,b<s.heap.objs.size→b≠H2.objs.size∧b≠s.heap.objs.size:=fun b hb=>⟨by rw [hC]; exact Nat.ne_of_lt (Nat.lt_succ_of_lt hb),Nat.ne_of_lt hb⟩
  have old:∀b o,s.heap.get? b=some o→h₁.get? b=some o:=fun b o e=>hsb₁.extBut b o (below b (Heap.lt_size e)).1 (Heap.get?_push_of_some _ (hH2 ▸ Heap.get?_push_of_some _ e))
  have hacc:h₁.PlainList s.heap.objs.size #[]:=⟨_,hsb₁.extBut _ _ hDC (Heap.get?_push_of_some _ (hH2 ▸ Heap.get?_push_size _ rfl))⟩
  have hfl:∀b∈fp,b<s.heap.objs.size:=fun b hb=>by
    obtain ⟨o,e,_⟩:=T.obj 0 _ t0 b hb
    exact Heap.lt_size e
  have fresh:∀a,s.heap.objs.size≤a→s.heap.get? a=none:=fun a ha=>by
    cases e:s.heap.get? a with
    | none=>rfl
    | some o'=>exact absurd (Heap.lt_size e) (Nat.not_lt.mpr ha)
  generalize eD:s.heap.objs.size=D at hDC hacc hCle below fresh hfl hC ⊢
  generalize eC:H2.objs.size=C at hDC hCle below hC hns₁ hsb₁ ⊢
  have I1:Inv (X.comp scope N' cl C s H fp) [] (inner src σ none) H { s with heap:=h₁,toks:=s.toks+([]:List (Str×Value)).length }:=
    Zhs I S hcl hcl2 (by rw [eD]; exact hCle) hfp (by rw [eD]; exact hfl) ⟨_,hns₁⟩ old rfl rfl
  have stat:∀{H':Hp} {pl:List (Addr×Obj)},(∀p∈pl,p.1=D)→(∀b∈fp,H' b=none)→∀b∈fp,Zgf (X.comp scope N' cl C s H fp) pl H' b:=fun {H' pl} hp hn b hb=>
    ⟨hn b hb,(below b (hfl b hb)).1,fun z=>by
      rcases List.mem_cons.mp (I.stkSub b z) with q | q
      · exact (hfp b hb).2.1 q
      · exact (hfp b hb).2.2.1 q,.inl hb,fun y c e=>(hfp b hb).2.2.2.2.1 y c (hcl y c (PySem.mem_of_lookup e)),fun p hq=>by
      rw [hp p (by rcases List.mem_append.mp hq with z | z; exact absurd (show p∈([]:List (Addr×Obj)) from z) (by simp); exact z)]
      exact Ne.symm (below b (hfl b hb)).2⟩
  have nD:D∉frs X.stack:=fun z=>by
    rcases List.mem_cons.mp (I.stkSub D z) with q | q
    · have:=I.lt; rw [←q,eD] at this; exact Nat.lt_irrefl _ this
    · exact I.nofs (a:=D) (by rw [eD]; exact Nat.le_refl _) q
  have nC:C∉X.fs:=I.nofs (by rw [eD]; exact hCle)
  have cellD:∀y c,cl.lookup y=some c→c<D:=fun y c e=>by
    obtain ⟨v,q⟩:=I.cell y c (hcl y c (PySem.mem_of_lookup e))
    have:=q.lt
    rw [eD] at this
    exact this
  have loop:∀s₃:Shared,s₃={ s with heap:=h₁,toks:=s.toks+([]:List (Str×Value)).length }→
      codeAny (model X.prog X.w) X.A (.compLoop (.ListComp elt [⟨.Name x px,iter,[],0⟩] scope pos) 0 (.ref it) (.ref D) (compEnvC scope cl C X.env)) (RR (.ref D) C) s₃:=by
    rintro s₃ rfl
    refine Zlr (fun k s'=>∃(i:Nat) (ys:List V) (its:List Value) (H':Hp) (xo:Option V),Inv (X.comp scope N' cl C s H fp) [] (inner src σ xo) H' s'∧tn i s'.heap∧(∀b∈fp,H' b=none)∧s'.heap.PlainList D its.toArray∧Vals ys its∧H' D=none∧
      Pv i ys H'∧ys.length=i∧i≤n∧k=n+1-i) ?_ (n+1) ⟨0,[],[],H,none,I1,T.keep _ _ _ t0 (fun b _ o e=>old b o e),fun b hb=>(hfp b hb).1,hacc,.nil,I.hok.fresh (by rw [eD]; exact Nat.le_refl _),p0,rfl,Nat.zero_le _,rfl⟩
    rintro k s' ⟨i,ys,its,H',xo,I3,t3,f3,l3,v3,d3,p3,e3,le3,rfl⟩
    by_cases hlt:i<n
    · obtain ⟨go,step⟩:=turn i ys H' hlt p3
      obtain ⟨nn,oD⟩:=id l3
      have I3p:Inv (X.comp scope N' cl C s H fp) [(D,{ cls:=.type "list",data:=.seq its.toArray nn })] (inner src σ xo) H' s':=
        I3.pins_of fun p hp=>by
          have ep:p=(D,{ cls:=.type "list",data:=.seq its.toArray nn }):=by simpa using hp
          subst ep
          exact ⟨oD,d3,hDC,nD,fun v z=>by cases z⟩
      refine thn (T.item (X.comp scope N' cl C s H fp) rfl rfl rfl hcm i _ s' _ H' _ I3p (stat (by simp) f3) t3 go) fun r s4 ⟨u,hr,h4⟩=>?_
      subst hr
      refine thn h4 fun _ s5 ⟨y,H5,I5,r5,y5,st5,fr5⟩=>?_
      have I5':=I5.pinned (stat (by simp) fr5) (T.obj _ _ st5)
      have hg:PG (X.comp scope N' cl C s H fp) (.Name x px) (Zin 0):=
        Zel S.nd (by show N'[0]?=some x; rw [S.names]; rfl) (.inl (lookup_relabel_local S.own)) (.inr (lookup_relabel_local S.own))
      refine wpAny_mono (hg _ s5 _ H5 y u (fun σ2 H2=>σ2=inner src σ (some y)∧H2=H5) I5' r5 ⟨rfl,rfl⟩) (fun _ s6 ⟨σ6,H6,I6,e6,e6'⟩=>?_) fun _ _ z=>False.elim z
      subst e6 e6'
      refine wpAny_mono (helt cl C s H fp _ s6 _ _ _ I6 (step y _ y5)) (fun v s7 ⟨z,H7,I7,r7,q7⟩=>?_) fun _ _ z=>False.elim z
      have o7:=I7.pin (D,{ cls:=.type "list",data:=.seq its.toArray nn }) (by simp)
      have hys:its.toArray.size≤sizeLine:=by
        have:=v3.length
        rw [List.size_toArray]
        omega
      refine wpAny_list_append_plain (hsz:=hys) (items:=its.toArray) (s:=s7) ⟨nn,o7.1⟩ fun h8 hl8 hs8=>?_
      refine ⟨n+1-(i+1),by omega,i+1,ys++[z],its++[v],H7,some y,?_,?_,?_,?_,v3.append (.cons r7 .nil),o7.2.1,q7,by rw [List.length_append,e3]<;>rfl,hlt,rfl⟩
      · have I7':Inv (X.comp scope N' cl C s H fp) [] (inner src σ (some y)) H7 s7:=I7.pins_of fun p hp=>absurd hp (by simp)
        exact I7'.turned (t':=s7.toks) (it:=D) (fun b o hb e=>(hs8.2 b hb).trans e) o7.2.1 hDC (.inr (by show s.heap.objs.size≤D; rw [eD]; exact Nat.le_refl _)) (fun y c e=>Nat.ne_of_lt (cellD y c e)) fun p hp=>absurd (show p∈([]:List (Addr×Obj)) from hp) (by simp)
      · refine T.keep _ _ _ st5 fun b hb o e=>(hs8.2 b (below b (hfl b hb)).2).trans ?_
        exact (I7.pin (b,o) (List.mem_append_right _ (List.mem_append_right _ (ZaG hb e)))).1
      · intro b hb
        obtain ⟨o,e,_⟩:=T.obj _ _ st5 b hb
        exact (I7.pin (b,o) (List.mem_append_right _ (List.mem_append_right _ (ZaG hb e)))).2.1
      · have:(its++[v]).toArray=its.toArray.push v:=by simp
        rw [this]; exact hl8
    · have ein:i=n:=by omega
      subst ein
      obtain ⟨nn,oD⟩:=id l3
      have I3p:Inv (X.comp scope N' cl C s H fp) [(D,{ cls:=.type "list",data:=.seq its.toArray nn })] (inner src σ xo) H' s':=
        I3.pins_of fun p hp=>by
          have ep:p=(D,{ cls:=.type "list",data:=.seq its.toArray nn }):=by simpa using hp
          subst ep
          exact ⟨oD,d3,hDC,nD,fun v z=>by cases z⟩
      refine thn (T.done (X.comp scope N' cl C s H fp) rfl rfl rfl hcm i _ s' _ H' _ I3p (stat (by simp) f3) t3 (stop ys H' p3)) fun r s4 ⟨hr,I4⟩=>?_
      subst hr
      have o4:=I4.pin (D,{ cls:=.type "list",data:=.seq its.toArray nn }) (by simp)
      have newI:Inv X pins σ (upd H' D (.lst ys)) s4:=I.call' (ch:=fp) I4.os (I4.base.lay d3 (fresh D (Nat.le_refl _))) (I4.hok.lay d3 ⟨by omega,its,nn,v3,o4.1⟩) I4.bare (fun b hb=>
        ⟨(hfp b hb).2.2.2.1,(hfp b hb).2.1,(hfp b hb).2.2.2.2.1,(hfp b hb).2.2.2.2.2⟩)
      obtain ⟨m,hm,_⟩:=I4.loc
      obtain ⟨o,es,ep,ho,hd,_⟩:=id hm
      refine hR D C o ys H' s4 p3 d3 (newI.pins_of fun p hp=>?_) ⟨m,hm⟩ (I.fpOk (by rw [eD]; exact hCle) (by rw [ZT (Ne.symm hDC)]; exact I4.free))
      rcases List.mem_append.mp hp with z | z
      · exact newI.pin p (List.mem_append_right _ z)
      · have ep:p=(C,o):=by simpa using z
        subst ep
        refine ⟨ho,by rw [ZT (Ne.symm hDC)]; exact I4.free,fun z=>?_,nC,fun v z=>?_⟩
        · have:=I.lt
          rw [eD,←z] at this
          exact absurd (Nat.lt_of_lt_of_le this hCle) (Nat.lt_irrefl _)
        · have z':o.data=.cell v:=z
          rw [hd] at z'; cases z'
  exact codeAny_compStart_list (loop _ rfl) (T.self _ 0 _ _ _ (T.keep _ _ _ t0 (fun b _ o e=>old b o e)) (loop _ rfl))
theorem Zu5 {sc:Scope} {N:List Str} (S:ZaU scope sc x N N' src) (hsc:X.env.scope=sc) (hN:X.N=N) (hi:PI X (.Name x px) iter wi)
    (helt:∀(cl:List (Str×Addr)) (C:Addr) (s₀:Shared) (H₀:Hp) (fp:List Addr),PE (X.comp scope N' cl C s₀ H₀ fp) elt te) (hcm:X.calm=true:=by rfl) (hs:∀v,foldedSetIterable iter X.env v=pure v:=by intro _; rfl) :
    PE X (.ListComp elt [⟨.Name x px,iter,[],0⟩] scope pos) (tLc wi src te):=by
  subst hsc hN
  intro pins s σ H Q I h
  obtain ⟨cl,hclos,hcl,hcl2⟩:=Zft (scope:=scope) (env:=X.env) fun y hy hf=>I.ok.has y.1 (.inl (S.free y hy hf))
  rw [eval_ListComp]
  refine wpAny_comprehension_free (use:=none) rfl hs hclos S.kind S.loc ?_
  refine thn (hi pins s σ H _ I h) fun v s1 h1=>thn h1 fun itv s2 h2=>?_
  obtain ⟨it,fp,tn,J,H2,e,I2,T,st2,f2,n,Pv,hn,p0,turn,done⟩:=h2
  subst e
  refine ZtF I2 hcm S hcl hcl2 T st2 f2 helt hn p0 turn (fun ys H p=>(done ys H p).1) fun D C o ys H' s' p d J' hm ho=>?_
  obtain ⟨m,hm⟩:=hm
  refine ⟨m,hm,fun h' hs'=>?_⟩
  have J2:Inv X pins σ (upd H' D (.lst ys)) s':=J'.pins_of fun q hq=>J'.pin q (List.mem_append_right _ (List.mem_append_left _ hq))
  obtain ⟨f0,f1,f2,f3,f4,f5⟩:=ho
  exact ⟨.ref D,_,J2.turned (t':=s'.toks) (it:=C) (fun b o hb e=>(hs'.2 b hb).trans e) f0 f1 f3 f4 f5,rfl,(done ys H' p).2 D d⟩
end
end L2
namespace L2
open PySem PySem.Spec PyProof.Rows PySem.SeqAt
section
variable {X:Cx}
theorem Zia {ns:List Int}:∀k,k≤ns.length→preSum (fun i=>ns.getD i 0) k=(ns.take k).sum
  | 0,_=>by simp [preSum]
  | k+1,h=>by
    have hk:k<ns.length:=by omega
    rw [preSum,Zia k (by omega),List.take_add_one,List.getElem?_eq_getElem hk,List.getD_eq_getElem?_getD,List.getElem?_eq_getElem hk]
    show _=(ns.take k++[ns[k]]).sum
    rw [List.sum_append,List.sum_cons,List.sum_nil,Int.add_zero]
    rfl
theorem ZqJ (hc:X.calm=true):CallR X (.builtin "sum") (fun xs H Q=>∃(p:Addr) (ns:List Int),xs=[.ref p]∧SqL X.K H p (ns.map V.int)∧Q (.int ns.sum) H):=by
  intro pins s σ H xs us Q I r h
  obtain ⟨p,ns,rfl,hq,q⟩:=h
  obtain ⟨u,rfl,rx⟩:=Zgg r
  cases rx
  obtain ⟨its,r',pl,hz⟩:=I.list hq
  have hl:=r'.length
  rw [List.length_map] at hl
  refine call_sum_walkG (wpAny_pyIter_list pl.isList ?_)
  have hne:p≠s.heap.objs.size:=by
    obtain ⟨o,n,e,_⟩:=pl
    exact Nat.ne_of_lt (Heap.lt_size e)
  refine ⟨s.heap.objs.size,_,_,_,_,_,fun i=>ns.getD i 0,rfl,Walks.list (A:=X.A.in1) (I.ok.hd hc) _ p hne its.toArray,⟨⟨_,Heap.get?_push_size _ rfl,rfl,rfl⟩,?_⟩,?_,?_,fun h' tk t' hk=>?_⟩
  · obtain ⟨o,n,e,hc',hd,hs⟩:=pl
    exact ⟨o,Heap.get?_push_of_some _ e,hc',n,hs⟩
  · intro b hb
    have hb':b=s.heap.objs.size∨b=p:=by simpa using hb
    rcases hb' with rfl | rfl
    · show _<(s.heap.push _).objs.size
      rw [Heap.size_push]; exact Nat.lt_succ_self _
    · obtain ⟨o,n,e,_⟩:=pl
      show _<(s.heap.push _).objs.size
      rw [Heap.size_push]; exact Nat.lt_succ_of_lt (Heap.lt_size e)
  · intro i v hp
    have hp':its[i]?=some v:=by simpa using hp
    have hi:i<ns.length:=by rw [hl]; exact (List.getElem?_eq_some_iff.mp hp').1
    obtain ⟨u,hu,ru⟩:=r'.get (i:=i) (x:=.int (ns.getD i 0)) (by rw [List.getElem?_map,List.getElem?_eq_getElem hi,List.getD_eq_getElem?_getD,List.getElem?_eq_getElem hi]; rfl)
    rw [hp'] at hu; cases hu
    exact ru
  · refine ⟨.int ns.sum,H,(I.kept (t':=s.toks) fun b o e=>Heap.get?_push_of_some _ e).turned (it:=s.heap.objs.size) (fun b o hb e=>hk b o (by simpa using hb) e) (I.hok.fresh (Nat.le_refl _)) (Nat.ne_of_gt I.lt) (.inr I.sz) (fun x c e z=>?_) (fun q hq z=>?_),⟨t',?_⟩,q⟩
    · obtain ⟨v,w'⟩:=I.cell x c e
      exact absurd w'.lt (by rw [z]; exact Nat.lt_irrefl _)
    · exact absurd (Heap.lt_size (I.pin q hq).1) (by rw [z]; exact Nat.lt_irrefl _)
    · rw [List.size_toArray,←hl,Zia _ (Nat.le_refl _),List.take_length]
mutual
inductive RdV (K:PySem.W.Frag) (H:Hp):V→PyData→Prop
  | non:RdV K H .non .none
  | bl (b:Bool):RdV K H (.bl b) (.bool b)
  | int (i:Int):RdV K H (.int i) (.int i)
  | str (x:Str):RdV K H (.str x) (.str x)
  | lst {a:Addr} {xs:List V} {ds:List PyData}:SqL K H a xs→RdVs K H xs ds→RdV K H (.ref a) (.list ds)
  | tup {a:Addr} {xs:List V} {ds:List PyData}:SqT K H a xs→RdVs K H xs ds→RdV K H (.ref a) (.tuple ds)
inductive RdVs (K:PySem.W.Frag) (H:Hp):List V→List PyData→Prop
  | nil:RdVs K H [] []
  | cons {x:V} {xs:List V} {d:PyData} {ds:List PyData}:RdV K H x d→RdVs K H xs ds→RdVs K H (x::xs) (d::ds)
end
mutual
theorem RdV.reads {pins:List (Addr×Obj)} {σ:St} {H:Hp} {s:Shared} (I:Inv X pins σ H s):∀{x:V} {d:PyData} {u:Value},RdV X.K H x d→RelV x u→∃as,Reads s.heap u d as
  | _,_,_,.non,r=>by cases r; exact ⟨_,.none⟩
  | _,_,_,.bl b,r=>by cases r; exact ⟨_,.bool b⟩
  | _,_,_,.int i,r=>by obtain ⟨t,rfl⟩:=r; exact ⟨_,.int i t⟩
  | _,_,_,.str x,r=>by obtain ⟨t,rfl⟩:=r; exact ⟨_,.str x t⟩
  | _,_,_,.lst h hs,r=>by
    cases r
    obtain ⟨its,rv,⟨o,n,e,hc,hd,hq⟩,_⟩:=I.list h
    obtain ⟨as,q⟩:=RdVs.reads I hs rv
    exact ⟨_,.list e hc hq (by simpa using q)⟩
  | _,_,_,.tup h hs,r=>by
    cases r
    obtain ⟨its,rv,⟨o,e,hc,n,hq⟩,_⟩:=I.tuple h
    obtain ⟨as,q⟩:=RdVs.reads I hs rv
    exact ⟨_,.tuple e hc hq (by simpa using q)⟩
theorem RdVs.reads {pins:List (Addr×Obj)} {σ:St} {H:Hp} {s:Shared} (I:Inv X pins σ H s):∀{xs:List V} {ds:List PyData} {us:List Value},RdVs X.K H xs ds→Vals xs us→∃as,ReadsAll s.heap us ds as
  | _,_,_,.nil,r=>by cases r; exact ⟨_,.nil⟩
  | _,_,_,.cons h hs,r=>by
    cases r with
    | cons r rr=>
      obtain ⟨as,q⟩:=RdV.reads I h r
      obtain ⟨bs,q2⟩:=RdVs.reads I hs rr
      exact ⟨_,.cons q q2⟩
end
theorem Ztv (hu:X.A.units+64<cLine):OpR X (compareOp .Eq) (fun x y H Q=>∃d e:PyData,RdV X.K H x d∧RdV X.K H y e∧shaped d=true∧shaped e=true∧noMix d e=true∧Q (.bl (same d e)) H):=by
  intro pins s σ H x y v u Q I rx ry h
  obtain ⟨d,e,hd,he,sd,se,hm,q⟩:=h
  obtain ⟨as,ra⟩:=hd.reads I rx
  obtain ⟨bs,rb⟩:=he.reads I ry
  exact eq_dataH_same ra rb sd se hu hm ⟨.bl _,H,I,rfl,q⟩
theorem Zts (hu:X.A.units+64<cLine):OpR X (compareOp .NotEq) (fun x y H Q=>∃d e:PyData,RdV X.K H x d∧RdV X.K H y e∧shaped d=true∧shaped e=true∧noMix d e=true∧Q (.bl (!same d e)) H):=by
  intro pins s σ H x y v u Q I rx ry h
  obtain ⟨d,e,hd,he,sd,se,hm,q⟩:=h
  obtain ⟨as,ra⟩:=hd.reads I rx
  obtain ⟨bs,rb⟩:=he.reads I ry
  exact ne_dataH_same ra rb sd se hu hm ⟨.bl _,H,I,rfl,q⟩
theorem Zrx:OpR X (compareOp .IsNot) (fun x y H Q=>∃b c:Bool,x=.bl b∧y=.bl c∧Q (.bl (!(b == c))) H):=by
  intro pins s σ H x y v u Q I rx ry h
  obtain ⟨b,c,rfl,rfl,q⟩:=h
  cases rx
  cases ry
  have e:(Value.bool b == Value.bool c)=(b == c):=by cases b<;>cases c<;>rfl
  exact wpAny_isNot_plain rfl ⟨.bl _,H,I,rfl,by rw [e]; exact q⟩
def ZdL (xs:List V) (lo hi st:Option Int):List V:=(sliceRange (sliceBounds lo hi st xs.length).1 (sliceBounds lo hi st xs.length).2.1 (sliceBounds lo hi st xs.length).2.2).filterMap (xs[·]?)
theorem Vals.pick {xs:List V} {us:List Value} (r:Vals xs us):∀ks:List Nat,Vals (ks.filterMap (xs[·]?)) (ks.filterMap (us[·]?))
  | []=>.nil
  | k::ks=>by
    cases e:xs[k]? with
    | none=>
      have e':=r.none_of e
      rw [List.filterMap_cons_none e,List.filterMap_cons_none e']
      exact r.pick ks
    | some x=>
      obtain ⟨u,e',q⟩:=r.get e
      rw [List.filterMap_cons_some e,List.filterMap_cons_some e']
      exact .cons q (r.pick ks)
def Zya (K:PySem.W.Frag) (te:TE) (tl th ts:TO):TE:=fun σ H Q=>te σ H fun x H1=>tl σ H1 fun l H2=>th σ H2 fun u H3=>ts σ H3 fun st H4=>∃a xs,x=.ref a∧SqL K H4 a xs∧st≠some 0∧(ZdL xs l u st).length≤sizeLine∧
  ∀p,H4 p=none→Q (.ref p) (upd H4 p (.lst (ZdL xs l u st)))
theorem Znk {e sp:Expr} {te:TE} {lo hi:Option Expr} {tl th ts:TO} {pos p2:Pos} (he:PE X e te) (hl:PO X lo tl) (hu:PO X hi th) (hs:PO X (some sp) ts):PE X (.Subscript e (.Slice lo hi (some sp) p2) pos) (Zya X.K te tl th ts):=by
  intro pins s σ H Q I h
  refine Subscript_ (thn (he pins s σ H _ I h) fun v s1 ⟨x,H1,I1,r1,q1⟩=>?_)
  refine wpAny_Slice (thn (hl pins s1 σ H1 _ I1 q1) fun vl s2 ⟨l,H2,I2,pl,q2⟩=>thn (hu pins s2 σ H2 _ I2 q2) fun vu s3 ⟨u,H3,I3,pu,q3⟩=>thn (hs pins s3 σ H3 _ I3 q3) fun vs s4 ⟨st,H4,I4,ps,q4⟩=>?_)
  obtain ⟨a,xs,rfl,hx,h0,hz',q⟩:=q4
  cases r1
  have I5:Inv X pins σ H4 { s4 with heap:=s4.heap.push { cls:=.type "slice",data:=.fields #[vl,vu,vs] } }:=I4.kept (t':=s4.toks) fun b ob q=>Heap.get?_push_of_some _ q
  obtain ⟨its,r,ht,hz⟩:=I5.list hx
  have hlen:=r.length
  show wpAny (model X.prog X.w) X.A (subscriptTail e (.Slice lo hi (some sp) p2) (.ref a) (.ref s4.heap.objs.size)) (EP X pins σ Q) X.xe { s4 with heap:=s4.heap.push { cls:=.type "slice",data:=.fields #[vl,vu,vs] } }
  refine tail_any (ops:=[.ref a,.ref s4.heap.objs.size]) ht.isList.typeIs slot_list_getitem.lookup (wpAny_getItem_list_slice ht.isList (Heap.IsSliceOf.new ..) pl pu ps h0 ?_ (by rw [List.size_toArray]<;>omega)) (by with_unfolding_all rfl)
  have ep:slicePick its.toArray l u st=((sliceRange (sliceBounds l u st xs.length).1 (sliceBounds l u st xs.length).2.1 (sliceBounds l u st xs.length).2.2).filterMap (its[·]?)).toArray:=by
    unfold slicePick
    rw [List.size_toArray,←hlen]
    simp
  rw [ep]
  refine ⟨.ref _,_,I5.laid (t':=s4.toks) (o:=.lst (ZdL xs l u st)) (fun b ob q=>Heap.get?_push_of_some _ q) (Nat.le_refl _) ?_,rfl,q _ (I5.hok.fresh (Nat.le_refl _))⟩
  exact ⟨hz',_,0,r.pick _,Heap.get?_push_size _ rfl⟩
theorem Zf0:fillsNumberSlot (.type "tuple") "mul"=pure false:=
  PySem.fillsNumberSlot_seq (id:="tuple.__mul__") (r:=some (.builtin "tuple.__rmul__")) F.slot_tuple_mul.lookup (by decide +kernel) F.slot_tuple_rmul.lookup (by decide +kernel)
theorem ZiK:seqRepeat? (.type "tuple")=pure (some (.builtin "tuple.__mul__")):=by
  unfold seqRepeat?
  rw [PySem.seqSlot_of (T:="tuple") (name:="__mul__") (id:="tuple.__mul__") F.slot_tuple_mul.lookup (by decide +kernel),PySem.seqSlot_of (T:="tuple") (name:="__rmul__") (id:="tuple.__rmul__") F.slot_tuple_rmul.lookup (by decide +kernel)]
  rfl
end
end L2
namespace L2
open PySem PySem.Spec PyProof.Rows Builtin
theorem Zhl (a:Int) (t:Tok) (l:Addr) (items:Array Value) (n:Nat) (dd:Option Addr) (sl:Array (Option Value)) :
    Meets (Builtin.«int.__rmul__» ⟨[.int a t,.ref l],[]⟩) (fun _ R s=>s.heap.get? l=some { cls:=.type "tuple",dict:=dd,data:=.seq items n,slots:=sl }∧R (.ok (.ret Value.notImplemented)) s):=
  .of_wp fun prog w A R s h=>by obtain ⟨hp,g,d,tk,os⟩:=s; obtain ⟨hl,h⟩:=h; wp_walk; exact ⟨_,rfl,h⟩
theorem ZhQ (l:Addr) (items:Array Value) (n:Nat) (dd:Option Addr) (sl:Array (Option Value)) (u:Tok) :
    Meets (Builtin.«tuple.__mul__» ⟨[.ref l,.int 1 u],[]⟩) (fun _ R s=>s.heap.get? l=some { cls:=.type "tuple",dict:=dd,data:=.seq items n,slots:=sl }∧R (.ok (.ret (Value.ref l))) s):=
  .of_wp fun prog w A R s h=>by
    obtain ⟨hp,g,d,tk,os⟩:=s; obtain ⟨hl,h⟩:=h
    wp_walk
    exact ⟨_,rfl,h⟩
theorem ZgX (l:Addr) (items:Array Value) (n:Nat) (dd:Option Addr) (sl:Array (Option Value)) (u:Tok) (h0:items.isEmpty=false) :
    Meets (Builtin.«tuple.__mul__» ⟨[.ref l,.int 0 u],[]⟩) (fun _ R s=>s.heap.get? l=some { cls:=.type "tuple",dict:=dd,data:=.seq items n,slots:=sl }∧R (.ok (.ret (Value.ref s.heap.objs.size))) { s with heap:=s.heap.push { cls:=.type "tuple",data:=.seq #[] } }):=
  .of_wp fun prog w A R s h=>by
    obtain ⟨hp,g,d,tk,os⟩:=s; obtain ⟨hl,h⟩:=h
    wp_walk
    exact ⟨_,rfl,h⟩
theorem ZgY (l:Addr) (items:Array Value) (n:Nat) (dd:Option Addr) (sl:Array (Option Value)) (x:Int) (u:Tok) (h0:items.isEmpty=false) (h1:2≤x) (h2:x<1000) (h3:items.size*x≤1000) :
    Meets (Builtin.«tuple.__mul__» ⟨[.ref l,.int x u],[]⟩) (fun _ R s=>s.heap.get? l=some { cls:=.type "tuple",dict:=dd,data:=.seq items n,slots:=sl }∧R (.ok (.ret (Value.ref s.heap.objs.size))) { s with heap:=s.heap.push { cls:=.type "tuple",data:=.seq (List.foldl (fun x1 x2=>x1++x2) #[] (List.replicate x.toNat items)) } }):=
  .of_wp fun prog w A R s h=>by
    obtain ⟨hp,g,d,tk,os⟩:=s; obtain ⟨hl,h⟩:=h
    have c1:¬(decide (x < -(2 ^ 63)) || decide (x≥2 ^ 63))=true:=by rw [decide_eq_false (by omega),decide_eq_false (by omega)]; decide
    have c2:¬(items.isEmpty || x == 1)=true:=by
      have:(x == 1)=false:=by simp; omega
      rw [h0,this]; decide
    have c3:¬(decide (x≤0) || items.isEmpty)=true:=by rw [h0,decide_eq_false (by omega)]; decide
    have c4:¬((items.size:Int)*x > (2 ^ 63-1)/8):=by omega
    have c5:¬Tuple.tupleTooMany ((items.size:Int)*x)=true:=by
      unfold Tuple.tupleTooMany
      rw [decide_eq_false (by rw [sizeLine_eq]; omega)]
      decide
    wp_walk
    rw [if_neg c1]
    wp_walk
    rw [if_neg c2]
    show wpAny (model prog w) A.in1 (if (decide (x≤0) || items.isEmpty)=true then _ else if (items.size:Int)*x > (2 ^ 63-1)/8 then _ else if Tuple.tupleTooMany ((items.size:Int)*x)=true then _ else _) _ _ _
    rw [if_neg c3,if_neg c4,if_neg c5]
    have hz:(List.foldl (fun x1 x2=>x1++x2) #[] (List.replicate x.toNat items)).size≤sizeLine:=by
      have:(List.replicate x.toNat items).foldl (fun x1 x2=>x1++x2) #[]=(List.replicate x.toNat items.toList).flatten.toArray:=by
        have:=Zeu items.toList x.toNat []
        simpa using this
      rw [this,List.size_toArray,Zi9,sizeLine_eq]
      have e:items.toList.length=items.size:=by simp
      rw [e]
      have e2:((x.toNat*items.size:Nat):Int)=(items.size:Int)*x:=by
        rw [Int.natCast_mul,Int.mul_comm]
        congr 1
        omega
      omega
    wp_walk
    exact ⟨_,rfl,h⟩
section
variable {X:Cx}
def ZuW (K:PySem.W.Frag):R2:=fun x y H Q=>∃(a:Addr) (k:Int) (xs:List V),x=.ref a∧y=.int k∧SqT K H a xs∧xs≠[]∧0≤k∧k<1000∧(xs.length:Int)*k≤1000∧
  (k=1→Q (.ref a) H)∧(k≠1→∀p,H p=none→Q (.ref p) (upd H p (.tup (List.replicate k.toNat xs).flatten)))
theorem op_repT:OpR X (binaryOp .Mult) (ZuW X.K):=by
  intro pins s σ H x y v u Q I rx ry h
  obtain ⟨a,k,xs,rfl,rfl,hH,hne,h0,h1,h2,q1,q2⟩:=h
  cases rx
  obtain ⟨t,rfl⟩:=ry
  obtain ⟨its,r,pl,hz⟩:=I.tuple hH
  obtain ⟨⟨oc,dd,data,sl⟩,e,hc,n,hd⟩:=pl
  simp only at hc hd
  subst hc hd
  have hl:=r.length
  have he:its.toArray.isEmpty=false:=by
    cases r with
    | nil=>exact absurd rfl hne
    | cons _ _=>rfl
  refine wpAny_binaryOp_repeat_ref (T:="tuple") (U:="int") (by decide) ⟨_,e,rfl⟩ (fun s'=>typeIs_int s' k t) Zf0 F.fills_int_mul F.slot_int_rmul ZiK F.slot_int_index.lookup
    (call_meets F.slot_int_rmul (typeIs_int s k t) F.entry_int_rmul (F.args_int_rmul_2 _ _) (Zhl k t a its.toArray n dd sl) ⟨e,rfl,⟨_,e,rfl⟩,?_⟩)
  by_cases k1:k=1
  · subst k1
    exact call_meets F.slot_tuple_mul ⟨_,e,rfl⟩ F.entry_tuple_mul (F.args_tuple_mul_2 _ _) (ZhQ a its.toArray n dd sl t) ⟨e,.ref a,H,I,rfl,q1 rfl⟩
  · by_cases k0:k=0
    · subst k0
      refine call_meets F.slot_tuple_mul ⟨_,e,rfl⟩ F.entry_tuple_mul (F.args_tuple_mul_2 _ _) (ZgX a its.toArray n dd sl t he) ⟨e,.ref s.heap.objs.size,_,I.laid (t':=s.toks) (o:=.tup []) (fun b ob q=>Heap.get?_push_of_some _ q) (Nat.le_refl _) ?_,rfl,?_⟩
      · exact ⟨Nat.zero_le _,[],.nil,IsTup.new _ _⟩
      · exact q2 k1 _ (I.hok.fresh (Nat.le_refl _))
    · refine call_meets F.slot_tuple_mul ⟨_,e,rfl⟩ F.entry_tuple_mul (F.args_tuple_mul_2 _ _) (ZgY a its.toArray n dd sl k t he (by omega) h1 (by rw [List.size_toArray,←hl]; exact h2)) ⟨e,?_⟩
      have hnew:List.foldl (fun x1 x2=>x1++x2) #[] (List.replicate k.toNat its.toArray)=(List.replicate k.toNat its).flatten.toArray:=by
        have:=Zeu its k.toNat []
        rw [List.nil_append] at this
        exact this
      rw [hnew]
      refine ⟨.ref s.heap.objs.size,_,I.laid (t':=s.toks) (o:=.tup (List.replicate k.toNat xs).flatten) (fun b ob q=>Heap.get?_push_of_some _ q) (Nat.le_refl _) ?_,rfl,q2 k1 _ (I.hok.fresh (Nat.le_refl _))⟩
      refine ⟨?_,_,r.rep k.toNat,IsTup.new _ _⟩
      rw [Zi9,sizeLine_eq]
      have e2:((k.toNat*xs.length:Nat):Int)=(xs.length:Int)*k:=by
        rw [Int.natCast_mul,Int.mul_comm]
        congr 1
        omega
      omega
end
end L2
namespace My
open PySem L2
def Zae (t:Int):Int:=if t=0 then 0 else (t-1) % 65535+1
theorem ZgQ {t:Int} (h:0≤t):0≤Zae t∧Zae t≤65535∧(Zae t-t) % 65535=0∧(Zae t=0↔t=0):=by
  unfold Zae; split<;>omega
theorem ZeW {t:Int} (h:0≤t) (h1:t≤65535):Zae t=t:=by
  unfold Zae; split<;>omega
theorem Zio {t:Int} (h:65535<t):Zae (t % 65536+t/65536)=Zae t∧0≤t % 65536+t/65536∧t % 65536+t/65536<t:=by
  unfold Zae
  rw [if_neg (by omega),if_neg (by omega)]
  omega
def Z7:List Int→Int
  | []=>0
  | [a]=>256*a
  | a::b::r=>256*a+b+Z7 r
def ZdD:List Int→List Int
  | []=>[]
  | [a]=>[a]
  | a::_::r=>a::ZdD r
def Zg7:List Int→List Int
  | []=>[]
  | [_]=>[]
  | _::b::r=>b::Zg7 r
theorem Zml:∀ns:List Int,256*(ZdD ns).sum+(Zg7 ns).sum=Z7 ns
  | []=>rfl
  | [a]=>by simp [ZdD,Zg7,Z7]
  | a::b::r=>by
    have:=Zml r
    simp only [ZdD,Zg7,Z7,List.sum_cons]
    omega
theorem Zmj:∀{ns:List Int},(∀z∈ns,0≤z)→0≤Z7 ns
  | [],_=>by simp [Z7]
  | [a],h=>by have:=h a (by simp); simp only [Z7]; omega
  | a::b::r,h=>by
    have h1:=h a (by simp)
    have h2:=h b (by simp)
    have h3:=Zmj (ns:=r) fun z hz=>h z (by simp [hz])
    simp only [Z7]; omega
theorem ZgT:∀{ns ms:List Int},ns.length % 2=0→Z7 (ns++ms)=Z7 ns+Z7 ms
  | [],ms,_=>by simp [Z7]
  | [a],ms,h=>by simp at h
  | a::b::r,ms,h=>by
    have:=ZgT (ns:=r) (ms:=ms) (by simp only [List.length_cons] at h; omega)
    show Z7 (a::b::(r++ms))=_
    simp only [Z7,this]
    omega
theorem Zl9 {w:Int} (h:0≤w):Zae (w+(256*((65535-Zae w)/256)+(65535-Zae w) % 256))=65535:=by
  have e:256*((65535-Zae w)/256)+(65535-Zae w) % 256=65535-Zae w:=by omega
  rw [e]
  unfold Zae
  split<;>split<;>omega
theorem Zch:∀(m:Nat) (ns:List Int),ns.length≤2*m→((List.range m).map fun k=>2*k).filterMap (fun i=>(ns.map V.int)[i]?)=(ZdD ns).map V.int
  | 0,ns,h=>by
    have:ns=[]:=List.length_eq_zero_iff.mp (by omega)
    subst this; rfl
  | m+1,ns,h=>by
    rw [List.range_succ_eq_map,List.map_cons,List.map_map]
    have shift:∀(xs:List Int),(List.map ((fun k=>2*k)∘Nat.succ) (List.range m)).filterMap (fun i=>(xs.map V.int)[i]?)=((List.range m).map fun k=>2*k).filterMap (fun i=>((xs.drop 2).map V.int)[i]?):=fun xs=>by
      rw [List.filterMap_map,List.filterMap_map]
      congr 1
      funext k
      show (xs.map V.int)[2*(k+1)]?=((xs.drop 2).map V.int)[2*k]?
      rw [List.getElem?_map,List.getElem?_map,List.getElem?_drop]
      congr 2
      omega
    match ns,h with
    | [],_=>
      have:=shift []
      rw [List.filterMap_cons_none (by rfl),this,Zch m _ (by simp)]
      rfl
    | [a],_=>
      have:=shift [a]
      rw [List.filterMap_cons_some (b:=V.int a) (by rfl),this,Zch m _ (by simp)]
      rfl
    | a::b::r,h=>
      have:=shift (a::b::r)
      rw [List.filterMap_cons_some (b:=V.int a) (by rfl),this,Zch m _ (by simp only [List.length_cons] at h; simp; omega)]
      rfl
theorem ZmA:∀ns:List Int,Zg7 ns=ZdD (ns.drop 1)
  | []=>rfl
  | [_]=>rfl
  | [_,_]=>rfl
  | _::b::c::r=>by
    have:=ZmA (c::r)
    simp only [Zg7,List.drop,ZdD] at *
    rw [this]
theorem ZnL (ns:List Int):ZdL (ns.map V.int) none none (some 2)=(ZdD ns).map V.int:=by
  unfold ZdL sliceBounds sliceRange
  simp only [Option.getD_some,List.length_map,show ((2:Int) > 0)=True from eq_true (by decide),if_true]
  have e:(if (0:Int)<(ns.length:Int) then ((ns.length:Int)-0+2-1)/2 else 0).toNat=(ns.length+1)/2:=by split<;>omega
  rw [e]
  have e2:(fun k:Nat=>((0:Int)+2*(k:Int)).toNat)=fun k=>2*k:=by funext k; omega
  rw [e2]
  exact Zch _ ns (by omega)
theorem ZqF (ns:List Int):ZdL (ns.map V.int) (some 1) none (some 2)=(Zg7 ns).map V.int:=by
  unfold ZdL sliceBounds sliceRange
  simp only [Option.getD_some,List.length_map,show ((2:Int) > 0)=True from eq_true (by decide),show ((1:Int)<0)=False from eq_false (by decide),if_true,if_false]
  rw [ZmA]
  by_cases h:ns.length=0
  · have:ns=[]:=List.length_eq_zero_iff.mp h
    subst this; rfl
  · have e0:max (0:Int) (min 1 (ns.length:Int))=1:=by omega
    rw [e0]
    have e:(if (1:Int)<(ns.length:Int) then ((ns.length:Int)-1+2-1)/2 else 0).toNat=ns.length/2:=by split<;>omega
    rw [e,←Zch (ns.length/2) (ns.drop 1) (by rw [List.length_drop]; omega),List.filterMap_map,List.filterMap_map]
    congr 1
    funext k
    show (ns.map V.int)[((1:Int)+2*(k:Int)).toNat]?=((ns.drop 1).map V.int)[2*k]?
    rw [List.getElem?_map,List.getElem?_map,List.getElem?_drop]
    congr 2
theorem Zir:∀ns:List Int,(ZdD ns).length≤ns.length
  | []=>Nat.le_refl _
  | [_]=>Nat.le_refl _
  | _::_::r=>by have:=Zir r; simp only [ZdD,List.length_cons]; omega
theorem Zk4:∀ns:List Int,(Zg7 ns).length≤ns.length
  | []=>Nat.le_refl _
  | [_]=>Nat.zero_le _
  | _::_::r=>by have:=Zk4 r; simp only [Zg7,List.length_cons]; omega
def wpre (ns:List Int):Nat→Int
  | 0=>0
  | i+1=>wpre ns i+ns.getD i 0*(if i % 2=0 then 256 else 1)
theorem ZkO (a b:Int) (r:List Int):∀i,wpre (a::b::r) (i+2)=256*a+b+wpre r i
  | 0=>by simp [wpre]; omega
  | i+1=>by
    have e:(i+2) % 2=i % 2:=by omega
    rw [wpre,ZkO a b r i]
    show _+r.getD i 0*(if (i+2) % 2=0 then 256 else 1)=256*a+b+(wpre r i+r.getD i 0*(if i % 2=0 then 256 else 1))
    rw [e]
    omega
theorem ZkP:∀ns:List Int,wpre ns ns.length=Z7 ns
  | []=>rfl
  | [a]=>by simp [wpre,Z7]; omega
  | a::b::r=>by
    show wpre (a::b::r) (r.length+2)=_
    rw [ZkO,ZkP r]
    rfl
end My
namespace L2
open PySem PySem.Spec PyProof.Rows
section
variable {κ:Type} [DecidableEq κ]
def valV (kvs:List (κ×V)) (k:κ):Option V:=(kvs.find? fun kv=>decide (kv.1=k)).map (·.2)
def ZbV (kvs:List (κ×V)) (k:κ) (v:V):List (κ×V):=
  if (kvs.any fun kv=>decide (kv.1=k))=true then kvs.map (fun kv=>if kv.1=k then (kv.1,v) else kv) else kvs++[(k,v)]
def ZeI (kvs:List (κ×V)) (k:κ):List (κ×V):=kvs.filter fun kv=>decide (kv.1≠k)
theorem ZgV {p:κ×V} {r:List (κ×V)} {k:κ} (e:p.1=k):valV (p::r) k=some p.2:=by simp [valV,List.find?_cons,e]
theorem ZgW {p:κ×V} {r:List (κ×V)} {k:κ} (e:¬p.1=k):valV (p::r) k=valV r k:=by simp [valV,List.find?_cons,e]
theorem ZkQ (k:κ):∀kvs:List (κ×V),(kvs.any fun kv=>decide (kv.1=k))=(valV kvs k).isSome
  | []=>rfl
  | p::r=>by
    rw [List.any_cons]
    by_cases e:p.1=k
    · simp only [ZgV e,decide_eq_true e,Bool.true_or,Option.isSome_some]
    · rw [ZgW e,decide_eq_false e,Bool.false_or]; exact ZkQ k r
theorem ZdZ (kvs:List (κ×V)) (k:κ) (v:V):(ZbV kvs k v).length≤kvs.length+1:=by
  unfold ZbV
  split
  · rw [List.length_map]; omega
  · rw [List.length_append,List.length_cons,List.length_nil]; omega
theorem RelO.isSome_eq {o:Option V} {u:Option Value} (r:RelO o u):o.isSome=u.isSome:=by
  cases o with
  | none=>cases u with
    | none=>rfl
    | some _=>exact (show False from r).elim
  | some _=>cases u with
    | none=>exact (show False from r).elim
    | some _=>rfl
theorem RelO.getD {o:Option V} {u:Option Value} {d:V} {d':Value} (r:RelO o u) (rd:RelV d d'):RelV (o.getD d) (u.getD d'):=by
  cases o with
  | none=>cases u with
    | none=>exact rd
    | some _=>exact (show False from r).elim
  | some _=>cases u with
    | none=>exact (show False from r).elim
    | some _=>exact r
theorem KV.val {kvs:List (κ×V)} {vs:List (κ×Value)} (r:KV kvs vs) (k:κ):RelO (valV kvs k) (valueAt vs k):=by
  unfold KV at r
  induction r with
  | nil=>exact True.intro
  | @cons p q ps qs h t ih=>
    obtain ⟨h1,h2⟩:=h
    by_cases e:p.1=k
    · have e':q.1=k:=h1.symm.trans e
      have b:valueAt (q::qs) k=some q.2:=by simp [valueAt,List.find?_cons,e']
      rw [ZgV e,b]; exact h2
    · have e':¬q.1=k:=fun z=>e (h1.trans z)
      have b:valueAt (q::qs) k=valueAt qs k:=by simp [valueAt,List.find?_cons,e']
      rw [ZgW e,b]; exact ih
theorem KV.any {kvs:List (κ×V)} {vs:List (κ×Value)} (r:KV kvs vs) (k:κ):(kvs.any fun kv=>decide (kv.1=k))=vs.any fun kv=>decide (kv.1=k):=by
  unfold KV at r
  induction r with
  | nil=>rfl
  | cons h t ih=>rw [List.any_cons,List.any_cons,ih,h.1]
theorem KV.repl {kvs:List (κ×V)} {vs:List (κ×Value)} (r:KV kvs vs) (k:κ) {y:V} {u:Value} (ry:RelV y u) :
    KV (kvs.map fun kv=>if kv.1=k then (kv.1,y) else kv) (vs.map fun kv=>if kv.1=k then (kv.1,u) else kv):=by
  unfold KV at r ⊢
  induction r with
  | nil=>exact .nil
  | @cons p q ps qs h t ih=>
    rw [List.map_cons,List.map_cons]
    refine .cons ?_ ih
    obtain ⟨h1,h2⟩:=h
    by_cases e:p.1=k
    · rw [if_pos e,if_pos (h1.symm.trans e)]; exact ⟨h1,ry⟩
    · rw [if_neg e,if_neg (fun z=>e (h1.trans z))]; exact ⟨h1,h2⟩
theorem KV.put {kvs:List (κ×V)} {vs:List (κ×Value)} (r:KV kvs vs) (k:κ) {y:V} {u:Value} (ry:RelV y u):KV (ZbV kvs k y) (stored vs k u):=by
  unfold ZbV stored
  rw [r.any k]
  by_cases e:(vs.any fun kv=>decide (kv.1=k))=true
  · rw [if_pos e,if_pos e]; exact r.repl k ry
  · rw [if_neg e,if_neg e]; exact Paired.snoc r ⟨rfl,ry⟩
theorem KV.drop {kvs:List (κ×V)} {vs:List (κ×Value)} (r:KV kvs vs) (k:κ):KV (ZeI kvs k) (without vs k):=by
  unfold KV at r ⊢
  unfold ZeI without
  induction r with
  | nil=>exact .nil
  | @cons p q ps qs h t ih=>
    obtain ⟨h1,h2⟩:=h
    rw [List.filter_cons,List.filter_cons]
    by_cases e:p.1=k
    · have a:¬decide (p.1≠k)=true:=by simp [e]
      have b:¬decide (q.1≠k)=true:=by simp [h1.symm.trans e]
      rw [if_neg a,if_neg b]; exact ih
    · have e':¬q.1=k:=fun z=>e (h1.trans z)
      have a:decide (p.1≠k)=true:=by simp [e]
      have b:decide (q.1≠k)=true:=by simp [e']
      rw [if_pos a,if_pos b]; exact .cons ⟨h1,h2⟩ ih
theorem KV.length {kvs:List (κ×V)} {vs:List (κ×Value)} (r:KV kvs vs):kvs.length=vs.length:=Paired.length r
theorem Zlo (kvs:List (κ×V)) (k:κ):(ZeI kvs k).length≤kvs.length:=List.length_filter_le _ _
end
theorem Zfk {P:Program} {w:World} {k:Key} {u:Value} (r:RelV (kV k) u):(zQ P w).is k u=true:=by
  cases k with
  | inl i=>obtain ⟨t,e⟩:=(show ∃t,u=Value.int i t from r); subst e; exact Zk9 P w i t
  | inr x=>obtain ⟨t,e⟩:=(show ∃t,u=Value.str x t from r); subst e; exact Zk8 P w x t
theorem Zim {P:Program} {w:World}:∀{ks:List Key} {us:List Value},Vals (ks.map kV) us→ItemsAre (zQ P w) ks us
  | [],_,r=>by rw [List.map_nil] at r; cases r; exact .nil
  | k::ks,_,r=>by
    rw [List.map_cons] at r
    cases r with
    | cons h t=>exact .cons (Zfk h) (Zim t)
abbrev KT (H:Hp):List (List Key×V)→List (List Key×Addr×Value)→Prop:=Paired fun p q=>p.1=q.1∧H q.2.1=some (.tup (p.1.map kV))∧RelV p.2 q.2.2
theorem KT.val {H:Hp} {kvs:List (List Key×V)} {xs:List (List Key×Addr×Value)} (r:KT H kvs xs) (k:List Key):RelO (valV kvs k) ((atKey xs k).map (·.2)):=by
  induction r with
  | nil=>exact True.intro
  | @cons p q ps qs h t ih=>
    obtain ⟨h1,_,h2⟩:=h
    by_cases e:p.1=k
    · have e':q.1=k:=h1.symm.trans e
      have b:atKey (q::qs) k=some q.2:=by simp [atKey,List.find?_cons,e']
      rw [ZgV e,b]; exact h2
    · have e':¬q.1=k:=fun z=>e (h1.trans z)
      have b:atKey (q::qs) k=atKey qs k:=by simp [atKey,List.find?_cons,e']
      rw [ZgW e,b]; exact ih
theorem KT.repl {H:Hp} {kvs:List (List Key×V)} {xs:List (List Key×Addr×Value)} (r:KT H kvs xs) (k:List Key) {y:V} {u:Value} (ry:RelV y u) :
    KT H (kvs.map fun kv=>if kv.1=k then (kv.1,y) else kv) (xs.map (putAt k u)):=by
  induction r with
  | nil=>exact .nil
  | @cons p q ps qs h t ih=>
    rw [List.map_cons,List.map_cons]
    refine .cons ?_ ih
    obtain ⟨h1,h2,h3⟩:=h
    unfold putAt
    by_cases e:p.1=k
    · rw [if_pos e,if_pos (h1.symm.trans e)]; exact ⟨h1,h2,ry⟩
    · rw [if_neg e,if_neg (fun z=>e (h1.trans z))]; exact ⟨h1,h2,h3⟩
theorem KT.put {H:Hp} {kvs:List (List Key×V)} {xs:List (List Key×Addr×Value)} (r:KT H kvs xs) (k:List Key) {b:Addr} {y:V} {u:Value} (hb:H b=some (.tup (k.map kV))) (ry:RelV y u) :
    KT H (ZbV kvs k y) (storedH xs k b u):=by
  have e:(kvs.any fun kv=>decide (kv.1=k))=(atKey xs k).isSome:=by
    rw [ZkQ,(r.val k).isSome_eq,Option.isSome_map]
  unfold ZbV storedH
  rw [e]
  by_cases q:(atKey xs k).isSome=true
  · rw [if_pos q,if_pos q]; exact r.repl k ry
  · rw [if_neg q,if_neg q]; exact Paired.snoc r ⟨rfl,hb,ry⟩
theorem KT.keeps {H H':Hp} {kvs:List (List Key×V)} {xs:List (List Key×Addr×Value)} (r:KT H kvs xs) (ht:∀b ys,H b=some (.tup ys)→H' b=some (.tup ys)):KT H' kvs xs:=
  Paired.mapP r fun _ _ z=>⟨z.1,ht _ _ z.2.1,z.2.2⟩
section
variable {P:Program} {w:World} {H:Hp} {h:Heap} {a:Addr}
theorem Zsm {u:HO} (ok:HOk P w H h) (e:Rd H a u):ObjOk P w H h a u:=e.ok ok
theorem Zhq {kvs:List (Key×V)} (ok:HOk P w H h) (e:Rd H a (.dK kvs)):kvs.length≤sizeLine∧(a == sysModules)=false∧∃vs,KV kvs vs∧h.DictOf (zQ P w) a vs:=
  show ObjOk P w H h a (.dK kvs) from Zsm ok e
theorem ZmV {kvs:List (Key×V)} (ok:HOk P w H h) (e:H a=some (.dK kvs)):kvs.length≤sizeLine∧(a == sysModules)=false∧∃vs,KV kvs vs∧h.DictOf (zQ P w) a vs:=Zhq ok (.inl e)
theorem Zf5 {ks:List Key} (ok:HOk P w H h) (e:H a=some (.tup (ks.map kV))):(tupleKind (zQ P w)).is h ks a:=by
  obtain ⟨_,its,r,o,h1,h2,n,h3⟩:=(show ObjOk P w H h a (.tup (ks.map kV)) from ok a _ e)
  exact ⟨o,its.toArray,n,h1,h2,h3,by simpa using Zim r⟩
theorem Zhp {kvs:List (List Key×V)} (ok:HOk P w H h) (e:Rd H a (.dT kvs)):kvs.length≤sizeLine∧(a == sysModules)=false∧
    ∃xs,KT H kvs xs∧h.DictOfH (tupleKind (zQ P w)) a xs:=by
  obtain ⟨z,y,xs,r,o,es,ep,h1,h2,h3,h4,h5⟩:=(show ObjOk P w H h a (.dT kvs) from Zsm ok e)
  refine ⟨z,y,xs,r,o,es,ep,h1,h2,h3,h4,fun x hx=>?_,h5⟩
  have all:∀{l:List (List Key×V)} {m:List (List Key×Addr×Value)},KT H l m→∀x∈m,(tupleKind (zQ P w)).is h x.1 x.2.1:=by
    intro l m q
    induction q with
    | nil=>intro x hx; exact nomatch hx
    | @cons p q ps qs hq t ih=>
      intro x hx
      rcases List.mem_cons.mp hx with e | hx
      · subst e
        exact Zf5 ok (by rw [←hq.1]; exact hq.2.1)
      · exact ih x hx
  exact all r x hx
theorem ZvD {kvs:List (List Key×V)} (ok:HOk P w H h) (e:H a=some (.dT kvs)):kvs.length≤sizeLine∧(a == sysModules)=false∧
    ∃xs,KT H kvs xs∧h.DictOfH (tupleKind (zQ P w)) a xs:=Zhp ok (.inl e)
end
def DGet (H:Hp) (a:Addr) (y:V) (r:Option V):Prop:=
  (∃kvs k,Rd H a (.dK kvs)∧y=kV k∧r=valV kvs k)∨∃kvs k b,Rd H a (.dT kvs)∧y=.ref b∧H b=some (.tup (k.map kV))∧r=valV kvs k
def DPut (H:Hp) (a:Addr) (y v:V) (H':Hp):Prop:=
  (∃kvs k,H a=some (.dK kvs)∧y=kV k∧kvs.length<sizeLine∧H'=upd H a (.dK (ZbV kvs k v)))∨
  ∃kvs k b,H a=some (.dT kvs)∧y=.ref b∧H b=some (.tup (k.map kV))∧kvs.length<sizeLine∧H'=upd H a (.dT (ZbV kvs k v))
theorem DGet.k {H:Hp} {a:Addr} {kvs:List (Key×V)} {k:Key} (e:H a=some (.dK kvs)):DGet H a (kV k) (valV kvs k):=.inl ⟨kvs,k,.inl e,rfl,rfl⟩
theorem DGet.t {H:Hp} {a b:Addr} {kvs:List (List Key×V)} {k:List Key} (e:H a=some (.dT kvs)) (eb:H b=some (.tup (k.map kV))):DGet H a (.ref b) (valV kvs k):=.inr ⟨kvs,k,b,.inl e,rfl,eb,rfl⟩
theorem DPut.k {H:Hp} {a:Addr} {kvs:List (Key×V)} {k:Key} {v:V} (e:H a=some (.dK kvs)) (hl:kvs.length<sizeLine):DPut H a (kV k) v (upd H a (.dK (ZbV kvs k v))):=.inl ⟨kvs,k,e,rfl,hl,rfl⟩
theorem DPut.t {H:Hp} {a b:Addr} {kvs:List (List Key×V)} {k:List Key} {v:V} (e:H a=some (.dT kvs)) (eb:H b=some (.tup (k.map kV))) (hl:kvs.length<sizeLine) :
    DPut H a (.ref b) v (upd H a (.dT (ZbV kvs k v))):=.inr ⟨kvs,k,b,e,rfl,eb,hl,rfl⟩
section
variable {X:Cx} {pins:List (Addr×Obj)} {σ:St} {H:Hp} {s:Shared} {a:Addr} {y v:V} {u r:Value} {o:Option V} {A:Around} {E:Value→Shared→Prop}
theorem Inv.big (I:Inv X pins σ H s):sysModules<s.heap.objs.size:=by
  have h:mainGlobals<s.heap.objs.size:=(I.mod.glob.keeps I.bk).lt
  exact Nat.lt_trans (by decide) h
theorem ZnK {Q:Value→Shared→Prop} (hu:A.units+1<cLine) (I:Inv X pins σ H s) (g:DGet H a y (some v)) (ry:RelV y u) (h:∀w' s',Inv X pins σ H s'→RelV v w'→Q w' s') :
    wpAny (model X.prog X.w) A (getItem (.ref a) u) Q E s:=by
  rcases g with ⟨kvs,k,e,ey,l⟩ | ⟨kvs,k,b,e,ey,eb,l⟩
  · subst ey
    obtain ⟨z,hd,vs,rel,dd⟩:=Zhq I.hok e
    obtain ⟨w',hw,rw'⟩:=RelO.some_of (v:=v) (o:=valueAt vs k) (by rw [l]; exact rel.val k)
    exact wpAny_getItem_of (Zfk ry) dd.mapOf hw (h w' _ (I.tok _) rw')
  · subst ey
    cases (show u=Value.ref b from ry)
    obtain ⟨z,hd,xs,rel,dd⟩:=Zhp I.hok e
    obtain ⟨w',hw,rw'⟩:=RelO.some_of (v:=v) (o:=(atKey xs k).map (·.2)) (by rw [l]; exact rel.val k)
    obtain ⟨p,hp,hp2⟩:=Option.map_eq_some_iff.mp hw
    refine wpAny_getItem_heap (tupleKind_room_in1 hu) (Zf5 I.hok eb) dd hp ?_
    rw [hp2]
    exact h w' _ (I.tok _) rw'
theorem ZyX {Q:Value→Shared→Prop} (hu:A.units+1<cLine) (I:Inv X pins σ H s) (g:DGet H a y o) (ry:RelV y u) (h:∀s',Inv X pins σ H s'→Q (.bool o.isSome) s') :
    wpAny (model X.prog X.w) A (compareOp .In u (.ref a)) Q E s:=by
  rcases g with ⟨kvs,k,e,ey,l⟩ | ⟨kvs,k,b,e,ey,eb,l⟩
  · subst ey
    obtain ⟨z,hd,vs,rel,dd⟩:=Zhq I.hok e
    refine wpAny_in_of (Zfk ry) hd dd.mapOf ?_
    rw [←(rel.val k).isSome_eq,←l]
    exact h _ (I.tok _)
  · subst ey
    cases (show u=Value.ref b from ry)
    obtain ⟨z,hd,xs,rel,dd⟩:=Zhp I.hok e
    refine wpAny_in_heap (tupleKind_room_in1 hu) (Zf5 I.hok eb) hd dd ?_
    have q:=(rel.val k).isSome_eq
    rw [Option.isSome_map] at q
    rw [←q,←l]
    exact h _ (I.tok _)
theorem ZrX {Q:Value→Shared→Prop} (hu:A.units+1<cLine) (I:Inv X pins σ H s) (g:DGet H a y o) (ry:RelV y u) (h:∀s',Inv X pins σ H s'→Q (.bool (!o.isSome)) s') :
    wpAny (model X.prog X.w) A (compareOp .NotIn u (.ref a)) Q E s:=by
  rcases g with ⟨kvs,k,e,ey,l⟩ | ⟨kvs,k,b,e,ey,eb,l⟩
  · subst ey
    obtain ⟨z,hd,vs,rel,dd⟩:=Zhq I.hok e
    refine wpAny_notIn_of (Zfk ry) hd dd.mapOf ?_
    rw [←(rel.val k).isSome_eq,←l]
    exact h _ (I.tok _)
  · subst ey
    cases (show u=Value.ref b from ry)
    obtain ⟨z,hd,xs,rel,dd⟩:=Zhp I.hok e
    refine wpAny_notIn_heap (tupleKind_room_in1 hu) (Zf5 I.hok eb) hd dd ?_
    have q:=(rel.val k).isSome_eq
    rw [Option.isSome_map] at q
    rw [←q,←l]
    exact h _ (I.tok _)
theorem Zfs {h':Heap} {t':Nat} {ob:HO} (I:Inv X pins σ H s) (mu:Mut (H a)) (hs:Heap.SameBut a s.heap h') (he:∃q,h'.get? a=some q) (new:ObjOk X.prog X.w (upd H a ob) h' a ob) :
    Inv X pins σ (upd H a ob) { s with heap:=h',toks:=t' }:=
  I.write (x:=a) (e:=a) mu (.inl rfl) (fun b q hb z=>(hs.2 b hb).trans z) he new
theorem Zjf {P:Program} {w:World} {H':Hp} {h':Heap} {kvs:List (Key×V)} {vs:List (Key×Value)} (z:kvs.length≤sizeLine) (hd:(a == sysModules)=false) (rel:KV kvs vs) (dd:h'.DictOf (zQ P w) a vs) :
    ObjOk P w H' h' a (.dK kvs):=⟨z,hd,vs,rel,dd⟩
theorem ZnJ {H':Hp} {Q:Unit→Shared→Prop} (hu:A.units+1<cLine) (I:Inv X pins σ H s) (g:DPut H a y v H') (ry:RelV y u) (rv:RelV v r) (h:∀s',Inv X pins σ H' s'→Q () s') :
    wpAny (model X.prog X.w) A (setItem (.ref a) u r) Q E s:=by
  rcases g with ⟨kvs,k,e,ey,l,eH⟩ | ⟨kvs,k,b,e,ey,eb,l,eH⟩
  · subst ey eH
    obtain ⟨z,hd,vs,rel,dd⟩:=ZmV I.hok e
    have hz:vs.length≤sizeLine:=by rw [←rel.length]; exact z
    have hl:(ZbV kvs k v).length≤sizeLine:=by have:=ZdZ kvs k v; omega
    refine wpAny_setItem_pairs (hsz:=hz) (Zfk ry) dd fun h' dd' hs=>h _ ?_
    have he:∃q,h'.get? a=some q:=let ⟨q,_,_,hq,_⟩:=dd'; ⟨q,hq⟩
    exact Zfs I (by rw [e]; exact True.intro) hs he (Zjf hl hd (rel.put k rv) dd')
  · subst ey eH
    cases (show u=Value.ref b from ry)
    obtain ⟨z,hd,xs,rel,dd⟩:=ZvD I.hok e
    have hz:xs.length≤sizeLine:=by rw [←Paired.length rel]; exact z
    have hl:(ZbV kvs k v).length≤sizeLine:=by have:=ZdZ kvs k v; omega
    refine wpAny_setItem_heap (hsz:=hz) (tupleKind_room_in1 hu) (Zf5 I.hok eb) dd fun h' dd' hs=>h _ ?_
    obtain ⟨q,es,ep,hq,h2,h3,h4,_,h5⟩:=dd'
    refine Zfs I (by rw [e]; exact True.intro) hs ⟨q,hq⟩ ⟨hl,hd,_,(rel.put k eb rv).keeps fun c ys ec=>?_,q,es,ep,hq,h2,h3,h4,h5⟩
    rw [ZT (Zvg ec e (fun z=>nomatch z))]
    exact ec
end
section
variable {X:Cx} {pins:List (Addr×Obj)} {σ:St} {H:Hp} {s:Shared} {a:Addr} {kvs:List (Key×V)} {k:Key} {u:Value} {A:Around} {E:Value→Shared→Prop}
theorem Zuk {Q:Unit→Shared→Prop} (I:Inv X pins σ H s) (e:H a=some (.dK kvs)) (ry:RelV (kV k) u) (l:(valV kvs k).isSome=true) (h:∀s',Inv X pins σ (upd H a (.dK (ZeI kvs k))) s'→Q () s') :
    wpAny (model X.prog X.w) A (delItem (.ref a) u) Q E s:=by
  obtain ⟨z,hd,vs,rel,dd⟩:=ZmV I.hok e
  refine wpAny_delItem_slot dd.typeIs (by decide) PySem.F.slot_dict_delitem
    (call_meetsIn PySem.F.slot_dict_delitem dd.typeIs PySem.F.entry_dict_delitem (PySem.F.args_dict_delitem_2 _ _) (meets_dict_delitem_pairs (zQ X.prog X.w) a (Zfk ry)) ⟨vs,dd,by rw [←rel.length]; exact z,by rw [←(rel.val k).isSome_eq]; exact l,fun h' dd' hs=>h _ ?_⟩)
  have he:∃q,h'.get? a=some q:=let ⟨q,_,_,hq,_⟩:=dd'; ⟨q,hq⟩
  exact Zfs I (by rw [e]; exact True.intro) hs he (Zjf (Nat.le_trans (Zlo kvs k) z) hd (rel.drop k) dd')
theorem ZvE {v:V} {more:List Value} {Q:Value→Shared→Prop} (I:Inv X pins σ H s) (e:H a=some (.dK kvs)) (ry:RelV (kV k) u) (l:valV kvs k=some v) (hm:more=[]∨∃x,more=[x])
    (h:∀w' s',Inv X pins σ (upd H a (.dK (ZeI kvs k))) s'→RelV v w'→Q w' s'):wpAny (model X.prog X.w) A (call (.builtin "dict.pop") (.ref a::u::more)) Q E s:=by
  obtain ⟨z,hd,vs,rel,dd⟩:=ZmV I.hok e
  obtain ⟨w',hw,rw'⟩:=RelO.some_of (v:=v) (o:=valueAt vs k) (by rw [←l]; exact rel.val k)
  have hp:(keyPart u).isSome=true:=by
    cases k with
    | inl i=>obtain ⟨t,q⟩:=(show ∃t,u=Value.int i t from ry); subst q; rfl
    | inr x=>obtain ⟨t,q⟩:=(show ∃t,u=Value.str x t from ry); subst q; rfl
  have ha:argsOk "dict.pop" ⟨.ref a::u::more,[]⟩:=by
    rcases hm with q | ⟨x,q⟩
    · subst q; exact PySem.F.args_dict_pop_2 _ _
    · subst q; exact PySem.F.args_dict_pop_3 _ _ _
  refine call_meetsIn PySem.F.slot_dict_pop dd.typeIs PySem.F.entry_dict_pop ha (meets_dict_pop_there (zQ X.prog X.w) a (Zfk ry) more hm hp)
    ⟨vs,w',dd,by rw [←rel.length]; exact z,hw,fun h' dd' hs=>h w' _ ?_ rw'⟩
  have he:∃q,h'.get? a=some q:=let ⟨q,_,_,hq,_⟩:=dd'; ⟨q,hq⟩
  exact Zfs I (by rw [e]; exact True.intro) hs he (Zjf (Nat.le_trans (Zlo kvs k) z) hd (rel.drop k) dd')
end
def ZtY (i:Expr):Prop:=∀ov iv,subscripted i false ov iv=operate [ov,iv] (getItem ov iv)
theorem Zq8 {prog:Program} {w:World} {A:Around} {E:Value→Shared→Prop} {s:Shared} {env:Env} {value slice:Expr} {pos:Pos} {T id:String} {Q:Value→Shared→Prop}
    (hl:typeLookup (.type T) "__getitem__"=pure (some (.builtin id))) (hs:ZtY slice)
    (h:wpAny (model prog w) A (eval value env) (fun o s₁=>wpAny (model prog w) A (eval slice env) (fun i s₂=>s₂.TypeIs o T∧wpAny (model prog w) A (getItem o i) Q E s₂) E s₁) E s) :
    wpAny (model prog w) A (eval (.Subscript value slice pos) env) Q E s:=by
  refine Subscript_ (wpAny_mono h (fun o s₁ h₁=>wpAny_mono h₁ (fun i s₂ h₂=>?_) fun _ _ x=>x) fun _ _ x=>x)
  obtain ⟨hT,h₂⟩:=h₂
  unfold subscriptTail
  refine wpAny_bind ?_
  rw [getitemInPython_of_ne hT.not_modules]
  refine wpAny_bind (wpAny_specialOf hT hl ?_)
  have fin:wpAny (model prog w) A (subscripted slice false o i) (fun r s₃=>wpAny (model prog w) A (letTemporaryGo value o r >>= fun _=>pure r) Q E s₃) E s₂:=by
    rw [hs o i]
    exact wpAny_operating (wpAny_mono h₂ (fun r s₃ h₃=>wpAny_bind (wpAny_letTemporaryGo (wpAny_pure h₃))) fun _ _ x=>x)
  first
    | exact wpAny_pure (wpAny_bind fin)
    | exact wpAny_bind (wpAny_pure (wpAny_bind fin))
    | exact wpAny_bind fin
theorem Zlp {X:Cx} {pins:List (Addr×Obj)} {σ:St} {H:Hp} {s:Shared} {a:Addr} {y:V} {o:Option V} (I:Inv X pins σ H s) (g:DGet H a y o):s.TypeIs (.ref a) "dict":=by
  rcases g with ⟨kvs,k,e,_,_⟩ | ⟨kvs,k,b,e,_,_,_⟩
  · obtain ⟨_,_,vs,_,dd⟩:=Zhq I.hok e
    exact dd.typeIs
  · obtain ⟨_,_,xs,_,dd⟩:=Zhp I.hok e
    exact dd.typeIs
def ZuO (td ty:TE):TE:=fun σ H Q=>td σ H fun x H1=>ty σ H1 fun y H2=>∃a v,x=.ref a∧DGet H2 a y (some v)∧Q v H2
def ZuN (ty td:TE):TE:=fun σ H Q=>ty σ H fun y H1=>td σ H1 fun x H2=>∃a o,x=.ref a∧DGet H2 a y o∧Q (.bl o.isSome) H2
def Zmq (ty td:TE):TE:=fun σ H Q=>ty σ H fun y H1=>td σ H1 fun x H2=>∃a o,x=.ref a∧DGet H2 a y o∧Q (.bl (!o.isSome)) H2
def ZuU (td ty tv:TE):TS:=fun D σ H=>tv σ H fun v H1=>td σ H1 fun x H2=>ty σ H2 fun y H3=>∃a H4,x=.ref a∧DPut H3 a y v H4∧D.nx σ H4
section
variable {X:Cx} {o i e value:Expr} {pos pos' tpos:Pos} {td ty tv:TE}
theorem Zrt (hu:X.A.units+1<cLine) (ho:PE X o td) (hi:PE X i ty) (hs:ZtY i):PE X (.Subscript o i pos) (ZuO td ty):=by
  intro pins s σ H Q I h
  refine Zq8 PySem.F.slot_dict_getitem.lookup hs (thn (ho pins s σ H _ I h) fun u s1 ⟨x,H1,I1,rx,q1⟩=>thn (hi pins s1 σ H1 _ I1 q1) fun iv s2 ⟨y,H2,I2,ry,a,v,ex,g,q2⟩=>?_)
  subst ex
  obtain rfl:u=Value.ref a:=rx
  exact ⟨Zlp I2 g,ZnK hu I2 g ry fun w' s3 I3 rw'=>⟨v,H2,I3,rw',q2⟩⟩
theorem Ztp (hu:X.A.units+1<cLine) (hi:PE X i ty) (ho:PE X o td):PC X .In i o (ZuN ty td):=by
  intro pins s σ H Q I h
  refine thn (hi pins s σ H _ I h) fun iv s1 ⟨y,H1,I1,ry,q1⟩=>thn (ho pins s1 σ H1 _ I1 q1) fun u s2 ⟨x,H2,I2,rx,a,ov,ex,g,q2⟩=>?_
  subst ex
  obtain rfl:u=Value.ref a:=rx
  exact ZyX hu I2 g ry fun s3 I3=>⟨.bl ov.isSome,H2,I3,rfl,q2⟩
theorem Znm (hu:X.A.units+1<cLine) (hi:PE X i ty) (ho:PE X o td):PC X .NotIn i o (Zmq ty td):=by
  intro pins s σ H Q I h
  refine thn (hi pins s σ H _ I h) fun iv s1 ⟨y,H1,I1,ry,q1⟩=>thn (ho pins s1 σ H1 _ I1 q1) fun u s2 ⟨x,H2,I2,rx,a,ov,ex,g,q2⟩=>?_
  subst ex
  obtain rfl:u=Value.ref a:=rx
  exact ZrX hu I2 g ry fun s3 I3=>⟨.bl (!ov.isSome),H2,I3,rfl,q2⟩
theorem Zmw (hu:X.A.units+1<cLine) (ho:PE X o td) (hi:PE X i ty) (hv:PE X value tv) (hs:swapsWith value (some (.Subscript o i pos')) pos.line X.env=pure false) :
    PS X (.Assign [.Subscript o i pos'] value pos) (ZuU td ty tv):=by
  intro pins s σ H D I h
  refine wpAny_Assign_Subscript (thn (hv pins s σ H _ I h) fun r s1 ⟨v,H1,I1,rv,q1⟩=>thn (ho pins s1 σ H1 _ I1 q1) fun u s2 ⟨x,H2,I2,rx,q2⟩=>thn (hi pins s2 σ H2 _ I2 q2) fun iv s3 ⟨y,H3,I3,ry,a,H4,ex,g,q3⟩=>?_) hs
  subst ex
  obtain rfl:u=Value.ref a:=rx
  exact ZnJ hu I3 g ry rv fun s4 I4=>⟨σ,H4,I4,q3⟩
end
theorem ZqD {P:Program} {w:World} {H:Hp} (h:Heap) (hb:sysModules<h.objs.size):ObjOk P w H (h.push { cls:=.type "dict",data:=.dict #[] }) h.objs.size (.dK []):=
  ⟨Nat.zero_le _,beq_eq_false_iff_ne.mpr (Ne.symm (Nat.ne_of_lt hb)),[],.nil,Heap.DictOf.new h⟩
theorem ZqB {P:Program} {w:World} {H:Hp} (h:Heap) (hb:sysModules<h.objs.size):ObjOk P w H (h.push { cls:=.type "dict",data:=.dict #[] }) h.objs.size (.dT []):=
  ⟨Nat.zero_le _,beq_eq_false_iff_ne.mpr (Ne.symm (Nat.ne_of_lt hb)),[],.nil,_,#[],0,Heap.get?_push_size _ rfl,⟨rfl,rfl,rfl⟩,rfl,rfl,List.nodup_nil⟩
def Zs1:TE:=fun _ H Q=>∀p,H p=none→Q (.ref p) (upd H p (.dK []))
def Zs0:TE:=fun _ H Q=>∀p,H p=none→Q (.ref p) (upd H p (.dT []))
section
variable {X:Cx} {pos:Pos}
theorem ZpT:PE X (.Dict [] [] pos) Zs1:=fun pins s σ H Q I h=>
  wpAny_Dict_empty ⟨.ref s.heap.objs.size,_,I.laid (a:=s.heap.objs.size) (o:=.dK []) (t':=s.toks) (fun _ _ q=>Heap.get?_push_of_some _ q) (Nat.le_refl _) (ZqD s.heap I.big),rfl,h _ (I.hok.fresh (Nat.le_refl _))⟩
theorem ZpS:PE X (.Dict [] [] pos) Zs0:=fun pins s σ H Q I h=>
  wpAny_Dict_empty ⟨.ref s.heap.objs.size,_,I.laid (a:=s.heap.objs.size) (o:=.dT []) (t':=s.toks) (fun _ _ q=>Heap.get?_push_of_some _ q) (Nat.le_refl _) (ZqB s.heap I.big),rfl,h _ (I.hok.fresh (Nat.le_refl _))⟩
end
structure M1 (X:Cx) (o:Expr) (m:Str) (apos:Pos) (e:Expr) (cpos:Pos):Prop where
  base:attributeBase o m X.env (eval o X.env)=eval o X.env
  few:((backTo cpos (starEach [e] X.env)).all (fun x=>!x.1) && (backToKw cpos (keywordEach [] X.env)).all (fun x=>x.1.isSome)
    && decide (([e]:List Expr).length+([]:List Keyword).length+(if ([]:List Keyword).isEmpty then 0 else 1)<30))=true
  line:(apos.endLine == cpos.line)=true
  trees:backTo cpos (starEach [e] X.env)=[(false,eval e X.env)]
structure M2 (X:Cx) (o:Expr) (m:Str) (apos:Pos) (e f:Expr) (cpos:Pos):Prop where
  base:attributeBase o m X.env (eval o X.env)=eval o X.env
  few:((backTo cpos (starEach [e,f] X.env)).all (fun x=>!x.1) && (backToKw cpos (keywordEach [] X.env)).all (fun x=>x.1.isSome)
    && decide (([e,f]:List Expr).length+([]:List Keyword).length+(if ([]:List Keyword).isEmpty then 0 else 1)<30))=true
  line:(apos.endLine == cpos.line)=true
  trees:backTo cpos (starEach [e,f] X.env)=[(false,eval e X.env),(false,eval f X.env)]
def IsD (H:Hp) (a:Addr):Prop:=(∃kvs,Rd H a (.dK kvs))∨∃kvs,Rd H a (.dT kvs)
theorem Zl5 {X:Cx} {pins:List (Addr×Obj)} {σ:St} {H:Hp} {s:Shared} {a:Addr} (I:Inv X pins σ H s) (d:IsD H a) :
    s.TypeIs (.ref a) "dict"∧(∀b,Value.ref a=.ref b→∃ob,s.heap.get? b=some ob∧ob.dict=none)∧(a == sysModules)=false:=by
  rcases d with ⟨kvs,e⟩ | ⟨kvs,e⟩
  · obtain ⟨_,hd,vs,_,dd⟩:=Zhq I.hok e
    refine ⟨dd.typeIs,fun b q=>?_,hd⟩
    cases q
    obtain ⟨ob,_,_,h1,h2,_⟩:=dd
    exact ⟨ob,h1,h2.2.1⟩
  · obtain ⟨_,hd,xs,_,dd⟩:=Zhp I.hok e
    refine ⟨dd.typeIs,fun b q=>?_,hd⟩
    cases q
    obtain ⟨ob,_,_,h1,h2,_⟩:=dd
    exact ⟨ob,h1,h2.2.1⟩
section
variable {X:Cx} {pins:List (Addr×Obj)} {σ:St} {H:Hp} {s:Shared} {a:Addr} {y d:V} {u r:Value} {o:Option V} {A:Around} {E:Value→Shared→Prop}
theorem ZtR {Q:Value→Shared→Prop} (hu:A.units+1<cLine) (I:Inv X pins σ H s) (g:DGet H a y o) (ry:RelV y u) (h:∀w' s',Inv X pins σ H s'→RelV (o.getD .non) w'→Q w' s') :
    wpAny (model X.prog X.w) A (call (.builtin "dict.get") [.ref a,u]) Q E s:=by
  rcases g with ⟨kvs,k,e,ey,l⟩ | ⟨kvs,k,b,e,ey,eb,l⟩
  · subst ey
    obtain ⟨z,hd,vs,rel,dd⟩:=Zhq I.hok e
    refine call_meetsIn PySem.F.slot_dict_get dd.typeIs PySem.F.entry_dict_get (PySem.F.args_dict_get_2 _ _) (meets_dict_get (zQ X.prog X.w) a (Zfk ry) hd) ⟨_,dd.mapOf,h _ _ (I.tok _) ?_⟩
    rw [l]
    exact (rel.val k).getD rfl
  · subst ey
    cases (show u=Value.ref b from ry)
    obtain ⟨z,hd,xs,rel,dd⟩:=Zhp I.hok e
    refine call_meetsIn PySem.F.slot_dict_get dd.typeIs PySem.F.entry_dict_get (PySem.F.args_dict_get_2 _ _) (meetsH_dict_get (tupleKind (zQ X.prog X.w)) a b hd) ⟨tupleKind_room_in1 hu,k,xs,Zf5 I.hok eb,dd,h _ _ (I.tok _) ?_⟩
    rw [l]
    exact (rel.val k).getD rfl
end
def Zs2 (td ty:TE):TE:=fun σ H Q=>td σ H fun x H1=>∃a,x=.ref a∧IsD H1 a∧ty σ H1 fun y H2=>∃o,DGet H2 a y o∧Q (o.getD .non) H2
def ZsZ (td ty:TE):TE:=fun σ H Q=>td σ H fun x H1=>∃a,x=.ref a∧IsD H1 a∧ty σ H1 fun y H2=>∃kvs k v,H2 a=some (.dK kvs)∧y=kV k∧valV kvs k=some v∧Q v (upd H2 a (.dK (ZeI kvs k)))
section
variable {X:Cx} {o e f:Expr} {apos cpos:Pos} {td ty tx:TE}
theorem ZpU (hu:X.A.units+1<cLine) (ho:PE X o td) (he:PE X e ty) (m:M1 X o "get" apos e cpos):PE X (.Call (.Attribute o "get" apos) [e] [] cpos) (Zs2 td ty):=by
  intro pins s σ H Q I h
  refine wpAny_Call_method m.base m.few m.line PySem.F.plainAttrs_dict PySem.F.slot_dict_get PySem.F.type_dict_get (thn (ho pins s σ H _ I h) fun u s1 ⟨x,H1,I1,rx,a,ex,d,q1⟩=>?_)
  subst ex
  obtain rfl:u=Value.ref a:=rx
  obtain ⟨t1,t2,_⟩:=Zl5 I1 d
  refine ⟨t1,t2,?_⟩
  rw [m.trees]
  refine Calls.callWith_builtin rfl (Calls.evalArgs_plain (Calls.spliced_cons (thn (he pins s1 σ H1 _ I1 q1) fun iv s2 ⟨y,H2,I2,ry,ov,g,q2⟩=>Calls.spliced_nil ?_)))
  exact ZtR hu I2 g ry fun w' s3 I3 rw'=>⟨_,H2,I3,rw',q2⟩
theorem ZpR (ho:PE X o td) (he:PE X e ty) (m:M1 X o "pop" apos e cpos):PE X (.Call (.Attribute o "pop" apos) [e] [] cpos) (ZsZ td ty):=by
  intro pins s σ H Q I h
  refine wpAny_Call_method m.base m.few m.line PySem.F.plainAttrs_dict PySem.F.slot_dict_pop PySem.F.type_dict_pop (thn (ho pins s σ H _ I h) fun u s1 ⟨x,H1,I1,rx,a,ex,d,q1⟩=>?_)
  subst ex
  obtain rfl:u=Value.ref a:=rx
  obtain ⟨t1,t2,_⟩:=Zl5 I1 d
  refine ⟨t1,t2,?_⟩
  rw [m.trees]
  refine Calls.callWith_builtin rfl (Calls.evalArgs_plain (Calls.spliced_cons (thn (he pins s1 σ H1 _ I1 q1) fun iv s2 ⟨y,H2,I2,ry,kvs,k,v,ea,ey,l,q2⟩=>Calls.spliced_nil ?_)))
  subst ey
  exact ZvE I2 ea ry l (.inl rfl) fun w' s3 I3 rw'=>⟨v,_,I3,rw',q2⟩
end
section
variable {X:Cx} {pins:List (Addr×Obj)} {σ:St} {H:Hp} {s:Shared} {a:Addr} {kvs:List (Key×V)} {A:Around} {E:Value→Shared→Prop}
end
section
variable {X:Cx} {pins:List (Addr×Obj)} {σ:St} {H:Hp} {s:Shared} {a:Addr} {y:V} {u:Value} {A:Around} {E:Value→Shared→Prop}
end
end L2
namespace L2.MM
open PySem PySem.Spec PyProof.Rows
theorem nr {α:Sort _} {a b:α} (h:a=b):a=b:=h
inductive D where
  | non | bl (b:Bool) | int (i:Int) | str (x:Str) | ty (n:String)
  | scr (ns:List Int) | tup (xs:List D) | lst (xs:List D) | ref (l:Nat)
  deriving Inhabited
inductive Cell where
  | lst (xs:List D) | dK (kvs:List (Key×D)) | dT (kvs:List (List Key×D)) | ins (C:Str) (fs:List (Str×D))
abbrev Sto:=List Cell
structure Bx where
  n:Nat
  m:Nat→Addr
  F:Addr→Prop
  os:List Addr
  ks:Addr→List Int→Prop
def Bx.ok (B:Bx) (a:Addr):Prop:=(∀i,i<B.n→B.m i≠a)∧¬B.F a∧a∉B.os
mutual
def RepV (B:Bx) (H:Hp):D→V→Prop
  | .non,v=>v=.non
  | .bl b,v=>v=.bl b
  | .int i,v=>v=.int i
  | .str x,v=>v=.str x
  | .ty n,v=>v=.ty n
  | .scr ns,v=>∃a,v=.ref a∧((∃o,H a=some (.frz o (.lst (ns.map V.int)))∧B.ok a)∨B.ks a ns)
  | .tup xs,v=>∃a vs,v=.ref a∧H a=some (.tup vs)∧B.ok a∧RepL B H xs vs
  | .lst xs,v=>∃a vs,v=.ref a∧H a=some (.lst vs)∧B.ok a∧RepL B H xs vs
  | .ref l,v=>l<B.n∧v=.ref (B.m l)
def RepL (B:Bx) (H:Hp):List D→List V→Prop
  | [],vs=>vs=[]
  | d::ds,vs=>∃v r,vs=v::r∧RepV B H d v∧RepL B H ds r
end
abbrev RepKV {κ:Type} (B:Bx) (H:Hp):List (κ×D)→List (κ×V)→Prop:=Paired fun p q=>p.1=q.1∧RepV B H p.2 q.2
structure ExtS (B B':Bx) (H H':Hp):Prop where
  n:B.n≤B'.n
  m:∀i,i<B.n→B'.m i=B.m i
  fr:∀i,B.n≤i→i<B'.n→H (B'.m i)=none
  keep:∀a o,H a=some o→(∀i,i<B.n→B.m i≠a)→a∉B.os→H' a=some o
  sm:∀a,H a≠none→H' a≠none
  os:∀a,a∈B'.os→a∈B.os∨H a=none
  F:B'.F=B.F
  ks:B'.ks=B.ks
structure ExtE (B B':Bx) (H H':Hp):Prop extends ExtS B B' H H' where
  osE:B'.os=B.os
  ko:∀a o,a∈B.os→(∀i,i<B.n→B.m i≠a)→H a=some o→H' a=some o
theorem ExtS.refl (B:Bx) (H:Hp):ExtS B B H H:=⟨Nat.le_refl _,fun _ _=>rfl,fun i h h'=>absurd h' (Nat.not_lt.mpr h),fun _ _ h _ _=>h,fun _ h=>h,fun _ h=>.inl h,rfl,rfl⟩
theorem ExtE.refl (B:Bx) (H:Hp):ExtE B B H H:=⟨ExtS.refl B H,rfl,fun _ _ _ _ h=>h⟩
section
variable {B B' B'':Bx} {H H' H'':Hp}
theorem Bx.ok.ext {a:Addr} {o:HO} (k:B.ok a) (E:ExtS B B' H H') (h:H a=some o):B'.ok a∧H' a=some o:=by
  refine ⟨⟨fun i hi e=>?_,by rw [E.F]; exact k.2.1,fun z=>?_⟩,E.keep a o h k.1 k.2.2⟩
  · by_cases q:i<B.n
    · rw [E.m i q] at e; exact k.1 i q e
    · have:=E.fr i (Nat.not_lt.mp q) hi
      rw [e,h] at this; cases this
  · rcases E.os a z with z | z
    · exact k.2.2 z
    · rw [h] at z; cases z
theorem ExtS.trans (E:ExtS B B' H H') (E':ExtS B' B'' H' H''):ExtS B B'' H H'' where
  n:=Nat.le_trans E.n E'.n
  m:=fun i hi=>(E'.m i (Nat.lt_of_lt_of_le hi E.n)).trans (E.m i hi)
  fr:=fun i h1 h2=>by
    by_cases q:i<B'.n
    · rw [E'.m i q]; exact E.fr i h1 q
    · cases z:H (B''.m i) with
      | none=>rfl
      | some o=>exact absurd (E'.fr i (Nat.not_lt.mp q) h2) (E.sm _ (by rw [z]; simp))
  keep:=fun a o h h1 h2=>by
    have h':=E.keep a o h h1 h2
    refine E'.keep a o h' (fun i hi e=>?_) (fun z=>?_)
    · by_cases q:i<B.n
      · rw [E.m i q] at e; exact h1 i q e
      · have:=E.fr i (Nat.not_lt.mp q) hi
        rw [e,h] at this; cases this
    · rcases E.os a z with z | z
      · exact h2 z
      · rw [h] at z; cases z
  sm:=fun a h=>E'.sm a (E.sm a h)
  os:=fun a h=>by
    rcases E'.os a h with z | z
    · exact E.os a z
    · right
      cases q:H a with
      | none=>rfl
      | some o=>exact absurd z (E.sm a (by rw [q]; simp))
  F:=E'.F.trans E.F
  ks:=E'.ks.trans E.ks
theorem ExtE.trans (E:ExtE B B' H H') (E':ExtE B' B'' H' H''):ExtE B B'' H H'' where
  toExtS:=E.toExtS.trans E'.toExtS
  osE:=E'.osE.trans E.osE
  ko:=fun a o ha h1 h=>by
    have h':=E.ko a o ha h1 h
    refine E'.ko a o (by rw [E.osE]; exact ha) (fun i hi e=>?_) h'
    by_cases q:i<B.n
    · rw [E.m i q] at e; exact h1 i q e
    · have:=E.fr i (Nat.not_lt.mp q) hi
      rw [e,h] at this; cases this
mutual
theorem RepV.ext (E:ExtS B B' H H'):∀{d:D} {v:V},RepV B H d v→RepV B' H' d v
  | .non,_,h=>h
  | .bl _,_,h=>h
  | .int _,_,h=>h
  | .str _,_,h=>h
  | .ty _,_,h=>h
  | .scr _,_,h=>by
    obtain ⟨a,e,h⟩:=h
    refine ⟨a,e,?_⟩
    rcases h with ⟨o,h,k⟩ | h
    · obtain ⟨k',h'⟩:=k.ext E h
      exact .inl ⟨o,h',k'⟩
    · exact .inr (by rw [E.ks]; exact h)
  | .tup _,_,h=>by
    obtain ⟨a,vs,e,h,k,l⟩:=h
    obtain ⟨k',h'⟩:=k.ext E h
    exact ⟨a,vs,e,h',k',RepL.ext E l⟩
  | .lst _,_,h=>by
    obtain ⟨a,vs,e,h,k,l⟩:=h
    obtain ⟨k',h'⟩:=k.ext E h
    exact ⟨a,vs,e,h',k',RepL.ext E l⟩
  | .ref l,_,h=>⟨Nat.lt_of_lt_of_le h.1 E.n,by rw [h.2,E.m l h.1]⟩
theorem RepL.ext (E:ExtS B B' H H'):∀{ds:List D} {vs:List V},RepL B H ds vs→RepL B' H' ds vs
  | [],_,h=>h
  | _::_,_,h=>by
    obtain ⟨v,r,e,hv,hr⟩:=h
    exact ⟨v,r,e,RepV.ext E hv,RepL.ext E hr⟩
end
theorem RepL.len:∀{ds:List D} {vs:List V},RepL B H ds vs→vs.length=ds.length
  | [],_,h=>by cases (show _=[] from h); rfl
  | _::_,_,h=>by
    obtain ⟨v,r,rfl,_,hr⟩:=h
    simp [RepL.len hr]
theorem RepL.app:∀{ds es:List D} {vs us:List V},RepL B H ds vs→RepL B H es us→RepL B H (ds++es) (vs++us)
  | [],_,_,_,h,q=>by cases (show _=[] from h); exact q
  | _::_,_,_,_,h,q=>by
    obtain ⟨v,r,rfl,hv,hr⟩:=h
    exact ⟨v,_,rfl,hv,RepL.app hr q⟩
theorem RepL.get:∀{ds:List D} {vs:List V} {i:Nat} {d:D},RepL B H ds vs→ds[i]?=some d→∃v,vs[i]?=some v∧RepV B H d v
  | [],_,_,_,_,e=>by simp at e
  | _::_,_,0,_,h,e=>by
    obtain ⟨v,r,rfl,hv,_⟩:=h
    simp at e; subst e
    exact ⟨v,rfl,hv⟩
  | _::_,_,i+1,_,h,e=>by
    obtain ⟨v,r,rfl,_,hr⟩:=h
    obtain ⟨w,q1,q2⟩:=RepL.get (i:=i) hr (by simpa using e)
    exact ⟨w,by simpa using q1,q2⟩
theorem RepL.take:∀{ds:List D} {vs:List V} (n:Nat),RepL B H ds vs→RepL B H (ds.take n) (vs.take n)
  | _,_,0,_=>by rw [List.take_zero,List.take_zero]; exact rfl
  | [],_,n+1,h=>by cases (show _=[] from h); exact rfl
  | _::_,_,n+1,h=>by
    obtain ⟨v,r,rfl,hv,hr⟩:=h
    exact ⟨v,_,rfl,hv,RepL.take n hr⟩
theorem RepL.drop:∀{ds:List D} {vs:List V} (n:Nat),RepL B H ds vs→RepL B H (ds.drop n) (vs.drop n)
  | _,_,0,h=>h
  | [],_,n+1,h=>by cases (show _=[] from h); exact rfl
  | _::_,_,n+1,h=>by
    obtain ⟨v,r,rfl,hv,hr⟩:=h
    exact RepL.drop n hr
theorem RepL.map {α:Type} {f:α→D} {g:α→V} (q:∀a,RepV B H (f a) (g a)):∀l:List α,RepL B H (l.map f) (l.map g)
  | []=>rfl
  | a::l=>⟨_,_,rfl,q a,RepL.map q l⟩
theorem RepKV.ext {κ:Type} (E:ExtS B B' H H'):∀{ks:List (κ×D)} {vs:List (κ×V)},RepKV B H ks vs→RepKV B' H' ks vs
  | _,_,.nil=>.nil
  | _,_,.cons h t=>.cons ⟨h.1,RepV.ext E h.2⟩ (RepKV.ext E t)
end
structure Mo where
  cl:Str→Addr
  K:PySem.W.Frag
def KL (K:PySem.W.Frag) (a:Addr) (ns:List Int):Prop:=∃(o:Obj) (its:Array Value) (n:Nat),K.lookup a=some o∧o.cls=.type "list"∧o.dict=none∧o.data=.seq its n∧its.size≤sizeLine∧Vals (ns.map V.int) its.toList
def CellOk (cl:Mo) (B:Bx) (H:Hp) (a:Addr):Cell→Prop
  | .lst xs=>∃vs,H a=some (.lst vs)∧RepL B H xs vs
  | .dK kvs=>∃vs,H a=some (.dK vs)∧RepKV B H kvs vs
  | .dT kvs=>∃vs,H a=some (.dT vs)∧RepKV B H kvs vs
  | .ins C fs=>∃dx vs,H a=some (.ins (cl.cl C) dx vs)∧RepKV B H fs vs
structure Good (cl:Mo) (B:Bx) (θ:Sto) (H:Hp):Prop where
  len:θ.length=B.n
  inj:∀i j,i<B.n→j<B.n→B.m i=B.m j→i=j
  cel:∀i c,θ[i]?=some c→CellOk cl B H (B.m i) c
  cF:∀i,i<B.n→¬B.F (B.m i)∧B.m i∉B.os
  Fs:∀a,B.F a→H a≠none
  oS:∀a,a∈B.os→H a≠none
  oF:∀a,a∈B.os→¬B.F a
  kc:∀a ns,B.ks a ns→KL cl.K a ns
section
variable {cl:Mo} {B B' B'':Bx} {H H' H'':Hp} {θ θ':Sto}
theorem CellOk.ext {a:Addr} {c:Cell} (k:CellOk cl B H a c) (E:ExtS B B' H H') (h:∀o,H a=some o→H' a=some o):CellOk cl B' H' a c:=by
  cases c with
  | lst xs=>obtain ⟨vs,e,r⟩:=k; exact ⟨vs,h _ e,r.ext E⟩
  | dK kvs=>obtain ⟨vs,e,r⟩:=k; exact ⟨vs,h _ e,r.ext E⟩
  | dT kvs=>obtain ⟨vs,e,r⟩:=k; exact ⟨vs,h _ e,r.ext E⟩
  | ins C fs=>obtain ⟨dx,vs,e,r⟩:=k; exact ⟨dx,vs,h _ e,r.ext E⟩
theorem CellOk.there {a:Addr} {c:Cell} (k:CellOk cl B H a c):H a≠none:=by
  cases c with
  | lst xs=>obtain ⟨vs,e,r⟩:=k; rw [e]; simp
  | dK kvs=>obtain ⟨vs,e,r⟩:=k; rw [e]; simp
  | dT kvs=>obtain ⟨vs,e,r⟩:=k; rw [e]; simp
  | ins C fs=>obtain ⟨dx,vs,e,r⟩:=k; rw [e]; simp
theorem Good.there (G:Good cl B θ H) {i:Nat} (hi:i<B.n):H (B.m i)≠none:=by
  have:i < θ.length:=by rw [G.len]; exact hi
  exact (G.cel i _ (List.getElem?_eq_getElem this)).there
theorem Good.okNone (G:Good cl B θ H) {p:Addr} (h:H p=none):B.ok p:=
  ⟨fun i hi e=>G.there hi (by rw [e]; exact h),fun z=>G.Fs p z h,fun z=>G.oS p z h⟩
theorem Zb5 (G:Good cl B θ H) {p:Addr} (h:H p=none) (o:HO):ExtE B B H (upd H p o):=by
  have ne:∀a u,H a=some u→upd H p o a=some u:=fun a u e=>by rw [ZT (za e h)]; exact e
  exact ⟨⟨Nat.le_refl _,fun _ _=>rfl,fun i h h'=>absurd h' (Nat.not_lt.mpr h),fun a u e _ _=>ne a u e,fun a e=>by
    cases q:H a with
    | none=>exact absurd q e
    | some u=>rw [ne a u q]; simp,fun _ h=>.inl h,rfl,rfl⟩,rfl,fun a u _ _ e=>ne a u e⟩
theorem Zd0 (G:Good cl B θ H) {p:Addr} (h:H p=none) (o:HO):Good cl B θ (upd H p o):=by
  have E:=Zb5 G h o
  exact ⟨G.len,G.inj,fun i c e=>(G.cel i c e).ext E.toExtS fun u q=>by rw [ZT (za q h)]; exact q,G.cF,fun a z=>E.sm a (G.Fs a z),fun a z=>E.sm a (G.oS a z),G.oF,G.kc⟩
theorem Zrf (G:Good cl B θ H) {p:Addr} (h:H p=none) {xs:List D} {vs:List V} (r:RepL B H xs vs):RepV B (upd H p (.lst vs)) (.lst xs) (.ref p):=
  ⟨p,vs,rfl,Z4,G.okNone h,r.ext (Zb5 G h _).toExtS⟩
theorem Zre (G:Good cl B θ H) {p:Addr} (h:H p=none) {xs:List D} {vs:List V} (r:RepL B H xs vs):RepV B (upd H p (.tup vs)) (.tup xs) (.ref p):=
  ⟨p,vs,rfl,Z4,G.okNone h,r.ext (Zb5 G h _).toExtS⟩
def Bx.push (B:Bx) (p:Addr):Bx:={ B with n:=B.n+1,m:=fun i=>if i=B.n then p else B.m i }
theorem Zc3 (G:Good cl B θ H) {p:Addr} (h:H p=none) (o:HO):ExtE B (B.push p) H (upd H p o):=by
  have E:=Zb5 G h o
  refine ⟨⟨Nat.le_succ _,fun i hi=>if_neg (Nat.ne_of_lt hi),fun i h1 h2=>?_,E.keep,E.sm,fun _ h=>.inl h,rfl,rfl⟩,rfl,E.ko⟩
  have e:i=B.n:=Nat.le_antisymm (Nat.le_of_lt_succ h2) h1
  show H (if i=B.n then p else B.m i)=none
  rw [if_pos e]; exact h
theorem Zet (G:Good cl B θ H) {p:Addr} (h:H p=none) {o:HO} {c:Cell} (k:CellOk cl (B.push p) (upd H p o) p c):Good cl (B.push p) (θ++[c]) (upd H p o):=by
  have E:=Zc3 G h o
  have hm:∀i,i<B.n→(B.push p).m i=B.m i:=fun i hi=>if_neg (Nat.ne_of_lt hi)
  have hn:(B.push p).m B.n=p:=if_pos rfl
  have cs:∀i,i<(B.push p).n→i<B.n∨i=B.n:=fun i hi=>Nat.lt_succ_iff_lt_or_eq.mp hi
  have ok:=G.okNone h
  refine ⟨by rw [List.length_append,G.len]; rfl,fun i j hi hj e=>?_,fun i c' e=>?_,fun i hi=>?_,fun a z=>E.sm a (G.Fs a z),fun a z=>E.sm a (G.oS a z),G.oF,G.kc⟩
  · rcases cs i hi with a | a<;>rcases cs j hj with b | b
    · rw [hm i a,hm j b] at e; exact G.inj i j a b e
    · rw [hm i a,b,hn] at e; exact absurd e (ok.1 i a)
    · rw [hm j b,a,hn] at e; exact absurd e.symm (ok.1 j b)
    · rw [a,b]
  · by_cases q:i < θ.length
    · rw [List.getElem?_append_left q] at e
      rw [hm i (by rw [←G.len]; exact q)]
      exact (G.cel i c' e).ext E.toExtS fun u z=>by rw [ZT (za z h)]; exact z
    · have q':=Nat.not_lt.mp q
      rw [List.getElem?_append_right q'] at e
      have:i - θ.length=0:=by
        cases z:i - θ.length with
        | zero=>rfl
        | succ k=>rw [z] at e; simp at e
      rw [this] at e
      simp at e
      subst e
      have:i=B.n:=by rw [←G.len]; omega
      rw [this,hn]; exact k
  · rcases cs i hi with a | a
    · rw [hm i a]; exact G.cF i a
    · rw [a,hn]; exact ⟨ok.2.1,ok.2.2⟩
theorem Zdo (G:Good cl B θ H) {l:Nat} (hl:l<B.n) (o:HO):ExtE B B H (upd H (B.m l) o):=by
  have ne:∀a u,(∀i,i<B.n→B.m i≠a)→H a=some u→upd H (B.m l) o a=some u:=fun a u k e=>by rw [ZT (Ne.symm (k l hl))]; exact e
  exact ⟨⟨Nat.le_refl _,fun _ _=>rfl,fun i h h'=>absurd h' (Nat.not_lt.mpr h),fun a u e k _=>ne a u k e,fun a e=>by
    by_cases q:a=B.m l
    · rw [q,Z4]; simp
    · rw [ZT q]; exact e,fun _ h=>.inl h,rfl,rfl⟩,rfl,fun a u _ k e=>ne a u k e⟩
theorem Zc2 (G:Good cl B θ H) {l:Nat} (hl:l<B.n) {o:HO} {c:Cell} (k:CellOk cl B (upd H (B.m l) o) (B.m l) c):Good cl B (θ.set l c) (upd H (B.m l) o):=by
  have E:=Zdo G hl o
  refine ⟨by rw [List.length_set]; exact G.len,G.inj,fun i c' e=>?_,G.cF,fun a z=>E.sm a (G.Fs a z),fun a z=>E.sm a (G.oS a z),G.oF,G.kc⟩
  by_cases q:i=l
  · subst q
    rw [List.getElem?_set_self (by rw [G.len]; exact hl)] at e
    cases e; exact k
  · rw [List.getElem?_set_ne (Ne.symm q)] at e
    have hi:i<B.n:=by rw [←G.len]; exact (List.getElem?_eq_some_iff.mp e).1
    exact (G.cel i c' e).ext E.toExtS fun u z=>by rw [ZT (fun z'=>q (G.inj i l hi hl z'))]; exact z
end
inductive R (α:Type) where
  | ok (a:α) (θ:Sto) | ex (c:Str) (θ:Sto) | bad
def R.bind {α β:Type} (r:R α) (k:α→Sto→R β):R β:=match r with
  | .ok a θ=>k a θ
  | .ex c θ=>.ex c θ
  | .bad=>.bad
@[simp] theorem R.bind_ok {α β:Type} (a:α) (θ:Sto) (k:α→Sto→R β):(R.ok a θ).bind k=k a θ:=nr rfl
@[simp] theorem R.bind_bad {α β:Type} (k:α→Sto→R β):(R.bad:R α).bind k=.bad:=nr rfl
inductive Sl where
  | no | val (d:D) | own (xs:List D)
structure Frm (cl:Mo) (B:Bx) (θ:Sto) (ρ:List Sl) (σ:St) (H:Hp):Prop where
  good:Good cl B θ H
  len:ρ.length=σ.length
  val:∀(i:Nat) (d:D),ρ[i]?=some (Sl.val d)→∃v,σ[i]?=some (some v)∧RepV B H d v
  own:∀(i:Nat) (xs:List D),ρ[i]?=some (Sl.own xs)→∃a vs,σ[i]?=some (some (.ref a))∧a∈B.os∧H a=some (.lst vs)∧RepL B H xs vs
  ne:∀(i j:Nat) (xs ys:List D) (a:Addr),i≠j→ρ[i]?=some (Sl.own xs)→ρ[j]?=some (Sl.own ys)→σ[i]?=some (some (.ref a))→σ[j]?≠some (some (.ref a))
theorem Frm.ext {cl:Mo} {B B':Bx} {θ θ':Sto} {ρ:List Sl} {σ:St} {H H':Hp} (F:Frm cl B θ ρ σ H) (E:ExtE B B' H H') (G:Good cl B' θ' H'):Frm cl B' θ' ρ σ H' where
  good:=G
  len:=F.len
  val:=fun i d e=>let ⟨v,h1,h2⟩:=F.val i d e; ⟨v,h1,h2.ext E.toExtS⟩
  own:=fun i xs e=>by
    obtain ⟨a,vs,h1,h2,h3,h4⟩:=F.own i xs e
    exact ⟨a,vs,h1,by rw [E.osE]; exact h2,E.ko a _ h2 (fun i hi z=>(F.good.cF i hi).2 (by rw [z]; exact h2)) h3,h4.ext E.toExtS⟩
  ne:=F.ne
def zc (mg:Str→Option Value) (x:Str):Addr:=match mg x with
  | some (.ref a)=>a
  | _=>0
abbrev _root_.L2.Cx.cl (X:Cx):Mo:=⟨zc X.mg,X.K⟩
def XE (X:Cx) (σ:St) (B:Bx) (H:Hp) (c:Str) (θ':Sto):Prop:=False
theorem XE.trans {X:Cx} {σ:St} {B B':Bx} {H H':Hp} {c:Str} {θ':Sto} (h:XE X σ B H c θ') (E:ExtE B B' H H'):XE X σ B' H' c θ':=h
def wpR (X:Cx) (σ:St) {α β:Type} (Rel:Bx→Hp→α→β→Prop) (B:Bx) (H:Hp) (r:R α) (Q:β→Hp→Prop):Prop:=match r with
  | .ok a θ'=>∀B' H' b,ExtE B B' H H'→Good X.cl B' θ' H'→Rel B' H' a b→Q b H'
  | .ex c θ'=>XE X σ B H c θ'
  | .bad=>False
section
variable {X:Cx} {σ:St} {α β γ δ:Type} {Rel:Bx→Hp→α→β→Prop} {Rel':Bx→Hp→γ→δ→Prop} {B B':Bx} {H H':Hp}
theorem wpR.mono {r:R α} {Q Q':β→Hp→Prop} (h:wpR X σ Rel B H r Q) (hQ:∀b H',Q b H'→Q' b H'):wpR X σ Rel B H r Q':=by
  cases r with
  | ok a θ'=>exact fun B' H' b e g q=>hQ _ _ (h B' H' b e g q)
  | ex c θ'=>exact h
  | bad=>exact h
theorem wpR.trans {r:R α} {Q:β→Hp→Prop} (h:wpR X σ Rel B H r Q) (E:ExtE B B' H H'):wpR X σ Rel B' H' r Q:=by
  cases r with
  | ok a θ'=>exact fun B2 H2 b e g q=>h B2 H2 b (E.trans e) g q
  | ex c θ'=>exact XE.trans (c:=c) (θ':=θ') (σ:=σ) (X:=X) h E
  | bad=>exact h
theorem wpR.bind {r:R α} {k:α→Sto→R γ} {Q:δ→Hp→Prop} (h:wpR X σ Rel' B H (r.bind k) Q) :
    wpR X σ Rel B H r (fun b H1=>∃B1 θ1 a,ExtE B B1 H H1∧Good X.cl B1 θ1 H1∧Rel B1 H1 a b∧wpR X σ Rel' B1 H1 (k a θ1) Q):=by
  cases r with
  | ok a θ'=>exact fun B1 H1 b E g q=>⟨B1,θ',a,E,g,q,wpR.trans h E⟩
  | ex c θ'=>exact h
  | bad=>exact h
end
abbrev EM:=List Sl→Sto→R D
abbrev TMr:=List Sl→Sto→R Bool
abbrev AM:=List Sl→Sto→R (List D)
def EqB (_:Bx) (_:Hp) (a b:Bool):Prop:=a=b
def tM (X:Cx) (f:EM):TE:=fun σ H Q=>∃B θ ρ,Frm X.cl B θ ρ σ H∧wpR X σ RepV B H (f ρ θ) Q
def tMT (X:Cx) (f:TMr):TT:=fun σ H Q=>∃B θ ρ,Frm X.cl B θ ρ σ H∧wpR X σ EqB B H (f ρ θ) Q
def tMA (X:Cx) (f:AM):TA:=fun σ H Q=>∃B θ ρ,Frm X.cl B θ ρ σ H∧wpR X σ RepL B H (f ρ θ) Q
def ME (X:Cx) (e:Expr) (f:EM):Prop:=PE X e (tM X f)
def MT (X:Cx) (e:Expr) (f:TMr):Prop:=PT X e (tMT X f)
def MW (X:Cx) (e:Expr) (f:TMr):Prop:=PW X e (tMT X f)
def MA (X:Cx) (es:List Expr) (f:AM):Prop:=PA X es (tMA X f)
section
variable {X:Cx} {σ:St} {H:Hp} {γ δ:Type} {Rel':Bx→Hp→γ→δ→Prop}
theorem ZO {f:EM} {Q Q':VK} (h:tM X f σ H Q) (hQ:∀v H',Q v H'→Q' v H'):tM X f σ H Q':=let ⟨B,θ,ρ,F,w⟩:=h; ⟨B,θ,ρ,F,w.mono hQ⟩
theorem ZcR {f:TMr} {Q Q':Bool→Hp→Prop} (h:tMT X f σ H Q) (hQ:∀v H',Q v H'→Q' v H'):tMT X f σ H Q':=let ⟨B,θ,ρ,F,w⟩:=h; ⟨B,θ,ρ,F,w.mono hQ⟩
theorem ZaE {f:AM} {Q Q':List V→Hp→Prop} (h:tMA X f σ H Q) (hQ:∀v H',Q v H'→Q' v H'):tMA X f σ H Q':=let ⟨B,θ,ρ,F,w⟩:=h; ⟨B,θ,ρ,F,w.mono hQ⟩
variable {B:Bx} {θ:Sto} {ρ:List Sl}
theorem step {f:EM} {k:D→Sto→R γ} {Q:δ→Hp→Prop} (F:Frm X.cl B θ ρ σ H) (h:wpR X σ Rel' B H ((f ρ θ).bind k) Q) :
    tM X f σ H (fun v H1=>∃B1 θ1 d,ExtE B B1 H H1∧Frm X.cl B1 θ1 ρ σ H1∧RepV B1 H1 d v∧wpR X σ Rel' B1 H1 (k d θ1) Q):=
  ⟨B,θ,ρ,F,(wpR.bind (Rel:=RepV) h).mono fun v H1 ⟨B1,θ1,d,E,G,r,w⟩=>⟨B1,θ1,d,E,F.ext E G,r,w⟩⟩
theorem Zms {f:TMr} {k:Bool→Sto→R γ} {Q:δ→Hp→Prop} (F:Frm X.cl B θ ρ σ H) (h:wpR X σ Rel' B H ((f ρ θ).bind k) Q) :
    tMT X f σ H (fun c H1=>∃B1 θ1,ExtE B B1 H H1∧Frm X.cl B1 θ1 ρ σ H1∧wpR X σ Rel' B1 H1 (k c θ1) Q):=
  ⟨B,θ,ρ,F,(wpR.bind (Rel:=EqB) h).mono fun v H1 ⟨B1,θ1,d,E,G,r,w⟩=>by cases (show d=v from r); exact ⟨B1,θ1,E,F.ext E G,w⟩⟩
theorem Ze5 {f:AM} {k:List D→Sto→R γ} {Q:δ→Hp→Prop} (F:Frm X.cl B θ ρ σ H) (h:wpR X σ Rel' B H ((f ρ θ).bind k) Q) :
    tMA X f σ H (fun v H1=>∃B1 θ1 d,ExtE B B1 H H1∧Frm X.cl B1 θ1 ρ σ H1∧RepL B1 H1 d v∧wpR X σ Rel' B1 H1 (k d θ1) Q):=
  ⟨B,θ,ρ,F,(wpR.bind (Rel:=RepL) h).mono fun v H1 ⟨B1,θ1,d,E,G,r,w⟩=>⟨B1,θ1,d,E,F.ext E G,r,w⟩⟩
theorem ZS {α β:Type} {Rel:Bx→Hp→α→β→Prop} {a:α} {b:β} {Q:β→Hp→Prop} (G:Good X.cl B θ H) (r:Rel B H a b) (h:wpR X σ Rel B H (.ok a θ) Q):Q b H:=h B H b (ExtE.refl B H) G r
end
theorem PE.imp {X:Cx} {e:Expr} {t t':TE} (h:PE X e t) (hi:∀σ H Q,t' σ H Q→t σ H Q):PE X e t':=fun pins s σ H Q I q=>h pins s σ H Q I (hi σ H Q q)
theorem PT.imp {X:Cx} {e:Expr} {t t':TT} (h:PT X e t) (hi:∀σ H Q,t' σ H Q→t σ H Q):PT X e t':=fun pins s σ H Q I q=>h pins s σ H Q I (hi σ H Q q)
theorem PW.imp {X:Cx} {e:Expr} {t t':TT} (h:PW X e t) (hi:∀σ H Q,t' σ H Q→t σ H Q):PW X e t':=fun wh pins s σ H Q I q=>h wh pins s σ H Q I (hi σ H Q q)
theorem PA.imp {X:Cx} {es:List Expr} {t t':TA} (h:PA X es t) (hi:∀σ H Q,t' σ H Q→t σ H Q):PA X es t':=fun pos pins s σ H Q I q=>h pos pins s σ H Q I (hi σ H Q q)
theorem OpR.imp {X:Cx} {f:Value→Value→Sem Value} {r r':R2} (h:OpR X f r) (hi:∀x y H Q,r' x y H Q→r x y H Q):OpR X f r':=fun pins s σ H x y v u Q I rx ry q=>h pins s σ H x y v u Q I rx ry (hi x y H Q q)
theorem IxR.imp {X:Cx} {r r':R2} (h:IxR X r) (hi:∀x y H Q,r' x y H Q→r x y H Q):IxR X r':=fun pins s σ H x y v u Q v1 s1 I rx ry q=>h pins s σ H x y v u Q v1 s1 I rx ry (hi _ _ _ _ q)
theorem CallR.imp {X:Cx} {f:Value} {r r':List V→Hp→VK→Prop} (h:CallR X f r) (hi:∀xs H Q,r' xs H Q→r xs H Q):CallR X f r':=fun pins s σ H xs us Q I r q=>h pins s σ H xs us Q I r (hi _ _ _ q)
end L2.MM
namespace L2.MM
open PySem PySem.Spec PyProof.Rows
noncomputable section
variable {X:Cx}
def Zak (θ:Sto):D→Option (List D)
  | .lst xs=>some xs
  | .ref l=>match θ[l]? with
    | some (.lst xs)=>some xs
    | _=>none
  | _=>none
def seqOf (θ:Sto):D→Option (List D)
  | .tup xs=>some xs
  | .scr ns=>some (ns.map D.int)
  | d=>Zak θ d
theorem Zaj {cl:Mo} {B:Bx} {θ:Sto} {H:Hp} (G:Good cl B θ H) {d:D} {v:V} {xs:List D} (r:RepV B H d v) (h:Zak θ d=some xs):∃a vs,v=.ref a∧H a=some (.lst vs)∧RepL B H xs vs:=by
  cases d with
  | lst ys=>
    obtain ⟨a,vs,e,h1,_,h2⟩:=r
    cases h
    exact ⟨a,vs,e,h1,h2⟩
  | ref l=>
    obtain ⟨hl,rfl⟩:=r
    simp only [Zak] at h
    split at h
    · rename_i ys e
      cases h
      obtain ⟨vs,q1,q2⟩:=G.cel l _ e
      exact ⟨_,vs,rfl,q1,q2⟩
    · cases h
  | _=>cases h
theorem Zcg {cl:Mo} {B:Bx} {θ:Sto} {H:Hp} (G:Good cl B θ H) {d:D} {v:V} {xs:List D} (r:RepV B H d v) (h:seqOf θ d=some xs) :
    ∃a vs,v=.ref a∧(SqL cl.K H a vs∨SqT cl.K H a vs)∧RepL B H xs vs:=by
  cases d with
  | tup ys=>
    obtain ⟨a,vs,e,h1,_,h2⟩:=r
    cases h
    exact ⟨a,vs,e,.inr (SqT.of h1),h2⟩
  | scr ns=>
    obtain ⟨a,e,h1⟩:=r
    cases h
    refine ⟨a,ns.map V.int,e,.inl ?_,RepL.map (f:=D.int) (g:=V.int) (fun _=>rfl) ns⟩
    rcases h1 with ⟨o,h1,_⟩ | h1
    · exact .inl (.inr ⟨o,h1⟩)
    · exact .inr (G.kc a ns h1)
  | lst ys=>
    obtain ⟨a,vs,e,h1,h2⟩:=Zaj G r (show Zak θ (.lst ys)=some xs from h)
    exact ⟨a,vs,e,.inl (SqL.of h1),h2⟩
  | ref l=>
    obtain ⟨a,vs,e,h1,h2⟩:=Zaj G r (show Zak θ (.ref l)=some xs from h)
    exact ⟨a,vs,e,.inl (SqL.of h1),h2⟩
  | _=>cases h
abbrev BIG:Nat:=100000
theorem zt {n:Nat} (h:n≤BIG):n≤sizeLine:=Nat.le_trans h (by rw [sizeLine_eq]; decide)
def Zd (i:Nat):EM:=fun ρ θ=>match ρ[i]? with
  | some (Sl.val d)=>.ok d θ
  | _=>.bad
def mC (d:D):EM:=fun _ θ=>.ok d θ
section
variable {a b c e:Expr} {pos:Pos} {fa fb fc:EM} {ft fu:TMr}
theorem Za (i:Nat) {x:Str} {pos:Pos} (hN:X.N[i]?=some x:=by rfl) (hv:Vis X.env.scope x:=by first | exact Or.inl rfl | exact Or.inr (Or.inl rfl) | exact Or.inr (Or.inr rfl))
    (hd:(x == ("__debug__":Str))=false:=by decide) (hcd:(x == ("__classdict__":Str))=false:=by decide):ME X (.Name x pos) (Zd i):=by
  refine PE.imp (ZiS hN hv hd hcd) fun σ H Q h=>?_
  obtain ⟨B,θ,ρ,F,w⟩:=h
  unfold Zd at w
  split at w
  · rename_i d e
    obtain ⟨v,h1,h2⟩:=F.val i d e
    exact ⟨v,h1,ZS F.good h2 w⟩
  · exact w.elim
theorem Zqh {d:D} {v:V} (h:PE X e (tC v)) (r:∀B H,RepV B H d v):ME X e (mC d):=by
  refine PE.imp h fun σ H Q h=>?_
  obtain ⟨B,θ,ρ,F,w⟩:=h
  exact ZS F.good (r B H) w
theorem Zi {i j pos}:ME X (.Constant (.int i) j pos) (mC (.int i)):=Zqh Ztn fun _ _=>rfl
theorem zw {i j pos}:ME X (.Constant (.bool i) j pos) (mC (.bl i)):=Zqh Zu7 fun _ _=>rfl
theorem zO {j pos}:ME X (.Constant .none j pos) (mC .non):=Zqh Ztm fun _ _=>rfl
theorem Zl {x:Str} {i:Int} (h:∃t,X.mg x=some (.int i t)) (hg:Gl X x:=by rfl) (hd:(x == ("__debug__":Str))=false:=by decide):ME X (.Name x pos) (mC (.int i)):=Zqh (Zrs h hg hd) fun _ _=>rfl
theorem ZD {x:Str} {y:Str} (h:∃t,X.mg x=some (.str y t)) (hg:Gl X x:=by rfl) (hd:(x == ("__debug__":Str))=false:=by decide):ME X (.Name x pos) (mC (.str y)):=by
  obtain ⟨t,h⟩:=h
  exact Zqh (ZiT hg h (v:=.str y) ⟨t,rfl⟩ hd) fun _ _=>rfl
abbrev OM:=D→D→Sto→R D
def mOp (g:OM) (fa fb:EM):EM:=fun ρ θ=>(fa ρ θ).bind fun x θ=>(fb ρ θ).bind fun y θ=>g x y θ
def rM (X:Cx) (g:OM):R2:=fun x y H Q=>∃σ B θ d e,Good X.cl B θ H∧RepV B H d x∧RepV B H e y∧wpR X σ RepV B H (g d e θ) Q
theorem Zmp {g:OM} (σ:St) (H:Hp) (Q:VK) (h:tM X (mOp g fa fb) σ H Q):tOp (rM X g) (tM X fa) (tM X fb) σ H Q:=by
  obtain ⟨B,θ,ρ,F,w⟩:=h
  refine ZO (step F w) ?_
  rintro x' H1 ⟨B1,θ1,x,E1,F1,rx,w1⟩
  refine ZO (step F1 w1) ?_
  rintro y' H2 ⟨B2,θ2,y,E2,F2,ry,w2⟩
  exact ⟨σ,B2,θ2,x,y,F2.good,rx.ext E2.toExtS,ry,w2⟩
theorem Zu {op:Operator} {g:OM} (ho:OpR X (binaryOp op) (rM X g)) (ha:ME X a fa) (hb:ME X b fb):ME X (.BinOp a op b pos) (mOp g fa fb):=PE.imp (Zu4 ho ha hb) Zmp
theorem zl {op:CmpOp} {g:OM} (ho:OpR X (compareOp op) (rM X g)) (ha:ME X a fa) (hb:ME X b fb) (hm:behindInMarks op b=false:=by first | exact Zp7 _ | rfl):ME X (.Compare a [op] [b] pos) (mOp g fa fb):=PE.imp (Zru ho ha hb hm) Zmp
theorem ZH {g:OM} (hr:IxR X (rM X g)) (ha:ME X a fa) (hb:ME X b fb) (hs:Zm4 b:=by intro _ _; rfl):ME X (.Subscript a b pos) (mOp g fa fb):=PE.imp (Zu6 hr ha hb hs) Zmp
def ZF (f:EM):TMr:=fun ρ θ=>(f ρ θ).bind fun x θ=>match x with
  | .bl k=>.ok k θ
  | _=>.bad
theorem Zg0 {f:EM} (σ:St) (H:Hp) (Q:Bool→Hp→Prop) (h:tMT X (ZF f) σ H Q):tM X f σ H (fun v H1=>∃k,v=.bl k∧Q k H1):=by
  obtain ⟨B,θ,ρ,F,w⟩:=h
  refine ZO (step F w) ?_
  rintro v H1 ⟨B1,θ1,x,E1,F1,rx,w1⟩
  cases x with
  | bl k=>exact ⟨k,rx,ZS (Rel:=EqB) F1.good rfl w1⟩
  | _=>exact w1.elim
theorem ZA {op:CmpOp} {g:OM} (ho:OpR X (compareOp op) (rM X g)) (ha:ME X a fa) (hb:ME X b fb) (hm:behindInMarks op b=false:=by first | exact Zp7 _ | rfl):MT X (.Compare a [op] [b] pos) (ZF (mOp g fa fb)):=by
  refine PT.imp (Zrj ho ha hb hm) fun σ H Q h=>?_
  have q:=Zg0 σ H Q h
  exact Zmp σ H _ q
def Zf1 (g g':OM) (fa fb fc:EM):EM:=fun ρ θ=>(fa ρ θ).bind fun x θ=>(fb ρ θ).bind fun y θ=>(g x y θ).bind fun z θ=>match z with
  | .bl true=>(fc ρ θ).bind fun w θ=>g' y w θ
  | .bl false=>.ok (.bl false) θ
  | _=>.bad
theorem Zpv {g g':OM} (σ:St) (H:Hp) (Q:VK) (h:tM X (Zf1 g g' fa fb fc) σ H Q):Zpw (rM X g) (rM X g') (tM X fa) (tM X fb) (tM X fc) σ H Q:=by
  obtain ⟨B,θ,ρ,F,w⟩:=h
  refine ZO (step F w) ?_
  rintro x' H1 ⟨B1,θ1,x,E1,F1,rx,w1⟩
  refine ZO (step F1 w1) ?_
  rintro y' H2 ⟨B2,θ2,y,E2,F2,ry,w2⟩
  refine ⟨σ,B2,θ2,x,y,F2.good,rx.ext E2.toExtS,ry,(wpR.bind (Rel:=RepV) w2).mono ?_⟩
  rintro z' H3 ⟨B3,θ3,z,E3,G3,rz,w3⟩
  have F3:=F2.ext E3 G3
  cases z with
  | bl k=>
    refine ⟨k,rz,?_⟩
    cases k with
    | true=>
      rw [if_pos rfl]
      refine ZO (step F3 w3) ?_
      rintro w' H4 ⟨B4,θ4,u,E4,F4,ru,w4⟩
      exact ⟨σ,B4,θ4,y,u,F4.good,ry.ext (E3.trans E4).toExtS,ru,w4⟩
    | false=>
      rw [if_neg Bool.false_ne_true]
      exact ZS G3 (show RepV B3 H3 (.bl false) (.bl false) from rfl) w3
  | _=>exact w3.elim
theorem Zhe {op op':CmpOp} {g g':OM} (ho:OpR X (compareOp op) (rM X g)) (ho':OpR X (compareOp op') (rM X g')) (ha:ME X a fa) (hb:ME X b fb) (hc:ME X c fc)
    (hm:lastMarks [op,op'] [b,c]=false:=by with_unfolding_all rfl):ME X (.Compare a [op,op'] [b,c] pos) (Zf1 g g' fa fb fc):=PE.imp (ZpV ho ho' ha hb hc hm) Zpv
def Zgv (θ:Sto):D→Option Bool
  | .non=>some false
  | .bl b=>some b
  | .int i=>some (i != 0)
  | .str x=>if x.length≤BIG then some ((x.length:Int) != 0) else none
  | d=>(seqOf θ d).map fun xs=>!xs.isEmpty
def zC (f:EM):TMr:=fun ρ θ=>(f ρ θ).bind fun x θ=>match Zgv θ x with
  | some k=>.ok k θ
  | none=>.bad
theorem RepL.emp {B:Bx} {H:Hp} {xs:List D} {vs:List V} (r:RepL B H xs vs):vs.isEmpty=xs.isEmpty:=by
  cases xs with
  | nil=>cases (show vs=[] from r); rfl
  | cons _ _=>obtain ⟨v,q,rfl,_,_⟩:=r; rfl
theorem Zmm {cl:Mo} {B:Bx} {θ:Sto} {H:Hp} (G:Good cl B θ H) {d:D} {v:V} {k:Bool} (r:RepV B H d v) (h:Zgv θ d=some k):TruV cl.K v H k:=by
  have sq:∀xs,seqOf θ d=some xs→((seqOf θ d).map fun xs=>!xs.isEmpty)=some k→TruV cl.K v H k:=fun xs e q=>by
    rw [e] at q
    cases q
    obtain ⟨a,vs,rfl,h1,h2⟩:=Zcg G r e
    show TruV cl.K (V.ref a) H (!xs.isEmpty)
    rw [←h2.emp]
    rcases h1 with h1 | h1
    · exact .inl ⟨vs,h1,rfl⟩
    · exact .inr (.inl ⟨vs,h1,rfl⟩)
  cases d with
  | non=>cases (show v=.non from r); cases h; rfl
  | bl b=>cases (show v=.bl b from r); cases h; rfl
  | int i=>cases (show v=.int i from r); cases h; rfl
  | str x=>
    cases (show v=.str x from r)
    simp only [Zgv] at h
    split at h
    · rename_i hz; cases h; exact ⟨zt hz,rfl⟩
    · cases h
  | ty n=>simp [Zgv,seqOf,Zak] at h
  | scr ns=>exact sq _ rfl h
  | tup xs=>exact sq _ rfl h
  | lst xs=>exact sq _ rfl h
  | ref l=>
    cases e:seqOf θ (.ref l) with
    | none=>simp only [Zgv,e] at h; cases h
    | some xs=>exact sq xs e h
theorem ZB (ha:ME X a fa) (he:∀whole,isTrue a X.env whole=(do let v ←whole; standAt a.pos; holding [v] (truthy v)):=by intro _; rfl):MT X a (zC fa):=by
  refine PT.imp (ZpF ha he) fun σ H Q h=>?_
  obtain ⟨B,θ,ρ,F,w⟩:=h
  refine ZO (step F w) ?_
  rintro v H1 ⟨B1,θ1,x,E1,F1,rx,w1⟩
  cases e:Zgv θ1 x with
  | none=>rw [e] at w1; exact w1.elim
  | some k=>rw [e] at w1; exact ⟨k,Zmm F1.good rx e,ZS (Rel:=EqB) F1.good rfl w1⟩
def Zfi (f g:TMr):TMr:=fun ρ θ=>(f ρ θ).bind fun k θ=>if k=true then g ρ θ else .ok false θ
def mOr (f g:TMr):TMr:=fun ρ θ=>(f ρ θ).bind fun k θ=>if k=true then .ok true θ else g ρ θ
def ZcZ (f:TMr):TMr:=fun ρ θ=>(f ρ θ).bind fun k θ=>.ok (!k) θ
theorem Zad (ha:MT X a ft):MW X (.BoolOp .And [a] pos) ft:=Zri ha
theorem Zah (ha:MT X a ft):MW X (.BoolOp .Or [a] pos) ft:=Zs8 ha
theorem ZbX {rest:List Expr} (ha:MT X a ft) (hb:MW X (.BoolOp .And (b::rest) pos) fu):MW X (.BoolOp .And (a::b::rest) pos) (Zfi ft fu):=by
  refine PW.imp (Zs9 ha hb) fun σ H Q h=>?_
  obtain ⟨B,θ,ρ,F,w⟩:=h
  refine ZcR (Zms F w) ?_
  rintro k H1 ⟨B1,θ1,E1,F1,w1⟩
  cases k with
  | true=>rw [if_pos rfl] at w1 ⊢; exact ⟨B1,θ1,ρ,F1,w1⟩
  | false=>rw [if_neg Bool.false_ne_true] at w1 ⊢; exact ZS (Rel:=EqB) F1.good rfl w1
theorem ZcY {rest:List Expr} (ha:MT X a ft) (hb:MW X (.BoolOp .Or (b::rest) pos) fu):MW X (.BoolOp .Or (a::b::rest) pos) (mOr ft fu):=by
  refine PW.imp (Zu1 ha hb) fun σ H Q h=>?_
  obtain ⟨B,θ,ρ,F,w⟩:=h
  refine ZcR (Zms F w) ?_
  rintro k H1 ⟨B1,θ1,E1,F1,w1⟩
  cases k with
  | true=>rw [if_pos rfl] at w1 ⊢; exact ZS (Rel:=EqB) F1.good rfl w1
  | false=>rw [if_neg Bool.false_ne_true] at w1 ⊢; exact ⟨B1,θ1,ρ,F1,w1⟩
theorem MW.mt {e:Expr} {f:TMr} (h:MW X e f):MT X e f:=PW.pt h
theorem ZaA (ha:MT X a ft):MT X (.UnaryOp .Not a pos) (ZcZ ft):=by
  refine PT.imp (Ztb ha) fun σ H Q h=>?_
  obtain ⟨B,θ,ρ,F,w⟩:=h
  refine ZcR (Zms F w) ?_
  rintro k H1 ⟨B1,θ1,E1,F1,w1⟩
  exact ZS (Rel:=EqB) F1.good rfl w1
def Zbd (f g:EM):EM:=fun ρ θ=>(f ρ θ).bind fun x θ=>match x with
  | .bl true=>g ρ θ
  | .bl false=>.ok (.bl false) θ
  | _=>.bad
def Zi6 (f g:EM):EM:=fun ρ θ=>(f ρ θ).bind fun x θ=>match x with
  | .bl true=>.ok (.bl true) θ
  | .bl false=>g ρ θ
  | _=>.bad
def ZeH (f:EM):EM:=fun ρ θ=>(f ρ θ).bind fun x θ=>match Zgv θ x with
  | some k=>.ok (.bl (!k)) θ
  | none=>.bad
theorem Zby {op} (h:ME X a fa):ME X (.BoolOp op [a] pos) fa:=ZpN h
theorem ZaW {rest:List Expr} (ha:ME X a fa) (hb:ME X (.BoolOp .And (b::rest) pos) fb):ME X (.BoolOp .And (a::b::rest) pos) (Zbd fa fb):=by
  refine PE.imp (ZpX ha hb) fun σ H Q h=>?_
  obtain ⟨B,θ,ρ,F,w⟩:=h
  refine ZO (step F w) ?_
  rintro v H1 ⟨B1,θ1,x,E1,F1,rx,w1⟩
  cases x with
  | bl k=>
    refine ⟨k,rx,?_⟩
    cases k with
    | true=>rw [if_pos rfl]; exact ⟨B1,θ1,ρ,F1,w1⟩
    | false=>rw [if_neg Bool.false_ne_true]; exact ZS F1.good (show RepV B1 H1 (.bl false) (.bl false) from rfl) w1
  | _=>exact w1.elim
theorem Zlb {rest:List Expr} (ha:ME X a fa) (hb:ME X (.BoolOp .Or (b::rest) pos) fb):ME X (.BoolOp .Or (a::b::rest) pos) (Zi6 fa fb):=by
  refine PE.imp (Zu3 ha hb) fun σ H Q h=>?_
  obtain ⟨B,θ,ρ,F,w⟩:=h
  refine ZO (step F w) ?_
  rintro v H1 ⟨B1,θ1,x,E1,F1,rx,w1⟩
  cases x with
  | bl k=>
    refine ⟨k,rx,?_⟩
    cases k with
    | true=>rw [if_pos rfl]; exact ZS F1.good (show RepV B1 H1 (.bl true) (.bl true) from rfl) w1
    | false=>rw [if_neg Bool.false_ne_true]; exact ⟨B1,θ1,ρ,F1,w1⟩
  | _=>exact w1.elim
theorem ZlY (ha:ME X a fa):ME X (.UnaryOp .Not a pos) (ZeH fa):=by
  intro pins s σ H Q I h
  obtain ⟨B,θ,ρ,F,w⟩:=h
  refine UnaryOp_ (thn (ha pins s σ H _ I (step F w)) fun v s1 ⟨x,H1,I1,r1,q1⟩=>?_)
  obtain ⟨B1,θ1,d,E1,F1,rx,w1⟩:=q1
  cases e:Zgv θ1 d with
  | none=>rw [e] at w1; exact w1.elim
  | some k=>
    rw [e] at w1
    refine not_of (thn (Zpk pins s1 σ H1 x v (fun k' H'=>Q (.bl (!k')) H') I1 r1 ⟨k,Zmm F1.good rx e,ZS F1.good (show RepV B1 H1 (.bl (!k)) (.bl (!k)) from rfl) w1⟩) fun b s2 ⟨H2,I2,q2⟩=>?_)
    exact ⟨.bl (!b),H2,I2,rfl,q2⟩
def ZeT (t:TMr) (f g:EM):EM:=fun ρ θ=>(t ρ θ).bind fun k θ=>if k=true then f ρ θ else g ρ θ
theorem Zbz {c:Expr} (hc:MT X c ft) (ha:ME X a fa) (hb:ME X b fb):ME X (.IfExp c a b pos) (ZeT ft fa fb):=by
  refine PE.imp (ZpP hc ha hb) fun σ H Q h=>?_
  obtain ⟨B,θ,ρ,F,w⟩:=h
  refine ZcR (Zms F w) ?_
  rintro k H1 ⟨B1,θ1,E1,F1,w1⟩
  cases k with
  | true=>rw [if_pos rfl] at w1 ⊢; exact ⟨B1,θ1,ρ,F1,w1⟩
  | false=>rw [if_neg Bool.false_ne_true] at w1 ⊢; exact ⟨B1,θ1,ρ,F1,w1⟩
def Zk:AM:=fun _ θ=>.ok [] θ
def Zc (f:EM) (g:AM):AM:=fun ρ θ=>(f ρ θ).bind fun x θ=>(g ρ θ).bind fun xs θ=>.ok (x::xs) θ
theorem Zf:MA X [] Zk:=PA.imp ZdM fun σ H Q h=>by
  obtain ⟨B,θ,ρ,F,w⟩:=h
  exact ZS (Rel:=RepL) F.good (show RepL B H [] [] from rfl) w
theorem Zb {es:List Expr} {fs:AM} (ha:ME X e fa) (hr:MA X es fs) (hs:starEach (e::es) X.env=(false,eval e X.env)::starEach es X.env:=by rfl):MA X (e::es) (Zc fa fs):=by
  refine PA.imp (ZbI ha hr hs) fun σ H Q h=>?_
  obtain ⟨B,θ,ρ,F,w⟩:=h
  refine ZO (step F w) ?_
  rintro x' H1 ⟨B1,θ1,x,E1,F1,rx,w1⟩
  refine ZaE (Ze5 F1 w1) ?_
  rintro xs' H2 ⟨B2,θ2,xs,E2,F2,rxs,w2⟩
  exact ZS (Rel:=RepL) F2.good (show RepL B2 H2 (x::xs) (x'::xs') from ⟨x',xs',rfl,rx.ext E2.toExtS,rxs⟩) w2
def Zar (f:AM):EM:=fun ρ θ=>(f ρ θ).bind fun xs θ=>if xs.length≤BIG then .ok (.tup xs) θ else .bad
def ZaB (f:AM):EM:=fun ρ θ=>(f ρ θ).bind fun xs θ=>if xs.length≤BIG then .ok (.lst xs) θ else .bad
def Zle (f:AM):EM:=fun ρ θ=>(f ρ θ).bind fun xs θ=>if xs.length≤BIG then .ok (.ref θ.length) (θ++[.lst xs]) else .bad
theorem ZgU {σ:St} {B:Bx} {θ:Sto} {H:Hp} {xs:List D} {vs:List V} {Q:VK} (G:Good X.cl B θ H) (r:RepL B H xs vs) (w:wpR X σ RepV B H (.ok (.tup xs) θ) Q):∀p,H p=none→Q (.ref p) (upd H p (.tup vs)):=
  fun p hp=>w B _ _ (Zb5 G hp _) (Zd0 G hp _) (Zre G hp r)
theorem ZdI {σ:St} {B:Bx} {θ:Sto} {H:Hp} {xs:List D} {vs:List V} {Q:VK} (G:Good X.cl B θ H) (r:RepL B H xs vs) (w:wpR X σ RepV B H (.ok (.lst xs) θ) Q):∀p,H p=none→Q (.ref p) (upd H p (.lst vs)):=
  fun p hp=>w B _ _ (Zb5 G hp _) (Zd0 G hp _) (Zrf G hp r)
theorem ZqY {σ:St} {B:Bx} {θ:Sto} {H:Hp} {xs:List D} {vs:List V} {Q:VK} (G:Good X.cl B θ H) (r:RepL B H xs vs) (w:wpR X σ RepV B H (.ok (.ref θ.length) (θ++[.lst xs])) Q):∀p,H p=none→Q (.ref p) (upd H p (.lst vs)):=
  fun p hp=>w (B.push p) _ _ (Zc3 G hp _) (Zet G hp ⟨vs,Z4,r.ext (Zc3 G hp _).toExtS⟩) ⟨by rw [G.len]; exact Nat.lt_succ_self _,by rw [G.len]; show V.ref p=V.ref (if B.n=B.n then p else B.m B.n); rw [if_pos rfl]⟩
theorem Z5 {es:List Expr} {fs:AM} {x1} (h:MA X es fs):ME X (.Tuple es x1 pos) (Zar fs):=by
  refine PE.imp (Ztk h) fun σ H Q h=>?_
  obtain ⟨B,θ,ρ,F,w⟩:=h
  refine ZaE (Ze5 F w) ?_
  rintro xs' H2 ⟨B2,θ2,xs,E2,F2,rxs,w2⟩
  split at w2
  · rename_i hz
    exact ⟨by rw [rxs.len]; exact zt hz,ZgU F2.good rxs w2⟩
  · exact w2.elim
theorem zP {es:List Expr} {fs:AM} (h:MA X es fs):ME X (.List es pos) (ZaB fs):=by
  refine PE.imp (ZlP h) fun σ H Q h=>?_
  obtain ⟨B,θ,ρ,F,w⟩:=h
  refine ZaE (Ze5 F w) ?_
  rintro xs' H2 ⟨B2,θ2,xs,E2,F2,rxs,w2⟩
  split at w2
  · rename_i hz
    exact ⟨by rw [rxs.len]; exact zt hz,ZdI F2.good rxs w2⟩
  · exact w2.elim
theorem Zi4 {es:List Expr} {fs:AM} (h:MA X es fs):ME X (.List es pos) (Zle fs):=by
  refine PE.imp (ZlP h) fun σ H Q h=>?_
  obtain ⟨B,θ,ρ,F,w⟩:=h
  refine ZaE (Ze5 F w) ?_
  rintro xs' H2 ⟨B2,θ2,xs,E2,F2,rxs,w2⟩
  split at w2
  · rename_i hz
    exact ⟨by rw [rxs.len]; exact zt hz,ZqY F2.good rxs w2⟩
  · exact w2.elim
abbrev GM:=List D→Sto→R D
def mCB (g:GM) (f:AM):EM:=fun ρ θ=>(f ρ θ).bind fun xs θ=>g xs θ
def rC (X:Cx) (g:GM):List V→Hp→VK→Prop:=fun xs H Q=>∃σ B θ ds,Good X.cl B θ H∧RepL B H ds xs∧wpR X σ RepV B H (g ds θ) Q
theorem Zsi {g:GM} {fs:AM} (σ:St) (H:Hp) (Q:VK) (h:tM X (mCB g fs) σ H Q):tCB (rC X g) (tMA X fs) σ H Q:=by
  obtain ⟨B,θ,ρ,F,w⟩:=h
  refine ZaE (Ze5 F w) ?_
  rintro xs' H2 ⟨B2,θ2,xs,E2,F2,rxs,w2⟩
  exact ⟨σ,B2,θ2,xs,F2.good,rxs,w2⟩
theorem Z9 {x:Str} {id:String} {p:Pos} {es:List Expr} {fs:AM} {g:GM} (hc:CallR X (.builtin id) (rC X g)) (hm:X.mg x=none) (hv:bootBuiltins x=some (.builtin id)) (ha:MA X (e::es) fs) (hg:Gl X x:=by rfl) (hn:x≠"__name__":=by decide) (hdb:(x == ("__debug__":Str))=false:=by decide)
    (he:starEach (e::es) X.env=(false,eval e X.env)::starEach es X.env:=by rfl) (hpl:(backTo pos (starEach es X.env)).any (·.1)=false:=by rfl):ME X (.Call (.Name x p) (e::es) [] pos) (mCB g fs):=
  PE.imp (Zg4 hc hg hm hv ha hn hdb he hpl) Zsi
theorem Zca {x:Str} {T:String} {p:Pos} {es:List Expr} {fs:AM} {g:GM} (hc:CallR X (.type T) (rC X g)) (hm:X.mg x=none) (hv:bootBuiltins x=some (.type T)) (ha:MA X (e::es) fs) (hg:Gl X x:=by rfl) (hn:x≠"__name__":=by decide) (hdb:(x == ("__debug__":Str))=false:=by decide)
    (he:starEach (e::es) X.env=(false,eval e X.env)::starEach es X.env:=by rfl) (hpl:(backTo pos (starEach es X.env)).any (·.1)=false:=by rfl):ME X (.Call (.Name x p) (e::es) [] pos) (mCB g fs):=
  PE.imp (Znl hc hg hm hv ha hn hdb he hpl) Zsi
end
end
end L2.MM
namespace L2.MM
open PySem PySem.Spec PyProof.Rows PySem.SeqAt
noncomputable section
variable {X:Cx}
section
open Classical in
def opI (C:Int→Int→Prop) (g:Int→Int→D):OM:=fun x y θ=>match x,y with
  | .int i,.int j=>if C i j then .ok (g i j) θ else .bad
  | _,_=>.bad
open Classical in
@[simp] theorem ZiV (C:Int→Int→Prop) (g:Int→Int→D) (i j:Int) (θ:Sto):opI C g (.int i) (.int j) θ=if C i j then .ok (g i j) θ else .bad:=nr rfl
open Classical in
theorem ZdT {f:Value→Value→Sem Value} {C:Int→Int→Prop} {g:Int→Int→D} {gV:Int→Int→V} (h:OpR X f (rI C gV)) (r:∀B H i j,RepV B H (g i j) (gV i j)):OpR X f (rM X (opI C g)):=by
  refine OpR.imp h fun x y H Q q=>?_
  obtain ⟨σ,B,θ,d,e,G,rd,re,w⟩:=q
  unfold opI at w
  split at w
  · rename_i i j
    split at w
    · rename_i hc
      exact ⟨i,j,rd,re,hc,ZS G (r B H i j) w⟩
    · exact w.elim
  · exact w.elim
theorem Zh8 {f:Value→Value→Sem Value} {g:Int→Int→V} (h:OpR X f (rI0 g)):OpR X f (rI (fun _ _=>True) g):=OpR.imp h fun x y H Q ⟨i,j,a,b,_,q⟩=>⟨i,j,a,b,q⟩
abbrev Zgx:OM:=opI (fun _ _=>True) fun i j=>.int (i-j)
abbrev Zcs:OM:=opI (fun _ j=>0<j∧j<18446744073709551616) fun i j=>.int (i/j)
abbrev zk:OM:=opI (fun _ j=>0<j) fun i j=>.int (i % j)
abbrev ZvJ:OM:=opI (fun _ _=>True) fun i j=>.int (Builtin.bitAnd i j)
abbrev ltM:OM:=opI (fun _ _=>True) fun i j=>.bl (decide (i<j))
abbrev leM:OM:=opI (fun _ _=>True) fun i j=>.bl (decide (i≤j))
abbrev gtM:OM:=opI (fun _ _=>True) fun i j=>.bl (decide (j<i))
abbrev geM:OM:=opI (fun _ _=>True) fun i j=>.bl (decide (j≤i))
theorem ZeE:OpR X (binaryOp .Sub) (rM X Zgx):=ZdT (Zh8 Ztq) fun _ _ _ _=>rfl
theorem Zb0:OpR X (binaryOp .FloorDiv) (rM X Zcs):=ZdT (OpR.imp Zp0 fun x y H Q ⟨i,j,a,b,c,q⟩=>⟨i,j,a,b,⟨c.1,by
  have h:j.natAbs<2 ^ 64:=by have:=c.1; have:=c.2; omega
  have h0:j.natAbs≠0:=by have:=c.1; omega
  have:=(Nat.log2_lt h0).mpr h
  omega⟩,q⟩) fun _ _ _ _=>rfl
theorem zj:OpR X (binaryOp .Mod) (rM X zk):=ZdT Ztt fun _ _ _ _=>rfl
theorem Zvf:OpR X (binaryOp .BitAnd) (rM X ZvJ):=ZdT (Zh8 Ztx) fun _ _ _ _=>rfl
theorem Zyt:OpR X (compareOp .Lt) (rM X ltM):=ZdT (Zh8 Zvb) fun _ _ i j=>by show _=V.bl _; congr
theorem ZlT:OpR X (compareOp .LtE) (rM X leM):=ZdT (Zh8 Zvc) fun _ _ i j=>by show _=V.bl _; congr
theorem ZhU:OpR X (compareOp .Gt) (rM X gtM):=ZdT (Zh8 Zvd) fun _ _ i j=>by show _=V.bl _; congr
theorem ZrA:OpR X (compareOp .GtE) (rM X geM):=ZdT (Zh8 Zve) fun _ _ i j=>by show _=V.bl _; congr
def ZM:OM:=fun x y θ=>match x,y with
  | .int i,.int j=>.ok (.int (i+j)) θ
  | .str i,.str j=>if i.length+j.length≤BIG then .ok (.str (i++j)) θ else .bad
  | .tup xs,.tup ys=>if xs.isEmpty=false∧xs.length+ys.length≤BIG then .ok (.tup (xs++ys)) θ else .bad
  | x,y=>match Zak θ x,Zak θ y with
    | some xs,some ys=>if xs.length+ys.length≤BIG then .ok (.lst (xs++ys)) θ else .bad
    | _,_=>.bad
@[simp] theorem ZqS (i j:Int) (θ:Sto):ZM (.int i) (.int j) θ=.ok (.int (i+j)) θ:=nr rfl
@[simp] theorem ZqR (xs ys:List D) (θ:Sto):ZM (.lst xs) (.lst ys) θ=if xs.length+ys.length≤BIG then .ok (.lst (xs++ys)) θ else .bad:=nr rfl
@[simp] theorem ZvK (xs ys:List D) (θ:Sto):ZM (.tup xs) (.tup ys) θ=if xs.isEmpty=false∧xs.length+ys.length≤BIG then .ok (.tup (xs++ys)) θ else .bad:=nr rfl
theorem ZK:OpR X (binaryOp .Add) (rM X ZM):=by
  refine OpR.imp (op_add.or (op_add_str.or (op_catT.or Ztw))) fun x y H Q q=>?_
  obtain ⟨σ,B,θ,d,e,G,rd,re,w⟩:=q
  unfold ZM at w
  split at w
  · exact .inl ⟨_,_,rd,re,ZS G (show RepV B H (.int _) (.int _) from rfl) w⟩
  · split at w
    · rename_i hz
      exact .inr (.inl ⟨_,_,rd,re,zt hz,ZS G (show RepV B H (.str _) (.str _) from rfl) w⟩)
    · exact w.elim
  · split at w
    · rename_i xs ys hz
      obtain ⟨a,vs,rfl,h1,k1,l1⟩:=rd
      obtain ⟨b,us,rfl,h2,k2,l2⟩:=re
      refine .inr (.inr (.inl ⟨a,b,vs,us,rfl,rfl,SqT.of h1,SqT.of h2,?_,?_,fun z=>?_,fun _=>ZgU G (l1.app l2) w⟩))
      · intro z
        have:=l1.emp
        rw [z,hz.1] at this
        simp at this
      · rw [l1.len,l2.len]; exact zt hz.2
      · have e0:ys=[]:=by
          have:=l2.emp
          rw [z] at this
          cases ys with
          | nil=>rfl
          | cons _ _=>simp at this
        subst e0
        rw [List.append_nil] at w
        exact ZS G (show RepV B H (.tup xs) (.ref a) from ⟨a,vs,rfl,h1,k1,l1⟩) w
    · exact w.elim
  · split at w
    · rename_i xs ys e1 e2
      split at w
      · rename_i hz
        obtain ⟨a,vs,rfl,h1,l1⟩:=Zaj G rd e1
        obtain ⟨b,us,rfl,h2,l2⟩:=Zaj G re e2
        exact .inr (.inr (.inr ⟨a,b,vs,us,rfl,rfl,h1,h2,by rw [l1.len,l2.len]; exact zt hz,ZdI G (l1.app l2) w⟩))
      · exact w.elim
    · exact w.elim
def ZfO (i j:Int):Prop:=(-18446744073709551616<i∧i<18446744073709551616)∨(-18446744073709551616<j∧j<18446744073709551616)
instance {i j:Int}:Decidable (ZfO i j):=by unfold ZfO; infer_instance
def ZdX:OM:=fun x y θ=>match x,y with
  | .int i,.int j=>if ZfO i j then .ok (.int (i*j)) θ else .bad
  | .tup xs,.int k=>if xs.isEmpty=false∧0≤k∧k<1000∧(xs.length:Int)*k≤1000 then .ok (.tup (List.replicate k.toNat xs).flatten) θ else .bad
  | x,.int k=>match Zak θ x with
    | some xs=>if -1000000≤k∧k≤1000000∧xs.length*k.toNat≤BIG then .ok (.lst (List.replicate k.toNat xs).flatten) θ else .bad
    | _=>.bad
  | _,_=>.bad
@[simp] theorem Zqb (i j:Int) (θ:Sto):ZdX (.int i) (.int j) θ=if ZfO i j then .ok (.int (i*j)) θ else .bad:=nr rfl
@[simp] theorem Zqa (xs:List D) (k:Int) (θ:Sto):ZdX (.tup xs) (.int k) θ=if xs.isEmpty=false∧0≤k∧k<1000∧(xs.length:Int)*k≤1000 then .ok (.tup (List.replicate k.toNat xs).flatten) θ else .bad:=nr rfl
theorem RepL.rep {B:Bx} {H:Hp} {xs:List D} {vs:List V} (r:RepL B H xs vs):∀k:Nat,RepL B H (List.replicate k xs).flatten (List.replicate k vs).flatten
  | 0=>rfl
  | k+1=>by
    rw [List.replicate_succ,List.replicate_succ,List.flatten_cons,List.flatten_cons]
    exact r.app (RepL.rep r k)
theorem ZdV:OpR X (binaryOp .Mult) (rM X ZdX):=by
  refine OpR.imp (op_mul.or (op_repT.or Ztr)) fun x y H Q q=>?_
  obtain ⟨σ,B,θ,d,e,G,rd,re,w⟩:=q
  unfold ZdX at w
  split at w
  · split at w
    · rename_i hc
      exact .inl ⟨_,_,rd,re,hc.imp (fun h=>⟨by have:=h.1; omega,by have:=h.2; omega⟩) (fun h=>⟨by have:=h.1; omega,by have:=h.2; omega⟩),ZS G (show RepV B H (.int _) (.int _) from rfl) w⟩
    · exact w.elim
  · split at w
    · rename_i xs k hz
      obtain ⟨a,vs,rfl,h1,k1,l1⟩:=rd
      obtain ⟨z1,z2,z3,z4⟩:=hz
      refine .inr (.inl ⟨a,k,vs,rfl,re,SqT.of h1,?_,z2,z3,by rw [l1.len]; exact z4,fun z=>?_,fun _=>ZgU G (l1.rep _) w⟩)
      · intro z
        have:=l1.emp
        rw [z,z1] at this
        simp at this
      · subst z
        have e0:(List.replicate (1:Int).toNat xs).flatten=xs:=by simp
        rw [e0] at w
        exact ZS G (show RepV B H (.tup xs) (.ref a) from ⟨a,vs,rfl,h1,k1,l1⟩) w
    · exact w.elim
  · split at w
    · rename_i xs e1
      split at w
      · rename_i hz
        obtain ⟨a,vs,rfl,h1,l1⟩:=Zaj G rd e1
        exact .inr (.inr ⟨a,_,vs,rfl,re,h1,by have:=hz.1; omega,by have:=hz.2.1; omega,by rw [l1.len]; exact zt hz.2.2,ZdI G (l1.rep _) w⟩)
      · exact w.elim
    · exact w.elim
  · exact w.elim
def Zyw (f:EM):EM:=fun ρ θ=>(f ρ θ).bind fun x θ=>match x with
  | .int i=>.ok (.int (-i)) θ
  | _=>.bad
mutual
def dat:D→PyData
  | .bl b=>.bool b
  | .int i=>.int i
  | .str x=>.str x
  | .tup xs=>.tuple (Zd1 xs)
  | .lst xs=>.list (Zd1 xs)
  | _=>.none
def Zd1:List D→List PyData
  | []=>[]
  | d::r=>dat d::Zd1 r
end
mutual
def plain:D→Bool
  | .non=>true
  | .bl _=>true
  | .int _=>true
  | .str _=>true
  | .tup xs=>Zbk xs
  | .lst xs=>Zbk xs
  | _=>false
def Zbk:List D→Bool
  | []=>true
  | d::r=>plain d && Zbk r
end
mutual
theorem rdv {B:Bx} {H:Hp} {K:PySem.W.Frag}:∀{d:D} {v:V},plain d=true→RepV B H d v→RdV K H v (dat d)
  | .non,_,_,r=>by cases (show _=V.non from r); exact .non
  | .bl b,_,_,r=>by cases (show _=V.bl b from r); exact .bl b
  | .int i,_,_,r=>by cases (show _=V.int i from r); exact .int i
  | .str x,_,_,r=>by cases (show _=V.str x from r); exact .str x
  | .tup xs,_,p,r=>by
    obtain ⟨a,vs,rfl,h,_,l⟩:=r
    exact .tup (SqT.of h) (Zrg p l)
  | .lst xs,_,p,r=>by
    obtain ⟨a,vs,rfl,h,_,l⟩:=r
    exact .lst (SqL.of h) (Zrg p l)
  | .ty _,_,p,_=>nomatch p
  | .scr _,_,p,_=>nomatch p
  | .ref _,_,p,_=>nomatch p
theorem Zrg {B:Bx} {H:Hp} {K:PySem.W.Frag}:∀{ds:List D} {vs:List V},Zbk ds=true→RepL B H ds vs→RdVs K H vs (Zd1 ds)
  | [],_,_,r=>by cases (show _=[] from r); exact .nil
  | d::ds,_,p,r=>by
    obtain ⟨v,q,rfl,hv,hq⟩:=r
    have p':plain d=true∧Zbk ds=true:=by simpa [Zbk] using p
    exact .cons (rdv p'.1 hv) (Zrg p'.2 hq)
end
mutual
theorem ZkW:∀{d e:D},plain d=true→plain e=true→(same (dat d) (dat e)=true↔d=e):=fun {d e} p q=>by
  cases d with
  | ty _=>exact nomatch p
  | scr _=>exact nomatch p
  | ref _=>exact nomatch p
  | non=>cases e<;>simp_all [plain,dat,same]
  | bl _=>cases e<;>simp_all [plain,dat,same]
  | int _=>cases e<;>simp_all [plain,dat,same]
  | str _=>cases e<;>simp_all [plain,dat,same]
  | tup xs=>
    cases e with
    | tup ys=>
      simp only [dat,same,D.tup.injEq]
      exact ZfW p q
    | ty _=>exact nomatch q
    | scr _=>exact nomatch q
    | ref _=>exact nomatch q
    | _=>simp [dat,same]
  | lst xs=>
    cases e with
    | lst ys=>
      simp only [dat,same,D.lst.injEq]
      exact ZfW p q
    | ty _=>exact nomatch q
    | scr _=>exact nomatch q
    | ref _=>exact nomatch q
    | _=>simp [dat,same]
theorem ZfW:∀{ds es:List D},Zbk ds=true→Zbk es=true→(sameAll (Zd1 ds) (Zd1 es)=true↔ds=es)
  | [],[],_,_=>by simp [Zd1,sameAll]
  | [],_::_,_,_=>by simp [Zd1,sameAll]
  | _::_,[],_,_=>by simp [Zd1,sameAll]
  | d::ds,e::es,p,q=>by
    have p':plain d=true∧Zbk ds=true:=by simpa [Zbk] using p
    have q':plain e=true∧Zbk es=true:=by simpa [Zbk] using q
    simp only [Zd1,sameAll,Bool.and_eq_true,List.cons.injEq]
    rw [ZkW p'.1 q'.1,ZfW p'.2 q'.2]
end
def look (θ:Sto) (d:D):D:=match d with
  | .ref l=>match θ[l]? with
    | some (.lst xs)=>.lst xs
    | _=>.ref l
  | d=>d
theorem Zfj {B:Bx} {θ:Sto} {H:Hp} {K:PySem.W.Frag} (G:Good X.cl B θ H) {d:D} {v:V} (r:RepV B H d v) (p:plain (look θ d)=true):RdV K H v (dat (look θ d)):=by
  cases d with
  | ref l=>
    unfold look at p ⊢
    simp only at p ⊢
    split at p
    · rename_i xs e
      obtain ⟨hl,rfl⟩:=r
      obtain ⟨vs,h1,h2⟩:=G.cel l _ e
      exact .lst (SqL.of h1) (Zrg p h2)
    · exact nomatch p
  | _=>exact rdv p r
structure Ziz (x y:D):Prop where
  px:plain x=true
  py:plain y=true
  sx:shaped (dat x)=true
  sy:shaped (dat y)=true
  nm:noMix (dat x) (dat y)=true
open Classical in
def eqM:OM:=fun x y θ=>if Ziz (look θ x) (look θ y) then .ok (.bl (decide (look θ x=look θ y))) θ else .bad
open Classical in
def neM:OM:=fun x y θ=>if Ziz (look θ x) (look θ y) then .ok (.bl (!decide (look θ x=look θ y))) θ else .bad
open Classical in
theorem ZkX {d e:D} (p:plain d=true) (q:plain e=true):same (dat d) (dat e)=decide (d=e):=by
  rw [Bool.eq_iff_iff,ZkW p q,decide_eq_true_iff]
open Classical in
theorem zu (hu:X.A.units+64<cLine):OpR X (compareOp .Eq) (rM X eqM):=by
  refine OpR.imp (Ztv hu) fun x y H Q q=>?_
  obtain ⟨σ,B,θ,d,e,G,rd,re,w⟩:=q
  unfold eqM at w
  split at w
  · rename_i c
    refine ⟨_,_,Zfj G rd c.px,Zfj G re c.py,c.sx,c.sy,c.nm,?_⟩
    rw [ZkX c.px c.py]
    exact ZS G (show RepV B H (.bl _) (.bl _) from rfl) w
  · exact w.elim
open Classical in
theorem Zfa (hu:X.A.units+64<cLine):OpR X (compareOp .NotEq) (rM X neM):=by
  refine OpR.imp (Zts hu) fun x y H Q q=>?_
  obtain ⟨σ,B,θ,d,e,G,rd,re,w⟩:=q
  unfold neM at w
  split at w
  · rename_i c
    refine ⟨_,_,Zfj G rd c.px,Zfj G re c.py,c.sx,c.sy,c.nm,?_⟩
    rw [ZkX c.px c.py]
    exact ZS G (show RepV B H (.bl _) (.bl _) from rfl) w
  · exact w.elim
def Zju:List D→Bool
  | []=>true
  | .int _::r=>Zju r
  | _=>false
def ZhO:List D→Bool
  | []=>true
  | .str _::r=>ZhO r
  | _=>false
def memI (i:Int):List D→Bool
  | .int j::r=>decide (j=i) || memI i r
  | _=>false
def memS (x:Str):List D→Bool
  | .str y::r=>decide (y=x) || memS x r
  | _=>false
def inD (θ:Sto) (x y:D):Option Bool:=match seqOf θ y with
  | none=>none
  | some ys=>match x with
    | .int i=>if Zju ys=true then some (memI i ys) else none
    | .str z=>if ZhO ys=true then some (memS z ys) else none
    | _=>none
def inM:OM:=fun x y θ=>match inD θ x y with
  | some k=>.ok (.bl k) θ
  | none=>.bad
def ZiW:OM:=fun x y θ=>match inD θ x y with
  | some k=>.ok (.bl (!k)) θ
  | none=>.bad
theorem Zgu {B:Bx} {H:Hp}:∀{ys:List D} {vs:List V},Zju ys=true→RepL B H ys vs→vs.all Zcy=true∧∀i:Int,inV (.int i) vs=memI i ys
  | [],_,_,r=>by cases (show _=[] from r); exact ⟨rfl,fun _=>rfl⟩
  | d::ys,_,h,r=>by
    cases d with
    | int j=>
      obtain ⟨v,q,rfl,hv,hq⟩:=r
      cases (show v=V.int j from hv)
      obtain ⟨h1,h2⟩:=Zgu (show Zju ys=true from h) hq
      refine ⟨by simp [Zcy] at h1 ⊢; exact h1,fun i=>?_⟩
      have:=h2 i
      unfold inV at this ⊢
      rw [List.any_cons,this]
      show (j == i || memI i ys)=(decide (j=i) || memI i ys)
      rw [Bool.beq_eq_decide_eq]
    | _=>exact nomatch h
theorem Zgt {B:Bx} {H:Hp}:∀{ys:List D} {vs:List V},ZhO ys=true→RepL B H ys vs→vs.all Zcy=true∧∀i:Str,inV (.str i) vs=memS i ys
  | [],_,_,r=>by cases (show _=[] from r); exact ⟨rfl,fun _=>rfl⟩
  | d::ys,_,h,r=>by
    cases d with
    | str j=>
      obtain ⟨v,q,rfl,hv,hq⟩:=r
      cases (show v=V.str j from hv)
      obtain ⟨h1,h2⟩:=Zgt (show ZhO ys=true from h) hq
      refine ⟨by simp [Zcy] at h1 ⊢; exact h1,fun i=>?_⟩
      have:=h2 i
      unfold inV at this ⊢
      rw [List.any_cons,this]
      show (j == i || memS i ys)=(decide (j=i) || memS i ys)
      rw [Bool.beq_eq_decide_eq]
    | _=>exact nomatch h
theorem Zqp {cl:Mo} {B:Bx} {θ:Sto} {H:Hp} (G:Good cl B θ H) {d e:D} {x y:V} {k:Bool} (rd:RepV B H d x) (re:RepV B H e y) (h:inD θ d e=some k) :
    ∃p xs,y=.ref p∧(SqL cl.K H p xs∨SqT cl.K H p xs)∧Zcy x=true∧xs.all Zcy=true∧inV x xs=k:=by
  unfold inD at h
  split at h
  · cases h
  · rename_i ys e1
    obtain ⟨a,vs,rfl,h1,h2⟩:=Zcg G re e1
    split at h
    · split at h
      · rename_i i hz
        cases h
        cases (show x=V.int i from rd)
        obtain ⟨q1,q2⟩:=Zgu hz h2
        exact ⟨a,vs,rfl,h1,rfl,q1,q2 i⟩
      · cases h
    · split at h
      · rename_i i hz
        cases h
        cases (show x=V.str i from rd)
        obtain ⟨q1,q2⟩:=Zgt hz h2
        exact ⟨a,vs,rfl,h1,rfl,q1,q2 i⟩
      · cases h
    · cases h
theorem ZlU:OpR X (compareOp .In) (rM X inM):=by
  refine OpR.imp Znn fun x y H Q q=>?_
  obtain ⟨σ,B,θ,d,e,G,rd,re,w⟩:=q
  unfold inM at w
  split at w
  · rename_i k e1
    obtain ⟨p,xs,h1,h2,h3,h4,h5⟩:=Zqp G rd re e1
    exact ⟨p,xs,h1,h2,h3,h4,by rw [h5]; exact ZS G (show RepV B H (.bl _) (.bl _) from rfl) w⟩
  · exact w.elim
theorem ZmE:OpR X (compareOp .NotIn) (rM X ZiW):=by
  refine OpR.imp ZiU fun x y H Q q=>?_
  obtain ⟨σ,B,θ,d,e,G,rd,re,w⟩:=q
  unfold ZiW at w
  split at w
  · rename_i k e1
    obtain ⟨p,xs,h1,h2,h3,h4,h5⟩:=Zqp G rd re e1
    exact ⟨p,xs,h1,h2,h3,h4,by rw [h5]; exact ZS G (show RepV B H (.bl _) (.bl _) from rfl) w⟩
  · exact w.elim
def zZ:D→Bool
  | .non=>true
  | _=>false
theorem Zli {B:Bx} {H:Hp} {d:D} {v:V} (r:RepV B H d v):zZ d=decide (v=.non):=by
  cases d with
  | non=>cases (show v=.non from r); simp [zZ]
  | bl b=>cases (show v=.bl b from r); simp [zZ]
  | int i=>cases (show v=.int i from r); simp [zZ]
  | str x=>cases (show v=.str x from r); simp [zZ]
  | ty n=>cases (show v=.ty n from r); simp [zZ]
  | scr ns=>obtain ⟨a,rfl,_⟩:=r; simp [zZ]
  | tup xs=>obtain ⟨a,o,rfl,_⟩:=r; simp [zZ]
  | lst xs=>obtain ⟨a,o,rfl,_⟩:=r; simp [zZ]
  | ref l=>obtain ⟨_,rfl⟩:=r; simp [zZ]
def isM:OM:=fun x y θ=>match y with
  | .non=>.ok (.bl (zZ x)) θ
  | .bl c=>match x with
    | .bl b=>.ok (.bl (b == c)) θ
    | _=>.bad
  | _=>.bad
def Zcn:OM:=fun x y θ=>match y with
  | .non=>.ok (.bl (!zZ x)) θ
  | .bl c=>match x with
    | .bl b=>.ok (.bl (!(b == c))) θ
    | _=>.bad
  | _=>.bad
theorem Ztu:OpR X (compareOp .Is) (fun x y H Q=>∃b c:Bool,x=.bl b∧y=.bl c∧Q (.bl (b == c)) H):=by
  intro pins s σ H x y v u Q I rx ry h
  obtain ⟨b,c,rfl,rfl,q⟩:=h
  cases rx
  cases ry
  have e:(Value.bool b == Value.bool c)=(b == c):=by cases b<;>cases c<;>rfl
  exact wpAny_is_plain rfl ⟨.bl _,H,I,rfl,by rw [e]; exact q⟩
theorem Znp:OpR X (compareOp .Is) (rM X isM):=by
  refine OpR.imp (op_isN.or Ztu) fun x y H Q q=>?_
  obtain ⟨σ,B,θ,d,e,G,rd,re,w⟩:=q
  unfold isM at w
  split at w
  · refine .inl ⟨re,?_⟩
    have q:=ZS G (show RepV B H (.bl _) (.bl _) from rfl) w
    rw [Zli rd] at q
    exact q
  · split at w
    · exact .inr ⟨_,_,rd,re,ZS G (show RepV B H (.bl _) (.bl _) from rfl) w⟩
    · exact w.elim
  · exact w.elim
theorem Zdl:OpR X (compareOp .IsNot) (rM X Zcn):=by
  refine OpR.imp (op_notN.or Zrx) fun x y H Q q=>?_
  obtain ⟨σ,B,θ,d,e,G,rd,re,w⟩:=q
  unfold Zcn at w
  split at w
  · refine .inl ⟨re,?_⟩
    have q:=ZS G (show RepV B H (.bl _) (.bl _) from rfl) w
    rw [Zli rd] at q
    exact q
  · split at w
    · exact .inr ⟨_,_,rd,re,ZS G (show RepV B H (.bl _) (.bl _) from rfl) w⟩
    · exact w.elim
  · exact w.elim
end
end
end L2.MM
namespace L2.MM
open PySem PySem.Spec PyProof.Rows PySem.SeqAt
noncomputable section
variable {X:Cx}
section
def ixD (θ:Sto) (x:D) (i:Int):Option D:=match x with
  | .str z=>if z.length≤BIG then (atI z.cps.toList i).map fun c=>.str ⟨#[c]⟩ else none
  | x=>(seqOf θ x).bind (atI · i)
def ixM:OM:=fun x y θ=>match y with
  | .int i=>match ixD θ x i with
    | some d=>.ok d θ
    | none=>.bad
  | _=>.bad
theorem RepL.atI {B:Bx} {H:Hp} {xs:List D} {vs:List V} {i:Int} {d:D} (r:RepL B H xs vs) (h:atI xs i=some d):∃v,atI vs i=some v∧RepV B H d v:=by
  unfold L2.atI at h ⊢
  rw [r.len]
  cases e:ixN xs.length i with
  | none=>rw [e] at h; cases h
  | some j=>
    rw [e] at h
    exact r.get h
theorem ZI:IxR X (rM X ixM):=by
  refine IxR.imp ZtM fun x y H Q q=>?_
  obtain ⟨σ,B,θ,d,e,G,rd,re,w⟩:=q
  unfold ixM at w
  split at w
  · rename_i i
    split at w
    · rename_i r e1
      have sq:(seqOf θ d).bind (L2.atI · i)=some r→rIx X.K x y H Q:=fun h=>by
        cases e2:seqOf θ d with
        | none=>rw [e2] at h; cases h
        | some xs=>
          rw [e2] at h
          obtain ⟨a,vs,rfl,h1,h2⟩:=Zcg G rd e2
          obtain ⟨v,h3,h4⟩:=h2.atI h
          have q:=ZS G h4 w
          rcases h1 with h1 | h1
          · exact .inl ⟨a,vs,i,v,rfl,re,h1,h3,q⟩
          · exact .inr (.inl ⟨a,vs,i,v,rfl,re,h1,h3,q⟩)
      cases d with
      | str z=>
        simp only [ixD] at e1
        split at e1
        · rename_i hz
          cases e2:L2.atI z.cps.toList i with
          | none=>rw [e2] at e1; cases e1
          | some c=>
            rw [e2] at e1
            cases e1
            exact .inr (.inr ⟨z,i,c,rd,re,zt hz,e2,ZS G (show RepV B H (.str _) (.str _) from rfl) w⟩)
        · cases e1
      | non=>exact sq e1
      | bl _=>exact sq e1
      | int _=>exact sq e1
      | ty _=>exact sq e1
      | scr _=>exact sq e1
      | tup _=>exact sq e1
      | lst _=>exact sq e1
      | ref _=>exact sq e1
    · exact w.elim
  · exact w.elim
abbrev PM:=List Sl→Sto→R (Option Int)
def EqO (_:Bx) (_:Hp) (a b:Option Int):Prop:=a=b
def tMO (X:Cx) (f:PM):TO:=fun σ H Q=>∃B θ ρ,Frm X.cl B θ ρ σ H∧wpR X σ EqO B H (f ρ θ) Q
def MO (X:Cx) (e:Option Expr) (f:PM):Prop:=PO X e (tMO X f)
theorem ZdJ {f:PM} {σ:St} {H:Hp} {Q Q':Option Int→Hp→Prop} (h:tMO X f σ H Q) (hQ:∀v H',Q v H'→Q' v H'):tMO X f σ H Q':=let ⟨B,θ,ρ,F,w⟩:=h; ⟨B,θ,ρ,F,w.mono hQ⟩
theorem ZkV {σ:St} {H:Hp} {γ δ:Type} {Rel':Bx→Hp→γ→δ→Prop} {B:Bx} {θ:Sto} {ρ:List Sl} {f:PM} {k:Option Int→Sto→R γ} {Q:δ→Hp→Prop} (F:Frm X.cl B θ ρ σ H) (h:wpR X σ Rel' B H ((f ρ θ).bind k) Q) :
    tMO X f σ H (fun c H1=>∃B1 θ1,ExtE B B1 H H1∧Frm X.cl B1 θ1 ρ σ H1∧wpR X σ Rel' B1 H1 (k c θ1) Q):=
  ⟨B,θ,ρ,F,(wpR.bind (Rel:=EqO) h).mono fun v H1 ⟨B1,θ1,d,E,G,r,w⟩=>by cases (show d=v from r); exact ⟨B1,θ1,E,F.ext E G,w⟩⟩
def zq:PM:=fun _ θ=>.ok none θ
def Zai (f:EM):PM:=fun ρ θ=>(f ρ θ).bind fun x θ=>match x with
  | .int i=>.ok (some i) θ
  | _=>.bad
theorem PO.imp {e:Option Expr} {t t':TO} (h:PO X e t) (hi:∀σ H Q,t' σ H Q→t σ H Q):PO X e t':=fun pins s σ H Q I q=>h pins s σ H Q I (hi σ H Q q)
theorem ZaP:MO X none zq:=PO.imp Zrn fun σ H Q h=>by
  obtain ⟨B,θ,ρ,F,w⟩:=h
  exact ZS (Rel:=EqO) F.good rfl w
theorem z6 {e:Expr} {f:EM} (h:ME X e f):MO X (some e) (Zai f):=PO.imp (Zrm h) fun σ H Q h=>by
  obtain ⟨B,θ,ρ,F,w⟩:=h
  refine ZO (step F w) ?_
  rintro v H1 ⟨B1,θ1,x,E1,F1,rx,w1⟩
  cases x with
  | int i=>exact ⟨i,rx,ZS (Rel:=EqO) F1.good rfl w1⟩
  | _=>exact w1.elim
def Zct {α:Type} (xs:List α) (lo hi:Option Int):List α:=(xs.drop (HT.sIx xs.length 0 lo)).take (HT.sIx xs.length xs.length hi-HT.sIx xs.length 0 lo)
theorem RepL.cut {B:Bx} {H:Hp} {xs:List D} {vs:List V} (r:RepL B H xs vs) (lo hi:Option Int):RepL B H (Zct xs lo hi) (Zlq vs lo hi):=by
  unfold Zct Zlq
  rw [r.len]
  exact (r.drop _).take _
def ZdK (θ:Sto) (x:D) (lo hi:Option Int):Option D:=match x with
  | .tup xs=>if HT.sIx xs.length 0 lo=0∧HT.sIx xs.length xs.length hi=xs.length then none else some (.tup (Zct xs lo hi))
  | x=>(Zak θ x).map fun xs=>.lst (Zct xs lo hi)
def mSl (f:EM) (lo hi:PM):EM:=fun ρ θ=>(f ρ θ).bind fun x θ=>(lo ρ θ).bind fun l θ=>(hi ρ θ).bind fun h θ=>match ZdK θ x l h with
  | some d=>.ok d θ
  | none=>.bad
theorem Zaw {e:Expr} {lo hi:Option Expr} {f:EM} {fl fh:PM} {pos p2:Pos} (he:ME X e f) (hl:MO X lo fl) (hh:MO X hi fh):ME X (.Subscript e (.Slice lo hi none p2) pos) (mSl f fl fh):=by
  refine PE.imp (ZpM (sl_list.or Zs3) he hl hh) fun σ H Q h=>?_
  obtain ⟨B,θ,ρ,F,w⟩:=h
  refine ZO (step F w) ?_
  rintro v H1 ⟨B1,θ1,x,E1,F1,rx,w1⟩
  refine ZdJ (ZkV F1 w1) ?_
  rintro l H2 ⟨B2,θ2,E2,F2,w2⟩
  refine ZdJ (ZkV F2 w2) ?_
  rintro u H3 ⟨B3,θ3,E3,F3,w3⟩
  have rx3:=rx.ext (E2.trans E3).toExtS
  have lst:∀d,(Zak θ3 x).map (fun xs=>D.lst (Zct xs l u))=some d→wpR X σ RepV B3 H3 (R.ok d θ3) Q→ZuV X.K v l u H3 Q:=fun d h w=>by
    cases e2:Zak θ3 x with
    | none=>rw [e2] at h; cases h
    | some xs=>
      rw [e2] at h
      cases h
      obtain ⟨a,vs,rfl,h1,h2⟩:=Zaj F3.good rx3 e2
      exact ⟨a,vs,rfl,SqL.of h1,ZdI F3.good (h2.cut l u) w⟩
  split at w3
  · rename_i d e1
    cases x with
    | tup xs=>
      simp only [ZdK] at e1
      split at e1
      · cases e1
      · rename_i hw
        cases e1
        obtain ⟨a,vs,rfl,h1,k1,l1⟩:=rx3
        exact .inr ⟨a,vs,rfl,SqT.of h1,by rw [l1.len]; exact hw,ZgU F3.good (l1.cut l u) w3⟩
    | non=>exact .inl (lst d e1 w3)
    | bl _=>exact .inl (lst d e1 w3)
    | int _=>exact .inl (lst d e1 w3)
    | str _=>exact .inl (lst d e1 w3)
    | ty _=>exact .inl (lst d e1 w3)
    | scr _=>exact .inl (lst d e1 w3)
    | lst _=>exact .inl (lst d e1 w3)
    | ref _=>exact .inl (lst d e1 w3)
  · exact w3.elim
def ZcV {α:Type} (xs:List α) (lo hi st:Option Int):List α:=(sliceRange (sliceBounds lo hi st xs.length).1 (sliceBounds lo hi st xs.length).2.1 (sliceBounds lo hi st xs.length).2.2).filterMap (xs[·]?)
theorem RepL.none_of:∀{B:Bx} {H:Hp} {xs:List D} {vs:List V} {i:Nat},RepL B H xs vs→xs[i]?=none→vs[i]?=none:=fun {B H xs vs i} r e=>by
  have h1:=r.len
  have h2:xs.length≤i:=List.getElem?_eq_none_iff.mp e
  exact List.getElem?_eq_none_iff.mpr (by omega)
theorem RepL.pick {B:Bx} {H:Hp} {xs:List D} {vs:List V} (r:RepL B H xs vs):∀ks:List Nat,RepL B H (ks.filterMap (xs[·]?)) (ks.filterMap (vs[·]?))
  | []=>rfl
  | k::ks=>by
    cases e:xs[k]? with
    | none=>rw [List.filterMap_cons_none e,List.filterMap_cons_none (r.none_of e)]; exact r.pick ks
    | some x=>
      obtain ⟨u,e',q⟩:=r.get e
      rw [List.filterMap_cons_some e,List.filterMap_cons_some e']
      exact ⟨_,_,rfl,q,r.pick ks⟩
def ZrF (f:EM) (lo hi st:PM):EM:=fun ρ θ=>(f ρ θ).bind fun x θ=>(lo ρ θ).bind fun l θ=>(hi ρ θ).bind fun h θ=>(st ρ θ).bind fun s θ=>match Zak θ x with
  | some xs=>if s≠some 0∧(ZcV xs l h s).length≤BIG then .ok (.lst (ZcV xs l h s)) θ else .bad
  | none=>.bad
theorem Zih {e sp:Expr} {lo hi:Option Expr} {f:EM} {fl fh fs:PM} {pos p2:Pos} (he:ME X e f) (hl:MO X lo fl) (hh:MO X hi fh) (hs:MO X (some sp) fs):ME X (.Subscript e (.Slice lo hi (some sp) p2) pos) (ZrF f fl fh fs):=by
  refine PE.imp (Znk he hl hh hs) fun σ H Q h=>?_
  obtain ⟨B,θ,ρ,F,w⟩:=h
  refine ZO (step F w) ?_
  rintro v H1 ⟨B1,θ1,x,E1,F1,rx,w1⟩
  refine ZdJ (ZkV F1 w1) ?_
  rintro l H2 ⟨B2,θ2,E2,F2,w2⟩
  refine ZdJ (ZkV F2 w2) ?_
  rintro u H3 ⟨B3,θ3,E3,F3,w3⟩
  refine ZdJ (ZkV F3 w3) ?_
  rintro s H4 ⟨B4,θ4,E4,F4,w4⟩
  split at w4
  · rename_i xs e1
    split at w4
    · rename_i hz
      obtain ⟨a,vs,rfl,h1,h2⟩:=Zaj F4.good (rx.ext ((E2.trans E3).trans E4).toExtS) e1
      have p:RepL B4 H4 (ZcV xs l u s) (ZdL vs l u s):=by
        unfold ZcV ZdL
        rw [h2.len]
        exact h2.pick _
      exact ⟨a,vs,rfl,SqL.of h1,hz.1,by rw [p.len]; exact zt hz.2,ZdI F4.good p w4⟩
    · exact w4.elim
  · exact w4.elim
def Zbm:GM:=fun ds θ=>match ds with
  | [.str z]=>if z.length≤BIG then .ok (.int z.length) θ else .bad
  | [d]=>match seqOf θ d with
    | some xs=>.ok (.int xs.length) θ
    | none=>.bad
  | _=>.bad
theorem RepL.one {B:Bx} {H:Hp} {d:D} {vs:List V} (r:RepL B H [d] vs):∃v,vs=[v]∧RepV B H d v:=by
  obtain ⟨v,q,rfl,hv,hq⟩:=r
  cases (show q=[] from hq)
  exact ⟨v,rfl,hv⟩
theorem RepL.two {B:Bx} {H:Hp} {d e:D} {vs:List V} (r:RepL B H [d,e] vs):∃v u,vs=[v,u]∧RepV B H d v∧RepV B H e u:=by
  obtain ⟨v,q,rfl,hv,hq⟩:=r
  obtain ⟨u,rfl,hu⟩:=hq.one
  exact ⟨v,u,rfl,hv,hu⟩
theorem Zcp:CallR X (.builtin "len") (rC X Zbm):=by
  refine CallR.imp (call_len_str.or Zjk) fun vs H Q q=>?_
  obtain ⟨σ,B,θ,ds,G,r,w⟩:=q
  unfold Zbm at w
  split at w
  · split at w
    · rename_i z hz
      obtain ⟨v,rfl,rv⟩:=r.one
      cases (show v=V.str z from rv)
      exact .inl ⟨z,rfl,zt hz,ZS G (show RepV B H (.int _) (.int _) from rfl) w⟩
    · exact w.elim
  · split at w
    · rename_i xs e1
      obtain ⟨v,rfl,rv⟩:=r.one
      obtain ⟨a,us,rfl,h1,h2⟩:=Zcg G rv e1
      exact .inr ⟨a,us,rfl,h1,by rw [h2.len]; exact ZS G (show RepV B H (.int _) (.int _) from rfl) w⟩
    · exact w.elim
  · exact w.elim
def Zfl:List D→Option (List Int)
  | []=>some []
  | .int i::r=>(Zfl r).map (i::·)
  | _=>none
@[simp] theorem Zqo (ns:List Int):Zfl (ns.map D.int)=some ns:=by
  induction ns with
  | nil=>rfl
  | cons n r ih=>simp [Zfl,ih]
theorem ZmU:∀{ds:List D} {ns:List Int},Zfl ds=some ns→ds=ns.map D.int
  | [],_,h=>by cases h; rfl
  | d::r,ns,h=>by
    cases d with
    | int i=>
      simp only [Zfl] at h
      cases e:Zfl r with
      | none=>rw [e] at h; cases h
      | some ms=>rw [e] at h; cases h; rw [ZmU e]; rfl
    | _=>cases h
theorem Zlj {B:Bx} {H:Hp}:∀{ns:List Int} {vs:List V},RepL B H (ns.map D.int) vs→vs=ns.map V.int
  | [],_,r=>r
  | n::ns,_,r=>by
    obtain ⟨v,q,rfl,hv,hq⟩:=r
    cases (show v=V.int n from hv)
    rw [Zlj hq]; rfl
def Znd:GM:=fun ds θ=>match ds with
  | [d]=>match (Zak θ d).bind Zfl with
    | some ns=>.ok (.int ns.sum) θ
    | none=>.bad
  | _=>.bad
theorem ZsE (hc:X.calm=true:=by rfl):CallR X (.builtin "sum") (rC X Znd):=by
  refine CallR.imp (ZqJ hc) fun vs H Q q=>?_
  obtain ⟨σ,B,θ,ds,G,r,w⟩:=q
  unfold Znd at w
  split at w
  · rename_i d
    split at w
    · rename_i ns e1
      obtain ⟨v,rfl,rv⟩:=r.one
      cases e2:Zak θ d with
      | none=>rw [e2] at e1; cases e1
      | some xs=>
        rw [e2] at e1
        obtain ⟨a,us,rfl,h1,h2⟩:=Zaj G rv e2
        rw [ZmU (show Zfl xs=some ns from e1)] at h2
        rw [Zlj h2] at h1
        exact ⟨a,ns,rfl,SqL.of h1,ZS G (show RepV B H (.int _) (.int _) from rfl) w⟩
    · exact w.elim
  · exact w.elim
def Zla:GM:=fun ds θ=>match ds with
  | [.int i,.int j]=>.ok (.int (if j<i then j else i)) θ
  | [.int i,.int j,.int k]=>.ok (.int (if j<i then (if k<j then k else j) else (if k<i then k else i))) θ
  | _=>.bad
def ZtE:GM:=fun ds θ=>match ds with
  | [.int i,.int j]=>.ok (.int (if j > i then j else i)) θ
  | _=>.bad
theorem RepL.three {B:Bx} {H:Hp} {d e f:D} {vs:List V} (r:RepL B H [d,e,f] vs):∃v u w,vs=[v,u,w]∧RepV B H d v∧RepV B H e u∧RepV B H f w:=by
  obtain ⟨v,q,rfl,hv,hq⟩:=r
  obtain ⟨u,w,rfl,hu,hw⟩:=hq.two
  exact ⟨v,u,w,rfl,hv,hu,hw⟩
theorem ZnM (hc:X.calm=true):CallR X (.builtin "min") (fun xs H Q=>∃i j k,xs=[.int i,.int j,.int k]∧Q (.int (if j<i then (if k<j then k else j) else (if k<i then k else i))) H):=by
  intro pins s σ H xs us Q I r h
  obtain ⟨i,j,k,rfl,q⟩:=h
  cases r with
  | cons r1 rr=>
    obtain ⟨u2,u3,e,r2,r3⟩:=Zph rr
    subst e
    obtain ⟨t1,rfl⟩:=r1
    obtain ⟨t2,rfl⟩:=r2
    obtain ⟨t3,rfl⟩:=r3
    refine min_three_ints (I.ok.hd hc) fun h' tk kk=>⟨_,H,I.kept kk,?_,q⟩
    by_cases c1:j<i
    · by_cases c2:k<j
      · simp only [c1,c2,if_true]; exact ⟨_,rfl⟩
      · simp only [c1,c2,if_true,if_false]; exact ⟨_,rfl⟩
    · by_cases c2:k<i
      · simp only [c1,c2,if_true,if_false]; exact ⟨_,rfl⟩
      · simp only [c1,c2,if_false]; exact ⟨_,rfl⟩
theorem ZmX (hc:X.calm=true:=by rfl):CallR X (.builtin "min") (rC X Zla):=by
  refine CallR.imp ((ZnN hc).or (ZnM hc)) fun vs H Q q=>?_
  obtain ⟨σ,B,θ,ds,G,r,w⟩:=q
  unfold Zla at w
  split at w
  · rename_i i j
    obtain ⟨v,u,rfl,rv,ru⟩:=r.two
    cases (show v=V.int i from rv)
    cases (show u=V.int j from ru)
    exact .inl ⟨i,j,rfl,ZS G (show RepV B H (.int _) (.int _) from rfl) w⟩
  · rename_i i j k
    obtain ⟨v,u,z,rfl,rv,ru,rz⟩:=r.three
    cases (show v=V.int i from rv)
    cases (show u=V.int j from ru)
    cases (show z=V.int k from rz)
    exact .inr ⟨i,j,k,rfl,ZS G (show RepV B H (.int _) (.int _) from rfl) w⟩
  · exact w.elim
theorem ZvF (hc:X.calm=true:=by rfl):CallR X (.builtin "max") (rC X ZtE):=by
  refine CallR.imp (ZnO hc) fun vs H Q q=>?_
  obtain ⟨σ,B,θ,ds,G,r,w⟩:=q
  unfold ZtE at w
  split at w
  · rename_i i j
    obtain ⟨v,u,rfl,rv,ru⟩:=r.two
    cases (show v=V.int i from rv)
    cases (show u=V.int j from ru)
    exact ⟨i,j,rfl,ZS G (show RepV B H (.int _) (.int _) from rfl) w⟩
  · exact w.elim
def ZrJ:GM:=fun ds θ=>match ds with
  | [.int i]=>.ok (.int i) θ
  | [.bl k]=>.ok (.int (if k then 1 else 0)) θ
  | _=>.bad
theorem ZvG:CallR X (.type "int") (rC X ZrJ):=by
  refine CallR.imp ZnP fun vs H Q q=>?_
  obtain ⟨σ,B,θ,ds,G,r,w⟩:=q
  unfold ZrJ at w
  split at w
  · rename_i i
    obtain ⟨v,rfl,rv⟩:=r.one
    cases (show v=V.int i from rv)
    exact .inl ⟨i,rfl,ZS G (show RepV B H (.int _) (.int _) from rfl) w⟩
  · rename_i k
    obtain ⟨v,rfl,rv⟩:=r.one
    cases (show v=V.bl k from rv)
    exact .inr ⟨k,rfl,ZS G (show RepV B H (.int _) (.int _) from rfl) w⟩
  · exact w.elim
def Zlh:GM:=fun ds θ=>match ds with
  | [d]=>match seqOf θ d with
    | some xs=>.ok (.lst xs) θ
    | none=>.bad
  | _=>.bad
theorem ZqL:CallR X (.type "list") (rC X Zlh):=by
  refine CallR.imp Zjj fun vs H Q q=>?_
  obtain ⟨σ,B,θ,ds,G,r,w⟩:=q
  unfold Zlh at w
  split at w
  · split at w
    · rename_i xs e1
      obtain ⟨v,rfl,rv⟩:=r.one
      obtain ⟨a,us,rfl,h1,h2⟩:=Zcg G rv e1
      exact ⟨a,us,rfl,h1,ZdI G h2 w⟩
    · exact w.elim
  · exact w.elim
def ZfR:GM:=fun ds θ=>match ds with
  | [.tup xs]=>.ok (.tup xs) θ
  | [d]=>match Zak θ d with
    | some xs=>.ok (.tup xs) θ
    | none=>.bad
  | _=>.bad
theorem Zjl:CallR X (.type "tuple") (rC X ZfR):=by
  refine CallR.imp ZhY fun vs H Q q=>?_
  obtain ⟨σ,B,θ,ds,G,r,w⟩:=q
  unfold ZfR at w
  split at w
  · rename_i xs
    obtain ⟨v,rfl,rv⟩:=r.one
    obtain ⟨a,us,rfl,h1,k1,l1⟩:=id rv
    exact ⟨a,us,rfl,.inr ⟨SqT.of h1,ZS G rv w⟩⟩
  · split at w
    · rename_i xs e1
      obtain ⟨v,rfl,rv⟩:=r.one
      obtain ⟨a,us,rfl,h1,h2⟩:=Zaj G rv e1
      exact ⟨a,us,rfl,.inl ⟨SqL.of h1,ZgU G h2 w⟩⟩
    · exact w.elim
  · exact w.elim
inductive Ty | non | bl | int | str | lst | tup
end
end
end L2.MM
namespace L2.MM
open PySem PySem.Spec PyProof.Rows PySem.SeqAt
noncomputable section
variable {X:Cx}
inductive Src where
  | seq (d:D) | rng (lo:Int) (n:Nat)
def Src.items (θ:Sto):Src→Option (List D)
  | .seq d=>seqOf θ d
  | .rng lo n=>some ((List.range n).map fun (i:Nat)=>D.int (lo+(i:Int)))
def SrcRep (K:PySem.W.Frag) (B:Bx) (H:Hp):Src→It→Prop
  | .seq d,J=>∃a,RepV B H d (.ref a)∧J=(match d with | .tup _=>Itt K a | _=>Itl K a)
  | .rng lo n,J=>J=Itr lo n
abbrev IM:=List Sl→Sto→R Src
section
def tMI (X:Cx) (f:IM):TI:=fun σ H Q=>∃B θ ρ,Frm X.cl B θ ρ σ H∧wpR X σ (SrcRep X.K) B H (f ρ θ) Q
def MI (X:Cx) (tg iter:Expr) (f:IM):Prop:=PI X tg iter (tMI X f)
theorem PI.imp {tg iter:Expr} {t t':TI} (h:PI X tg iter t) (hi:∀σ H Q,t' σ H Q→t σ H Q):PI X tg iter t':=fun pins s σ H Q I q=>h pins s σ H Q I (hi σ H Q q)
theorem SrcRep.ext {K:PySem.W.Frag} {B B':Bx} {H H':Hp} {S:Src} {J:It} (r:SrcRep K B H S J) (E:ExtS B B' H H'):SrcRep K B' H' S J:=by
  cases S with
  | seq d=>obtain ⟨a,h,e⟩:=r; exact ⟨a,h.ext E,e⟩
  | rng lo n=>exact r
theorem ZfT {cl:Mo} {B:Bx} {θ:Sto} {H:Hp} {S:Src} {J:It} {xs:List D} (G:Good cl B θ H) (r:SrcRep cl.K B H S J) (h:S.items θ=some xs) :
    (∀i d,xs[i]?=some d→J.go i H∧∀x H',J.yld i H x H'→H'=H∧RepV B H d x)∧J.stop xs.length H:=by
  cases S with
  | rng lo n=>
    cases (show J=Itr lo n from r)
    cases h
    refine ⟨fun i d e=>?_,by show n≤_; simp⟩
    rw [List.getElem?_map] at e
    by_cases hi:i<n
    · rw [List.getElem?_range hi] at e
      cases e
      exact ⟨hi,fun x H' y=>⟨y.1,y.2⟩⟩
    · rw [List.getElem?_eq_none (by simpa using hi)] at e
      cases e
  | seq d=>
    obtain ⟨a,rv,e⟩:=r
    cases d with
    | tup ys=>
      obtain ⟨a',vs,e1,h1,_,h2⟩:=rv
      cases e1
      cases h
      simp only at e
      subst e
      refine ⟨fun i d e=>?_,⟨vs,SqT.of h1,by rw [h2.len]; exact Nat.le_refl _⟩⟩
      obtain ⟨v,q1,q2⟩:=h2.get e
      refine ⟨⟨vs,v,SqT.of h1,q1⟩,fun x H' y=>⟨y.1,?_⟩⟩
      have:=y.2 vs (SqT.of h1)
      rw [q1] at this
      cases this
      exact q2
    | scr ns=>
      cases h
      obtain ⟨a',vs',e1,h1,_⟩:=Zcg G rv (show seqOf θ (.scr ns)=some (ns.map D.int) from rfl)
      cases e1
      simp only at e
      subst e
      have hS:SqL cl.K H a (ns.map V.int):=by
        obtain ⟨a',e1,h1⟩:=rv
        cases e1
        rcases h1 with ⟨o,h1,_⟩ | h1
        · exact .inl (.inr ⟨o,h1⟩)
        · exact .inr (G.kc a ns h1)
      have h2:RepL B H (ns.map D.int) (ns.map V.int):=RepL.map (f:=D.int) (g:=V.int) (fun _=>rfl) ns
      refine ⟨fun i d e=>?_,⟨ns.map V.int,hS,by simp⟩⟩
      obtain ⟨v,q1,q2⟩:=h2.get e
      refine ⟨⟨_,v,hS,q1⟩,fun x H' y=>⟨y.1,?_⟩⟩
      have:=y.2 _ hS
      rw [q1] at this
      cases this
      exact q2
    | lst ys=>
      obtain ⟨a',vs,e1,h1,h2⟩:=Zaj G rv (show Zak θ (.lst ys)=some xs from h)
      cases e1
      simp only at e
      subst e
      refine ⟨fun i d e=>?_,⟨vs,SqL.of h1,by rw [h2.len]; exact Nat.le_refl _⟩⟩
      obtain ⟨v,q1,q2⟩:=h2.get e
      refine ⟨⟨vs,v,SqL.of h1,q1⟩,fun x H' y=>⟨y.1,?_⟩⟩
      have:=y.2 vs (SqL.of h1)
      rw [q1] at this
      cases this
      exact q2
    | ref l=>
      obtain ⟨a',vs,e1,h1,h2⟩:=Zaj G rv (show Zak θ (.ref l)=some xs from h)
      cases e1
      simp only at e
      subst e
      refine ⟨fun i d e=>?_,⟨vs,SqL.of h1,by rw [h2.len]; exact Nat.le_refl _⟩⟩
      obtain ⟨v,q1,q2⟩:=h2.get e
      refine ⟨⟨vs,v,SqL.of h1,q1⟩,fun x H' y=>⟨y.1,?_⟩⟩
      have:=y.2 vs (SqL.of h1)
      rw [q1] at this
      cases this
      exact q2
    | non=>cases h
    | bl _=>cases h
    | int _=>cases h
    | str _=>cases h
    | ty _=>cases h
def ZyG (K:PySem.W.Frag) (tl:TE):TI:=fun σ H R=>tl σ H fun x H1=>∃a,x=.ref a∧(((∃xs,SqL K H1 a xs)∧R (Itl K a) H1)∨((∃xs,SqT K H1 a xs)∧R (Itt K a) H1))
theorem Zth {tg l:Expr} {tl:TE} (hl:PE X l tl):PI X tg l (ZyG X.K tl):=by
  intro pins s σ H R I h
  refine thn (hl pins s σ H _ I h) fun v s1 ⟨x,H1,I1,r1,q1⟩=>?_
  obtain ⟨a,e,q1⟩:=q1
  subst e
  cases r1
  rcases q1 with ⟨⟨xs,hq⟩,q⟩ | ⟨⟨xs,hq⟩,q⟩
  · obtain ⟨its,rv,p,hz⟩:=I1.list hq
    refine wpAny_pyIter_list p.isList ?_
    refine ⟨s1.heap.objs.size,[s1.heap.objs.size],_,_,H1,rfl,I1.kept (t':=s1.toks) fun b o e=>Heap.get?_push_of_some _ e,Zm8 a _,⟨_,Heap.get?_push_size _ rfl,rfl,rfl⟩,fun b hb=>?_,q⟩
    have e:b=s1.heap.objs.size:=by simpa using hb
    subst e
    exact I1.fpOk (Nat.le_refl _) (I1.hok.fresh (Nat.le_refl _))
  · obtain ⟨its,rv,p,hz⟩:=I1.tuple hq
    refine wpAny_pyIter_tuple (show s1.heap.IsTuple a its.toArray from p) ?_
    refine ⟨s1.heap.objs.size,[s1.heap.objs.size],_,_,H1,rfl,I1.kept (t':=s1.toks) fun b o e=>Heap.get?_push_of_some _ e,Zly a _,⟨_,Heap.get?_push_size _ rfl,rfl,rfl⟩,fun b hb=>?_,q⟩
    have e:b=s1.heap.objs.size:=by simpa using hb
    subst e
    exact I1.fpOk (Nat.le_refl _) (I1.hok.fresh (Nat.le_refl _))
def mIn (f:EM):IM:=fun ρ θ=>(f ρ θ).bind fun d θ=>match seqOf θ d with
  | some _=>.ok (.seq d) θ
  | none=>.bad
theorem Zqd {tg l:Expr} {f:EM} (h:ME X l f):MI X tg l (mIn f):=by
  refine PI.imp (Zth h) fun σ H R q=>?_
  obtain ⟨B,θ,ρ,F,w⟩:=q
  refine ZO (step F w) ?_
  rintro v H1 ⟨B1,θ1,d,E1,F1,rd,w1⟩
  split at w1
  · rename_i xs e
    obtain ⟨a,vs,rfl,h1,h2⟩:=Zcg F1.good rd e
    refine ⟨a,rfl,?_⟩
    have fin:=fun J (hJ:SrcRep X.K B1 H1 (.seq d) J)=>ZS (Rel:=SrcRep X.K) F1.good hJ w1
    cases d with
    | tup ys=>
      obtain ⟨a',us,e1,g1,_,_⟩:=id rd
      cases e1
      exact .inr ⟨⟨us,SqT.of g1⟩,fin _ ⟨a,rd,rfl⟩⟩
    | scr ns=>
      have hS:SqL X.K H1 a (ns.map V.int):=by
        obtain ⟨a',e1,g1⟩:=id rd
        cases e1
        rcases g1 with ⟨o,g1,_⟩ | g1
        · exact .inl (.inr ⟨o,g1⟩)
        · exact .inr (F1.good.kc a ns g1)
      exact .inl ⟨⟨_,hS⟩,fin _ ⟨a,rd,rfl⟩⟩
    | lst ys=>
      obtain ⟨a',us,e1,g1,_⟩:=Zaj F1.good rd (show Zak θ1 (.lst ys)=some xs from e)
      cases e1
      exact .inl ⟨⟨us,SqL.of g1⟩,fin _ ⟨a,rd,rfl⟩⟩
    | ref l=>
      obtain ⟨a',us,e1,g1,_⟩:=Zaj F1.good rd (show Zak θ1 (.ref l)=some xs from e)
      cases e1
      exact .inl ⟨⟨us,SqL.of g1⟩,fin _ ⟨a,rd,rfl⟩⟩
    | non=>cases e
    | bl _=>cases e
    | int _=>cases e
    | str _=>cases e
    | ty _=>cases e
  · exact w1.elim
def Zgj (f:AM):IM:=fun ρ θ=>(f ρ θ).bind fun ds θ=>match ds with
  | [.int j]=>if -1000000≤j∧j≤1000000 then .ok (.rng 0 j.toNat) θ else .bad
  | _=>.bad
theorem Zeo {tg a:Expr} {f:AM} {p pos:Pos} (hm:X.mg "range"=none) (ha:MA X [a] f) (hg:Gl X "range":=by rfl) (hs:starEach [a] X.env=[(false,eval a X.env)]:=by rfl):MI X tg (.Call (.Name "range" p) [a] [] pos) (Zgj f):=by
  refine PI.imp (Znj hg hm ha hs) fun σ H R q=>?_
  obtain ⟨B,θ,ρ,F,w⟩:=q
  refine ZaE (Ze5 F w) ?_
  rintro vs H1 ⟨B1,θ1,ds,E1,F1,rd,w1⟩
  split at w1
  · rename_i j
    split at w1
    · rename_i hj
      obtain ⟨v,rfl,rv⟩:=rd.one
      cases (show v=V.int j from rv)
      exact ⟨j,rfl,by have:=hj.1; omega,by have:=hj.2; omega,ZS (Rel:=SrcRep X.K) F1.good (show SrcRep X.K B1 H1 (.rng 0 j.toNat) _ from rfl) w1⟩
    · exact w1.elim
  · exact w1.elim
def Zc1 (src:List Nat) (ρ:List Sl) (x:D):List Sl:=Sl.val x::src.map fun (j:Nat)=>match ρ[j]? with
  | some (Sl.val d)=>Sl.val d
  | _=>Sl.no
theorem Frm.inner {B:Bx} {θ:Sto} {ρ:List Sl} {σ:St} {H:Hp} (F:Frm X.cl B θ ρ σ H) (src:List Nat) {x:D} {v:V} (r:RepV B H x v):Frm X.cl B θ (Zc1 src ρ x) (L2.inner src σ (some v)) H:=by
  have key:∀(i:Nat) (s:Sl),(Zc1 src ρ x)[i]?=some s→s=.no∨∃d,s=.val d∧∃v',(L2.inner src σ (some v))[i]?=some (some v')∧RepV B H d v':=fun i s e=>by
    cases i with
    | zero=>simp [Zc1] at e; subst e; exact .inr ⟨x,rfl,v,by simp [L2.inner],r⟩
    | succ i=>
      simp only [Zc1,List.getElem?_cons_succ,List.getElem?_map] at e
      simp only [L2.inner,List.getElem?_cons_succ,List.getElem?_map]
      cases q:src[i]? with
      | none=>rw [q] at e; cases e
      | some j=>
        rw [q] at e
        simp only [Option.map_some,Option.some.injEq] at e
        split at e
        · rename_i d ed
          subst e
          obtain ⟨v',h1,h2⟩:=F.val j d ed
          exact .inr ⟨d,rfl,v',by simp [h1],h2⟩
        · exact .inl e.symm
  refine ⟨F.good,by simp [Zc1,L2.inner],fun i d e=>?_,fun i xs e=>?_,fun i j xs ys a _ e _=>?_⟩
  · rcases key i _ e with z | ⟨d',z,v',h1,h2⟩
    · cases z
    · cases z; exact ⟨v',h1,h2⟩
  · rcases key i _ e with z | ⟨d',z,_⟩<;>cases z
  · rcases key i _ e with z | ⟨d',z,_⟩<;>cases z
open Classical in
def Zgo (S:Src) (all:List D) (elt:D→Sto→R D):List D→List D→Sto→R D
  | [],acc,θ=>if S.items θ=some all∧acc.length≤BIG then .ok (.lst acc) θ else .bad
  | x::r,acc,θ=>if S.items θ=some all then (elt x θ).bind fun y θ=>Zgo S all elt r (acc++[y]) θ else .bad
def Zlf (fi:IM) (src:List Nat) (elt:EM):EM:=fun ρ θ=>(fi ρ θ).bind fun S θ=>match S.items θ with
  | some xs=>if xs.length≤BIG then Zgo S xs (fun x θ=>elt (Zc1 src ρ x) θ) xs [] θ else .bad
  | none=>.bad
open Classical in
theorem Zq7 {fi:IM} {src:List Nat} {elt:EM} (σ:St) (H:Hp) (Q:VK) (h:tM X (Zlf fi src elt) σ H Q):tLc (tMI X fi) src (tM X elt) σ H Q:=by
  obtain ⟨B,θ,ρ,F,w⟩:=h
  refine ⟨B,θ,ρ,F,(wpR.bind (Rel:=SrcRep X.K) w).mono ?_⟩
  rintro J H1 ⟨B1,θ1,S,E1,G1,rJ,w1⟩
  split at w1
  · rename_i xs e1
    split at w1
    · rename_i hz
      refine ⟨xs.length,fun i ys H'=>∃B' θ' acc,ExtE B1 B' H1 H'∧Good X.cl B' θ' H'∧RepL B' H' acc ys∧wpR X σ RepV B' H' (Zgo S xs (fun x θ=>elt (Zc1 src ρ x) θ) (xs.drop i) acc θ') Q,zt hz,?_,?_,?_⟩
      · exact ⟨B1,θ1,[],ExtE.refl _ _,G1,rfl,w1⟩
      · rintro i ys H' hi ⟨B2,θ2,acc,E2,G2,racc,w2⟩
        rw [List.drop_eq_getElem_cons hi] at w2
        unfold Zgo at w2
        split at w2
        · rename_i e2
          obtain ⟨g1,g2⟩:=(ZfT G2 (rJ.ext E2.toExtS) e2).1 i xs[i] (List.getElem?_eq_getElem hi)
          refine ⟨g1,fun y H3 hy=>?_⟩
          obtain ⟨rfl,ry⟩:=g2 y H3 hy
          have F2:=(F.ext (E1.trans E2) G2).inner src ry
          refine ⟨B2,θ2,_,F2,(wpR.bind (Rel:=RepV) w2).mono ?_⟩
          rintro z H4 ⟨B4,θ4,d,E4,G4,rd,w4⟩
          exact ⟨B4,θ4,acc++[d],E2.trans E4,G4,(racc.ext E4.toExtS).app ⟨z,[],rfl,rd,rfl⟩,w4⟩
        · exact w2.elim
      · rintro ys H' ⟨B2,θ2,acc,E2,G2,racc,w2⟩
        rw [List.drop_length] at w2
        unfold Zgo at w2
        split at w2
        · rename_i e2
          exact ⟨(ZfT G2 (rJ.ext E2.toExtS) e2.1).2,ZdI G2 racc w2⟩
        · exact w2.elim
    · exact w1.elim
  · exact w1.elim
theorem Zvi {x:Str} {px pos:Pos} {iter elt:Expr} {scope:Scope} {N':List Str} {src:List Nat} {sc:Scope} {N:List Str} {fi:IM} {fe:EM} (S:ZaU scope sc x N N' src) (hsc:X.env.scope=sc) (hN:X.N=N) (hi:MI X (.Name x px) iter fi)
    (helt:∀(cl:List (Str×Addr)) (C:Addr) (s₀:Shared) (H₀:Hp) (fp:List Addr),ME (X.comp scope N' cl C s₀ H₀ fp) elt fe) (hcm:X.calm=true:=by rfl) (hs:∀v,foldedSetIterable iter X.env v=pure v:=by intro _; rfl) :
    ME X (.ListComp elt [⟨.Name x px,iter,[],0⟩] scope pos) (Zlf fi src fe):=
  PE.imp (Zu5 (te:=tM X fe) S hsc hN hi (fun cl C s₀ H₀ fp=>helt cl C s₀ H₀ fp) hcm hs) Zq7
inductive Fl where
  | nx | rt (d:D) | bk | ct
abbrev SM:=List Sl→Sto→R (Fl×List Sl)
def Zqx (Dn:ZcP) (B:Bx) (σ:St) (H:Hp):Fl→Prop
  | .nx=>Dn.nx σ H
  | .bk=>Dn.bk σ H
  | .ct=>Dn.ct σ H
  | .rt d=>∀v,RepV B H d v→Dn.rt v H
def wpS (X:Cx) (σ:St) (B:Bx) (H:Hp) (r:R (Fl×List Sl)) (Dn:ZcP):Prop:=match r with
  | .ok (fl,ρ') θ'=>∀B' H' σ',ExtS B B' H H'→Frm X.cl B' θ' ρ' σ' H'→Zqx Dn B' σ' H' fl
  | .ex c θ'=>XE X σ B H c θ'
  | .bad=>False
def tMS (X:Cx) (f:SM):TS:=fun Dn σ H=>∃B θ ρ,Frm X.cl B θ ρ σ H∧wpS X σ B H (f ρ θ) Dn
def MS (X:Cx) (st:Stmt) (f:SM):Prop:=PS X st (tMS X f)
def MSs (X:Cx) (sts:List Stmt) (f:SM):Prop:=PSs X sts (tMS X f)
theorem PS.imp {st:Stmt} {t t':TS} (h:PS X st t) (hi:∀D σ H,t' D σ H→t D σ H):PS X st t':=fun pins s σ H D I q=>h pins s σ H D I (hi D σ H q)
theorem PSs.imp {st:List Stmt} {t t':TS} (h:PSs X st t) (hi:∀D σ H,t' D σ H→t D σ H):PSs X st t':=fun pins s σ H D I q=>h pins s σ H D I (hi D σ H q)
theorem wpS.trans {σ σ':St} {B B':Bx} {H H':Hp} {r:R (Fl×List Sl)} {Dn:ZcP} (h:wpS X σ B H r Dn) (E:ExtS B B' H H'):wpS X σ' B' H' r Dn:=by
  cases r with
  | ok a θ'=>exact fun B2 H2 σ2 e g=>h B2 H2 σ2 (E.trans e) g
  | ex c θ'=>exact h
  | bad=>exact h
theorem wpS.bind {α β:Type} {Rel:Bx→Hp→α→β→Prop} {σ:St} {B:Bx} {H:Hp} {r:R α} {k:α→Sto→R (Fl×List Sl)} {Dn:ZcP} (h:wpS X σ B H (r.bind k) Dn) :
    wpR X σ Rel B H r (fun b H1=>∃B1 θ1 a,ExtE B B1 H H1∧Good X.cl B1 θ1 H1∧Rel B1 H1 a b∧wpS X σ B1 H1 (k a θ1) Dn):=by
  cases r with
  | ok a θ'=>exact fun B1 H1 b E g q=>⟨B1,θ',a,E,g,q,wpS.trans h E.toExtS⟩
  | ex c θ'=>exact h
  | bad=>exact h
theorem ZcS {σ:St} {H:Hp} {B:Bx} {θ:Sto} {ρ:List Sl} {f:EM} {k:D→Sto→R (Fl×List Sl)} {Dn:ZcP} (F:Frm X.cl B θ ρ σ H) (h:wpS X σ B H ((f ρ θ).bind k) Dn) :
    tM X f σ H (fun v H1=>∃B1 θ1 d,ExtE B B1 H H1∧Frm X.cl B1 θ1 ρ σ H1∧RepV B1 H1 d v∧wpS X σ B1 H1 (k d θ1) Dn):=
  ⟨B,θ,ρ,F,(wpS.bind (Rel:=RepV) h).mono fun v H1 ⟨B1,θ1,d,E,G,r,w⟩=>⟨B1,θ1,d,E,F.ext E G,r,w⟩⟩
theorem Zpx {σ:St} {H:Hp} {B:Bx} {θ:Sto} {ρ:List Sl} {f:TMr} {k:Bool→Sto→R (Fl×List Sl)} {Dn:ZcP} (F:Frm X.cl B θ ρ σ H) (h:wpS X σ B H ((f ρ θ).bind k) Dn) :
    tMT X f σ H (fun c H1=>∃B1 θ1,ExtE B B1 H H1∧Frm X.cl B1 θ1 ρ σ H1∧wpS X σ B1 H1 (k c θ1) Dn):=
  ⟨B,θ,ρ,F,(wpS.bind (Rel:=EqB) h).mono fun v H1 ⟨B1,θ1,d,E,G,r,w⟩=>by cases (show d=v from r); exact ⟨B1,θ1,E,F.ext E G,w⟩⟩
theorem Zdh {σ:St} {B:Bx} {H:Hp} {θ:Sto} {ρ:List Sl} {fl:Fl} {Dn:ZcP} (F:Frm X.cl B θ ρ σ H) (h:wpS X σ B H (.ok (fl,ρ) θ) Dn):Zqx Dn B σ H fl:=h B H σ (ExtS.refl B H) F
def ZP:SM:=fun ρ θ=>.ok (.nx,ρ) θ
def thenS (r:R (Fl×List Sl)) (k:SM):R (Fl×List Sl):=r.bind fun p θ=>match p with
  | (.nx,ρ)=>k ρ θ
  | p=>.ok p θ
def Zo (f g:SM):SM:=fun ρ θ=>thenS (f ρ θ) g
theorem Zy:MSs X [] ZP:=PSs.imp Zmu fun D σ H h=>by
  obtain ⟨B,θ,ρ,F,w⟩:=h
  exact Zdh F w
theorem wpS.seq {σ:St} {B:Bx} {H:Hp} {r:R (Fl×List Sl)} {g:SM} {Dn:ZcP} (w:wpS X σ B H (thenS r g) Dn):wpS X σ B H r { Dn with nx:=tMS X g Dn }:=by
  cases r with
  | ex c θ'=>exact w
  | bad=>exact w
  | ok p θ'=>
    obtain ⟨fl,ρ'⟩:=p
    intro B' H' σ' E F
    cases fl with
    | nx=>exact ⟨B',θ',ρ',F,wpS.trans w E⟩
    | bk=>exact w B' H' σ' E F
    | ct=>exact w B' H' σ' E F
    | rt d=>exact w B' H' σ' E F
theorem Ze {st:Stmt} {rest:List Stmt} {f g:SM} (h1:MS X st f) (h2:MSs X rest g):MSs X (st::rest) (Zo f g):=PSs.imp (Zk2 h1 h2) fun D σ H h=>by
  obtain ⟨B,θ,ρ,F,w⟩:=h
  exact ⟨B,θ,ρ,F,wpS.seq w⟩
theorem Zj {st:Stmt} {f:SM} (h1:MS X st f):MSs X [st] f:=ZiQ h1
def Zlg:SM:=fun _ _=>.bad
theorem Zhc {st:Stmt}:MS X st Zlg:=fun _ _ _ _ _ _ h=>by obtain ⟨_,_,_,_,w⟩:=h; exact w.elim
def ze (f:EM):SM:=fun ρ θ=>(f ρ θ).bind fun _ θ=>.ok (.nx,ρ) θ
theorem ZW {e:Expr} {f:EM} {pos:Pos} (he:ME X e f) (hs:swapsWith e none pos.line X.env=pure false:=by rfl):MS X (.Expr e pos) (ze f):=PS.imp (Zmv he hs) fun D σ H h=>by
  obtain ⟨B,θ,ρ,F,w⟩:=h
  refine ZO (ZcS F w) ?_
  rintro v H1 ⟨B1,θ1,d,E1,F1,rd,w1⟩
  exact Zdh F1 w1
def ZQ (f:EM):SM:=fun ρ θ=>(f ρ θ).bind fun d θ=>.ok (.rt d,ρ) θ
theorem Zw {e:Expr} {f:EM} {pos:Pos} (he:ME X e f):MS X (.Return (some e) pos) (ZQ f):=PS.imp (Ztc he) fun D σ H h=>by
  obtain ⟨B,θ,ρ,F,w⟩:=h
  refine ZO (ZcS F w) ?_
  rintro v H1 ⟨B1,θ1,d,E1,F1,rd,w1⟩
  exact Zdh F1 w1 v rd
def Zfg:SM:=fun ρ θ=>.ok (.rt .non,ρ) θ
theorem Zdm {pos:Pos}:MS X (.Return none pos) Zfg:=PS.imp Zrk fun D σ H h=>by
  obtain ⟨B,θ,ρ,F,w⟩:=h
  exact Zdh F w .non rfl
def mIf (t:TMr) (f g:SM):SM:=fun ρ θ=>(t ρ θ).bind fun k θ=>if k=true then f ρ θ else g ρ θ
theorem ZG {c:Expr} {a b:List Stmt} {t:TMr} {f g:SM} {pos:Pos} (hc:MT X c t) (ha:MSs X a f) (hb:MSs X b g):MS X (.If c a b pos) (mIf t f g):=PS.imp (Zsn hc ha hb) fun D σ H h=>by
  obtain ⟨B,θ,ρ,F,w⟩:=h
  refine ZcR (Zpx F w) ?_
  rintro k H1 ⟨B1,θ1,E1,F1,w1⟩
  cases k with
  | true=>rw [if_pos rfl] at w1 ⊢; exact ⟨B1,θ1,ρ,F1,w1⟩
  | false=>rw [if_neg Bool.false_ne_true] at w1 ⊢; exact ⟨B1,θ1,ρ,F1,w1⟩
theorem Frm.set {B:Bx} {θ:Sto} {ρ:List Sl} {σ:St} {H:Hp} (F:Frm X.cl B θ ρ σ H) (i:Nat) {d:D} {v:V} (r:RepV B H d v):Frm X.cl B θ (ρ.set i (.val d)) (σ.set i (some v)) H:=by
  have oth:∀(j:Nat) (s:Sl),(ρ.set i (Sl.val d))[j]?=some s→(j=i∧s=.val d∧j < σ.length)∨(j≠i∧ρ[j]?=some s):=fun j s e=>by
    by_cases q:j=i
    · subst q
      have hl:j < ρ.length:=by
        have:=(List.getElem?_eq_some_iff.mp e).1
        simpa using this
      rw [List.getElem?_set_self hl] at e
      cases e
      exact .inl ⟨rfl,rfl,by rw [←F.len]; exact hl⟩
    · rw [List.getElem?_set_ne (Ne.symm q)] at e
      exact .inr ⟨q,e⟩
  refine ⟨F.good,by simp [F.len],fun j e h=>?_,fun j xs h=>?_,fun j k xs ys a hne h1 h2 h3=>?_⟩
  · rcases oth j _ h with ⟨rfl,z,hl⟩ | ⟨q,z⟩
    · cases z; exact ⟨v,by rw [List.getElem?_set_self hl],r⟩
    · rw [List.getElem?_set_ne (Ne.symm q)]; exact F.val j e z
  · rcases oth j _ h with ⟨rfl,z,hl⟩ | ⟨q,z⟩
    · cases z
    · rw [List.getElem?_set_ne (Ne.symm q)]; exact F.own j xs z
  · rcases oth j _ h1 with ⟨_,z,_⟩ | ⟨q1,z1⟩
    · cases z
    · rcases oth k _ h2 with ⟨_,z,_⟩ | ⟨q2,z2⟩
      · cases z
      · rw [List.getElem?_set_ne (Ne.symm q1)] at h3
        rw [List.getElem?_set_ne (Ne.symm q2)]
        exact F.ne j k xs ys a hne z1 z2 h3
def ZL (i:Nat) (f:EM):SM:=fun ρ θ=>(f ρ θ).bind fun d θ=>.ok (.nx,ρ.set i (.val d)) θ
theorem Zz (i:Nat) {x:Str} {e:Expr} {f:EM} {pos pos':Pos} (hN:X.N.Nodup) (he:ME X e f) (hi:X.N[i]?=some x:=by rfl) (hx:Loc X.env.scope x:=by first | exact Or.inl rfl | exact Or.inr rfl)
    (hs:swapsWith e (some (.Name x pos')) pos.line X.env=pure false:=by rfl) (hf:X.fn x=true∨X.env.scope.names.lookup x=some .local:=by first | exact .inl rfl | exact .inr rfl):MS X (.Assign [.Name x pos'] e pos) (ZL i f):=
  PS.imp (ZlM hN hi hx he hs hf) fun D σ H h=>by
  obtain ⟨B,θ,ρ,F,w⟩:=h
  refine ZO (ZcS F w) ?_
  rintro v H1 ⟨B1,θ1,d,E1,F1,rd,w1⟩
  exact w1 B1 H1 _ (ExtS.refl _ _) (F1.set i rd)
end
end
end L2.MM
namespace L2.MM
open PySem PySem.Spec PyProof.Rows PySem.SeqAt
noncomputable section
variable {X:Cx}
def Zhh (k:SM):Fl×List Sl→Sto→R (Fl×List Sl)
  | (.nx,ρ),θ=>k ρ θ
  | (.ct,ρ),θ=>k ρ θ
  | (.bk,ρ),θ=>.ok (.nx,ρ) θ
  | (.rt d,ρ),θ=>.ok (.rt d,ρ) θ
theorem wpS.loop {σ:St} {B:Bx} {H:Hp} {r:R (Fl×List Sl)} {k:SM} {Dn:ZcP} (w:wpS X σ B H (r.bind (Zhh k)) Dn) :
    wpS X σ B H r { Dn with nx:=fun σ' H'=>∃B' θ' ρ',ExtS B B' H H'∧Frm X.cl B' θ' ρ' σ' H'∧wpS X σ' B' H' (k ρ' θ') Dn,ct:=fun σ' H'=>∃B' θ' ρ',ExtS B B' H H'∧Frm X.cl B' θ' ρ' σ' H'∧wpS X σ' B' H' (k ρ' θ') Dn,bk:=Dn.nx }:=by
  cases r with
  | ex c θ'=>exact w
  | bad=>exact w
  | ok p θ'=>
    obtain ⟨fl,ρ'⟩:=p
    intro B' H' σ' E F
    cases fl with
    | nx=>exact ⟨B',θ',ρ',E,F,wpS.trans w E⟩
    | ct=>exact ⟨B',θ',ρ',E,F,wpS.trans w E⟩
    | bk=>exact w B' H' σ' E F
    | rt d=>exact w B' H' σ' E F
abbrev TgM:=D→List Sl→Option (List Sl)
def tMG (X:Cx) (g:TgM):TG:=fun v σ H Q=>∃B θ ρ d ρ',Frm X.cl B θ ρ σ H∧RepV B H d v∧g d ρ=some ρ'∧∀σ',Frm X.cl B θ ρ' σ' H→Q σ' H
def MG (X:Cx) (tg:Expr) (g:TgM):Prop:=PG X tg (tMG X g)
theorem PG.imp {tg:Expr} {t t':TG} (h:PG X tg t) (hi:∀v σ H Q,t' v σ H Q→t v σ H Q):PG X tg t':=fun pins s σ H v u Q I r q=>h pins s σ H v u Q I r (hi v σ H Q q)
def gNm (i:Nat):TgM:=fun d ρ=>some (ρ.set i (.val d))
theorem ZgM (i:Nat) {x:Str} {pos:Pos} (hN:X.N.Nodup) (hi:X.N[i]?=some x:=by rfl) (hx:Loc X.env.scope x:=by first | exact Or.inl rfl | exact Or.inr rfl) (hf:X.fn x=true∨X.env.scope.names.lookup x=some .local:=by first | exact .inl rfl | exact .inr rfl):MG X (.Name x pos) (gNm i):=
  PG.imp (Zel hN hi hx hf) fun v σ H Q h=>by
  obtain ⟨B,θ,ρ,d,ρ',F,r,e,q⟩:=h
  cases e
  exact q _ (F.set i r)
open Classical in
def ZeB (S:Src) (all:List D) (tg:TgM) (body:SM):List D→SM
  | []=>fun ρ θ=>if S.items θ=some all then .ok (.nx,ρ) θ else .bad
  | x::r=>fun ρ θ=>if S.items θ=some all then (match tg x ρ with
    | none=>.bad
    | some ρ1=>(body ρ1 θ).bind (Zhh (ZeB S all tg body r))) else .bad
def Zgy (fi:IM) (tg:TgM) (body:SM):SM:=fun ρ θ=>(fi ρ θ).bind fun S θ=>match S.items θ with
  | some xs=>ZeB S xs tg body xs ρ θ
  | none=>.bad
open Classical in
theorem Zi2 {tg iter:Expr} {body:List Stmt} {fi:IM} {g:TgM} {fb:SM} {pos:Pos} (hp:PassesOwn (model X.prog X.w) X.A X.env X.xe) (hi:MI X tg iter fi) (hg:MG X tg g) (hb:MSs X body fb) (hc:X.calm=true:=by rfl)
    (hs:∀x,foldedSetIterable iter X.env x=pure x:=by intro _; rfl):MS X (.For tg iter body [] pos) (Zgy fi g fb):=
  PS.imp (ZpJ hp hc hi hg hb hs) fun Dn σ H h=>by
  obtain ⟨B,θ,ρ,F,w⟩:=h
  refine ⟨B,θ,ρ,F,(wpS.bind (Rel:=SrcRep X.K) w).mono ?_⟩
  rintro J H1 ⟨B1,θ1,S,E1,G1,rJ,w1⟩
  split at w1
  · rename_i xs e1
    refine ⟨fun i m σ H=>∃B θ ρ,Frm X.cl B θ ρ σ H∧SrcRep X.K B H S J∧m=xs.length-i∧i≤xs.length∧wpS X σ B H (ZeB S xs g fb (xs.drop i) ρ θ) Dn,⟨xs.length,B1,θ1,ρ,F.ext E1 G1,rJ,rfl,Nat.zero_le _,w1⟩,?_⟩
    rintro i m σ2 H2 ⟨B2,θ2,ρ2,F2,rJ2,rfl,hi2,w2⟩
    by_cases hlt:i<xs.length
    · rw [List.drop_eq_getElem_cons hlt] at w2
      unfold ZeB at w2
      split at w2
      · rename_i e2
        obtain ⟨g1,g2⟩:=(ZfT F2.good rJ2 e2).1 i xs[i] (List.getElem?_eq_getElem hlt)
        split at w2
        · exact w2.elim
        · rename_i ρ3 e3
          refine .inr ⟨g1,fun σ' H'=>∃B' θ' ρ',ExtS B2 B' H2 H'∧Frm X.cl B' θ' ρ' σ' H'∧wpS X σ' B' H' (ZeB S xs g fb (xs.drop (i+1)) ρ' θ') Dn,?_,fun x H' hy=>?_⟩
          · rintro σ' H' ⟨B',θ',ρ',E',F',w'⟩
            exact ⟨xs.length-(i+1),by omega,B',θ',ρ',F',rJ2.ext E',rfl,hlt,w'⟩
          · obtain ⟨rfl,rx⟩:=g2 x H' hy
            refine ⟨B2,θ2,ρ2,xs[i],ρ3,F2,rx,e3,fun σ' F'=>⟨B2,θ2,ρ3,F',?_⟩⟩
            have w3:=wpS.loop w2
            exact wpS.trans w3 (ExtS.refl _ _)
      · exact w2.elim
    · have e:i=xs.length:=by omega
      subst e
      rw [List.drop_length] at w2
      unfold ZeB at w2
      split at w2
      · rename_i e2
        exact .inl ⟨(ZfT F2.good rJ2 e2).2,Zdh F2 w2⟩
      · exact w2.elim
  · exact w1.elim
def ZcG (t:TMr) (body:SM):Nat→SM
  | 0=>Zlg
  | n+1=>fun ρ θ=>(t ρ θ).bind fun k θ=>if k=true then (body ρ θ).bind (Zhh (ZcG t body n)) else .ok (.nx,ρ) θ
theorem Zhb (n:Nat) {c:Expr} {body:List Stmt} {t:TMr} {fb:SM} {pos:Pos} (hp:PassesOwn (model X.prog X.w) X.A X.env X.xe) (hc:MT X c t) (hb:MSs X body fb):MS X (.While c body [] pos) (ZcG t fb n):=
  PS.imp (ZpH hp hc hb) fun Dn σ H h=>by
  obtain ⟨B,θ,ρ,F,w⟩:=h
  refine ⟨fun m σ H=>∃B θ ρ,Frm X.cl B θ ρ σ H∧wpS X σ B H (ZcG t fb m ρ θ) Dn,⟨n,B,θ,ρ,F,w⟩,?_⟩
  rintro m σ2 H2 ⟨B2,θ2,ρ2,F2,w2⟩
  cases m with
  | zero=>exact w2.elim
  | succ m=>
    refine ZcR (Zpx F2 w2) ?_
    rintro k H3 ⟨B3,θ3,E3,F3,w3⟩
    cases k with
    | true=>
      rw [if_pos rfl] at w3 ⊢
      refine ⟨_,?_,⟨B3,θ3,ρ2,F3,wpS.loop w3⟩⟩
      rintro σ' H' ⟨B',θ',ρ',E',F',w'⟩
      exact ⟨m,Nat.lt_succ_self _,B',θ',ρ',F',w'⟩
    | false=>
      rw [if_neg Bool.false_ne_true] at w3 ⊢
      exact Zdh F3 w3
theorem Frm.setOwn {cl:Mo} {B:Bx} {θ:Sto} {ρ:List Sl} {σ:St} {H:Hp} (F:Frm cl B θ ρ σ H) (i:Nat) {p:Addr} (hp:H p=none) {xs:List D} {vs:List V} (r:RepL B H xs vs) :
    ExtS B { B with os:=p::B.os } H (upd H p (.lst vs))∧Frm cl { B with os:=p::B.os } θ (ρ.set i (.own xs)) (σ.set i (some (.ref p))) (upd H p (.lst vs)):=by
  have E0:=Zb5 F.good hp (.lst vs)
  have G0:=Zd0 F.good hp (.lst vs)
  have ok:=F.good.okNone hp
  have E:ExtS B { B with os:=p::B.os } H (upd H p (.lst vs)):=⟨E0.n,E0.m,E0.fr,E0.keep,E0.sm,fun a h=>by
    rcases List.mem_cons.mp h with rfl | h
    · exact .inr hp
    · exact .inl h,rfl,rfl⟩
  refine ⟨E,?_⟩
  have E1:ExtS B { B with os:=p::B.os } H (upd H p (.lst vs)):=E
  have G:Good cl { B with os:=p::B.os } θ (upd H p (.lst vs)):=⟨G0.len,G0.inj,fun j c e=>(F.good.cel j c e).ext E fun u q=>by rw [ZT (za q hp)]; exact q,fun j hj=>⟨(G0.cF j hj).1,fun z=>by
      rcases List.mem_cons.mp z with z | z
      · exact ok.1 j hj z
      · exact (G0.cF j hj).2 z⟩,G0.Fs,fun a z=>by
      rcases List.mem_cons.mp z with rfl | z
      · rw [Z4]; simp
      · exact G0.oS a z,fun a z=>by
      rcases List.mem_cons.mp z with rfl | z
      · exact ok.2.1
      · exact G0.oF a z,G0.kc⟩
  have oth:∀(j:Nat) (s:Sl),(ρ.set i (Sl.own xs))[j]?=some s→(j=i∧s=.own xs∧j < σ.length)∨(j≠i∧ρ[j]?=some s):=fun j s e=>by
    by_cases q:j=i
    · subst q
      have hl:j < ρ.length:=by
        have:=(List.getElem?_eq_some_iff.mp e).1
        simpa using this
      rw [List.getElem?_set_self hl] at e
      cases e
      exact .inl ⟨rfl,rfl,by rw [←F.len]; exact hl⟩
    · rw [List.getElem?_set_ne (Ne.symm q)] at e
      exact .inr ⟨q,e⟩
  have old:∀j ys,ρ[j]?=some (Sl.own ys)→∀a,σ[j]?=some (some (V.ref a))→a≠p:=fun j ys h a e z=>by
    obtain ⟨a',us,q1,q2,q3,q4⟩:=F.own j ys h
    rw [e] at q1
    cases q1
    rw [z,hp] at q3
    cases q3
  refine ⟨G,by simp [F.len],fun j d h=>?_,fun j ys h=>?_,fun j k ys zs a hne h1 h2 h3=>?_⟩
  · rcases oth j _ h with ⟨_,z,_⟩ | ⟨q,z⟩
    · cases z
    · rw [List.getElem?_set_ne (Ne.symm q)]
      obtain ⟨v,q1,q2⟩:=F.val j d z
      exact ⟨v,q1,q2.ext E⟩
  · rcases oth j _ h with ⟨rfl,z,hl⟩ | ⟨q,z⟩
    · cases z
      exact ⟨p,vs,by rw [List.getElem?_set_self hl],List.mem_cons_self,Z4,r.ext E⟩
    · rw [List.getElem?_set_ne (Ne.symm q)]
      obtain ⟨a,us,q1,q2,q3,q4⟩:=F.own j ys z
      exact ⟨a,us,q1,List.mem_cons_of_mem _ q2,by rw [ZT (za q3 hp)]; exact q3,q4.ext E⟩
  · rcases oth j _ h1 with ⟨rfl,z1,hl⟩ | ⟨q1,z1⟩
    · rcases oth k _ h2 with ⟨rfl,z2,_⟩ | ⟨q2,z2⟩
      · exact absurd rfl hne
      · rw [List.getElem?_set_self hl] at h3
        cases h3
        rw [List.getElem?_set_ne (Ne.symm q2)]
        exact fun z=>old k zs z2 _ z rfl
    · rw [List.getElem?_set_ne (Ne.symm q1)] at h3
      rcases oth k _ h2 with ⟨rfl,z2,hl⟩ | ⟨q2,z2⟩
      · rw [List.getElem?_set_self hl]
        intro z
        cases z
        exact old j ys z1 _ h3 rfl
      · rw [List.getElem?_set_ne (Ne.symm q2)]
        exact F.ne j k ys zs a hne z1 z2 h3
def ZgN (i:Nat) (f:AM):SM:=fun ρ θ=>(f ρ θ).bind fun xs θ=>if xs.length≤BIG then .ok (.nx,ρ.set i (.own xs)) θ else .bad
theorem Zpy {σ:St} {H:Hp} {B:Bx} {θ:Sto} {ρ:List Sl} {f:AM} {k:List D→Sto→R (Fl×List Sl)} {Dn:ZcP} (F:Frm X.cl B θ ρ σ H) (h:wpS X σ B H ((f ρ θ).bind k) Dn) :
    tMA X f σ H (fun v H1=>∃B1 θ1 d,ExtE B B1 H H1∧Frm X.cl B1 θ1 ρ σ H1∧RepL B1 H1 d v∧wpS X σ B1 H1 (k d θ1) Dn):=
  ⟨B,θ,ρ,F,(wpS.bind (Rel:=RepL) h).mono fun v H1 ⟨B1,θ1,d,E,G,r,w⟩=>⟨B1,θ1,d,E,F.ext E G,r,w⟩⟩
theorem Zid (i:Nat) {x:Str} {es:List Expr} {f:AM} {pos pos' lpos:Pos} (hN:X.N.Nodup) (he:MA X es f) (hi:X.N[i]?=some x:=by rfl) (hx:Loc X.env.scope x:=by first | exact Or.inl rfl | exact Or.inr rfl)
    (hs:swapsWith (.List es lpos) (some (.Name x pos')) pos.line X.env=pure false:=by rfl) (hf:X.fn x=true∨X.env.scope.names.lookup x=some .local:=by first | exact .inl rfl | exact .inr rfl):MS X (.Assign [.Name x pos'] (.List es lpos) pos) (ZgN i f):=
  PS.imp (ZlM hN hi hx (ZlP he) hs hf) fun D σ H h=>by
  obtain ⟨B,θ,ρ,F,w⟩:=h
  refine ZaE (Zpy F w) ?_
  rintro vs H1 ⟨B1,θ1,xs,E1,F1,rd,w1⟩
  split at w1
  · rename_i hz
    refine ⟨by rw [rd.len]; exact zt hz,fun p hp=>?_⟩
    obtain ⟨E2,F2⟩:=F1.setOwn i hp rd
    exact w1 _ _ _ E2 F2
  · exact w1.elim
theorem Frm.updOwn {cl:Mo} {B:Bx} {θ:Sto} {ρ:List Sl} {σ:St} {H:Hp} (F:Frm cl B θ ρ σ H) {i:Nat} {xs ys:List D} {us:List V} {a:Addr} (h:ρ[i]?=some (Sl.own xs)) (ha:σ[i]?=some (some (.ref a))) (r:RepL B H ys us) :
    ExtS B B H (upd H a (.lst us))∧Frm cl B θ (ρ.set i (.own ys)) σ (upd H a (.lst us)):=by
  obtain ⟨a',vs,q1,q2,q3,q4⟩:=F.own i xs h
  rw [ha] at q1
  cases q1
  have hc:∀j,j<B.n→B.m j≠a:=fun j hj z=>(F.good.cF j hj).2 (by rw [z]; exact q2)
  have E:ExtS B B H (upd H a (.lst us)):=⟨Nat.le_refl _,fun _ _=>rfl,fun i h h'=>absurd h' (Nat.not_lt.mpr h),fun b o e _ hb=>by rw [ZT (fun z=>hb (by rw [z]; exact q2))]; exact e,fun b e=>by
    by_cases q:b=a
    · rw [q,Z4]; simp
    · rw [ZT q]; exact e,fun _ h=>.inl h,rfl,rfl⟩
  have hl:i < ρ.length:=(List.getElem?_eq_some_iff.mp h).1
  have oth:∀(j:Nat) (s:Sl),(ρ.set i (Sl.own ys))[j]?=some s→(j=i∧s=.own ys)∨(j≠i∧ρ[j]?=some s):=fun j s e=>by
    by_cases q:j=i
    · subst q
      rw [List.getElem?_set_self hl] at e
      cases e
      exact .inl ⟨rfl,rfl⟩
    · rw [List.getElem?_set_ne (Ne.symm q)] at e
      exact .inr ⟨q,e⟩
  refine ⟨E,⟨⟨F.good.len,F.good.inj,fun j c e=>(F.good.cel j c e).ext E fun u q=>by
      have hj:j<B.n:=by rw [←F.good.len]; exact (List.getElem?_eq_some_iff.mp e).1
      rw [ZT (hc j hj)]; exact q,F.good.cF,fun b z=>E.sm b (F.good.Fs b z),fun b z=>E.sm b (F.good.oS b z),F.good.oF,F.good.kc⟩,by simp [F.len],fun j d e=>?_,fun j zs e=>?_,fun j k zs ws b hne h1 h2 h3=>?_⟩⟩
  · rcases oth j _ e with ⟨_,z⟩ | ⟨_,z⟩
    · cases z
    · obtain ⟨v,p1,p2⟩:=F.val j d z
      exact ⟨v,p1,p2.ext E⟩
  · rcases oth j _ e with ⟨rfl,z⟩ | ⟨q,z⟩
    · cases z
      exact ⟨a,us,ha,q2,Z4,r.ext E⟩
    · obtain ⟨b,ws,p1,p2,p3,p4⟩:=F.own j zs z
      refine ⟨b,ws,p1,p2,?_,p4.ext E⟩
      rw [ZT (fun z'=>F.ne i j xs zs a (Ne.symm q) h z ha (by rw [←z']; exact p1))]
      exact p3
  · have o1:∃zs',ρ[j]?=some (Sl.own zs'):=by
      rcases oth j _ h1 with ⟨rfl,_⟩ | ⟨_,z⟩
      · exact ⟨xs,h⟩
      · exact ⟨_,z⟩
    have o2:∃ws',ρ[k]?=some (Sl.own ws'):=by
      rcases oth k _ h2 with ⟨rfl,_⟩ | ⟨_,z⟩
      · exact ⟨xs,h⟩
      · exact ⟨_,z⟩
    obtain ⟨zs',o1⟩:=o1
    obtain ⟨ws',o2⟩:=o2
    exact F.ne j k zs' ws' b hne o1 o2 h3
def Zfh (i:Nat) (f:EM):SM:=fun ρ θ=>(f ρ θ).bind fun d θ=>match ρ[i]? with
  | some (Sl.own xs)=>if xs.length<BIG then .ok (.nx,ρ.set i (.own (xs++[d]))) θ else .bad
  | _=>.bad
theorem Zif (i:Nat) {x:Str} {e:Expr} {f:EM} {p apos pos pos':Pos} (he:ME X e f) (hN:X.N[i]?=some x:=by rfl) (hv:Vis X.env.scope x:=by first | exact Or.inl rfl | exact Or.inr (Or.inl rfl) | exact Or.inr (Or.inr rfl))
    (hd:(x == ("__debug__":Str))=false:=by decide) (hcd:(x == ("__classdict__":Str))=false:=by decide)
    (hpe:∀{to:TE},PE X (.Name x p) to→PE X (.Call (.Attribute (.Name x p) "append" apos) [e] [] pos) (tBM X.K "list" ZiL to (Zmr (tM X f) Zpt)))
    (hs:swapsWith (.Call (.Attribute (.Name x p) "append" apos) [e] [] pos) none pos'.line X.env=pure false:=by rfl):MS X (.Expr (.Call (.Attribute (.Name x p) "append" apos) [e] [] pos) pos') (Zfh i f):=
  PS.imp (Zmv (hpe (ZiS hN hv hd hcd)) hs) fun D σ H h=>by
  obtain ⟨B,θ,ρ,F,w⟩:=h
  have own:∃xs,ρ[i]?=some (Sl.own xs):=by
    unfold Zfh at w
    cases q:f ρ θ with
    | bad=>rw [q] at w; exact w.elim
    | ex c θ'=>rw [q] at w; exact False.elim w
    | ok d θ'=>
      rw [q] at w
      simp only [R.bind_ok] at w
      split at w
      · rename_i xs e; exact ⟨xs,e⟩
      · exact w.elim
  obtain ⟨xs,hx⟩:=own
  obtain ⟨a,vs,q1,q2,q3,q4⟩:=F.own i xs hx
  refine ⟨.ref a,q1,.inl ⟨rfl,vs,SqL.of q3⟩,?_⟩
  refine ZO (ZcS F w) ?_
  rintro y H1 ⟨B1,θ1,d,E1,F1,rd,w1⟩
  rw [hx] at w1
  simp only at w1
  split at w1
  · rename_i hz
    obtain ⟨a',us,p1,p2,p3,p4⟩:=F1.own i xs hx
    rw [q1] at p1
    cases p1
    refine ⟨a,us,y,rfl,rfl,p3,by rw [p4.len]; exact Nat.lt_of_lt_of_le hz (zt (Nat.le_refl _)),?_⟩
    obtain ⟨E2,F2⟩:=F1.updOwn hx q1 (p4.app (show RepL B1 H1 [d] [y] from ⟨y,[],rfl,rd,rfl⟩))
    exact w1 _ _ _ E2 F2
  · exact w1.elim
def Zep (i:Nat) (f:SM):SM:=fun ρ θ=>match ρ[i]? with
  | some (Sl.own xs)=>f (ρ.set i (.val (.lst xs))) θ
  | _=>f ρ θ
theorem ZlF {i:Nat} {f:SM} {D:ZcP} {σ:St} {H:Hp} (h:tMS X (Zep i f) D σ H):tMS X f D σ H:=by
  obtain ⟨B,θ,ρ,F,w⟩:=h
  unfold Zep at w
  split at w
  · rename_i xs hx
    obtain ⟨a,vs,q1,q2,q3,q4⟩:=F.own i xs hx
    let B':Bx:={ B with os:=B.os.filter fun b=>decide (b≠a) }
    have sub:∀b,b∈B'.os→b∈B.os∧b≠a:=fun b hb=>by
      have:=List.mem_filter.mp hb
      exact ⟨this.1,of_decide_eq_true this.2⟩
    have E:ExtS B B' H H:=⟨Nat.le_refl _,fun _ _=>rfl,fun i h h'=>absurd h' (Nat.not_lt.mpr h),fun _ _ e _ _=>e,fun _ e=>e,fun b hb=>.inl (sub b hb).1,rfl,rfl⟩
    have hc:∀j,j<B.n→B.m j≠a:=fun j hj z=>(F.good.cF j hj).2 (by rw [z]; exact q2)
    have G:Good X.cl B' θ H:=⟨F.good.len,F.good.inj,fun j c e=>(F.good.cel j c e).ext E fun _ q=>q,fun j hj=>⟨(F.good.cF j hj).1,fun z=>(F.good.cF j hj).2 (sub _ z).1⟩,F.good.Fs,fun b z=>F.good.oS b (sub b z).1,fun b z=>F.good.oF b (sub b z).1,F.good.kc⟩
    have rv:RepV B' H (.lst xs) (.ref a):=⟨a,vs,rfl,q3,⟨hc,F.good.oF a q2,fun z=>(sub a z).2 rfl⟩,q4.ext E⟩
    have hl:i < ρ.length:=(List.getElem?_eq_some_iff.mp hx).1
    have oth:∀(j:Nat) (s:Sl),(ρ.set i (Sl.val (.lst xs)))[j]?=some s→(j=i∧s=.val (.lst xs))∨(j≠i∧ρ[j]?=some s):=fun j s e=>by
      by_cases q:j=i
      · subst q
        rw [List.getElem?_set_self hl] at e
        cases e
        exact .inl ⟨rfl,rfl⟩
      · rw [List.getElem?_set_ne (Ne.symm q)] at e
        exact .inr ⟨q,e⟩
    refine ⟨B',θ,_,⟨G,by simp [F.len],fun j d e=>?_,fun j ys e=>?_,fun j k ys zs b hne h1 h2 h3=>?_⟩,wpS.trans w E⟩
    · rcases oth j _ e with ⟨rfl,z⟩ | ⟨_,z⟩
      · cases z; exact ⟨_,q1,rv⟩
      · obtain ⟨v,p1,p2⟩:=F.val j d z
        exact ⟨v,p1,p2.ext E⟩
    · rcases oth j _ e with ⟨_,z⟩ | ⟨q,z⟩
      · cases z
      · obtain ⟨b,ws,p1,p2,p3,p4⟩:=F.own j ys z
        refine ⟨b,ws,p1,List.mem_filter.mpr ⟨p2,decide_eq_true fun z'=>?_⟩,p3,p4.ext E⟩
        subst z'
        exact F.ne i j xs ys b (Ne.symm q) hx z q1 p1
    · rcases oth j _ h1 with ⟨_,z⟩ | ⟨_,z1⟩
      · cases z
      · rcases oth k _ h2 with ⟨_,z⟩ | ⟨_,z2⟩
        · cases z
        · exact F.ne j k ys zs b hne z1 z2 h3
  · exact ⟨B,θ,ρ,F,w⟩
theorem Zie (i:Nat) {st:Stmt} {f:SM} (h:MS X st f):MS X st (Zep i f):=PS.imp h fun _ _ _ q=>ZlF q
def ZaF (n:Nat) (ds:List D):List Sl:=ds.map Sl.val++List.replicate (n-ds.length) Sl.no
def ZU (np nn:Nat) (fb:SM):GM:=fun ds θ=>if ds.length=np then (fb (ZaF nn ds) θ).bind fun p θ=>match p.1 with
  | .nx=>.ok .non θ
  | .rt d=>.ok d θ
  | _=>.bad
  else .bad
def spM (X:Mo) (f:GM):Sp:=fun vs H Q E=>∃B θ ds,B.os=[]∧Good X B θ H∧RepL B H ds vs∧(match f ds θ with
  | .ok d θ'=>∀B' H' v,ExtE B B' H H'→Good X B' θ' H'→RepV B' H' d v→Q v H'
  | .ex c θ'=>False
  | .bad=>False)
def Zr (P:Program) (w:World) (K:PySem.W.Frag) (mg:Str→Option Value) (base:Heap) (k:Nat) (x:Str) (f:GM):Prop:=∃ps,Def P w K mg base k x ps (spM ⟨zc mg,K⟩ f)
theorem ZfS {cl:Mo} {B:Bx} {θ:Sto} {H:Hp} {ds:List D} {vs:List V} {N:List Str} {nn:Nat} (G:Good cl B θ H) (r:RepL B H ds vs) (hn:N.length=nn):Frm cl B θ (ZaF nn ds) (Zdy N vs) H:=by
  subst hn
  have hl:=r.len
  have key:∀(i:Nat) (s:Sl),(ZaF N.length ds)[i]?=some s→s=.no∨∃d,s=.val d∧∃v,(Zdy N vs)[i]?=some (some v)∧RepV B H d v:=fun i s e=>by
    unfold ZaF at e
    by_cases q:i<ds.length
    · rw [List.getElem?_append_left (by simpa using q),List.getElem?_map,List.getElem?_eq_getElem q] at e
      cases e
      obtain ⟨v,h1,h2⟩:=r.get (List.getElem?_eq_getElem q)
      refine .inr ⟨_,rfl,v,?_,h2⟩
      unfold Zdy
      rw [List.getElem?_append_left (by simpa [hl] using q),List.getElem?_map,h1]
      rfl
    · rw [List.getElem?_append_right (by simpa using q)] at e
      exact .inl (List.eq_of_mem_replicate (List.mem_of_getElem? e))
  refine ⟨G,by simp [ZaF,Zdy,hl],fun i d e=>?_,fun i xs e=>?_,fun i j xs ys a _ e _=>?_⟩
  · rcases key i _ e with z | ⟨d',z,v',h1,h2⟩
    · cases z
    · cases z; exact ⟨v',h1,h2⟩
  · rcases key i _ e with z | ⟨d',z,_⟩<;>cases z
  · rcases key i _ e with z | ⟨d',z,_⟩<;>cases z
theorem mfn {P:Program} {w:World} {K:PySem.W.Frag} {mg:Str→Option Value} {base:Heap} {x qual:Str} {st:Stmt} {N ps:List Str} {k:Nat} {fb:SM} {f:Addr} {fd:FuncData} (F:Fun K x qual st f fd) (S:Zp N ps (Zg st)) (np nn:Nat) (hp:ps.length=np) (hn:N.length=nn)
    (hbody:∀(cdv:Value) (A:Around) (outer:List Env) (s:Shared) (H:Hp) (E:XK),Room k (A.deeper (envOfC qual (Zg st) s.heap.objs.size f cdv))→MSs (Zc4 CX0 P w K mg base N qual (Zg st) f cdv A outer s H E).nox (Zn st) fb) :
    FnOk P w K mg base CX0 (k+1) f fd ps (spM ⟨zc mg,K⟩ (ZU np nn fb)):=by
  refine F.ok S ?_ ?_
  · rintro vs H Q E ⟨B,θ,ds,_,_,r,q⟩
    unfold ZU at q
    split at q
    · rename_i h
      split at h
      · rename_i hl; rw [r.len,hl,hp]
      · cases h
    · exact q.elim
    · exact q.elim
  · intro cdv A outer s H vs Q E hr h
    obtain ⟨B,θ,ds,hos,G,r,q⟩:=h
    refine ⟨tMS (Zc4 CX0 P w K mg base N qual (Zg st) f cdv A outer s H E).nox fb,hbody cdv A outer s H E hr,B,θ,ZaF nn ds,ZfS G r hn,?_⟩
    unfold ZU at q
    by_cases hl:ds.length=np
    · rw [if_pos hl] at q
      cases e:fb (ZaF nn ds) θ with
      | bad=>rw [e] at q; exact q.elim
      | ex c θ'=>rw [e] at q; exact q.elim
      | ok p θ'=>
        rw [e] at q
        obtain ⟨fl,ρ'⟩:=p
        intro B' H' σ' E' F'
        have hos':∀a,a∈B.os→False:=fun a ha=>by rw [hos] at ha; cases ha
        let B2:Bx:={ B' with os:=[] }
        have E2:ExtE B B2 H H':=⟨⟨E'.n,E'.m,E'.fr,E'.keep,E'.sm,fun a ha=>(nomatch ha),E'.F,E'.ks⟩,hos.symm,fun a o ha=>(hos' a ha).elim⟩
        have E3:ExtS B' B2 H' H':=⟨Nat.le_refl _,fun _ _=>rfl,fun i h h'=>absurd h' (Nat.not_lt.mpr h),fun _ _ e _ _=>e,fun _ e=>e,fun b hb=>(nomatch hb),rfl,rfl⟩
        have G2:Good ⟨zc mg,K⟩ B2 θ' H':=⟨F'.good.len,F'.good.inj,fun j c e=>(F'.good.cel j c e).ext E3 fun _ q=>q,fun j hj=>⟨(F'.good.cF j hj).1,fun z=>nomatch z⟩,F'.good.Fs,fun b z=>(nomatch z),fun b z=>(nomatch z),F'.good.kc⟩
        cases fl with
        | nx=>exact q B2 H' .non E2 G2 rfl
        | rt d=>exact fun v rv=>q B2 H' v E2 G2 (rv.ext E3)
        | bk=>exact q.elim
        | ct=>exact q.elim
    · rw [if_neg hl] at q
      exact q.elim
theorem ZY {P:Program} {w:World} {K:PySem.W.Frag} {mg:Str→Option Value} {base:Heap} {x:Str} {st:Stmt} {N ps:List Str} {k:Nat} {fb:SM} (D0:Zq K mg x st ps) (S:Zp N ps (Zg st)) (np nn:Nat) (hp:ps.length=np) (hn:N.length=nn)
    (hbody:∀(f:Addr) (cdv:Value) (A:Around) (outer:List Env) (s:Shared) (H:Hp) (E:XK),Room k (A.deeper (envOfC x (Zg st) s.heap.objs.size f cdv))→MSs (Zc4 CX0 P w K mg base N x (Zg st) f cdv A outer s H E).nox (Zn st) fb):Zr P w K mg base (k+1) x (ZU np nn fb):=by
  obtain ⟨f,fd,F,b,m⟩:=D0
  exact ⟨ps,f,fd,mfn F S np nn hp hn (hbody f),b,F.kp,m⟩
def Bx.inC (B:Bx):Bx:={ B with F:=fun a=>B.F a∨a∈B.os,os:=[] }
theorem inC_ok {B:Bx} {a:Addr}:B.inC.ok a↔B.ok a:=by
  constructor
  · rintro ⟨h1,h2,h3⟩
    exact ⟨h1,fun z=>h2 (.inl z),fun z=>h2 (.inr z)⟩
  · rintro ⟨h1,h2,h3⟩
    exact ⟨h1,fun z=>z.elim h2 h3,fun z=>nomatch z⟩
mutual
theorem RepV.same {B B':Bx} {H:Hp} (hn:B'.n=B.n) (hm:B'.m=B.m) (hk:B'.ks=B.ks) (ho:∀a,B.ok a→B'.ok a):∀{d:D} {v:V},RepV B H d v→RepV B' H d v
  | .non,_,h=>h
  | .bl _,_,h=>h
  | .int _,_,h=>h
  | .str _,_,h=>h
  | .ty _,_,h=>h
  | .scr _,_,h=>by
    obtain ⟨a,e,h⟩:=h
    refine ⟨a,e,?_⟩
    rcases h with ⟨o,h,k⟩ | h
    · exact .inl ⟨o,h,ho a k⟩
    · exact .inr (by rw [hk]; exact h)
  | .tup _,_,h=>by obtain ⟨a,vs,e,h,k,l⟩:=h; exact ⟨a,vs,e,h,ho a k,RepL.same hn hm hk ho l⟩
  | .lst _,_,h=>by obtain ⟨a,vs,e,h,k,l⟩:=h; exact ⟨a,vs,e,h,ho a k,RepL.same hn hm hk ho l⟩
  | .ref l,_,h=>⟨by rw [hn]; exact h.1,by rw [hm]; exact h.2⟩
theorem RepL.same {B B':Bx} {H:Hp} (hn:B'.n=B.n) (hm:B'.m=B.m) (hk:B'.ks=B.ks) (ho:∀a,B.ok a→B'.ok a):∀{ds:List D} {vs:List V},RepL B H ds vs→RepL B' H ds vs
  | [],_,h=>h
  | _::_,_,h=>by obtain ⟨v,r,e,hv,hr⟩:=h; exact ⟨v,r,e,RepV.same hn hm hk ho hv,RepL.same hn hm hk ho hr⟩
end
theorem RepKV.same {κ:Type} {B B':Bx} {H:Hp} (hn:B'.n=B.n) (hm:B'.m=B.m) (hk:B'.ks=B.ks) (ho:∀a,B.ok a→B'.ok a):∀{ks:List (κ×D)} {vs:List (κ×V)},RepKV B H ks vs→RepKV B' H ks vs
  | _,_,.nil=>.nil
  | _,_,.cons h t=>.cons ⟨h.1,RepV.same hn hm hk ho h.2⟩ (RepKV.same hn hm hk ho t)
theorem CellOk.same {cl:Mo} {B B':Bx} {H:Hp} {a:Addr} {c:Cell} (hn:B'.n=B.n) (hm:B'.m=B.m) (hk:B'.ks=B.ks) (ho:∀a,B.ok a→B'.ok a) (k:CellOk cl B H a c):CellOk cl B' H a c:=by
  cases c with
  | lst xs=>obtain ⟨vs,e,r⟩:=k; exact ⟨vs,e,r.same hn hm hk ho⟩
  | dK kvs=>obtain ⟨vs,e,r⟩:=k; exact ⟨vs,e,r.same hn hm hk ho⟩
  | dT kvs=>obtain ⟨vs,e,r⟩:=k; exact ⟨vs,e,r.same hn hm hk ho⟩
  | ins C fs=>obtain ⟨dx,vs,e,r⟩:=k; exact ⟨dx,vs,e,r.same hn hm hk ho⟩
theorem Zlm {cl:Mo} {B:Bx} {θ:Sto} {H:Hp} (G:Good cl B θ H):Good cl B.inC θ H:=
  ⟨G.len,G.inj,fun i c e=>CellOk.same (B:=B) (B':=B.inC) rfl rfl rfl (fun a=>inC_ok.mpr) (G.cel i c e),fun i hi=>⟨fun z=>z.elim (G.cF i hi).1 (G.cF i hi).2,fun z=>nomatch z⟩,fun a z=>z.elim (G.Fs a) (G.oS a),fun a z=>(nomatch z),fun a z=>(nomatch z),G.kc⟩
theorem ZpZ {cl:Mo} {B B':Bx} {θ θ':Sto} {H H':Hp} (G:Good cl B θ H) (E:ExtE B.inC B' H H') (G':Good cl B' θ' H') :
    ExtE B { B' with F:=B.F,os:=B.os } H H'∧Good cl { B' with F:=B.F,os:=B.os } θ' H'∧∀d v,RepV B' H' d v→RepV { B' with F:=B.F,os:=B.os } H' d v:=by
  have hF:B'.F=fun a=>B.F a∨a∈B.os:=E.F
  have ho:∀a,B'.ok a→Bx.ok { B' with F:=B.F,os:=B.os } a:=fun a ⟨h1,h2,h3⟩=>by
    rw [hF] at h2
    exact ⟨h1,fun z=>h2 (.inl z),fun z=>h2 (.inr z)⟩
  have keep:∀a o,H a=some o→(∀i,i<B.n→B.m i≠a)→H' a=some o:=fun a o h k=>E.keep a o h k (fun z=>nomatch z)
  refine ⟨⟨⟨E.n,E.m,E.fr,fun a o h k _=>keep a o h k,E.sm,fun a h=>.inl h,rfl,E.ks⟩,rfl,fun a o _ k h=>keep a o h k⟩,⟨G'.len,G'.inj,fun i c e=>CellOk.same (B:=B') (B':={ B' with F:=B.F,os:=B.os }) rfl rfl rfl ho (G'.cel i c e),fun i hi=>?_,fun a z=>E.sm a (G.Fs a z),fun a z=>E.sm a (G.oS a z),G.oF,G'.kc⟩,fun d v r=>RepV.same (B:=B') (B':={ B' with F:=B.F,os:=B.os }) rfl rfl rfl ho r⟩
  have:=(G'.cF i hi).1
  rw [hF] at this
  exact ⟨fun z=>this (.inl z),fun z=>this (.inr z)⟩
theorem Zji {f:GM} {σ:St} {B:Bx} {θ:Sto} {H:Hp} {ds:List D} {vs:List V} {Q:VK} {E:XK} (G:Good X.cl B θ H) (r:RepL B H ds vs) (w:wpR X σ RepV B H (f ds θ) Q):spM X.cl f vs H Q E:=by
  refine ⟨B.inC,θ,ds,rfl,Zlm G,RepL.same (B:=B) (B':=B.inC) rfl rfl rfl (fun a=>inC_ok.mpr) r,?_⟩
  cases e:f ds θ with
  | bad=>rw [e] at w; exact w
  | ex c θ'=>rw [e] at w; exact w
  | ok d θ'=>
    rw [e] at w
    intro B' H' v E' G' rv
    obtain ⟨h1,h2,h3⟩:=ZpZ G E' G'
    exact w _ H' v h1 h2 (h3 d v rv)
theorem Zh {k j:Nat} {x:Str} {f:GM} {p pos:Pos} {e:Expr} {es:List Expr} {fs:AM} (D0:Zr X.prog X.w X.K X.mg X.base k x f) (hr:Room j X.A) (hj:k≤j) (ha:MA X (e::es) fs) (hg:Gl X x:=by rfl) (hdb:(x == ("__debug__":Str))=false:=by decide)
    (he:starEach (e::es) X.env=(false,eval e X.env)::starEach es X.env:=by rfl) (hpl:(backTo pos (starEach es X.env)).any (·.1)=false:=by rfl):ME X (.Call (.Name x p) (e::es) [] pos) (mCB f fs):=by
  obtain ⟨ps,D0⟩:=D0
  refine PE.imp (ZpW D0 hr hj ha hg hdb he hpl) fun σ H Q h=>?_
  obtain ⟨B,θ,ρ,F,w⟩:=h
  refine ZaE (Ze5 F w) ?_
  rintro vs H1 ⟨B1,θ1,ds,E1,F1,rd,w1⟩
  rw [List.append_nil]
  exact Zji F1.good rd w1
end
end L2.MM
namespace L2.MM
open PySem PySem.Spec PyProof.Rows PySem.SeqAt
noncomputable section
def Zmt (K:PySem.W.Frag):Sp:=fun vs H Q _=>∃(a:Addr) (ns:List Int),vs=[.ref a]∧Zr7 H∧SqL K H a (ns.map V.int)∧ns.length≤63∧∀H',Q (.bl true) H'
theorem ZrH {P:Program} {w:World} {K:PySem.W.Frag} {mg:Str→Option Value} {base:Heap} {k:Nat} {f:Addr} {fd:FuncData} {ps:List Str} {g:GM} (h:∀ns:List Int,ns.length≤63→∃θ',g [.scr ns] []=.ok (.bl true) θ')
    (F:FnOk P w K mg base CX0 k f fd ps (spM ⟨zc mg,K⟩ g)):FnOk P w K mg base CX0 k f fd ps (Zmt K):=by
  refine F.imp ?_
  rintro vs H Q E ⟨a,ns,rfl,hO,hS,hl,q⟩
  obtain ⟨θ',e⟩:=h ns hl
  refine ⟨⟨0,fun _=>0,fun _=>False,[],KL K⟩,[],[.scr ns],rfl,⟨rfl,fun i j hi=>absurd hi (Nat.not_lt_zero _),fun i c h=>by simp at h,fun i hi=>absurd hi (Nat.not_lt_zero _),fun a h=>h.elim,fun a h=>(nomatch h),fun a h=>(nomatch h),fun a ns h=>h⟩,?_,?_⟩
  · refine ⟨.ref a,[],rfl,⟨a,rfl,?_⟩,rfl⟩
    rcases hS with (h1 | ⟨o,h1⟩) | h1
    · rcases hO a with z | ⟨o,xs,z⟩
      · rw [z] at h1; cases h1
      · rw [z] at h1; cases h1
    · exact .inl ⟨o,h1,fun i hi=>absurd hi (Nat.not_lt_zero _),fun z=>z,fun z=>(nomatch z)⟩
    · exact .inr h1
  · rw [e]
    intro B' H' v _ _ rv
    cases (show v=V.bl true from rv)
    exact q H'
end
end L2.MM
namespace L2.MM
open PySem PySem.Spec PyProof.Rows PySem.SeqAt
noncomputable section
section
variable {i j k:Nat} {ρ:List Sl} {θ:Sto} {f g h:EM} {fs:AM} {t u:TMr}
@[simp] theorem Zpa:Zd i ρ θ=match ρ[i]? with | some (Sl.val d)=>.ok d θ | _=>.bad:=nr rfl
@[simp] theorem x_c {d:D}:mC d ρ θ=.ok d θ:=nr rfl
@[simp] theorem ZsI {o:OM}:mOp o f g ρ θ=(f ρ θ).bind fun x θ=>(g ρ θ).bind fun y θ=>o x y θ:=nr rfl
@[simp] theorem ZxO:ZF f ρ θ=(f ρ θ).bind fun x θ=>match x with | .bl k=>.ok k θ | _=>.bad:=nr rfl
@[simp] theorem Zy4:zC f ρ θ=(f ρ θ).bind fun x θ=>match Zgv θ x with | some k=>.ok k θ | none=>.bad:=nr rfl
@[simp] theorem Zzf:Zfi t u ρ θ=(t ρ θ).bind fun k θ=>if k=true then u ρ θ else .ok false θ:=nr rfl
@[simp] theorem Zzx:mOr t u ρ θ=(t ρ θ).bind fun k θ=>if k=true then .ok true θ else u ρ θ:=nr rfl
@[simp] theorem Zy7:ZcZ t ρ θ=(t ρ θ).bind fun k θ=>.ok (!k) θ:=nr rfl
def ZtW (g:Sto→R D):D→Sto→R D
  | .bl true,θ=>g θ
  | .bl false,θ=>.ok (.bl false) θ
  | _,_=>.bad
def orK (g:Sto→R D):D→Sto→R D
  | .bl true,θ=>.ok (.bl true) θ
  | .bl false,θ=>g θ
  | _,_=>.bad
@[simp] theorem Zv6 {g:Sto→R D} {k:Bool}:ZtW g (.bl k) θ=if k=true then g θ else .ok (.bl false) θ:=by cases k<;>rfl
@[simp] theorem Zys {g:Sto→R D} {k:Bool}:orK g (.bl k) θ=if k=true then .ok (.bl true) θ else g θ:=by cases k<;>rfl
@[simp] theorem ZxZ:Zbd f g ρ θ=(f ρ θ).bind (ZtW (g ρ)):=by
  show (f ρ θ).bind _=_
  congr 1
  funext x θ
  cases x<;>first | rfl | (rename_i b; cases b<;>rfl)
@[simp] theorem Zy6:Zi6 f g ρ θ=(f ρ θ).bind (orK (g ρ)):=by
  show (f ρ θ).bind _=_
  congr 1
  funext x θ
  cases x<;>first | rfl | (rename_i b; cases b<;>rfl)
@[simp] theorem Zvk {p:Prop} [Decidable p] {m:Bool}:(if p then R.ok (D.bl m) θ else R.ok (D.bl false) θ)=R.ok (D.bl (decide p && m)) θ:=by by_cases h:p<;>simp [h]
@[simp] theorem Zv0 {p:Prop} [Decidable p] {m:Bool}:(if p then R.ok (D.bl true) θ else R.ok (D.bl m) θ)=R.ok (D.bl (decide p || m)) θ:=by by_cases h:p<;>simp [h]
@[simp] theorem Zuh {p:Prop} [Decidable p] {m:Bool}:(if p then R.ok m θ else R.ok false θ)=R.ok (decide p && m) θ:=by by_cases h:p<;>simp [h]
@[simp] theorem Zvj {p:Prop} [Decidable p] {m:Bool}:(if p then R.ok true θ else R.ok m θ)=R.ok (decide p || m) θ:=by by_cases h:p<;>simp [h]
@[simp] theorem ZxT:ZeH f ρ θ=(f ρ θ).bind fun x θ=>match Zgv θ x with | some k=>.ok (.bl (!k)) θ | none=>.bad:=nr rfl
@[simp] theorem Zy8:Zyw f ρ θ=(f ρ θ).bind fun x θ=>match x with | .int i=>.ok (.int (-i)) θ | _=>.bad:=nr rfl
@[simp] theorem Zza:ZeT t f g ρ θ=(t ρ θ).bind fun k θ=>if k=true then f ρ θ else g ρ θ:=nr rfl
@[simp] theorem ZvR {o o':OM}:Zf1 o o' f g h ρ θ=(f ρ θ).bind fun x θ=>(g ρ θ).bind fun y θ=>(o x y θ).bind (ZtW fun θ=>(h ρ θ).bind fun w θ=>o' y w θ):=by
  show (f ρ θ).bind _=_
  congr 1
  funext x θ
  congr 1
  funext y θ
  congr 1
  funext z θ
  cases z<;>first | rfl | (rename_i b; cases b<;>rfl)
@[simp] theorem Zpe:Zk ρ θ=.ok [] θ:=nr rfl
@[simp] theorem Zlx:Zc f fs ρ θ=(f ρ θ).bind fun x θ=>(fs ρ θ).bind fun xs θ=>.ok (x::xs) θ:=nr rfl
@[simp] theorem Zy3:Zar fs ρ θ=(fs ρ θ).bind fun xs θ=>if xs.length≤BIG then .ok (.tup xs) θ else .bad:=nr rfl
@[simp] theorem Zsa:ZaB fs ρ θ=(fs ρ θ).bind fun xs θ=>if xs.length≤BIG then .ok (.lst xs) θ else .bad:=nr rfl
@[simp] theorem ZxV:Zle fs ρ θ=(fs ρ θ).bind fun xs θ=>if xs.length≤BIG then .ok (.ref θ.length) (θ++[.lst xs]) else .bad:=nr rfl
@[simp] theorem Zx0 {o:GM}:mCB o fs ρ θ=(fs ρ θ).bind fun xs θ=>o xs θ:=nr rfl
@[simp] theorem ZkM:zq ρ θ=.ok none θ:=nr rfl
@[simp] theorem Zpd:Zai f ρ θ=(f ρ θ).bind fun x θ=>match x with | .int i=>.ok (some i) θ | _=>.bad:=nr rfl
@[simp] theorem Zup {lo hi:PM}:mSl f lo hi ρ θ=(f ρ θ).bind fun x θ=>(lo ρ θ).bind fun l θ=>(hi ρ θ).bind fun h θ=>match ZdK θ x l h with
  | some d=>.ok d θ
  | none=>.bad:=nr rfl
@[simp] theorem Zy5 {lo hi st:PM}:ZrF f lo hi st ρ θ=(f ρ θ).bind fun x θ=>(lo ρ θ).bind fun l θ=>(hi ρ θ).bind fun h θ=>(st ρ θ).bind fun s θ=>match Zak θ x with
  | some xs=>if s≠some 0∧(ZcV xs l h s).length≤BIG then .ok (.lst (ZcV xs l h s)) θ else .bad
  | none=>.bad:=nr rfl
@[simp] theorem Zzz:mIn f ρ θ=(f ρ θ).bind fun d θ=>match seqOf θ d with | some _=>.ok (.seq d) θ | none=>.bad:=nr rfl
@[simp] theorem ZxR:Zgj fs ρ θ=(fs ρ θ).bind fun ds θ=>match ds with
  | [.int j]=>if -1000000≤j∧j≤1000000 then .ok (.rng 0 j.toNat) θ else .bad
  | _=>.bad:=by
  unfold Zgj; exact nr rfl
variable {a b:SM} {Fl':Fl×List Sl}
@[simp] theorem ZxP:ZP ρ θ=.ok (.nx,ρ) θ:=nr rfl
@[simp] theorem Zze:Zlg ρ θ=.bad:=nr rfl
@[simp] theorem zx {ρ':List Sl}:thenS (.ok (.nx,ρ') θ) a=a ρ' θ:=nr rfl
@[simp] theorem Zt1 {ρ':List Sl} {d:D}:thenS (.ok (.rt d,ρ') θ) a=.ok (.rt d,ρ') θ:=nr rfl
@[simp] theorem Zcc:Zo a b ρ θ=thenS (a ρ θ) b:=nr rfl
@[simp] theorem ZsM:ze f ρ θ=(f ρ θ).bind fun _ θ=>.ok (.nx,ρ) θ:=nr rfl
@[simp] theorem Zpc:ZQ f ρ θ=(f ρ θ).bind fun d θ=>.ok (.rt d,ρ) θ:=nr rfl
@[simp] theorem ZxS:Zfg ρ θ=.ok (.rt .non,ρ) θ:=nr rfl
@[simp] theorem ZzA:mIf t a b ρ θ=(t ρ θ).bind fun k θ=>if k=true then a ρ θ else b ρ θ:=nr rfl
@[simp] theorem Zr9:ZL i f ρ θ=(f ρ θ).bind fun d θ=>.ok (.nx,ρ.set i (.val d)) θ:=nr rfl
@[simp] theorem Zuq:ZgN i fs ρ θ=(fs ρ θ).bind fun xs θ=>if xs.length≤BIG then .ok (.nx,ρ.set i (.own xs)) θ else .bad:=nr rfl
@[simp] theorem Zux:Zfh i f ρ θ=(f ρ θ).bind fun d θ=>match ρ[i]? with
  | some (Sl.own xs)=>if xs.length<BIG then .ok (.nx,ρ.set i (.own (xs++[d]))) θ else .bad
  | _=>.bad:=nr rfl
@[simp] theorem Zuu:Zep i a ρ θ=match ρ[i]? with | some (Sl.own xs)=>a (ρ.set i (.val (.lst xs))) θ | _=>a ρ θ:=nr rfl
@[simp] theorem ZfP {ρ':List Sl}:Zhh a (.nx,ρ') θ=a ρ' θ:=nr rfl
@[simp] theorem Zt2 {ρ':List Sl} {d:D}:Zhh a (.rt d,ρ') θ=.ok (.rt d,ρ') θ:=nr rfl
@[simp] theorem Zzb {d:D}:gNm i d ρ=some (ρ.set i (.val d)):=nr rfl
@[simp] theorem Zuw {np nn:Nat} {ds:List D}:ZU np nn a ds θ=if ds.length=np then (a (ZaF nn ds) θ).bind fun p θ=>match p.1 with | .nx=>.ok .non θ | .rt d=>.ok d θ | _=>.bad else .bad:=nr rfl
@[simp] theorem ZvM {n:Nat} {ds:List D}:ZaF n ds=ds.map Sl.val++List.replicate (n-ds.length) Sl.no:=nr rfl
@[simp] theorem ZkL {xs:List D}:seqOf θ (.tup xs)=some xs:=nr rfl
@[simp] theorem Zt0 {b:Bool}:Zgv θ (.bl b)=some b:=nr rfl
@[simp] theorem ZsH {ns:List Int}:Zgv θ (.scr ns)=some (!(ns.map D.int).isEmpty):=nr rfl
@[simp] theorem ZsK {xs:List D}:look θ (.lst xs)=.lst xs:=nr rfl
@[simp] theorem ZsL {n:Int}:look θ (.int n)=.int n:=nr rfl
@[simp] theorem Zt3 {n:Bool}:look θ (.bl n)=.bl n:=nr rfl
@[simp] theorem ZsJ {n:Str}:look θ (.str n)=.str n:=nr rfl
@[simp] theorem Zpf {xs:List D} {n:Int}:ixM (.lst xs) (.int n) θ=match atI xs n with | some d=>.ok d θ | none=>.bad:=nr rfl
@[simp] theorem Zus {xs:List Int} {n:Int}:ixM (.scr xs) (.int n) θ=match atI (xs.map D.int) n with | some d=>.ok d θ | none=>.bad:=nr rfl
@[simp] theorem Zur {xs:List D}:Zbm [.lst xs] θ=.ok (.int xs.length) θ:=nr rfl
@[simp] theorem Zm7 {xs:List D}:Zbm [.tup xs] θ=.ok (.int xs.length) θ:=nr rfl
@[simp] theorem Zt4 {xs:List Int}:Zbm [.scr xs] θ=.ok (.int (xs.map D.int).length) θ:=nr rfl
@[simp] theorem Zuo {xs:List D}:Znd [.lst xs] θ=match Zfl xs with | some ns=>.ok (.int ns.sum) θ | none=>.bad:=nr rfl
@[simp] theorem Zy9 {m n:Int}:Zla [.int m,.int n] θ=.ok (.int (if n<m then n else m)) θ:=nr rfl
@[simp] theorem ZxU {m n k:Int}:Zla [.int m,.int n,.int k] θ=.ok (.int (if n<m then (if k<n then k else n) else (if k<m then k else m))) θ:=nr rfl
@[simp] theorem ZxW {k:Bool}:ZrJ [.bl k] θ=.ok (.int (if k then 1 else 0)) θ:=nr rfl
@[simp] theorem Zpb {xs:List D} {lo hi:Option Int}:ZdK θ (.lst xs) lo hi=some (.lst (Zct xs lo hi)):=nr rfl
@[simp] theorem Zzy {x:D}:isM x .non θ=.ok (.bl (zZ x)) θ:=nr rfl
@[simp] theorem ZvN {x:D}:Zcn x .non θ=.ok (.bl (!zZ x)) θ:=nr rfl
@[simp] theorem Zut {x y:Bool}:Zcn (.bl x) (.bl y) θ=.ok (.bl (!(x == y))) θ:=nr rfl
end
mutual
def pl:Nat→D→Bool
  | _,.non=>true
  | _,.bl _=>true
  | _,.int _=>true
  | _,.str x=>PyData.strOk x
  | k+1,.tup xs=>pls k xs
  | k+1,.lst xs=>pls k xs
  | _,_=>false
def pls:Nat→List D→Bool
  | _,[]=>true
  | k,d::r=>pl k d && pls k r
end
mutual
def noB:D→Bool
  | .bl _=>false
  | .tup xs=>Zha xs
  | .lst xs=>Zha xs
  | _=>true
def Zha:List D→Bool
  | []=>true
  | d::r=>noB d && Zha r
end
mutual
theorem Zmx:∀(k:Nat) (d:D),pl k d=true→plain d=true∧(dat d).canLay0=true∧(dat d).depth≤k
  | _,.non,_=>⟨rfl,rfl,Nat.zero_le _⟩
  | _,.bl _,_=>⟨rfl,rfl,Nat.zero_le _⟩
  | _,.int _,_=>⟨rfl,rfl,Nat.zero_le _⟩
  | k,.str x,h=>⟨rfl,by cases k<;>simpa [pl,dat,PyData.canLay0] using h,Nat.zero_le _⟩
  | k+1,.tup xs,h=>by
    obtain ⟨a,b,c⟩:=ZlN k xs (by simpa [pl] using h)
    exact ⟨a,b,by simp only [dat,PyData.depth]; omega⟩
  | k+1,.lst xs,h=>by
    obtain ⟨a,b,c⟩:=ZlN k xs (by simpa [pl] using h)
    exact ⟨a,b,by simp only [dat,PyData.depth]; omega⟩
  | 0,.tup xs,h=>by simp [pl] at h
  | 0,.lst xs,h=>by simp [pl] at h
  | 0,.ty _,h=>by simp [pl] at h
  | 0,.scr _,h=>by simp [pl] at h
  | 0,.ref _,h=>by simp [pl] at h
  | _+1,.ty _,h=>by simp [pl] at h
  | _+1,.scr _,h=>by simp [pl] at h
  | _+1,.ref _,h=>by simp [pl] at h
theorem ZlN:∀(k:Nat) (ds:List D),pls k ds=true→Zbk ds=true∧PyData.canLayAll0 (Zd1 ds)=true∧PyData.depthAll (Zd1 ds)≤k
  | _,[],_=>⟨rfl,rfl,Nat.zero_le _⟩
  | k,d::r,h=>by
    have h':pl k d=true∧pls k r=true:=by simpa [pls] using h
    obtain ⟨a,b,c⟩:=Zmx k d h'.1
    obtain ⟨a',b',c'⟩:=ZlN k r h'.2
    exact ⟨by simp [Zbk,a,a'],by simp [Zd1,PyData.canLayAll0,b,b'],by simp only [Zd1,PyData.depthAll]; omega⟩
end
mutual
theorem ZmI:∀(d e:D),noB d=true→noB e=true→noMix (dat d) (dat e)=true:=fun d e p q=>by
  cases d with
  | bl _=>simp [noB] at p
  | tup xs=>
    cases e with
    | bl _=>simp [noB] at q
    | tup ys=>simp only [dat,noMix]; exact Zg9 xs ys p q
    | _=>simp [dat,noMix]
  | lst xs=>
    cases e with
    | bl _=>simp [noB] at q
    | lst ys=>simp only [dat,noMix]; exact Zg9 xs ys p q
    | _=>simp [dat,noMix]
  | _=>cases e<;>simp_all [noB,dat,noMix]
theorem Zg9:∀(ds es:List D),Zha ds=true→Zha es=true→noMixAll (Zd1 ds) (Zd1 es)=true
  | [],[],_,_=>rfl
  | [],_::_,_,_=>rfl
  | _::_,[],_,_=>rfl
  | d::ds,e::es,p,q=>by
    have p':noB d=true∧Zha ds=true:=by simpa [Zha] using p
    have q':noB e=true∧Zha es=true:=by simpa [Zha] using q
    simp only [Zd1,noMixAll,Bool.and_eq_true]
    exact ⟨ZmI d e p'.1 q'.1,Zg9 ds es p'.2 q'.2⟩
end
theorem Zh7 {k:Nat} {d:D} (h:pl k d=true) (hk:k≤64):shaped (dat d)=true:=by
  obtain ⟨_,b,c⟩:=Zmx k d h
  unfold shaped
  rw [b,decide_eq_true (by omega)]
  rfl
theorem Zht {x y:D} (h1:pl 9 x=true) (h2:pl 9 y=true) (h3:noB x=true) (h4:noB y=true):Ziz x y:=
  ⟨(Zmx _ _ h1).1,(Zmx _ _ h2).1,Zh7 h1 (by decide),Zh7 h2 (by decide),ZmI x y h3 h4⟩
theorem ZtS {a b:Bool}:Ziz (.bl a) (.bl b):=⟨rfl,rfl,rfl,rfl,rfl⟩
section
open Classical
theorem Zmb {x y:D} {θ:Sto} (h:Ziz (look θ x) (look θ y)):eqM x y θ=.ok (.bl (decide (look θ x=look θ y))) θ:=if_pos h
theorem ZlW {x y:D} {θ:Sto} (h:Ziz (look θ x) (look θ y)):neM x y θ=.ok (.bl (!decide (look θ x=look θ y))) θ:=if_pos h
end
@[simp] theorem Zu2 (k:Nat) (ns:List Int):pls k (ns.map D.int)=true:=by
  induction ns with
  | nil=>rfl
  | cons n r ih=>simp only [List.map_cons,pls,ih,Bool.and_true]; cases k<;>rfl
@[simp] theorem Zuf (ns:List Int):Zha (ns.map D.int)=true:=by
  induction ns with
  | nil=>rfl
  | cons n r ih=>simp only [List.map_cons,Zha,ih,Bool.and_true]; rfl
@[simp] theorem Zsv (ns ms:List Int):(ns.map D.int=ms.map D.int)↔ns=ms:=by
  constructor
  · intro h
    have:∀(ns ms:List Int),ns.map D.int=ms.map D.int→ns=ms:=fun ns=>by
      induction ns with
      | nil=>intro ms h; cases ms with
        | nil=>rfl
        | cons _ _=>cases h
      | cons n r ih=>intro ms h; cases ms with
        | nil=>cases h
        | cons m s=>simp at h; rw [h.1,ih s h.2]
    exact this ns ms h
  · intro h; rw [h]
@[simp] theorem ZyV (a b:Int) (θ:Sto):eqM (.int a) (.int b) θ=.ok (.bl (decide (a=b))) θ:=by
  rw [Zmb (Zht rfl rfl rfl rfl)]
  simp
@[simp] theorem Zyu (a b:Int) (θ:Sto):neM (.int a) (.int b) θ=.ok (.bl (!decide (a=b))) θ:=by
  rw [ZlW (Zht rfl rfl rfl rfl)]
  simp
@[simp] theorem Zzl (a b:Bool) (θ:Sto):neM (.bl a) (.bl b) θ=.ok (.bl (!decide (a=b))) θ:=by
  rw [ZlW (x:=.bl a) (y:=.bl b) ZtS]
  simp
@[simp] theorem ZrR (a b:List Int) (θ:Sto):eqM (.lst (a.map D.int)) (.lst (b.map D.int)) θ=.ok (.bl (decide (a=b))) θ:=by
  rw [Zmb (Zht (by simp [pl]) (by simp [pl]) (by simp [noB]) (by simp [noB]))]
  simp
@[simp] theorem ZrB (a b:List Int) (θ:Sto):neM (.lst (a.map D.int)) (.lst (b.map D.int)) θ=.ok (.bl (!decide (a=b))) θ:=by
  rw [ZlW (Zht (by simp [pl]) (by simp [pl]) (by simp [noB]) (by simp [noB]))]
  simp
end
end L2.MM
namespace L2.MM
open PySem PySem.Spec PyProof.Rows PySem.SeqAt My
noncomputable section
@[simp] theorem ZtZ:BIG=100000:=nr rfl
def il (ns:List Int):D:=.lst (ns.map D.int)
def itp (ns:List Int):D:=.tup (ns.map D.int)
section
variable {θ:Sto} {a b ns ms:List Int} {i j:Int}
@[simp] theorem Zvy:D.lst (ns.map D.int)=il ns:=nr rfl
theorem ZcL:D.lst []=il []:=rfl
@[simp] theorem Zvx (x y:Int):D.lst [.int x,.int y]=il [x,y]:=nr rfl
@[simp] theorem Zzw (x y z w:Int):D.lst [.int x,.int y,.int z,.int w]=il [x,y,z,w]:=nr rfl
@[simp] theorem Zzv (x y z w v:Int):D.lst [.int x,.int y,.int z,.int w,.int v]=il [x,y,z,w,v]:=nr rfl
@[simp] theorem Zzu (x y z w v u:Int):D.lst [.int x,.int y,.int z,.int w,.int v,.int u]=il [x,y,z,w,v,u]:=nr rfl
@[simp] theorem Zzt (x y z w v u t:Int):D.lst [.int x,.int y,.int z,.int w,.int v,.int u,.int t]=il [x,y,z,w,v,u,t]:=nr rfl
@[simp] theorem Zvp:Zak θ (il a)=some (a.map D.int):=nr rfl
@[simp] theorem Zl6:ZM (il a) (il b) θ=if a.length+b.length≤BIG then .ok (il (a++b)) θ else .bad:=by
  unfold il
  rw [ZqR]
  simp [il]
theorem Zfn (h:a.length+b.length≤100000):ZM (il a) (il b) θ=.ok (il (a++b)) θ:=by
  rw [Zl6,if_pos h]
@[simp] theorem ZyD:Zbm [il a] θ=.ok (.int a.length) θ:=by
  unfold il; rw [Zur]; simp
@[simp] theorem ZyB:Zbm [itp a] θ=.ok (.int a.length) θ:=by
  unfold itp; rw [Zm7]; simp
theorem Zr3 {α β:Type} (f:α→β) (xs:List α) (n:Int):atI (xs.map f) n=(atI xs n).map f:=by
  unfold L2.atI
  rw [List.length_map]
  cases ixN xs.length n with
  | none=>rfl
  | some k=>simp
theorem Zvq:ixM (il a) (.int i) θ=match atI a i with | some z=>.ok (.int z) θ | none=>.bad:=by
  unfold il
  rw [Zpf,Zr3]
  cases atI a i<;>rfl
theorem ZqQ {xs:List Int} {i:Int} (h0:0≤i) (h:i<xs.length):atI xs i=some (xs.getD i.toNat 0):=by
  have c:i=((i.toNat:Nat):Int):=by omega
  rw [c]
  refine Zm3 ?_
  have d:i.toNat<xs.length:=by omega
  rw [List.getD_eq_getElem?_getD,Int.toNat_natCast,List.getElem?_eq_getElem d]
  rfl
def gt (a:List Int) (i:Nat):Int:=a.getD i 0
theorem Zbn (h0:0≤i) (h:i<a.length):ixM (il a) (.int i) θ=.ok (.int (gt a i.toNat)) θ:=by rw [Zvq,ZqQ h0 h]; rfl
@[simp] theorem ZyF {x:Int} {r:List Int}:ixM (il (x::r)) (.int 0) θ=.ok (.int x) θ:=Zbn (a:=x::r) (i:=0) (by decide) (by rw [List.length_cons]; omega)
@[simp] theorem ZyE {x y:Int} {r:List Int}:ixM (il (x::y::r)) (.int 1) θ=.ok (.int y) θ:=Zbn (a:=x::y::r) (i:=1) (by decide) (by rw [List.length_cons,List.length_cons]; omega)
theorem ZqG {α β:Type} (f:α→β) (xs:List α) (lo hi:Option Int):Zct (xs.map f) lo hi=(Zct xs lo hi).map f:=by
  unfold Zct
  rw [List.length_map,List.map_take,List.map_drop]
@[simp] theorem Zlk {lo hi:Option Int}:ZdK θ (il a) lo hi=some (il (Zct a lo hi)):=by
  unfold il; rw [Zpb,ZqG]
@[simp] theorem Zv1:Zlh [itp a] θ=.ok (il a) θ:=nr rfl
@[simp] theorem Zvn:ZfR [il a] θ=.ok (itp a) θ:=nr rfl
@[simp] theorem ZyC:Znd [il a] θ=.ok (.int a.sum) θ:=by unfold il; rw [Zuo,Zqo]
@[simp] theorem Zsz:eqM (il a) (il b) θ=.ok (.bl (decide (a=b))) θ:=ZrR a b θ
@[simp] theorem Zvo:neM (il a) (il b) θ=.ok (.bl (!decide (a=b))) θ:=ZrB a b θ
@[simp] theorem ZyA {k:Int}:ZdX (itp a) (.int k) θ=if a.isEmpty=false∧0≤k∧k<1000∧(a.length:Int)*k≤1000 then .ok (itp (List.replicate k.toNat a).flatten) θ else .bad:=by
  unfold itp
  rw [Zqa,List.length_map]
  have:(List.replicate k.toNat (a.map D.int)).flatten=(List.replicate k.toNat a).flatten.map D.int:=by
    rw [List.map_flatten,List.map_replicate]
  rw [this]
  simp
theorem ZfY {α β:Type} (f:α→β) (xs:List α) (lo hi st:Option Int):ZcV (xs.map f) lo hi st=(ZcV xs lo hi st).map f:=by
  unfold ZcV
  rw [List.length_map,List.map_filterMap]
  congr
  funext k
  simp
theorem Zhf:∀{ns ms:List Int},ns.map V.int=ms.map V.int→ns=ms
  | [],[],_=>rfl
  | [],_::_,h=>by cases h
  | _::_,[],h=>by cases h
  | _::_,_::_,h=>by simp at h; rw [h.1,Zhf h.2]
@[simp] theorem Zso (ns:List Int):ZcV ns none none (some 2)=ZdD ns:=Zhf (by
  have:=ZnL ns
  rw [show ZdL (ns.map V.int) none none (some 2)=ZcV (ns.map V.int) none none (some 2) from rfl,ZfY] at this
  exact this)
@[simp] theorem Ztg (ns:List Int):ZcV ns (some 1) none (some 2)=Zg7 ns:=Zhf (by
  have:=ZqF ns
  rw [show ZdL (ns.map V.int) (some 1) none (some 2)=ZcV (ns.map V.int) (some 1) none (some 2) from rfl,ZfY] at this
  exact this)
end
theorem Zpz {n d:Nat} {k:Int} (h:0≤k):HT.sIx n d (some k)=min k.toNat n:=by
  have c:k=((k.toNat:Nat):Int):=by omega
  rw [c]
  exact HT.sIx_nat n d k.toNat
theorem ZqE {α:Type} (xs:List α) {k:Int} (h:0≤k):Zct xs none (some k)=xs.take k.toNat:=by
  unfold Zct
  rw [HT.sIx_none,Zpz h,List.drop_zero,Nat.sub_zero,←List.take_take,List.take_length]
theorem Zhr {α:Type} (xs:List α) {k:Int} (h:0≤k):Zct xs (some k) none=xs.drop k.toNat:=by
  unfold Zct
  rw [HT.sIx_none,Zpz h]
  by_cases q:k.toNat≤xs.length
  · rw [Nat.min_eq_left q,List.take_of_length_le]
    rw [List.length_drop]
    exact Nat.le_refl _
  · rw [Nat.min_eq_right (by omega),List.drop_length,List.drop_eq_nil_of_le (by omega)]
    simp
section
variable {θ:Sto} {ρ:List Sl}
@[simp] theorem ZcT {lo:Int} {n:Nat}:(Src.rng lo n).items θ=some ((List.range n).map fun (i:Nat)=>D.int (lo+(i:Int))):=nr rfl
@[simp] theorem Zuc {d:D}:(Src.seq d).items θ=seqOf θ d:=nr rfl
open Classical in
theorem Zis {S:Src} {all:List D} {elt:D→Sto→R D} {θ:Sto} (f:D→D) (hS:S.items θ=some all):∀(xs acc:List D),(∀x∈xs,elt x θ=.ok (f x) θ)→(acc.length+xs.length≤BIG)→Zgo S all elt xs acc θ=.ok (.lst (acc++xs.map f)) θ
  | [],acc,_,hl=>by
    unfold Zgo
    rw [if_pos ⟨hS,by simpa using hl⟩]
    simp
  | x::r,acc,h,hl=>by
    unfold Zgo
    rw [if_pos hS,h x List.mem_cons_self]
    rw [R.bind_ok,Zis f hS r (acc++[f x]) (fun y hy=>h y (List.mem_cons_of_mem _ hy)) (by simp at hl ⊢; omega)]
    simp
theorem Znx {fi:IM} {src:List Nat} {elt:EM} {lo:Int} {n:Nat} {θ':Sto} (f:Int→D) (hi:fi ρ θ=.ok (.rng lo n) θ') (hn:n≤BIG) (he:∀i:Nat,i<n→elt (Zc1 src ρ (.int (lo+i))) θ'=.ok (f (lo+i)) θ') :
    Zlf fi src elt ρ θ=.ok (.lst ((List.range n).map fun (i:Nat)=>f (lo+i))) θ':=by
  unfold Zlf
  rw [hi,R.bind_ok]
  simp only [ZcT]
  rw [if_pos (by simpa using hn),Zis (fun d=>match d with | .int k=>f k | d=>d) rfl]
  · simp
  · intro x hx
    obtain ⟨i,hi,rfl⟩:=List.mem_map.mp hx
    exact he i (List.mem_range.mp hi)
  · simpa using hn
@[simp] theorem Zvm {src:List Nat} {x:D}:Zc1 src ρ x=Sl.val x::src.map fun (j:Nat)=>match ρ[j]? with | some (Sl.val d)=>Sl.val d | _=>Sl.no:=nr rfl
open Classical in
theorem ZrP {lo:Int} {n:Nat} {all:List D} {tg:TgM} {body:SM} (st:Nat→List Sl) (hs:∀i ρ1,i<n→tg (.int (lo+i)) (st i)=some ρ1→body ρ1 θ=.ok (.nx,st (i+1)) θ) (ht:∀i,i<n→∃ρ1,tg (.int (lo+i)) (st i)=some ρ1) (hall:all=(List.range n).map fun (i:Nat)=>D.int (lo+(i:Int))) :
    ZeB (.rng lo n) all tg body all (st 0) θ=.ok (.nx,st n) θ:=by
  subst hall
  have key:∀m,m≤n→ZeB (.rng lo n) ((List.range n).map fun (i:Nat)=>D.int (lo+(i:Int))) tg body (((List.range n).map fun (i:Nat)=>D.int (lo+(i:Int))).drop (n-m)) (st (n-m)) θ=.ok (.nx,st n) θ:=fun m=>by
    induction m with
    | zero=>
      intro _
      rw [Nat.sub_zero,List.drop_eq_nil_of_le (by simp)]
      simp [ZeB]
    | succ m ih=>
      intro hm
      have hlt:n-(m+1)<n:=by omega
      rw [List.drop_eq_getElem_cons (by simpa using hlt)]
      obtain ⟨ρ1,h1⟩:=ht (n-(m+1)) hlt
      have h2:=hs (n-(m+1)) ρ1 hlt h1
      have e:n-(m+1)+1=n-m:=by omega
      simp only [List.getElem_map,List.getElem_range,ZeB,ZcT,if_true,h1]
      rw [h2,R.bind_ok,ZfP,e]
      exact ih (by omega)
  have:=key n (Nat.le_refl _)
  rw [Nat.sub_self,List.drop_zero] at this
  exact this
end
end
end L2.MM
namespace L2.MM
open PySem PySem.Spec PyProof.Rows PySem.SeqAt
noncomputable section
variable {X:Cx}
theorem Znt {sts:List Stmt}:MSs X sts Zlg:=fun _ _ _ _ _ _ h=>by obtain ⟨_,_,_,_,w⟩:=h; exact w.elim
def Zau (f:Str) (v:D):List (Str×D)→List (Str×D)
  | []=>[(f,v)]
  | (g,x)::r=>if g=f then (g,v)::r else (g,x)::Zau f v r
theorem RepKV.put {B:Bx} {H:Hp} {f:Str} {d:D} {v:V} (q:RepV B H d v):∀{fs:List (Str×D)} {vs:List (Str×V)},RepKV B H fs vs→RepKV B H (Zau f d fs) (ZcU f v vs)
  | _,_,.nil=>.cons ⟨rfl,q⟩ .nil
  | (g,x)::fs,(g',y)::vs,.cons h t=>by
    obtain ⟨h1,h2⟩:=h
    cases (show g=g' from h1)
    unfold Zau ZcU
    by_cases e:g=f
    · rw [if_pos e,if_pos e]; exact .cons ⟨rfl,q⟩ t
    · rw [if_neg e,if_neg e]; exact .cons ⟨rfl,h2⟩ (RepKV.put q t)
theorem RepKV.len {κ:Type} {B:Bx} {H:Hp}:∀{fs:List (κ×D)} {vs:List (κ×V)},RepKV B H fs vs→vs.length=fs.length
  | _,_,.nil=>rfl
  | _,_,.cons _ t=>by rw [List.length_cons,List.length_cons,RepKV.len t]
theorem RepKV.get {B:Bx} {H:Hp} {f:Str} {d:D}:∀{fs:List (Str×D)} {vs:List (Str×V)},RepKV B H fs vs→fs.lookup f=some d→∃v,vs.lookup f=some v∧RepV B H d v
  | _,_,.nil,h=>by cases h
  | (g,x)::fs,(g',y)::vs,.cons h t,e=>by
    obtain ⟨h1,h2⟩:=h
    cases (show g=g' from h1)
    rw [List.lookup_cons] at e ⊢
    cases q:f == g with
    | true=>rw [q] at e; cases e; exact ⟨y,rfl,h2⟩
    | false=>rw [q] at e; exact RepKV.get t e
theorem RepKV.none {B:Bx} {H:Hp} {f:Str}:∀{fs:List (Str×D)} {vs:List (Str×V)},RepKV B H fs vs→fs.lookup f=none→vs.lookup f=none
  | _,_,.nil,h=>rfl
  | (g,x)::fs,(g',y)::vs,.cons h t,e=>by
    obtain ⟨h1,h2⟩:=h
    cases (show g=g' from h1)
    rw [List.lookup_cons] at e ⊢
    cases q:f == g with
    | true=>rw [q] at e; cases e
    | false=>rw [q] at e; exact RepKV.none t e
def Zco (θ:Sto):D→Option (Nat×Str×List (Str×D))
  | .ref l=>match θ[l]? with
    | some (.ins C fs)=>some (l,C,fs)
    | _=>none
  | _=>none
theorem Zfm {cl:Mo} {B:Bx} {θ:Sto} {H:Hp} (G:Good cl B θ H) {d:D} {v:V} {l:Nat} {C:Str} {fs:List (Str×D)} (r:RepV B H d v) (h:Zco θ d=some (l,C,fs)) :
    l<B.n∧v=.ref (B.m l)∧∃dx vs,H (B.m l)=some (.ins (cl.cl C) dx vs)∧RepKV B H fs vs:=by
  cases d with
  | ref k=>
    simp only [Zco] at h
    split at h
    · rename_i C' fs' e
      cases h
      obtain ⟨hl,rfl⟩:=r
      obtain ⟨dx,vs,h1,h2⟩:=G.cel _ _ e
      exact ⟨hl,rfl,dx,vs,h1,h2⟩
    · cases h
  | _=>cases h
def zH (cs:List Str) (f:Str):D→Sto→R D:=fun d θ=>match Zco θ d with
  | some (_,C,fs)=>if cs.contains C=true then (match fs.lookup f with
    | some v=>.ok v θ
    | none=>.bad) else .bad
  | none=>.bad
def ZE (cs:List Str) (f:Str) (fe:EM):EM:=fun ρ θ=>(fe ρ θ).bind (zH cs f)
def ZsG (X:Cx) (f:Str) (C:Str):Prop:=Cls X.K (X.cl.cl C)∧NoAttr X.K (X.cl.cl C) f
theorem Zt {P:Str→Prop} {a:Str} (h:P a):∀C,[a].contains C=true→P C:=fun C hc=>by
  have:C=a:=by simpa using hc
  rw [this]; exact h
theorem Zm {cs:List Str} {f:Str} {e:Expr} {fe:EM} {pos:Pos} (hc:∀C,cs.contains C=true→ZsG X f C) (he:ME X e fe) (hb:attributeBase e f X.env (eval e X.env)=eval e X.env:=by rfl):ME X (.Attribute e f pos) (ZE cs f fe):=by
  refine PE.imp (Zto he hb) fun σ H Q h=>?_
  obtain ⟨B,θ,ρ,F,w⟩:=h
  refine ZO (step F w) ?_
  rintro v H1 ⟨B1,θ1,d,E1,F1,rd,w1⟩
  unfold zH at w1
  split at w1
  · rename_i l C fs e1
    split at w1
    · rename_i hC
      split at w1
      · rename_i y ey
        obtain ⟨hl,rfl,dx,vs,h1,h2⟩:=Zfm F1.good rd e1
        obtain ⟨u,h3,h4⟩:=h2.get ey
        exact ⟨_,_,dx,vs,u,rfl,h1,(hc C hC).1,(hc C hC).2,h3,ZS F1.good h4 w1⟩
      · exact w1.elim
    · exact w1.elim
  · exact w1.elim
def Z1 (cs:List Str) (f:Str) (y d:D) (θ:Sto):Option Sto:=match Zco θ d with
  | some (l,C,fs)=>if cs.contains C=true∧fs.length<1000 then some (θ.set l (.ins C (Zau f y fs))) else none
  | none=>none
def ZC (cs:List Str) (f:Str) (fe fv:EM):SM:=fun ρ θ=>(fv ρ θ).bind fun y θ=>(fe ρ θ).bind fun d θ=>match Z1 cs f y d θ with
  | some θ'=>.ok (.nx,ρ) θ'
  | none=>.bad
theorem Zv {cs:List Str} {f:Str} {o value:Expr} {fe fv:EM} {pos pos':Pos} (hc:∀C,cs.contains C=true→ZsG X f C) (he:ME X o fe) (hv:ME X value fv) (hs:swapsWith value (some (.Attribute o f pos')) pos.line X.env=pure false:=by rfl) :
    MS X (.Assign [.Attribute o f pos'] value pos) (ZC cs f fe fv):=
  PS.imp (Zte he hv hs) fun D σ H h=>by
  obtain ⟨B,θ,ρ,F,w⟩:=h
  refine ZO (ZcS F w) ?_
  rintro y H1 ⟨B1,θ1,dy,E1,F1,ry,w1⟩
  refine ZO (ZcS F1 w1) ?_
  rintro v H2 ⟨B2,θ2,d,E2,F2,rd,w2⟩
  unfold Z1 at w2
  cases e1:Zco θ2 d with
  | none=>rw [e1] at w2; exact w2.elim
  | some q=>
    obtain ⟨l,C,fs⟩:=q
    rw [e1] at w2
    simp only at w2
    by_cases hC:cs.contains C=true∧fs.length<1000
    · rw [if_pos hC] at w2
      obtain ⟨hl,rfl,dx,vs,h1,h2⟩:=Zfm F2.good rd e1
      refine ⟨_,_,dx,vs,rfl,h1,(hc C hC.1).1,(hc C hC.1).2,by rw [h2.len]; exact hC.2,?_⟩
      have E3:=Zdo F2.good hl (.ins (X.cl.cl C) dx (ZcU f y vs))
      have G3:=Zc2 F2.good hl (o:=.ins (X.cl.cl C) dx (ZcU f y vs)) (c:=.ins C (Zau f dy fs)) ⟨dx,_,Z4,(h2.put (ry.ext E2.toExtS)).ext E3.toExtS⟩
      exact w2 _ _ _ E3.toExtS (F2.ext E3 G3)
    · rw [if_neg hC] at w2
      exact w2.elim
structure MMk (P:Program) (w:World) (K:PySem.W.Frag) (mg:Str→Option Value) (base:Heap) (k:Nat) (C:Str) (f:GM):Prop where
  ex:∃(fI:Addr) (fd:FuncData) (ps:List Str),Mk K (zc mg C) fI∧FnOk P w K mg base CX0 k fI fd ps (spM ⟨zc mg,K⟩ f)∧Binds K fd ps []
  mg:mg C=some (.ref (zc mg C))
def mkG (C:Str) (f:GM):GM:=fun vs θ=>(f (.ref θ.length::vs) (θ++[.ins C []])).bind fun v θ'=>match v with
  | .non=>.ok (.ref θ.length) θ'
  | _=>.bad
theorem wpR.made {σ:St} {B:Bx} {θ:Sto} {H:Hp} {C:Str} {f:GM} {ds:List D} {vs:List V} {Q:VK} {E:XK} (G:Good X.cl B θ H) (r:RepL B H ds vs) (w:wpR X σ RepV B H (mkG C f ds θ) Q) :
    ∀x dx,H x=none→H dx=none→dx≠x→spM X.cl f (.ref x::(vs++[])) (upd (upd H dx (.own x)) x (.ins (X.cl.cl C) dx [])) (fun v H2=>v=.non∧Q (.ref x) H2) E:=by
  intro x dx hx hdx ne
  have E1:=Zb5 G hdx (.own x)
  have G1:=Zd0 G hdx (.own x)
  have hx1:upd H dx (.own x) x=none:=by rw [ZT (Ne.symm ne)]; exact hx
  have E2:=Zc3 G1 hx1 (.ins (X.cl.cl C) dx [])
  have G2:Good X.cl (B.push x) (θ++[.ins C []]) _:=Zet G1 hx1 (o:=.ins (X.cl.cl C) dx []) (c:=.ins C []) ⟨dx,[],Z4,.nil⟩
  have rx:RepV (B.push x) (upd (upd H dx (.own x)) x (.ins (X.cl.cl C) dx [])) (.ref θ.length) (.ref x):=⟨by rw [G.len]; exact Nat.lt_succ_self _,by rw [G.len]; show V.ref x=V.ref (if B.n=B.n then x else B.m B.n); rw [if_pos rfl]⟩
  rw [List.append_nil]
  refine Zji (σ:=σ) G2 (show RepL _ _ (.ref θ.length::ds) (.ref x::vs) from ⟨_,_,rfl,rx,r.ext (E1.trans E2).toExtS⟩) ?_
  have w1:=wpR.trans w (E1.trans E2)
  refine (wpR.bind (Rel:=RepV) w1).mono ?_
  rintro v H3 ⟨B3,θ3,d,E3,G3,rd,w3⟩
  cases d with
  | non=>exact ⟨rd,ZS G3 (rx.ext E3.toExtS) w3⟩
  | _=>exact w3.elim
theorem Zi3 {k j:Nat} {x:Str} {f:GM} {p pos:Pos} {e:Expr} {es:List Expr} {fs:AM} (M:MMk X.prog X.w X.K X.mg X.base k x f) (hr:Room j X.A) (hj:k+1≤j) (ha:MA X (e::es) fs) (hg:Gl X x:=by rfl) (hdb:(x == ("__debug__":Str))=false:=by decide)
    (he:starEach (e::es) X.env=(false,eval e X.env)::starEach es X.env:=by rfl) (hpl:(backTo pos (starEach es X.env)).any (·.1)=false:=by rfl):ME X (.Call (.Name x p) (e::es) [] pos) (mCB (mkG x f) fs):=by
  obtain ⟨fI,fd,ps,m,F0,b⟩:=M.ex
  refine PE.imp (Zrr m F0 (hr.mono hj) hg M.mg b .nil Zmz ha hdb he hpl) fun σ H Q h=>?_
  obtain ⟨B,θ,ρ,F,w⟩:=h
  refine ZaE (Ze5 F w) ?_
  rintro vs H1 ⟨B1,θ1,ds,E1,F1,rd,w1⟩
  exact wpR.made F1.good rd w1
theorem Zlc {k j:Nat} {x:Str} {f:GM} {p pos:Pos} (M:MMk X.prog X.w X.K X.mg X.base k x f) (hr:Room j X.A) (hj:k+1≤j) (hg:Gl X x:=by rfl) (hdb:(x == ("__debug__":Str))=false:=by decide):ME X (.Call (.Name x p) [] [] pos) (mCB (mkG x f) Zk):=by
  obtain ⟨fI,fd,ps,m,F0,b⟩:=M.ex
  refine PE.imp (ZpO m F0 (hr.mono hj) hg M.mg b .nil Zmz hdb) fun σ H Q h=>?_
  obtain ⟨B,θ,ρ,F,w⟩:=h
  exact wpR.made (ds:=[]) (vs:=[]) F.good (show RepL B H [] [] from rfl) w
structure Zek (P:Program) (w:World) (K:PySem.W.Frag) (mg:Str→Option Value) (base:Heap) (k:Nat) (C m:Str) (f:GM):Prop where
  ex:∃(fa:Addr) (fd:FuncData) (ps:List Str),Meth K (zc mg C) m fa∧FnOk P w K mg base CX0 k fa fd ps (spM ⟨zc mg,K⟩ f)∧Binds K fd ps []
  cl:Cls K (zc mg C)
def Zbl (C m:Str) (f:GM) (fo:EM) (fs:AM):EM:=fun ρ θ=>(fo ρ θ).bind fun d θ=>match Zco θ d with
  | some (_,C',gs)=>if C'=C∧gs.lookup m=none then (fs ρ θ).bind fun vs θ=>f (d::vs) θ else .bad
  | none=>.bad
instance {C C':Str} {gs:List (Str×D)} {m:Str}:Decidable (C'=C∧gs.lookup m=none):=by
  cases h:gs.lookup m with
  | none=>exact if e:C'=C then isTrue ⟨e,rfl⟩ else isFalse fun z=>e z.1
  | some _=>exact isFalse fun z=>nomatch z.2
theorem Zb4 {k j:Nat} {C m:Str} {f:GM} {apos pos:Pos} {o e:Expr} {es:List Expr} {fo:EM} {fs:AM} {pl:Sem Bool} (M:Zek X.prog X.w X.K X.mg X.base k C m f) (hr:Room j X.A) (hj:k≤j) (ho:ME X o fo) (ha:MA X (e::es) fs)
    (hst:starEach (e::es) X.env=(false,eval e X.env)::starEach es X.env:=by rfl) (hpl:(backTo pos (starEach es X.env)).any (·.1)=false:=by rfl)
    (ht:eval (.Call (.Attribute o m apos) (e::es) [] pos) X.env=(do
      let ov ←eval o X.env
      standAt apos.atName
      let (f,first) ←holding [ov] (getMethod ov m pl)
      callWith pos f first (backTo pos (starEach (e::es) X.env)) (backToKw pos (keywordEach [] X.env))):=by rfl) :
    ME X (.Call (.Attribute o m apos) (e::es) [] pos) (Zbl C m f fo fs):=by
  obtain ⟨fa,fd,ps,mt,F0,b⟩:=M.ex
  refine PE.imp (Zrq (pl:=pl) ho M.cl mt F0 (hr.mono hj) b .nil Zmz ha hst hpl ht) fun σ H Q h=>?_
  obtain ⟨B,θ,ρ,F,w⟩:=h
  refine ZO (step F w) ?_
  rintro v H1 ⟨B1,θ1,d,E1,F1,rd,w1⟩
  split at w1
  · rename_i l C' gs e1
    split at w1
    · rename_i hC
      obtain ⟨hl,ev,dx,us,h1,h2⟩:=Zfm F1.good rd e1
      rw [hC.1] at h1
      refine ⟨_,dx,us,ev,h1,h2.none hC.2,?_⟩
      refine ZaE (Ze5 F1 w1) ?_
      rintro vs H2 ⟨B2,θ2,ds,E2,F2,rds,w2⟩
      rw [List.append_nil]
      exact Zji F2.good (show RepL B2 H2 (d::ds) (v::vs) from ⟨v,vs,rfl,rd.ext E2.toExtS,rds⟩) w2
    · exact w1.elim
  · exact w1.elim
theorem Zvh {P:Program} {w:World} {K:PySem.W.Frag} {mg:Str→Option Value} {base:Heap} {x qual:Str} {st:Stmt} {N ps:List Str} {k:Nat} {fb:SM} {f:Addr} {fd:FuncData} {C:Str} (F:Fun K x qual st f fd) (S:Zp N ps (Zg st)) (np nn:Nat) (hp:ps.length=np) (hn:N.length=nn) (b:Binds K fd ps []) (c:Cls K (zc mg C)) (m:Meth K (zc mg C) x f)
    (hbody:∀(cdv:Value) (A:Around) (outer:List Env) (s:Shared) (H:Hp) (E:XK),Room k (A.deeper (envOfC qual (Zg st) s.heap.objs.size f cdv))→MSs (Zc4 CX0 P w K mg base N qual (Zg st) f cdv A outer s H E).nox (Zn st) fb):Zek P w K mg base (k+1) C x (ZU np nn fb):=
  ⟨⟨f,fd,ps,m,mfn F S np nn hp hn hbody,b⟩,c⟩
theorem mmk {P:Program} {w:World} {K:PySem.W.Frag} {mg:Str→Option Value} {base:Heap} {x qual:Str} {st:Stmt} {N ps:List Str} {k:Nat} {fb:SM} {f:Addr} {fd:FuncData} {C:Str} (F:Fun K x qual st f fd) (S:Zp N ps (Zg st)) (np nn:Nat) (hp:ps.length=np) (hn:N.length=nn) (b:Binds K fd ps []) (M:Mk K (zc mg C) f) (hm:mg C=some (.ref (zc mg C)))
    (hbody:∀(cdv:Value) (A:Around) (outer:List Env) (s:Shared) (H:Hp) (E:XK),Room k (A.deeper (envOfC qual (Zg st) s.heap.objs.size f cdv))→MSs (Zc4 CX0 P w K mg base N qual (Zg st) f cdv A outer s H E).nox (Zn st) fb):MMk P w K mg base (k+1) C (ZU np nn fb):=
  ⟨⟨f,fd,ps,M,mfn F S np nn hp hn hbody,b⟩,hm⟩
def Zi8:EM:=fun _ θ=>.ok (.ref θ.length) (θ++[.dK []])
def Zi7:EM:=fun _ θ=>.ok (.ref θ.length) (θ++[.dT []])
theorem Zld {pos:Pos}:ME X (.Dict [] [] pos) Zi8:=by
  refine PE.imp ZpT fun σ H Q h=>?_
  obtain ⟨B,θ,ρ,F,w⟩:=h
  intro p hp
  have G:=F.good
  exact w (B.push p) _ _ (Zc3 G hp _) (Zet G hp ⟨[],Z4,.nil⟩) ⟨by rw [G.len]; exact Nat.lt_succ_self _,by rw [G.len]; show V.ref p=V.ref (if B.n=B.n then p else B.m B.n); rw [if_pos rfl]⟩
theorem Znv {pos:Pos}:ME X (.Dict [] [] pos) Zi7:=by
  refine PE.imp ZpS fun σ H Q h=>?_
  obtain ⟨B,θ,ρ,F,w⟩:=h
  intro p hp
  have G:=F.good
  exact w (B.push p) _ _ (Zc3 G hp _) (Zet G hp ⟨[],Z4,.nil⟩) ⟨by rw [G.len]; exact Nat.lt_succ_self _,by rw [G.len]; show V.ref p=V.ref (if B.n=B.n then p else B.m B.n); rw [if_pos rfl]⟩
section
variable {ρ:List Sl} {θ:Sto} {fe fv fo:EM} {cs:List Str} {f:Str}
@[simp] theorem Zzc:ZE cs f fe ρ θ=(fe ρ θ).bind (zH cs f):=nr rfl
@[simp] theorem ZxQ:ZC cs f fe fv ρ θ=(fv ρ θ).bind fun y θ=>(fe ρ θ).bind fun d θ=>match Z1 cs f y d θ with
  | some θ'=>.ok (.nx,ρ) θ'
  | none=>.bad:=nr rfl
@[simp] theorem ZvP:Zi8 ρ θ=.ok (.ref θ.length) (θ++[.dK []]):=nr rfl
@[simp] theorem Zuv:Zi7 ρ θ=.ok (.ref θ.length) (θ++[.dT []]):=nr rfl
end
end
end L2.MM
namespace L2.MM
open PySem PySem.Spec PyProof.Rows PySem.SeqAt
def Mk0 (K:PySem.W.Frag) (mg:Str→Option Value) (C qual:Str) (st:Stmt) (ps:List Str):Prop:=
  ∃(f:Addr) (fd:FuncData),Fun K "__init__" qual st f fd∧Binds K fd ps []∧Mk K (zc mg C) f∧mg C=some (.ref (zc mg C))
def Me0 (K:PySem.W.Frag) (mg:Str→Option Value) (C m qual:Str) (st:Stmt) (ps:List Str):Prop:=
  ∃(f:Addr) (fd:FuncData),Fun K m qual st f fd∧Binds K fd ps []∧Meth K (zc mg C) m f
theorem Zjh {mg:Str→Option Value} {x:Str} {a:Addr} (h:mg x=some (.ref a)):zc mg x=a:=by unfold zc; rw [h]
theorem mk0 {P:Program} {w:World} {K:PySem.W.Frag} {mg:Str→Option Value} {base:Heap} {qual:Str} {st:Stmt} {N ps:List Str} {k:Nat} {fb:SM} {C:Str} (D:Mk0 K mg C qual st ps) (S:Zp N ps (Zg st)) (np nn:Nat) (hp:ps.length=np) (hn:N.length=nn)
    (hbody:∀(f:Addr) (cdv:Value) (A:Around) (outer:List Env) (s:Shared) (H:Hp) (E:XK),Room k (A.deeper (envOfC qual (Zg st) s.heap.objs.size f cdv))→MSs (Zc4 CX0 P w K mg base N qual (Zg st) f cdv A outer s H E).nox (Zn st) fb):MMk P w K mg base (k+1) C (ZU np nn fb):=by
  obtain ⟨f,fd,F,b,M,hm⟩:=D
  exact mmk F S np nn hp hn b M hm (hbody f)
theorem me0 {P:Program} {w:World} {K:PySem.W.Frag} {mg:Str→Option Value} {base:Heap} {m qual:Str} {st:Stmt} {N ps:List Str} {k:Nat} {fb:SM} {C:Str} (D:Me0 K mg C m qual st ps) (c:Cls K (zc mg C)) (S:Zp N ps (Zg st)) (np nn:Nat) (hp:ps.length=np) (hn:N.length=nn)
    (hbody:∀(f:Addr) (cdv:Value) (A:Around) (outer:List Env) (s:Shared) (H:Hp) (E:XK),Room k (A.deeper (envOfC qual (Zg st) s.heap.objs.size f cdv))→MSs (Zc4 CX0 P w K mg base N qual (Zg st) f cdv A outer s H E).nox (Zn st) fb):Zek P w K mg base (k+1) C m (ZU np nn fb):=by
  obtain ⟨f,fd,F,b,mt⟩:=D
  exact Zvh F S np nn hp hn b c mt (hbody f)
end L2.MM
namespace My
open PySem L2 L2.MM
noncomputable section
def ZfF:SM:=(ZcG (ZF (mOp gtM (Zd 1) (mC (.int 65535)))) (ZL 1 (mOp ZM (mOp zk (Zd 1) (mC (.int 65536))) (mOp Zcs (Zd 1) (mC (.int 65536))))) 200)
def ZhK:SM:=(Zo (ZL 1 (mOp ZM (mOp ZdX (mC (.int 256)) (mCB Znd (Zc (ZrF (Zd 0) zq zq (Zai (mC (.int 2)))) Zk))) (mCB Znd (Zc (ZrF (Zd 0) (Zai (mC (.int 1))) zq (Zai (mC (.int 2)))) Zk))))
  (Zo ZfF
  (ZQ (Zd 1))))
def Zcl:GM:=ZU 1 2 ZhK
def Zhx:SM:=(ZQ (mOp Zgx (mC (.int 65535)) (mCB Zcl (Zc (Zd 0) Zk))))
def ZdO:GM:=ZU 1 1 Zhx
def ZmZ:SM:=(ZQ (ZeT (ZF (mOp neM (mOp ZvJ (Zd 0) (Zd 1)) (mC (.int 0)))) (mC (.int 1)) (mC (.int 0))))
def ZeD:GM:=ZU 2 2 ZmZ
def ZhB:SM:=(Zo (ZL 1 (mOp ixM (Zd 0) (mC (.int 4))))
  (ZQ (mOp ZM (mOp ZM (mCB Zbm (Zc (mOp ixM (Zd 0) (mC (.int 7))) Zk)) (mCB ZeD (Zc (Zd 1) (Zc (mC (.int 2)) Zk)))) (mCB ZeD (Zc (Zd 1) (Zc (mC (.int 1)) Zk))))))
def ZbP:GM:=ZU 1 2 ZhB
def Zc8:SM:=(ZQ (mOp ZdX (mC (.int 16)) (mOp Zcs (Zd 0) (mC (.int 4)))))
def zG:GM:=ZU 1 1 Zc8
def ZeJ:SM:=(ZQ (ZaB (Zc (mOp zk (mOp Zcs (Zd 0) (mC (.int 256))) (mC (.int 256))) (Zc (mOp zk (Zd 0) (mC (.int 256))) Zk))))
def zb:GM:=ZU 1 1 ZeJ
def Zea:SM:=(ZQ (mOp ZM (mCB zb (Zc (mOp Zcs (Zd 0) (mC (.int 65536))) Zk)) (mCB zb (Zc (Zd 0) Zk))))
def ZaN:GM:=ZU 1 1 Zea
def Zbq:SM:=(Zo (ZL 1 (mOp ZM (mCB zb (Zc (mOp ixM (Zd 0) (mC (.int 0))) Zk)) (mCB zb (Zc (mOp ixM (Zd 0) (mC (.int 1))) Zk))))
  (Zo (ZL 2 (mOp ZM (mCB ZaN (Zc (mOp ixM (Zd 0) (mC (.int 2))) Zk)) (mCB ZaN (Zc (mOp ixM (Zd 0) (mC (.int 3))) Zk))))
  (Zo (ZL 3 (ZeT (ZF (mOp eqM (mOp ixM (Zd 0) (mC (.int 6))) (mC (.int 0)))) (mC (.int 20)) (mC (.int 24))))
  (ZQ (mOp ZM (mOp ZM (mOp ZM (Zd 1) (Zd 2)) (ZaB (Zc (mCB zG (Zc (Zd 3) Zk)) (Zc (mOp ixM (Zd 0) (mC (.int 4))) Zk)))) (mCB zb (Zc (mOp ixM (Zd 0) (mC (.int 5))) Zk)))))))
def zF:GM:=ZU 1 4 Zbq
def ZcD:SM:=(ZQ (ZeT (ZF (mOp eqM (Zd 0) (mC (.int 0)))) (ZaB Zk) (mOp ZM (ZaB (Zc (mC (.int 2)) (Zc (mC (.int 4)) Zk))) (mCB zb (Zc (Zd 0) Zk)))))
def Zav:GM:=ZU 1 1 ZcD
def ZmY:SM:=(Zo (ZL 1 (mCB zF (Zc (Zd 0) Zk)))
  (Zo (ZL 2 (mOp ZM (mOp ZM (ZaB (Zc (mC (.int 0)) (Zc (mC (.int 0)) Zk))) (mCB Zav (Zc (mOp ixM (Zd 0) (mC (.int 6))) Zk))) (mCB Zlh (Zc (mOp ixM (Zd 0) (mC (.int 7))) Zk))))
  (ZQ (mOp ZM (mOp ZM (Zd 1) (mCB zb (Zc (mCB ZdO (Zc (mOp ZM (mOp ZM (Zd 1) (ZaB (Zc (mC (.int 0)) (Zc (mC (.int 0)) Zk)))) (Zd 2)) Zk)) Zk))) (Zd 2)))))
def Zg6:GM:=ZU 1 3 ZmY
def Zgr:SM:=(ZQ (mOp ZdX (mOp Zcs (mOp ixM (Zd 0) (mC (.int 12))) (mC (.int 16))) (mC (.int 4))))
def ZaM:GM:=ZU 1 1 Zgr
def Zhw:SM:=(ZQ (mOp ZM (mOp ZdX (mC (.int 256)) (mOp ixM (Zd 0) (Zd 1))) (mOp ixM (Zd 0) (mOp ZM (Zd 1) (mC (.int 1))))))
def zR:GM:=ZU 2 2 Zhw
def Zbp:SM:=(ZQ (Zbd (mOp eqM (mCB ZeD (Zc (mOp ixM (Zd 0) (mC (.int 13))) (Zc (mC (.int 2)) Zk))) (mC (.int 1))) (Zbd (mOp eqM (mOp ixM (Zd 0) (mC (.int 20))) (mC (.int 2))) (Zbd (mOp eqM (mOp ixM (Zd 0) (mC (.int 21))) (mC (.int 4))) (mOp geM (mCB zR (Zc (Zd 0) (Zc (mC (.int 22)) Zk))) (mC (.int 4)))))))
def zD:GM:=ZU 1 1 Zbp
def ZaR:SM:=(ZQ (Zbd (mOp geM (mCB Zbm (Zc (Zd 0) Zk)) (mC (.int 20))) (Zbd (mOp inM (mOp ixM (Zd 0) (mC (.int 12))) (Zar (Zc (mCB zG (Zc (mC (.int 20)) Zk)) (Zc (mCB zG (Zc (mC (.int 24)) Zk)) Zk)))) (Zbd (mOp leM (mOp ixM (Zd 0) (mC (.int 13))) (mC (.int 31))) (Zbd (Zf1 leM leM (mC (.int 0)) (mOp Zgx (mCB Zbm (Zc (Zd 0) Zk)) (mCB ZaM (Zc (Zd 0) Zk))) (mC (.int 16))) (Zbd (mOp eqM (mCB zR (Zc (Zd 0) (Zc (mC (.int 18)) Zk))) (mC (.int 0))) (Zbd (Zi6 (mOp eqM (mCB ZaM (Zc (Zd 0) Zk)) (mC (.int 20))) (mCB zD (Zc (Zd 0) Zk))) (mOp eqM (mCB Zcl (Zc (Zd 0) Zk)) (mC (.int 65535))))))))))
def zy:GM:=ZU 1 1 ZaR
def Zgs:SM:=(ZQ (mOp ZM (mOp ZdX (mC (.int 65536)) (mCB zR (Zc (Zd 0) (Zc (Zd 1) Zk)))) (mCB zR (Zc (Zd 0) (Zc (mOp ZM (Zd 1) (mC (.int 2))) Zk)))))
def Zb9:GM:=ZU 2 2 Zgs
def Zgc:SM:=(mIf (ZcZ (zC (mCB zy (Zc (Zd 0) Zk)))) Zlg ZP)
def Zjq:SM:=(Zo Zgc
  (Zo (ZL 1 (mCB ZaM (Zc (Zd 0) Zk)))
  (Zo (ZL 2 (ZeT (ZF (mOp eqM (Zd 1) (mC (.int 24)))) (mCB zR (Zc (Zd 0) (Zc (mC (.int 22)) Zk))) (mC (.int 0))))
  (Zo (ZL 3 (Zar (Zc (mCB zR (Zc (Zd 0) (Zc (mC (.int 0)) Zk))) (Zc (mCB zR (Zc (Zd 0) (Zc (mC (.int 2)) Zk))) Zk))))
  (Zo (ZL 4 (Zar (Zc (mCB Zb9 (Zc (Zd 0) (Zc (mC (.int 4)) Zk))) (Zc (mCB Zb9 (Zc (Zd 0) (Zc (mC (.int 8)) Zk))) Zk))))
  (ZQ (mOp ZM (mOp ZM (Zd 3) (Zd 4)) (Zar (Zc (mOp ixM (Zd 0) (mC (.int 13))) (Zc (mCB zR (Zc (Zd 0) (Zc (mC (.int 14)) Zk))) (Zc (Zd 2) (Zc (mCB ZfR (Zc (mSl (Zd 0) (Zai (Zd 1)) zq) Zk)) Zk))))))))))))
def Zgh:GM:=ZU 1 5 Zjq
def Ze1:SM:=(mIf (zC (Zd 0)) (ZQ (mOp ixM (Zd 0) (mOp zk (Zd 1) (mCB Zbm (Zc (Zd 0) Zk))))) ZP)
def ZhN:SM:=(Zo Ze1
  (ZQ (mC (.int 0))))
def Zf3:GM:=ZU 2 2 ZhN
def Zm1:SM:=(Zo (ZL 2 (mOp zk (mOp ZM (mCB Zf3 (Zc (Zd 0) (Zc (Zd 1) Zk))) (mOp ZdX (mC (.int 104729)) (mOp ZM (Zd 1) (mC (.int 1))))) (mC (.int 4294967291))))
  (Zo (ZL 2 (mOp zk (mOp ZdX (Zd 2) (mC (.int 48271))) (mC (.int 4294967279))))
  (ZQ (mOp zk (mOp ZM (mOp ZdX (mOp Zcs (Zd 2) (mC (.int 64))) (mC (.int 69621))) (Zd 2)) (mC (.int 4294967231))))))
def zv:GM:=ZU 2 3 Zm1
def Zm0:SM:=(ZQ (ZaB (Zc (mOp Zcs (Zd 0) (mC (.int 256))) (Zc (mOp zk (Zd 0) (mC (.int 256))) Zk))))
def ZdB:GM:=ZU 1 1 Zm0
def ZfM:SM:=(Zgy (Zgj (Zc (mCB Zbm (Zc (Zd 0) Zk)) Zk)) (gNm 2) (ZL 1 (mOp ZM (Zd 1) (mOp ZdX (mOp ixM (Zd 0) (Zd 2)) (mOp ixM (ZaB (Zc (mC (.int 256)) (Zc (mC (.int 1)) Zk))) (mOp zk (Zd 2) (mC (.int 2))))))))
def ZfL:SM:=(ZcG (ZF (mOp gtM (Zd 1) (mC (.int 65535)))) (ZL 1 (mOp ZM (mOp zk (Zd 1) (mC (.int 65536))) (mOp Zcs (Zd 1) (mC (.int 65536))))) 200)
def ZhM:SM:=(Zo (ZL 1 (mC (.int 0)))
  (Zo ZfM
  (Zo ZfL
  (ZQ (Zd 1)))))
def Zc0:GM:=ZU 1 3 ZhM
def Zei:SM:=(Zgy (mIn (mSl (Zd 0) (Zai (mC (.int 2))) (Zai (mC (.int 4))))) (gNm 2) (ZL 1 (mOp ZM (mOp ZM (Zd 1) (mCB ZdB (Zc (mOp Zcs (Zd 2) (mC (.int 65536))) Zk))) (mCB ZdB (Zc (mOp zk (Zd 2) (mC (.int 65536))) Zk)))))
def Zeh:SM:=(mIf (ZF (mOp gtM (mOp ixM (Zd 0) (mC (.int 6))) (mC (.int 0)))) (ZL 1 (mOp ZM (mOp ZM (Zd 1) (ZaB (Zc (mC (.int 2)) (Zc (mC (.int 4)) Zk)))) (mCB ZdB (Zc (mOp ixM (Zd 0) (mC (.int 6))) Zk)))) ZP)
def Zgd:SM:=(Zo (ZL 1 (mOp ZM (mCB ZdB (Zc (mOp ixM (Zd 0) (mC (.int 0))) Zk)) (mCB ZdB (Zc (mOp ixM (Zd 0) (mC (.int 1))) Zk))))
  (Zo Zei
  (Zo (ZL 1 (mOp ZM (mOp ZM (mOp ZM (Zd 1) (ZaB (Zc (mOp ixM (ZaB (Zc (mC (.int 80)) (Zc (mC (.int 96)) Zk))) (mCB ZrJ (Zc (mOp gtM (mOp ixM (Zd 0) (mC (.int 6))) (mC (.int 0))) Zk))) (Zc (mOp ixM (Zd 0) (mC (.int 4))) Zk)))) (mCB ZdB (Zc (mOp ixM (Zd 0) (mC (.int 5))) Zk))) (ZaB (Zc (mC (.int 0)) (Zc (mC (.int 0)) (Zc (mC (.int 0)) (Zc (mC (.int 0)) Zk)))))))
  (Zo Zeh
  (Zo (ZL 1 (mOp ZM (Zd 1) (mCB Zlh (Zc (mOp ixM (Zd 0) (mC (.int 7))) Zk))))
  (ZQ (mOp ZM (mOp ZM (mSl (Zd 1) zq (Zai (mC (.int 16)))) (mCB ZdB (Zc (mOp Zgx (mC (.int 65535)) (mCB Zc0 (Zc (Zd 1) Zk))) Zk))) (mSl (Zd 1) (Zai (mC (.int 18))) zq))))))))
def ZaQ:GM:=ZU 1 3 Zgd
def Zdf:SM:=(mIf (ZF (mOp eqM (Zd 3) (mC (.int 0)))) (ZL 3 (mOp ZM (mC (.int 4)) (mOp zk (mCB zv (Zc (Zd 0) (Zc (mOp ZM (Zd 1) (mC (.int 2))) Zk))) (mC (.int 65532))))) ZP)
def Zcb:SM:=(mIf (Zfi (ZF (mOp eqM (mOp zk (mOp Zcs (Zd 2) (mC (.int 2))) (mC (.int 2))) (mC (.int 1)))) (ZF (mOp gtM (mOp zk (mCB zv (Zc (Zd 0) (Zc (mOp ZM (Zd 1) (mC (.int 1))) Zk))) (mC (.int 3))) (mC (.int 0))))) (Zo (ZL 3 (mOp ixM (ZaB (Zc (mC (.int 4)) (Zc (mC (.int 5)) (Zc (mC (.int 16)) (Zc (mC (.int 536)) (Zc (mC (.int 65535)) (Zc (mC (.int 0)) Zk))))))) (mOp zk (mCB zv (Zc (Zd 0) (Zc (mOp ZM (Zd 1) (mC (.int 3))) Zk))) (mC (.int 6)))))
    Zdf) ZP)
def Zez:SM:=(mIf (ZF (mOp eqM (mOp zk (Zd 6) (mC (.int 3))) (mC (.int 0)))) (ZL 6 (mOp ixM (ZaB (Zc (mC (.int 0)) (Zc (mC (.int 1)) (Zc (mC (.int 4294967295)) (Zc (mC (.int 4294967294)) (Zc (mC (.int 2147483648)) (Zc (mC (.int 65535)) (Zc (mC (.int 65536)) Zk)))))))) (mOp zk (mOp Zcs (Zd 6) (mC (.int 3))) (mC (.int 7))))) ZP)
def Zge:SM:=(Zgy (Zgj (Zc (mC (.int 2)) Zk)) (gNm 5) (Zo (ZL 6 (mCB zv (Zc (Zd 0) (Zc (mOp ZM (mOp ZM (Zd 1) (mC (.int 4))) (Zd 5)) Zk))))
    (Zo Zez
    (Zfh 4 (Zd 6)))))
def Zey:SM:=(mIf (ZF (mOp eqM (Zd 8) (mC (.int 7)))) (ZL 8 (mOp zk (mCB zv (Zc (Zd 0) (Zc (mOp ZM (Zd 1) (mC (.int 8))) Zk))) (mC (.int 17)))) ZP)
def Zex:SM:=(mIf (ZF (mOp eqM (mOp zk (mCB zv (Zc (Zd 0) (Zc (mOp ZM (Zd 1) (mC (.int 27))) Zk))) (mC (.int 5))) (mC (.int 0)))) (ZL 9 (mOp ZdX (Zar (Zc (mC (.int 255)) Zk)) (Zd 8))) ZP)
def Zm2:SM:=(Zo (ZL 2 (mOp zk (mCB zv (Zc (Zd 0) (Zc (Zd 1) Zk))) (mC (.int 32))))
  (Zo (ZL 3 (mC (.int 0)))
  (Zo Zcb
  (Zo (ZgN 4 Zk)
  (Zo Zge
  (Zo (ZL 7 (Zar (Zc (mOp zk (mCB zv (Zc (Zd 0) (Zc (mOp ZM (Zd 1) (mC (.int 6))) Zk))) (mC (.int 65536))) Zk)))
  (Zo (ZL 7 (mOp ZM (Zd 7) (Zar (Zc (mOp zk (mCB zv (Zc (Zd 0) (Zc (mOp ZM (Zd 1) (mC (.int 7))) Zk))) (mC (.int 65536))) Zk))))
  (Zo (ZL 8 (mOp ixM (ZaB (Zc (mC (.int 0)) (Zc (mC (.int 1)) (Zc (mC (.int 15)) (Zc (mC (.int 16)) (Zc (mC (.int 7)) Zk)))))) (mOp zk (mCB zv (Zc (Zd 0) (Zc (mOp ZM (Zd 1) (mC (.int 9))) Zk))) (mC (.int 5)))))
  (Zo Zey
  (Zo (ZL 9 (mCB ZfR (Zc (Zlf (Zgj (Zc (Zd 8) Zk)) [0,1] (mOp zk (mOp Zcs (mCB zv (Zc (Zd 1) (Zc (mOp ZM (mOp ZM (Zd 2) (mC (.int 10))) (Zd 0)) Zk))) (mC (.int 7))) (mC (.int 256)))) Zk)))
  (Zo Zex
  (Zo (ZL 10 (mOp zk (mCB zv (Zc (Zd 0) (Zc (mOp ZM (Zd 1) (mC (.int 28))) Zk))) (mC (.int 65536))))
  (Zep 4 (ZQ (mOp ZM (Zd 7) (Zar (Zc (mOp ixM (Zd 4) (mC (.int 0))) (Zc (mOp ixM (Zd 4) (mC (.int 1))) (Zc (Zd 2) (Zc (Zd 10) (Zc (Zd 3) (Zc (Zd 9) Zk))))))))))))))))))))))
def Zij:GM:=ZU 2 11 Zm2
end
end My
namespace My
open PySem L2 L2.MM
noncomputable section
def cell (ns:List Int) (k:Int):Int:=if ns.length=0 then 0 else ns.getD (k % (ns.length:Int)).toNat 0
def mix (ns:List Int) (k:Int):Int:=
  ((cell ns k+104729*(k+1)) % 4294967291*48271 % 4294967279/64*69621+(cell ns k+104729*(k+1)) % 4294967291*48271 % 4294967279) % 4294967231
theorem ZlX (ns:List Int) (k:Int):0≤mix ns k∧mix ns k<4294967231:=by
  unfold mix; omega
theorem Zr2 {ns:List Int} {k:Int} (h:0<ns.length):atI (ns.map D.int) (k % (ns.length:Int))=some (.int (cell ns k)):=by
  have a:=Int.emod_nonneg k (show (ns.length:Int)≠0 by omega)
  have b:=Int.emod_lt_of_pos k (show (0:Int)<ns.length by omega)
  have c:(k % (ns.length:Int))=(((k % (ns.length:Int)).toNat:Nat):Int):=by omega
  rw [c]
  refine Zm3 ?_
  have d:(k % (ns.length:Int)).toNat<ns.length:=by omega
  rw [List.getElem?_map,List.getElem?_eq_getElem d]
  unfold cell
  rw [if_neg (by omega),List.getD_eq_getElem?_getD,List.getElem?_eq_getElem d]
  rfl
@[simp] theorem Zx7 (ns:List Int) (k:Int) (θ:Sto):Zf3 [.scr ns,.int k] θ=.ok (.int (cell ns k)) θ:=by
  by_cases h:ns.length=0
  · have:ns=[]:=List.eq_nil_of_length_eq_zero h
    subst this
    simp [Zf3,ZhN,Ze1,cell]
  · have h1:ns.isEmpty=false:=by cases ns with
      | nil=>exact absurd rfl h
      | cons _ _=>rfl
    have h2:0<ns.length:=by omega
    simp [Zf3,ZhN,Ze1,h1,h2,Zr2 (k:=k) h2]
@[simp] theorem Zzg (ns:List Int) (k:Int) (θ:Sto):zv [.scr ns,.int k] θ=.ok (.int (mix ns k)) θ:=by
  simp [zv,Zm1,ZfO,mix]
@[simp] theorem ZuB (k:Int) (θ:Sto):ZdB [.int k] θ=.ok (il [k/256,k % 256]) θ:=by
  simp [ZdB,Zm0]
theorem ZiE {t:TMr} {body:SM} {n:Nat} {ρ:List Sl} {θ:Sto}:ZcG t body (n+1) ρ θ=(t ρ θ).bind fun k θ=>if k=true then (body ρ θ).bind (Zhh (ZcG t body n)) else .ok (.nx,ρ) θ:=rfl
abbrev ZsA:TMr:=ZF (mOp gtM (Zd 1) (mC (.int 65535)))
abbrev ZsB:SM:=ZL 1 (mOp ZM (mOp zk (Zd 1) (mC (.int 65536))) (mOp Zcs (Zd 1) (mC (.int 65536))))
theorem Zma (t:Int) (x:Sl) (r:List Sl) (θ:Sto):ZsA (x::.val (.int t)::r) θ=.ok (decide (65535<t)) θ:=by simp
theorem Zqu (t:Int) (x:Sl) (r:List Sl) (θ:Sto):ZsB (x::.val (.int t)::r) θ=.ok (.nx,x::.val (.int (t % 65536+t/65536))::r) θ:=by simp
theorem Zq4 {t:Int} (n:Nat) (h0:0≤t) (h1:t<4294967296) (x:Sl) (r:List Sl) (θ:Sto):ZcG ZsA ZsB (n+3) (x::.val (.int t)::r) θ=.ok (.nx,x::.val (.int (Zae t))::r) θ:=by
  rw [ZiE,Zma,R.bind_ok]
  by_cases c1:65535<t
  · have s1:=Zio c1
    rw [if_pos (by simpa using c1),Zqu,R.bind_ok,ZfP]
    have hu:t % 65536+t/65536≤131070:=by omega
    generalize t % 65536+t/65536=u at s1 hu
    rw [ZiE,Zma,R.bind_ok]
    by_cases c2:65535<u
    · have s2:=Zio c2
      rw [if_pos (by simpa using c2),Zqu,R.bind_ok,ZfP]
      have hv:u % 65536+u/65536≤65535:=by omega
      generalize u % 65536+u/65536=v at s2 hv
      rw [ZiE,Zma,R.bind_ok,if_neg (by simp; omega),←s1.1,←s2.1,ZeW s2.2.1 hv]
    · rw [if_neg (by simpa using c2),←s1.1,ZeW s1.2.1 (by omega)]
  · rw [if_neg (by simpa using c1),ZeW h0 (by omega)]
theorem Zh6 {t:Int} (h0:0≤t) (h1:t<4294967296) (x:Sl) (r:List Sl) (θ:Sto):ZcG (ZF (mOp gtM (Zd 1) (mC (.int 65535)))) (ZL 1 (mOp ZM (mOp zk (Zd 1) (mC (.int 65536))) (mOp Zcs (Zd 1) (mC (.int 65536))))) 200 (x::.val (.int t)::r) θ=.ok (.nx,x::.val (.int (Zae t))::r) θ:=Zq4 197 h0 h1 x r θ
def Byt (ns:List Int):Prop:=(∀z∈ns,0≤z∧z≤255)∧ns.length≤1000
theorem Zmk:∀{ns:List Int} {m:Nat},(∀z∈ns,0≤z∧z≤255)→ns.length≤2*m→Z7 ns≤65535*m
  | [],m,_,_=>by simp [Z7]; omega
  | [a],m,h,hl=>by
    have:=h a (by simp)
    simp [Z7] at hl ⊢
    omega
  | a::b::r,m,h,hl=>by
    have h1:=h a (by simp)
    have h2:=h b (by simp)
    obtain ⟨m,rfl⟩:∃k,m=k+1:=⟨m-1,by simp at hl; omega⟩
    have:=Zmk (ns:=r) (m:=m) (fun z hz=>h z (by simp [hz])) (by simp at hl; omega)
    simp [Z7]
    omega
theorem Byt.sum {ns:List Int} (h:Byt ns):0≤Z7 ns∧Z7 ns<4294967296:=by
  refine ⟨Zmj fun z hz=>(h.1 z hz).1,?_⟩
  have:=Zmk (m:=500) h.1 (by have:=h.2; omega)
  omega
theorem ZkS {ns:List Int} (h:Byt ns) (θ:Sto):Zcl [il ns] θ=.ok (.int (Zae (Z7 ns))) θ:=by
  have l1:=Zir ns
  have l2:=Zk4 ns
  have l3:=h.2
  have hs:=h.sum
  have e:=Zml ns
  simp [Zcl,ZhK,ZfF,ZfY,ZfO,show (ZdD ns).length≤100000 by omega,show (Zg7 ns).length≤100000 by omega,e]
  rw [Zh6 hs.1 hs.2]
  simp
theorem Zpl {ns:List Int} (h:Byt ns) (θ:Sto):ZdO [il ns] θ=.ok (.int (65535-Zae (Z7 ns))) θ:=by
  simp [ZdO,Zhx,ZkS h]
theorem Zm9 {ns:List Int} (h:Byt ns) (θ:Sto):Zc0 [il ns] θ=.ok (.int (Zae (Z7 ns))) θ:=by
  have hs:=h.sum
  have l3:=h.2
  let st:Nat→List Sl:=fun i=>[.val (il ns),.val (.int (wpre ns i)),if i=0 then .no else .val (.int ((i:Int)-1))]
  have loop:=ZrP (θ:=θ) (lo:=0) (n:=ns.length) (tg:=gNm 2) (body:=ZL 1 (mOp ZM (Zd 1) (mOp ZdX (mOp ixM (Zd 0) (Zd 2)) (mOp ixM (ZaB (Zc (mC (.int 256)) (Zc (mC (.int 1)) Zk))) (mOp zk (Zd 2) (mC (.int 2))))))) st ?_ (fun i hi=>⟨_,rfl⟩) rfl
  · have b1:(ns.length:Int)≤1000000:=by omega
    have b2 : -1000000≤(ns.length:Int):=by omega
    have b3:ns.length≤1000000:=by omega
    have l0:st 0=[.val (il ns),.val (.int 0),.no]:=rfl
    rw [l0] at loop
    simp [Zc0,ZhM,ZfM,ZfL,Zgy,b1,b2,b3]
    simp at loop
    rw [loop]
    simp [st]
    rw [ZkP,Zh6 hs.1 hs.2]
    simp
  · intro i ρ1 hi e
    have e':ρ1=[.val (il ns),.val (.int (wpre ns i)),.val (.int (0+(i:Int)))]:=by
      simp [st] at e
      simp [←e]
    subst e'
    have g1:ixM (il ns) (.int (0+(i:Int))) θ=.ok (.int (ns.getD i 0)) θ:=by
      rw [Zbn (by omega) (by omega)]
      simp [gt]
    have g2:ixM (il [256,1]) (.int ((0+(i:Int)) % 2)) θ=.ok (.int (if i % 2=0 then 256 else 1)) θ:=by
      rw [Zbn (by omega) (by simp; omega)]
      by_cases q:i % 2=0
      · rw [show ((0+(i:Int)) % 2).toNat=0 by omega,if_pos q]; rfl
      · rw [show ((0+(i:Int)) % 2).toNat=1 by omega,if_neg q]; rfl
    have cm:ZfO (ns.getD i 0) (if i % 2=0 then 256 else 1):=.inr (by split<;>decide)
    simp only [Zr9,ZsI,Zpa,Zsa,Zlx,x_c,Zpe,List.getElem?_cons_succ,List.getElem?_cons_zero,R.bind_ok,g1]
    simp only [List.length_cons,List.length_nil,Zvx,ZtZ,ZiV,if_pos (show (0:Int)<2 by decide),R.bind_ok,g2,Zqb,if_pos cm,ZqS,if_pos (show 0+1+1≤100000 by decide)]
    simp [st,wpre]
end
end My
namespace My
open PySem L2 L2.MM
noncomputable section
structure Seg where
  src:Int
  goal:Int
  num:Int
  ans:Int
  flags:Int
  win:Int
  most:Int
  data:List Int
def Seg.d (s:Seg):D:=.tup [.int s.src,.int s.goal,.int s.num,.int s.ans,.int s.flags,.int s.win,.int s.most,itp s.data]
structure Seg.Ok (s:Seg):Prop where
  src:0≤s.src∧s.src≤65535
  goal:0≤s.goal∧s.goal≤65535
  num:0≤s.num∧s.num≤4294967295
  ans:0≤s.ans∧s.ans≤4294967295
  flags:0≤s.flags∧s.flags≤31
  win:0≤s.win∧s.win≤65535
  most:s.most=0∨(4≤s.most∧s.most≤65535∧s.flags/2 % 2=1)
  data:(∀z∈s.data,0≤z∧z≤255)∧s.data.length≤16
section
variable {s:Seg} {θ:Sto}
@[simp] theorem d0:ixM s.d (.int 0) θ=.ok (.int s.src) θ:=nr rfl
@[simp] theorem d1:ixM s.d (.int 1) θ=.ok (.int s.goal) θ:=nr rfl
@[simp] theorem d2:ixM s.d (.int 2) θ=.ok (.int s.num) θ:=nr rfl
@[simp] theorem d3:ixM s.d (.int 3) θ=.ok (.int s.ans) θ:=nr rfl
@[simp] theorem d4:ixM s.d (.int 4) θ=.ok (.int s.flags) θ:=nr rfl
@[simp] theorem d5:ixM s.d (.int 5) θ=.ok (.int s.win) θ:=nr rfl
@[simp] theorem d6:ixM s.d (.int 6) θ=.ok (.int s.most) θ:=nr rfl
@[simp] theorem d7:ixM s.d (.int 7) θ=.ok (itp s.data) θ:=nr rfl
end
def two (k:Int):List Int:=[k/256 % 256,k % 256]
def Zln (k:Int):List Int:=two (k/65536)++two k
def hd (s:Seg):Int:=if s.most=0 then 80 else 96
def Zao (s:Seg):List Int:=two s.src++two s.goal++(Zln s.num++Zln s.ans)++[hd s,s.flags]++two s.win
def Zb1 (m:Int):List Int:=if m=0 then [] else [2,4]++two m
def behind (s:Seg):List Int:=[0,0]++Zb1 s.most++s.data
def putL (s:Seg):List Int:=Zao s++two (65535-Zae (Z7 (Zao s++[0,0]++behind s)))++behind s
@[simp] theorem Zsc (k:Int) (θ:Sto):zb [.int k] θ=.ok (il (two k)) θ:=by
  simp [zb,ZeJ,two]
@[simp] theorem two_len (k:Int):(two k).length=2:=rfl
@[simp] theorem Zvw (k:Int):(Zln k).length=4:=rfl
@[simp] theorem Zul (s:Seg):(Zao s).length=16:=rfl
@[simp] theorem Zq3 (k:Int) (θ:Sto):ZaN [.int k] θ=.ok (il (Zln k)) θ:=by
  simp [ZaN,Zea,Zln]
@[simp] theorem Zps (k:Int) (θ:Sto):zG [.int k] θ=.ok (.int (16*(k/4))) θ:=by
  simp [zG,Zc8,ZfO]
@[simp] theorem ZnQ (k:Int) (θ:Sto):Zav [.int k] θ=.ok (il (Zb1 k)) θ:=by
  by_cases h:k=0<;>simp [Zav,ZcD,Zb1,h,ZcL]
@[simp] theorem ZvU (s:Seg) (θ:Sto):zF [s.d] θ=.ok (il (Zao s)) θ:=by
  by_cases h:s.most=0<;>simp [zF,Zbq,Zao,hd,h]
theorem Zig (m:Int):(Zb1 m).length≤4:=by unfold Zb1; split<;>simp
theorem Zdp (k:Int):∀z∈two k,0≤z∧z≤255:=by
  intro z hz
  simp [two] at hz
  rcases hz with rfl | rfl<;>omega
theorem Zlu (k:Int):∀z∈Zln k,0≤z∧z≤255:=by
  intro z hz
  rcases List.mem_append.mp hz with h | h
  · exact Zdp _ z h
  · exact Zdp _ z h
theorem Za2 {a b:List Int} (h1:∀z∈a,0≤z∧z≤255) (h2:∀z∈b,0≤z∧z≤255):∀z∈a++b,0≤z∧z≤255:=fun z hz=>(List.mem_append.mp hz).elim (h1 z) (h2 z)
theorem Zit {s:Seg} (h:0≤s.flags∧s.flags≤255):∀z∈Zao s,0≤z∧z≤255:=by
  refine Za2 (Za2 (Za2 (Za2 (Zdp _) (Zdp _)) (Za2 (Zlu _) (Zlu _))) ?_) (Zdp _)
  intro z hz
  simp at hz
  rcases hz with rfl | rfl
  · unfold hd; split<;>omega
  · exact h
theorem ZqM (m:Int):∀z∈Zb1 m,0≤z∧z≤255:=by
  unfold Zb1
  split
  · intro z hz; simp at hz
  · refine Za2 ?_ (Zdp _)
    intro z hz
    simp at hz
    omega
theorem Zhu {s:Seg} (h:∀z∈s.data,0≤z∧z≤255):∀z∈behind s,0≤z∧z≤255:=by
  refine Za2 (Za2 ?_ (ZqM _)) h
  intro z hz
  simp at hz
  omega
theorem Zdq (s:Seg):(behind s).length≤6+s.data.length:=by
  have:=Zig s.most
  simp [behind]
  omega
structure Seg.Put (s:Seg):Prop where
  flags:0≤s.flags∧s.flags≤255
  data:(∀z∈s.data,0≤z∧z≤255)∧s.data.length≤100
theorem Seg.Ok.put {s:Seg} (h:s.Ok):s.Put:=⟨⟨h.flags.1,by have:=h.flags.2; omega⟩,h.data.1,by have:=h.data.2; omega⟩
theorem Seg.Put.byt {s:Seg} (h:s.Put):Byt (Zao s++[0,0]++behind s):=by
  refine ⟨Za2 (Za2 (Zit h.flags) ?_) (Zhu h.data.1),?_⟩
  · intro z hz
    simp at hz
    omega
  · have:=Zdq s
    have:=h.data.2
    simp
    omega
theorem Zse {s:Seg} (h:s.Put) (θ:Sto):Zg6 [s.d] θ=.ok (il (putL s)) θ:=by
  have b:=h.byt
  have l1:=Zig s.most
  have l2:=h.data.2
  have l3:=Zdq s
  have e1:0::0::(Zb1 s.most++s.data)=behind s:=rfl
  have e2:=Zpl b θ
  simp only [List.append_assoc,List.cons_append,List.nil_append] at e2
  simp (disch:=first | done | (simp; done) | omega | (simp; omega)) [Zg6,ZmY,Zfn,-Zl6,e1,e2]
  simp [putL,show 18+(behind s).length≤100000 by omega]
theorem ZgS {a b c:List Int} (ha:a.length % 2=0) (hb:b.length % 2=0):Z7 (a++b++c)=Z7 a+Z7 b+Z7 c:=by
  rw [ZgT (by rw [List.length_append]; omega),ZgT ha]
theorem Zk1 {s:Seg} (h:s.Put):Zae (Z7 (putL s))=65535:=by
  have b:=h.byt
  have w0:=b.sum
  have e1:Z7 (putL s)=Z7 (Zao s)+Z7 (two (65535-Zae (Z7 (Zao s++[0,0]++behind s))))+Z7 (behind s):=ZgS (by simp) (by simp)
  have e2:Z7 (Zao s++[0,0]++behind s)=Z7 (Zao s)+Z7 [0,0]+Z7 (behind s):=ZgS (by simp) (by simp)
  have e3:Z7 [0,0]=0:=by simp [Z7]
  have f:=ZgQ w0.1
  have e4:Z7 (two (65535-Zae (Z7 (Zao s++[0,0]++behind s))))=256*((65535-Zae (Z7 (Zao s++[0,0]++behind s)))/256)+(65535-Zae (Z7 (Zao s++[0,0]++behind s))) % 256:=by
    have:=f.2.1
    have:=f.1
    simp only [Z7,two]
    omega
  have c:=Zl9 w0.1
  rw [e1,e4]
  rw [e3] at e2
  have:Z7 (Zao s)+(256*((65535-Zae (Z7 (Zao s++[0,0]++behind s)))/256)+(65535-Zae (Z7 (Zao s++[0,0]++behind s))) % 256)+Z7 (behind s)=Z7 (Zao s++[0,0]++behind s)+(256*((65535-Zae (Z7 (Zao s++[0,0]++behind s)))/256)+(65535-Zae (Z7 (Zao s++[0,0]++behind s))) % 256):=by omega
  rw [this]
  exact c
theorem ZiP {s:Seg} (h:s.Put):Byt (putL s):=by
  refine ⟨Za2 (Za2 (Zit h.flags) (Zdp _)) (Zhu h.data.1),?_⟩
  have:=Zdq s
  have:=h.data.2
  simp [putL]
  omega
theorem ZiO {s:Seg}:(putL s).length=(if s.most=0 then 20 else 24)+s.data.length:=by
  unfold putL behind Zb1
  by_cases h:s.most=0<;>simp [h]<;>omega
theorem ZlL (s:Seg):∃x y,putL s=[s.src/256 % 256,s.src % 256,s.goal/256 % 256,s.goal % 256,s.num/65536/256 % 256,s.num/65536 % 256,s.num/256 % 256,s.num % 256,
    s.ans/65536/256 % 256,s.ans/65536 % 256,s.ans/256 % 256,s.ans % 256,hd s,s.flags,s.win/256 % 256,s.win % 256,x,y,0,0]++(Zb1 s.most++s.data):=⟨_,_,rfl⟩
@[simp] theorem ZbL {a:List Int} {i:Int} (h0:0≤i) (h:i+1<a.length) (θ:Sto):zR [il a,.int i] θ=.ok (.int (256*gt a i.toNat+gt a (i+1).toNat)) θ:=by
  simp [zR,Zhw,Zbn (θ:=θ) h0 (show i<a.length by omega),Zbn (θ:=θ) (show 0≤i+1 by omega) h,ZfO]
@[simp] theorem Zh5 {a:List Int} {i:Int} (h0:0≤i) (h:i+3<a.length) (θ:Sto):Zb9 [il a,.int i] θ=.ok (.int (65536*(256*gt a i.toNat+gt a (i+1).toNat)+(256*gt a (i+2).toNat+gt a (i+2+1).toNat))) θ:=by
  simp [Zb9,Zgs,ZbL (θ:=θ) h0 (show i+1<a.length by omega),ZbL (θ:=θ) (show 0≤i+2 by omega) (show i+2+1<a.length by omega),ZfO]
@[simp] theorem Zh3 {a:List Int} (h:12<a.length) (θ:Sto):ZaM [il a] θ=.ok (.int (gt a 12/16*4)) θ:=by
  have:=Zbn (a:=a) (θ:=θ) (i:=12) (by decide) (by omega)
  simp [ZaM,Zgr,this,ZfO]
def bit (f k:Int):Int:=if Builtin.bitAnd f k=0 then 0 else 1
@[simp] theorem Zzh (f k:Int) (θ:Sto):ZeD [.int f,.int k] θ=.ok (.int (bit f k)) θ:=by
  by_cases h:Builtin.bitAnd f k=0<;>simp [ZeD,ZmZ,bit,h]
theorem ZrZ:∀n:Fin 32,bit (n.val:Int) 1=(n.val:Int) % 2∧bit (n.val:Int) 2=(n.val:Int)/2 % 2∧bit (n.val:Int) 4=(n.val:Int)/4 % 2∧bit (n.val:Int) 8=(n.val:Int)/8 % 2∧bit (n.val:Int) 16=(n.val:Int)/16 % 2:=by decide
theorem ZtT {f:Int} (h:0≤f∧f≤31):bit f 1=f % 2∧bit f 2=f/2 % 2∧bit f 4=f/4 % 2∧bit f 8=f/8 % 2∧bit f 16=f/16 % 2:=by
  have:=ZrZ ⟨f.toNat,by omega⟩
  simp only at this
  rw [show ((f.toNat:Nat):Int)=f by omega] at this
  exact this
theorem Zpo (s:Seg) (θ:Sto):ZbP [s.d] θ=.ok (.int (s.data.length+bit s.flags 2+bit s.flags 1)) θ:=by
  simp [ZbP,ZhB]
def at2 (a:List Int) (i:Nat):Int:=256*gt a i+gt a (i+1)
def at4 (a:List Int) (i:Nat):Int:=65536*at2 a i+at2 a (i+2)
def longOk (a:List Int):Bool:=decide (bit (gt a 13) 2=1) && (decide (gt a 20=2) && (decide (gt a 21=4) && decide (4≤at2 a 22)))
def Zbr (a:List Int):Int:=gt a 12/16*4
def Zas (a:List Int):Bool:=decide (20≤a.length) && (decide (gt a 12=80∨gt a 12=96) && (decide (gt a 13≤31) && (decide (0≤(a.length:Int)-Zbr a∧(a.length:Int)-Zbr a≤16) &&
  (decide (at2 a 18=0) && ((decide (Zbr a=20) || longOk a) && decide (Zae (Z7 a)=65535))))))
theorem ZsT {a:List Int} (h:24≤a.length) (θ:Sto):zD [il a] θ=.ok (.bl (longOk a)) θ:=by
  have g:=fun (i:Int) (h0:0≤i) (h1:i<a.length)=>Zbn (a:=a) (θ:=θ) (i:=i) h0 h1
  have g13:=g 13 (by decide) (by omega)
  have g20:=g 20 (by decide) (by omega)
  have g21:=g 21 (by decide) (by omega)
  have g22:=ZbL (a:=a) (i:=22) (by decide) (by omega) θ
  simp only [show (13:Int).toNat=13 from rfl,show (20:Int).toNat=20 from rfl,show (21:Int).toNat=21 from rfl,show (22:Int).toNat=22 from rfl,show (22+1:Int).toNat=23 from rfl] at g13 g20 g21 g22
  unfold longOk at2
  simp [zD,Zbp,g13,g20,g21,g22]
theorem ZrK (x y z:Int) (θ:Sto):inM (.int x) (.tup [.int y,.int z]) θ=.ok (.bl (decide (x=y∨x=z))) θ:=by
  have e:inD θ (.int x) (.tup [.int y,.int z])=some (decide (y=x) || (decide (z=x) || false)):=rfl
  have e2:(decide (y=x) || (decide (z=x) || false))=decide (x=y∨x=z):=by
    rw [Bool.eq_iff_iff]
    simp only [Bool.or_eq_true,decide_eq_true_eq,Bool.false_eq_true,or_false]
    constructor
    · rintro (h | h)
      · exact .inl h.symm
      · exact .inr h.symm
    · rintro (h | h)
      · exact .inl h.symm
      · exact .inr h.symm
  unfold inM
  rw [e,e2]
theorem Zcd {a:List Int} (h:Byt a) (θ:Sto):zy [il a] θ=.ok (.bl (Zas a)) θ:=by
  by_cases c1:20≤a.length
  · have g:=fun (i:Int) (h0:0≤i) (h1:i<a.length)=>Zbn (a:=a) (θ:=θ) (i:=i) h0 h1
    have g12:=g 12 (by decide) (by omega)
    have g13:=g 13 (by decide) (by omega)
    have g18:=ZbL (a:=a) (i:=18) (by decide) (by omega) θ
    have gh:=Zh3 (a:=a) (by omega) θ
    have gf:=ZkS h θ
    have c1':(20:Int)≤a.length:=by omega
    simp only [show (12:Int).toNat=12 from rfl,show (13:Int).toNat=13 from rfl,show (18:Int).toNat=18 from rfl,show (18+1:Int).toNat=19 from rfl] at g12 g13 g18
    by_cases c2:gt a 12=80
    · rw [c2] at g12 gh
      simp [zy,ZaR,Zas,Zbr,at2,c1,c1',g12,g13,g18,gh,gf,ZrK,c2]<;>rfl
    · by_cases c3:gt a 12=96
      · rw [c3] at g12 gh
        by_cases c4:24≤a.length
        · have gl:=ZsT c4 θ
          simp [zy,ZaR,Zas,Zbr,at2,c1,c1',g12,g13,g18,gh,gf,ZrK,c3,gl]<;>rfl
        · have c5:¬(24:Int)≤(a.length:Int):=by omega
          simp [zy,ZaR,Zas,Zbr,at2,c1,c1',g12,g13,g18,gh,gf,ZrK,c3,c5]<;>rfl
      · simp [zy,ZaR,Zas,Zbr,at2,c1,c1',g12,g13,g18,gh,gf,ZrK,c2,c3]
  · have c1':¬(20:Int)≤a.length:=by omega
    simp [zy,ZaR,Zas,c1,c1']
def ZeV (a:List Int):Seg:=⟨at2 a 0,at2 a 2,at4 a 4,at4 a 8,gt a 13,at2 a 14,if Zbr a=24 then at2 a 22 else 0,a.drop (Zbr a).toNat⟩
theorem Zgm {a:List Int} (h:Zas a=true):20≤a.length∧((Zbr a=20)∨(Zbr a=24∧24≤a.length∧longOk a=true))∧(a.length:Int)-Zbr a≤16∧gt a 13≤31:=by
  unfold Zas at h
  simp only [Bool.and_eq_true,decide_eq_true_eq,Bool.or_eq_true] at h
  obtain ⟨h1,h2,h3,h4,h5,h6,h7⟩:=h
  refine ⟨h1,?_,h4.2,h3⟩
  rcases h2 with h2 | h2
  · left; unfold Zbr; rw [h2]; rfl
  · right
    have e:Zbr a=24:=by unfold Zbr; rw [h2]; rfl
    refine ⟨e,by have:=h4.1; rw [e] at this; omega,?_⟩
    rcases h6 with h6 | h6
    · rw [e] at h6; cases h6
    · exact h6
theorem Zpq {a:List Int} (h:Byt a) (hr:Zas a=true) (θ:Sto):Zgh [il a] θ=.ok (ZeV a).d θ:=by
  obtain ⟨l1,l2,l3,l4⟩:=Zgm hr
  have ir:=Zcd h θ
  rw [hr] at ir
  have gh:=Zh3 (a:=a) (by omega) θ
  have g13:=Zbn (a:=a) (θ:=θ) (i:=13) (by decide) (by omega)
  have q0:=ZbL (a:=a) (i:=0) (by decide) (by omega) θ
  have q2:=ZbL (a:=a) (i:=2) (by decide) (by omega) θ
  have q14:=ZbL (a:=a) (i:=14) (by decide) (by omega) θ
  have q4:=Zh5 (a:=a) (i:=4) (by decide) (by omega) θ
  have q8:=Zh5 (a:=a) (i:=8) (by decide) (by omega) θ
  simp only [show (13:Int).toNat=13 from rfl,show (0:Int).toNat=0 from rfl,show (0+1:Int).toNat=1 from rfl,show (2:Int).toNat=2 from rfl,show (2+1:Int).toNat=3 from rfl,show (14:Int).toNat=14 from rfl,show (14+1:Int).toNat=15 from rfl,
    show (4:Int).toNat=4 from rfl,show (4+1:Int).toNat=5 from rfl,show (4+2:Int).toNat=6 from rfl,show (4+2+1:Int).toNat=7 from rfl,show (8:Int).toNat=8 from rfl,show (8+1:Int).toNat=9 from rfl,show (8+2:Int).toNat=10 from rfl,show (8+2+1:Int).toNat=11 from rfl] at g13 q0 q2 q14 q4 q8
  have gh':ZaM [il a] θ=.ok (.int (Zbr a)) θ:=gh
  have ps:∀x:Int,0≤x→Zct a (some x) none=a.drop x.toNat:=fun x hx=>Zhr a hx
  rcases l2 with e | ⟨e,l5,_⟩
  · simp [Zgh,Zjq,Zgc,ir,gh',e,g13,q0,q2,q4,q8,q14,ps,ZeV,Seg.d,at2,at4]
  · have q22:=ZbL (a:=a) (i:=22) (by decide) (by omega) θ
    simp only [show (22:Int).toNat=22 from rfl,show (22+1:Int).toNat=23 from rfl] at q22
    simp [Zgh,Zjq,Zgc,ir,gh',e,g13,q0,q2,q4,q8,q14,q22,ps,ZeV,Seg.d,at2,at4]
end
end My
namespace My
open PySem L2 L2.MM
noncomputable section
theorem ZpE (s:Seg):gt (putL s) 12=hd s∧gt (putL s) 13=s.flags∧at2 (putL s) 18=0∧at2 (putL s) 0=256*(s.src/256 % 256)+s.src % 256∧at2 (putL s) 2=256*(s.goal/256 % 256)+s.goal % 256∧
    at4 (putL s) 4=65536*(256*(s.num/65536/256 % 256)+s.num/65536 % 256)+(256*(s.num/256 % 256)+s.num % 256)∧at4 (putL s) 8=65536*(256*(s.ans/65536/256 % 256)+s.ans/65536 % 256)+(256*(s.ans/256 % 256)+s.ans % 256)∧
    at2 (putL s) 14=256*(s.win/256 % 256)+s.win % 256:=by
  obtain ⟨x,y,e⟩:=ZlL s
  rw [e]
  unfold at4 at2
  refine ⟨rfl,rfl,?_,rfl,rfl,rfl,rfl,rfl⟩
  show 256*(0:Int)+0=0
  rfl
theorem Zk0 (s:Seg) (h:s.most≠0):gt (putL s) 20=2∧gt (putL s) 21=4∧at2 (putL s) 22=256*(s.most/256 % 256)+s.most % 256:=by
  obtain ⟨x,y,e⟩:=ZlL s
  have e2:Zb1 s.most=[2,4,s.most/256 % 256,s.most % 256]:=by unfold Zb1; rw [if_neg h]; rfl
  rw [e,e2]
  unfold at2
  exact ⟨rfl,rfl,rfl⟩
theorem ZfX {s:Seg} (h:s.Ok):Zas (putL s)=true:=by
  obtain ⟨g12,g13,g18,_⟩:=ZpE s
  have hl:=ZiO (s:=s)
  have hd':=h.data.2
  have hf:=Zk1 h.put
  have hw:=h.flags
  unfold Zas longOk Zbr
  simp only [Bool.and_eq_true,decide_eq_true_eq,Bool.or_eq_true]
  rw [g12,g13,g18,hf,hl]
  by_cases m:s.most=0
  · have e:hd s=80:=if_pos m
    rw [e,if_pos m]
    simp
    omega
  · have e:hd s=96:=if_neg m
    obtain ⟨p1,p2,p3⟩:=Zk0 s m
    have hm:4≤s.most∧s.most≤65535∧s.flags/2 % 2=1:=h.most.resolve_left m
    have hb:=(ZtT h.flags).2.1
    rw [e,if_neg m,p1,p2,p3,hb]
    simp
    omega
theorem ZqC (s:Seg):(putL s).drop (if s.most=0 then 20 else 24)=s.data:=by
  obtain ⟨x,y,e⟩:=ZlL s
  rw [e]
  by_cases m:s.most=0
  · rw [if_pos m]
    simp [Zb1,m]
  · rw [if_neg m]
    simp [Zb1,m,two]
theorem ZgP {s:Seg} (h:s.Ok):ZeV (putL s)=s:=by
  obtain ⟨g12,g13,g18,g0,g2,g4,g8,g14⟩:=ZpE s
  have e0:=ZqC s
  obtain ⟨⟨a1,a2⟩,⟨b1,b2⟩,⟨c1,c2⟩,⟨d1,d2⟩,_,⟨f1,f2⟩,hm,_⟩:=h
  unfold ZeV Zbr
  rw [g12,g13,g0,g2,g4,g8,g14]
  obtain ⟨src,goal,num,ans,flags,win,most,data⟩:=s
  simp only at *
  by_cases m:most=0
  · subst m
    have e:hd ⟨src,goal,num,ans,flags,win,0,data⟩=80:=rfl
    rw [e]
    simp only [if_true] at e0
    simp [e0]
    omega
  · have e:hd ⟨src,goal,num,ans,flags,win,most,data⟩=96:=if_neg m
    obtain ⟨_,_,p3⟩:=Zk0 ⟨src,goal,num,ans,flags,win,most,data⟩ m
    simp only at p3
    rw [e,p3]
    rw [if_neg m] at e0
    simp [e0]
    have:=hm.resolve_left m
    omega
@[simp] theorem ZyW {s:Seg} {θ:Sto}:ZdK θ s.d (some 2) (some 4)=some (.tup [.int s.num,.int s.ans]):=nr rfl
theorem two_small {k:Int} (h0:0≤k) (h:k≤65535):[k/256,k % 256]=two k:=by
  unfold two
  rw [show k/256 % 256=k/256 by omega]
theorem Zho {k:Int} (h0:0≤k) (h:k≤4294967295):[k/65536/256,k/65536 % 256,k % 65536/256,k % 256]=Zln k:=by
  unfold Zln two
  rw [show k/65536/256 % 256=k/65536/256 by omega,show k % 65536/256=k/256 % 256 by omega]
  rfl
def ZbO (s:Seg):List Int:=[s.src/256,s.src % 256,s.goal/256,s.goal % 256,s.num/65536/256,s.num/65536 % 256,s.num % 65536/256,s.num % 256,s.ans/65536/256,s.ans/65536 % 256,s.ans % 65536/256,s.ans % 256,
  hd s,s.flags,s.win/256,s.win % 256,0,0,0,0]++((if s.most=0 then [] else [2,4,s.most/256,s.most % 256])++s.data)
theorem ZpK {s:Seg} (h:s.Ok):ZbO s=Zao s++[0,0]++behind s:=by
  obtain ⟨⟨a1,a2⟩,⟨b1,b2⟩,⟨c1,c2⟩,⟨d1,d2⟩,⟨f1,f2⟩,⟨w1,w2⟩,hm,hd1,hd2⟩:=id h
  have e1:=two_small a1 a2
  have e2:=two_small b1 b2
  have e3:=Zho c1 c2
  have e4:=Zho d1 d2
  have e5:=two_small w1 w2
  have e6:(if s.most=0 then [] else [2,4,s.most/256,s.most % 256])=Zb1 s.most:=by
    unfold Zb1
    by_cases m:s.most=0
    · rw [if_pos m,if_pos m]
    · rw [if_neg m,if_neg m]
      have:=hm.resolve_left m
      rw [←two_small (k:=s.most) (by omega) (by omega)]
      rfl
  unfold ZbO Zao behind
  rw [e6,←e1,←e2,←e3,←e4,←e5]
  rfl
theorem Zrl {s:Seg} (h:s.Ok):(ZbO s).take 16++two (65535-Zae (Z7 (ZbO s)))++(ZbO s).drop 18=putL s:=by
  rw [ZpK h]
  have e1:(Zao s++[0,0]++behind s).take 16=Zao s:=by
    rw [List.append_assoc,List.take_append_of_le_length (by simp),List.take_of_length_le (by simp)]
  have e2:(Zao s++[0,0]++behind s).drop 18=behind s:=by
    have:(Zao s++[0,0]).length=18:=by simp
    rw [←this,List.drop_left]
  rw [e1,e2]
  rfl
theorem ZhR {s:Seg} (h:s.Ok) (θ:Sto) (x y:Sl):ZQ (mOp ZM (mOp ZM (mSl (Zd 1) zq (Zai (mC (.int 16)))) (mCB ZdB (Zc (mOp Zgx (mC (.int 65535)) (mCB Zc0 (Zc (Zd 1) Zk))) Zk))) (mSl (Zd 1) (Zai (mC (.int 18))) zq)) [x,.val (il (ZbO s)),y] θ
    = .ok (.rt (il (putL s)),[x,.val (il (ZbO s)),y]) θ:=by
  have pe:=ZpK h
  have bp:=h.put.byt
  rw [←pe] at bp
  have lf:=Zm9 bp θ
  have hs:=ZgQ bp.sum.1
  have hl:(ZbO s).length≤100:=by
    have:=Zdq s
    have:=h.data.2
    rw [pe]
    simp
    omega
  have fin:=Zrl h
  have tw:[(65535-Zae (Z7 (ZbO s)))/256,(65535-Zae (Z7 (ZbO s))) % 256]=two (65535-Zae (Z7 (ZbO s))):=two_small (by omega) (by omega)
  have k1:Zct (ZbO s) none (some 16)=(ZbO s).take 16:=ZqE _ (by decide)
  have k2:Zct (ZbO s) (some 18) none=(ZbO s).drop 18:=Zhr _ (by decide)
  have fs:ZM (il ((ZbO s).take 16)) (il (two (65535-Zae (Z7 (ZbO s))))) θ=.ok (il ((ZbO s).take 16++two (65535-Zae (Z7 (ZbO s))))) θ:=Zfn (by simp; omega)
  have fs2:ZM (il ((ZbO s).take 16++two (65535-Zae (Z7 (ZbO s))))) (il ((ZbO s).drop 18)) θ=.ok (il (putL s)) θ:=by
    rw [Zfn (by simp; omega),fin]
  simp only [Zpc,ZsI,Zup,Zpa,Zx0,Zlx,Zpe,ZkM,Zpd,x_c,R.bind_ok,List.getElem?_cons_succ,List.getElem?_cons_zero,Zlk,k1,k2,lf,ZiV,if_true,ZuB,tw,fs,fs2]
theorem ZkR {s:Seg} (h:s.Ok) (θ:Sto):ZaQ [s.d] θ=.ok (il (putL s)) θ:=by
  have tail:=ZhR h θ
  have dl:=h.data.2
  by_cases m:s.most=0
  · have g:ixM (il [80,96]) (.int 0) θ=.ok (.int 80) θ:=rfl
    have e0:hd s=80:=if_pos m
    have pl:[s.src/256,s.src % 256,s.goal/256,s.goal % 256,s.num/65536/256,s.num/65536 % 256,s.num % 65536/256,s.num % 256,s.ans/65536/256,s.ans/65536 % 256,s.ans % 65536/256,s.ans % 256,
      80,s.flags,s.win/256,s.win % 256,0,0,0,0]++s.data=ZbO s:=by unfold ZbO; rw [if_pos m,e0]; rfl
    simp only [List.cons_append,List.nil_append] at pl
    simp [ZaQ,Zgd,Zei,Zeh,Zgy,ZeB,m,g,pl,-Zpc,tail,show s.data.length+20≤100000 by omega,show 20+s.data.length≤100000 by omega]
  · have g:ixM (il [80,96]) (.int 1) θ=.ok (.int 96) θ:=rfl
    have e0:hd s=96:=if_neg m
    have mg:(0:Int)<s.most:=by have:=h.most.resolve_left m; omega
    have pl:[s.src/256,s.src % 256,s.goal/256,s.goal % 256,s.num/65536/256,s.num/65536 % 256,s.num % 65536/256,s.num % 256,s.ans/65536/256,s.ans/65536 % 256,s.ans % 65536/256,s.ans % 256,
      96,s.flags,s.win/256,s.win % 256,0,0,0,0,2,4,s.most/256,s.most % 256]++s.data=ZbO s:=by unfold ZbO; rw [if_neg m,e0]; rfl
    simp only [List.cons_append,List.nil_append] at pl
    simp [ZaQ,Zgd,Zei,Zeh,Zgy,ZeB,mg,g,pl,-Zpc,tail,show s.data.length+24≤100000 by omega,show 24+s.data.length≤100000 by omega]
def ZeS (ns:List Int) (b:Int):Int:=if mix ns b % 32/2 % 2=1∧0<mix ns (b+1) % 3 then (if gt [4,5,16,536,65535,0] (mix ns (b+3) % 6).toNat=0 then 4+mix ns (b+2) % 65532 else gt [4,5,16,536,65535,0] (mix ns (b+3) % 6).toNat) else 0
def ZeG (n:Int):Int:=if n % 3=0 then gt [0,1,4294967295,4294967294,2147483648,65535,65536] (n/3 % 7).toNat else n
def Zaf (ns:List Int) (b:Int):Int:=if gt [0,1,15,16,7] (mix ns (b+9) % 5).toNat=7 then mix ns (b+8) % 17 else gt [0,1,15,16,7] (mix ns (b+9) % 5).toNat
def ZeX (ns:List Int) (b:Int):List Int:=if mix ns (b+27) % 5=0 then List.replicate (Zaf ns b).toNat 255 else (List.range (Zaf ns b).toNat).map fun (k:Nat)=>mix ns (b+10+(k:Int))/7 % 256
def Zej (ns:List Int) (b:Int):Seg:=⟨mix ns (b+6) % 65536,mix ns (b+7) % 65536,ZeG (mix ns (b+4)),ZeG (mix ns (b+5)),mix ns b % 32,mix ns (b+28) % 65536,ZeS ns b,ZeX ns b⟩
theorem Zny {P:Nat→Prop} {n:Nat} (h:n<5) (h0:P 0) (h1:P 1) (h2:P 2) (h3:P 3) (h4:P 4):P n:=by
  match n,h with
  | 0,_=>exact h0
  | 1,_=>exact h1
  | 2,_=>exact h2
  | 3,_=>exact h3
  | 4,_=>exact h4
theorem Zii {P:Nat→Prop} {n:Nat} (h:n<7) (h0:P 0) (h1:P 1) (h2:P 2) (h3:P 3) (h4:P 4) (h5:P 5) (h6:P 6):P n:=by
  match n,h with
  | 0,_=>exact h0
  | 1,_=>exact h1
  | 2,_=>exact h2
  | 3,_=>exact h3
  | 4,_=>exact h4
  | 5,_=>exact h5
  | 6,_=>exact h6
theorem ZiG (ns:List Int) (b:Int):0≤Zaf ns b∧Zaf ns b≤16:=by
  unfold Zaf
  have h:(mix ns (b+9) % 5).toNat<5:=by omega
  have:0≤gt [0,1,15,16,7] (mix ns (b+9) % 5).toNat∧gt [0,1,15,16,7] (mix ns (b+9) % 5).toNat≤16:=Zny (P:=fun n=>0≤gt [0,1,15,16,7] n∧gt [0,1,15,16,7] n≤16) h (by decide) (by decide) (by decide) (by decide) (by decide)
  split
  · omega
  · exact this
theorem ZtV (ns:List Int) (b:Int):(Zej ns b).Ok:=by
  have nm:∀n,0≤n∧n<4294967231→0≤ZeG n∧ZeG n≤4294967295:=fun n hn=>by
    unfold ZeG
    split
    · have h:(n/3 % 7).toNat<7:=by omega
      exact Zii (P:=fun n=>0≤gt [0,1,4294967295,4294967294,2147483648,65535,65536] n∧gt [0,1,4294967295,4294967294,2147483648,65535,65536] n≤4294967295) h (by decide) (by decide) (by decide) (by decide) (by decide) (by decide) (by decide)
    · omega
  have sz:=ZiG ns b
  refine ⟨by simp only [Zej]; omega,by simp only [Zej]; omega,nm _ (ZlX _ _),nm _ (ZlX _ _),by simp only [Zej]; omega,by simp only [Zej]; omega,?_,?_,?_⟩
  · show ZeS ns b=0∨(4≤ZeS ns b∧ZeS ns b≤65535∧mix ns b % 32/2 % 2=1)
    unfold ZeS
    split
    · rename_i c
      right
      have h:(mix ns (b+3) % 6).toNat<7:=by omega
      have:gt [4,5,16,536,65535,0] (mix ns (b+3) % 6).toNat=0∨(4≤gt [4,5,16,536,65535,0] (mix ns (b+3) % 6).toNat∧gt [4,5,16,536,65535,0] (mix ns (b+3) % 6).toNat≤65535):=
        Zii (P:=fun n=>gt [4,5,16,536,65535,0] n=0∨(4≤gt [4,5,16,536,65535,0] n∧gt [4,5,16,536,65535,0] n≤65535)) h (by decide) (by decide) (by decide) (by decide) (by decide) (by decide) (by decide)
      split
      · exact ⟨by omega,by omega,c.1⟩
      · rename_i c2
        have:=this.resolve_left c2
        exact ⟨this.1,this.2,c.1⟩
    · exact .inl rfl
  · show ∀z∈ZeX ns b,0≤z∧z≤255
    unfold ZeX
    split
    · intro z hz
      have:=List.eq_of_mem_replicate hz
      omega
    · intro z hz
      obtain ⟨k,_,rfl⟩:=List.mem_map.mp hz
      omega
  · show (ZeX ns b).length≤16
    unfold ZeX
    split<;>simp<;>omega
theorem ZlD (ns:List Int) (b:Int) (r:List Sl) (θ:Sto):Zcb (.val (.scr ns)::.val (.int b)::.val (.int (mix ns b % 32))::.val (.int 0)::r) θ=.ok (.nx,.val (.scr ns)::.val (.int b)::.val (.int (mix ns b % 32))::.val (.int (ZeS ns b))::r) θ:=by
  have g:=Zbn (a:=[4,5,16,536,65535,0]) (i:=mix ns (b+3) % 6) (θ:=θ) (by omega) (by simp; omega)
  unfold ZeS
  generalize gt [4,5,16,536,65535,0] (mix ns (b+3) % 6).toNat=m at *
  by_cases c1:mix ns b % 32/2 % 2=1
  · by_cases c2:0<mix ns (b+1) % 3
    · by_cases c3:m=0
      · simp [Zcb,Zdf,c1,c2,c3,g]
      · simp [Zcb,Zdf,c1,c2,c3,g]
    · simp [Zcb,Zdf,c1,c2]
  · simp [Zcb,Zdf,c1]
theorem Znc (n:Int) (a0 a1 a2 a3 a4 a5:Sl) (r:List Sl) (θ:Sto):Zez (a0::a1::a2::a3::a4::a5::.val (.int n)::r) θ=.ok (.nx,a0::a1::a2::a3::a4::a5::.val (.int (ZeG n))::r) θ:=by
  have g:=Zbn (a:=[0,1,4294967295,4294967294,2147483648,65535,65536]) (i:=n/3 % 7) (θ:=θ) (by omega) (by simp; omega)
  unfold ZeG
  generalize gt [0,1,4294967295,4294967294,2147483648,65535,65536] (n/3 % 7).toNat=m at *
  by_cases c:n % 3=0
  · simp [Zez,c,g]
  · simp [Zez,c]
theorem ZlC (ns:List Int) (b:Int) (a2 a3:Sl) (r:List Sl) (θ:Sto):Zge (.val (.scr ns)::.val (.int b)::a2::a3::.own []::.no::.no::r) θ =
    .ok (.nx,.val (.scr ns)::.val (.int b)::a2::a3::.own [.int (ZeG (mix ns (b+4))),.int (ZeG (mix ns (b+5)))]::.val (.int 1)::.val (.int (ZeG (mix ns (b+5))))::r) θ:=by
  simp [Zge,Zgy,ZeB,Znc,List.range_succ,show b+4+1=b+5 by omega]
theorem ZlB (ns:List Int) (b:Int) (a2 a3 a4 a5 a6 a7:Sl) (r:List Sl) (θ:Sto):Zey (.val (.scr ns)::.val (.int b)::a2::a3::a4::a5::a6::a7::.val (.int (gt [0,1,15,16,7] (mix ns (b+9) % 5).toNat))::r) θ =
    .ok (.nx,.val (.scr ns)::.val (.int b)::a2::a3::a4::a5::a6::a7::.val (.int (Zaf ns b))::r) θ:=by
  unfold Zaf
  generalize gt [0,1,15,16,7] (mix ns (b+9) % 5).toNat=m at *
  by_cases c:m=7
  · simp [Zey,c]
  · simp [Zey,c]
theorem ZpB (n:Nat) (x:Int):(List.replicate n [x]).flatten=List.replicate n x:=by
  induction n with
  | zero=>rfl
  | succ n ih=>rw [List.replicate_succ,List.flatten_cons,ih]; rfl
theorem ZlE (ns:List Int) (b:Int) (a2 a3 a4 a5 a6 a7:Sl) (r:List Sl) (θ:Sto):Zex (.val (.scr ns)::.val (.int b)::a2::a3::a4::a5::a6::a7::.val (.int (Zaf ns b))::.val (itp ((List.range (Zaf ns b).toNat).map fun (k:Nat)=>mix ns (b+10+(k:Int))/7 % 256))::r) θ =
    .ok (.nx,.val (.scr ns)::.val (.int b)::a2::a3::a4::a5::a6::a7::.val (.int (Zaf ns b))::.val (itp (ZeX ns b))::r) θ:=by
  have sz:=ZiG ns b
  have f1:D.tup [.int 255]=itp [255]:=rfl
  unfold ZeX
  by_cases c:mix ns (b+27) % 5=0
  · simp [Zex,c,f1,ZpB,show Zaf ns b<1000 by omega,show Zaf ns b≤1000 by omega,sz.1]
  · simp [Zex,c]
theorem ZuF (ns:List Int) (b:Int) (θ:Sto):Zij [.scr ns,.int b] θ=.ok (Zej ns b).d θ:=by
  have sz:=ZiG ns b
  have g:=Zbn (a:=[0,1,15,16,7]) (i:=mix ns (b+9) % 5) (θ:=θ) (by omega) (by simp; omega)
  have cp:=fun ρ (h0:ρ[0]?=some (Sl.val (D.scr ns))) (h1:ρ[1]?=some (Sl.val (D.int b))) (h2:ρ[8]?=some (Sl.val (D.int (Zaf ns b))))=>Znx (ρ:=ρ) (θ:=θ) (fi:=Zgj (Zc (Zd 8) Zk)) (src:=[0,1])
    (elt:=mOp zk (mOp Zcs (mCB zv (Zc (Zd 1) (Zc (mOp ZM (mOp ZM (Zd 2) (mC (.int 10))) (Zd 0)) Zk))) (mC (.int 7))) (mC (.int 256))) (lo:=0) (n:=(Zaf ns b).toNat) (θ':=θ) (fun k=>.int (mix ns (b+10+k)/7 % 256))
    (by simp [h2]; omega) (by simp; omega) (by intro i hi; simp [h0,h1])
  have e:(fun (i:Nat)=>D.int (mix ns (b+10+(0+(i:Int)))/7 % 256))=D.int∘fun (i:Nat)=>mix ns (b+10+(i:Int))/7 % 256:=by
    funext i
    simp
  simp [Zij,Zm2,ZlD,ZlC,g,ZlB]
  rw [cp _ rfl rfl rfl]
  rw [show (List.range (Zaf ns b).toNat).map (fun (i:Nat)=>D.int (mix ns (b+10+(0+(i:Int)))/7 % 256))=((List.range (Zaf ns b).toNat).map fun (i:Nat)=>mix ns (b+10+(i:Int))/7 % 256).map D.int by rw [e,List.map_map]]
  simp only [Zvy]
  simp [ZlE,Zej,Seg.d]
end
end My
namespace My
open PySem L2 L2.MM
noncomputable section
def ZeK:SM:=(ZC ["Pile"] "row" (Zd 0) (ZaB Zk))
def Zbc:GM:=ZU 1 1 ZeK
def Zlv:SM:=(ZQ (mOp Zgx (mC (.int 64)) (mCB Zbm (Zc (ZE ["Pile"] "row" (Zd 0)) Zk))))
def ZeN:GM:=ZU 1 1 Zlv
def Zlw:SM:=(ZQ (mOp zk (mOp ZM (Zd 0) (Zd 1)) (mC (.int 4294967296))))
def zn:GM:=ZU 2 2 Zlw
def ZhA:SM:=(ZQ (mOp Zgx (mOp zk (mOp ZM (mOp Zgx (Zd 0) (Zd 1)) (mC (.int 2147483648))) (mC (.int 4294967296))) (mC (.int 2147483648))))
def zo:GM:=ZU 2 2 ZhA
def Zdx:SM:=(Zo (ZC ["End"] "ours" (Zd 0) (Zd 1))
  (Zo (ZC ["End"] "theirs" (Zd 0) (Zd 2))
  (Zo (ZC ["End"] "state" (Zd 0) (ZeT (zC (Zd 4)) (mC (.str "syn sent")) (mC (.str "listen"))))
  (Zo (ZC ["End"] "error" (Zd 0) (mC (.str "")))
  (Zo (ZC ["End"] "first" (Zd 0) (Zd 3))
  (Zo (ZC ["End"] "una" (Zd 0) (Zd 3))
  (Zo (ZC ["End"] "nxt" (Zd 0) (Zd 3))
  (Zo (ZC ["End"] "rcv" (Zd 0) (mC (.int 0)))
  (Zo (ZC ["End"] "wnd" (Zd 0) (mC (.int 0)))
  (Zo (ZC ["End"] "told" (Zd 0) (mC (.int 0)))
  (Zo (ZC ["End"] "told_by" (Zd 0) (mC (.int 0)))
  (Zo (ZC ["End"] "most" (Zd 0) (mC (.int 12)))
  (Zo (ZC ["End"] "written" (Zd 0) (mCB (mkG "Pile" Zbc) Zk))
  (Zo (ZC ["End"] "come" (Zd 0) (mCB (mkG "Pile" Zbc) Zk))
  (Zo (ZC ["End"] "early" (Zd 0) Zi8)
  (Zo (ZC ["End"] "early_fin" (Zd 0) (mC .non))
  (Zo (ZC ["End"] "has_closed" (Zd 0) (mC (.bl false)))
  (Zo (ZC ["End"] "behind" (Zd 0) (mCB zn (Zc (Zd 3) (Zc (mC (.int 1)) Zk))))
  (Zo (ZC ["End"] "owed_reset" (Zd 0) (mC .non))
  (Zo (ZC ["End"] "owes_syn" (Zd 0) (mC (.bl false)))
  (Zo (ZC ["End"] "owes_answer" (Zd 0) (mC (.bl false)))
  (Zo (ZC ["End"] "probes" (Zd 0) (mC (.bl false)))
  (Zo (ZC ["End"] "since" (Zd 0) (mC (.int 0)))
  (Zo (ZC ["End"] "wait" (Zd 0) (mC (.int 1000)))
  (ZC ["End"] "tries" (Zd 0) (mC (.int 0)))))))))))))))))))))))))))
def Zbw:GM:=ZU 5 5 Zdx
def ZdE:SM:=(Zo (ZC ["End"] "since" (Zd 0) (Zd 1))
  (Zo (ZC ["End"] "wait" (Zd 0) (mC (.int 1000)))
  (ZC ["End"] "tries" (Zd 0) (mC (.int 0)))))
def Z2:GM:=ZU 2 2 ZdE
def Zd5:SM:=(ZQ (mCB ZeN (Zc (ZE ["End"] "come" (Zd 0)) Zk)))
def Zap:GM:=ZU 1 1 Zd5
def Zc5:SM:=(ZQ (mCB Zla (Zc (ZE ["End"] "most" (Zd 0)) (Zc (mC (.int 16)) Zk))))
def zS:GM:=ZU 1 1 Zc5
def Zd3:SM:=(mIf (ZF (mOp eqM (ZE ["End"] "state" (Zd 0)) (mC (.str "syn sent")))) (ZQ (Zar (Zc (ZE ["End"] "ours" (Zd 0)) (Zc (ZE ["End"] "theirs" (Zd 0)) (Zc (ZE ["End"] "first" (Zd 0)) (Zc (mC (.int 0)) (Zc (mC (.int 2)) (Zc (mC (.int 64)) (Zc (mC (.int 16)) (Zc (Zar Zk) Zk)))))))))) ZP)
def Zfu:SM:=(Zo (ZC ["End"] "owes_syn" (Zd 0) (mC (.bl false)))
  (Zo Zd3
  (ZQ (Zar (Zc (ZE ["End"] "ours" (Zd 0)) (Zc (ZE ["End"] "theirs" (Zd 0)) (Zc (ZE ["End"] "first" (Zd 0)) (Zc (ZE ["End"] "rcv" (Zd 0)) (Zc (mOp ZM (mC (.int 2)) (mC (.int 16))) (Zc (mC (.int 64)) (Zc (mC (.int 16)) (Zc (Zar Zk) Zk))))))))))))
def Za3:GM:=ZU 1 1 Zfu
def Zd2:SM:=(ZQ (Zar (Zc (ZE ["End"] "ours" (Zd 0)) (Zc (ZE ["End"] "theirs" (Zd 0)) (Zc (Zd 1) (Zc (ZE ["End"] "rcv" (Zd 0)) (Zc (mOp ZM (Zd 2) (mC (.int 16))) (Zc (mCB Zap (Zc (Zd 0) Zk)) (Zc (mC (.int 0)) (Zc (mCB ZfR (Zc (Zd 3) Zk)) Zk))))))))))
def zm:GM:=ZU 4 4 Zd2
def ZbT:SM:=(mIf (ZF (mOp eqM (ZE ["End"] "tries" (Zd 0)) (mC (.int 6)))) (Zo (ZC ["End"] "state" (Zd 0) (mC (.str "closed")))
    (Zo (ZC ["End"] "error" (Zd 0) (mC (.str "time")))
    (ZQ (mC .non)))) ZP)
def ZcE:SM:=(mIf (ZF (mOp inM (ZE ["End"] "state" (Zd 0)) (Zar (Zc (mC (.str "syn sent")) (Zc (mC (.str "syn come")) Zk))))) (ZQ (mCB Za3 (Zc (Zd 0) Zk))) ZP)
def Zc9:SM:=(Zo ZbT
  (Zo (ZC ["End"] "tries" (Zd 0) (mOp ZM (ZE ["End"] "tries" (Zd 0)) (mC (.int 1))))
  (Zo (ZC ["End"] "wait" (Zd 0) (mCB Zla (Zc (mOp ZdX (mC (.int 2)) (ZE ["End"] "wait" (Zd 0))) (Zc (mC (.int 16000)) Zk))))
  (Zo (ZC ["End"] "since" (Zd 0) (Zd 1))
  (Zo ZcE
  (Zo (ZL 2 (mSl (ZE ["Pile"] "row" (ZE ["End"] "written" (Zd 0))) zq (Zai (mCB Zla (Zc (mCB zo (Zc (ZE ["End"] "nxt" (Zd 0)) (Zc (ZE ["End"] "una" (Zd 0)) Zk))) (Zc (mCB zS (Zc (Zd 0) Zk)) Zk))))))
  (ZQ (mCB zm (Zc (Zd 0) (Zc (ZE ["End"] "una" (Zd 0)) (Zc (ZeT (ZF (mOp gtM (mCB Zbm (Zc (Zd 2) Zk)) (mC (.int 0)))) (mC (.int 0)) (mC (.int 1))) (Zc (Zd 2) Zk))))))))))))
def Zcw:GM:=ZU 2 3 Zc9
def ZaC:SM:=(mIf (ZcZ (zC (ZE ["End"] "owes_answer" (Zd 0)))) (ZQ (mC .non)) ZP)
def ZaY:SM:=(Zo ZaC
  (Zo (ZC ["End"] "owes_answer" (Zd 0) (mC (.bl false)))
  (ZQ (mCB zm (Zc (Zd 0) (Zc (ZE ["End"] "nxt" (Zd 0)) (Zc (mC (.int 0)) (Zc (ZaB Zk) Zk))))))))
def zK:GM:=ZU 1 1 ZaY
def Zhv:SM:=(ZQ (mCB zo (Zc (ZE ["End"] "behind" (Zd 0)) (Zc (ZE ["End"] "nxt" (Zd 0)) Zk))))
def ZaZ:GM:=ZU 1 1 Zhv
def Zc6:SM:=(ZQ (Zbd (mOp inM (ZE ["End"] "state" (Zd 0)) (Zar (Zc (mC (.str "open")) (Zc (mC (.str "wait one")) (Zc (mC (.str "close wait")) (Zc (mC (.str "closing")) (Zc (mC (.str "last ack")) Zk))))))) (mOp gtM (mCB ZaZ (Zc (Zd 0) Zk)) (mC (.int 0)))))
def zT:GM:=ZU 1 1 Zc6
def ZdF:SM:=(ZQ (Zbd (mOp inM (ZE ["End"] "state" (Zd 0)) (Zar (Zc (mC (.str "wait one")) (Zc (mC (.str "closing")) (Zc (mC (.str "last ack")) Zk))))) (mOp eqM (mCB ZaZ (Zc (Zd 0) Zk)) (mC (.int 0)))))
def Za1:GM:=ZU 1 1 ZdF
def ZfE:SM:=(ZQ (Zi6 (mCB zT (Zc (Zd 0) Zk)) (mCB Za1 (Zc (Zd 0) Zk))))
def Za5:GM:=ZU 1 1 ZfE
def Zdr:SM:=(Zo (ZL 2 (ZE ["End"] "nxt" (Zd 0)))
  (Zo (ZL 3 (mCB Zla (Zc (mCB zS (Zc (Zd 0) Zk)) (Zc (mCB ZaZ (Zc (Zd 0) Zk)) (Zc (Zd 1) Zk)))))
  (Zo (ZL 4 (mCB zo (Zc (Zd 2) (Zc (ZE ["End"] "una" (Zd 0)) Zk))))
  (Zo (ZC ["End"] "nxt" (Zd 0) (mCB zn (Zc (Zd 2) (Zc (Zd 3) Zk))))
  (ZQ (mCB zm (Zc (Zd 0) (Zc (Zd 2) (Zc (ZeT (ZF (mOp eqM (mCB ZaZ (Zc (Zd 0) Zk)) (mC (.int 0)))) (mC (.int 8)) (mC (.int 0))) (Zc (mSl (ZE ["Pile"] "row" (ZE ["End"] "written" (Zd 0))) (Zai (Zd 4)) (Zai (mOp ZM (Zd 4) (Zd 3)))) Zk))))))))))
def Zbt:GM:=ZU 2 5 Zdr
def Zgp:SM:=(Zo (ZL 1 (ZE ["End"] "nxt" (Zd 0)))
  (Zo (ZC ["End"] "nxt" (Zd 0) (mCB zn (Zc (Zd 1) (Zc (mC (.int 1)) Zk))))
  (ZQ (mCB zm (Zc (Zd 0) (Zc (Zd 1) (Zc (mC (.int 1)) (Zc (ZaB Zk) Zk))))))))
def ZcW:GM:=ZU 1 2 Zgp
def ZcO:SM:=(Zo (ZC ["End"] "probes" (Zd 0) (mC (.bl false)))
  (ZQ (ZeT (zC (mCB zT (Zc (Zd 0) Zk))) (mCB Zbt (Zc (Zd 0) (Zc (Zd 1) Zk))) (mCB ZcW (Zc (Zd 0) Zk)))))
def Zan:GM:=ZU 2 2 ZcO
def ZcN:SM:=(mIf (ZF (mOp eqM (ZE ["End"] "nxt" (Zd 0)) (ZE ["End"] "una" (Zd 0)))) (ze (mCB Z2 (Zc (Zd 0) (Zc (Zd 1) Zk)))) ZP)
def Zd6:SM:=(Zo ZcN
  (Zo (ZC ["End"] "nxt" (Zd 0) (mCB zn (Zc (ZE ["End"] "first" (Zd 0)) (Zc (mC (.int 1)) Zk))))
  (ZQ (mCB Za3 (Zc (Zd 0) Zk)))))
def Zb8:GM:=ZU 2 2 Zd6
def zh:SM:=(mIf (ZF (mOp inM (ZE ["End"] "state" (Zd 0)) (Zar (Zc (mC (.str "syn sent")) (Zc (mC (.str "syn come")) Zk))))) (ZQ (ZeT (mOr (ZF (mOp eqM (ZE ["End"] "nxt" (Zd 0)) (ZE ["End"] "first" (Zd 0)))) (zC (ZE ["End"] "owes_syn" (Zd 0)))) (mCB Zb8 (Zc (Zd 0) (Zc (Zd 1) Zk))) (mC .non))) ZP)
def zW:SM:=(mIf (mOr (ZF (mOp leM (Zd 2) (mC (.int 0)))) (ZcZ (zC (mCB Za5 (Zc (Zd 0) Zk))))) (ZQ (mC .non)) ZP)
def Za9:SM:=(mIf (ZF (mOp eqM (ZE ["End"] "nxt" (Zd 0)) (ZE ["End"] "una" (Zd 0)))) (ze (mCB Z2 (Zc (Zd 0) (Zc (Zd 1) Zk)))) ZP)
def zB:SM:=(Zo zh
  (Zo (ZL 2 (mOp Zgx (ZE ["End"] "wnd" (Zd 0)) (mCB zo (Zc (ZE ["End"] "nxt" (Zd 0)) (Zc (ZE ["End"] "una" (Zd 0)) Zk)))))
  (Zo zW
  (Zo Za9
  (Zo (ZC ["End"] "owes_answer" (Zd 0) (mC (.bl false)))
  (ZQ (mCB Zan (Zc (Zd 0) (Zc (Zd 2) Zk)))))))))
def Z0:GM:=ZU 2 3 zB
def ZhG:SM:=(ZQ (mOp geM (mOp Zgx (Zd 1) (ZE ["End"] "since" (Zd 0))) (ZE ["End"] "wait" (Zd 0))))
def Zcj:GM:=ZU 2 2 ZhG
def Z6:SM:=(mIf (mOr (ZF (mOp neM (ZE ["End"] "nxt" (Zd 0)) (ZE ["End"] "una" (Zd 0)))) (mOr (ZF (mOp neM (ZE ["End"] "wnd" (Zd 0)) (mC (.int 0)))) (ZcZ (zC (mCB Za5 (Zc (Zd 0) Zk)))))) (Zo (ZC ["End"] "probes" (Zd 0) (mC (.bl false)))
    (ZQ (mC .non))) ZP)
def z9:SM:=(mIf (ZcZ (zC (ZE ["End"] "probes" (Zd 0)))) (Zo (ZC ["End"] "probes" (Zd 0) (mC (.bl true)))
    (ze (mCB Z2 (Zc (Zd 0) (Zc (Zd 1) Zk))))) ZP)
def z8:SM:=(mIf (ZcZ (zC (mCB Zcj (Zc (Zd 0) (Zc (Zd 1) Zk))))) (ZQ (mC .non)) ZP)
def zg:SM:=(Zo Z6
  (Zo z9
  (Zo z8
  (Zo (ZC ["End"] "since" (Zd 0) (Zd 1))
  (ZQ (mCB Zan (Zc (Zd 0) (Zc (mC (.int 1)) Zk))))))))
def Z3:GM:=ZU 2 2 zg
def Zd4:SM:=(Zo (ZL 1 (ZE ["End"] "owed_reset" (Zd 0)))
  (Zo (ZC ["End"] "owed_reset" (Zd 0) (mC .non))
  (ZQ (Zd 1))))
def Zb3:GM:=ZU 1 2 Zd4
def ZcB:SM:=(mIf (ZF (mOp Zcn (ZE ["End"] "owed_reset" (Zd 0)) (mC .non))) (ZQ (mCB Zb3 (Zc (Zd 0) Zk))) ZP)
def Zd9:SM:=(mIf (Zfi (ZF (mOp eqM (ZE ["End"] "state" (Zd 0)) (mC (.str "time wait")))) (ZF (mOp geM (mOp Zgx (Zd 1) (ZE ["End"] "since" (Zd 0))) (mC (.int 120000))))) (ZC ["End"] "state" (Zd 0) (mC (.str "closed"))) ZP)
def Zbg:SM:=(mIf (ZF (mOp inM (ZE ["End"] "state" (Zd 0)) (Zar (Zc (mC (.str "closed")) (Zc (mC (.str "listen")) Zk))))) (ZQ (mC .non)) ZP)
def ZbS:SM:=(mIf (Zfi (ZF (mOp neM (ZE ["End"] "nxt" (Zd 0)) (ZE ["End"] "una" (Zd 0)))) (zC (mCB Zcj (Zc (Zd 0) (Zc (Zd 1) Zk))))) (ZQ (mCB Zcw (Zc (Zd 0) (Zc (Zd 1) Zk)))) ZP)
def Zbf:SM:=(mIf (ZF (mOp isM (Zd 2) (mC .non))) (ZL 2 (mCB Z3 (Zc (Zd 0) (Zc (Zd 1) Zk)))) ZP)
def Zbe:SM:=(mIf (ZF (mOp isM (Zd 2) (mC .non))) (ZL 2 (mCB zK (Zc (Zd 0) Zk))) ZP)
def Zev:SM:=(Zo ZcB
  (Zo Zd9
  (Zo Zbg
  (Zo ZbS
  (Zo (ZL 2 (mCB Z0 (Zc (Zd 0) (Zc (Zd 1) Zk))))
  (Zo Zbf
  (Zo Zbe
  (ZQ (Zd 2)))))))))
def Zdk:GM:=ZU 2 3 Zev
def Zhy:SM:=(Zo (ZL 2 (mCB Zdk (Zc (Zd 0) (Zc (Zd 1) Zk))))
  (ZQ (ZeT (ZF (mOp isM (Zd 2) (mC .non))) (ZaB Zk) (mCB Zg6 (Zc (Zd 2) Zk)))))
def ZeM:GM:=ZU 2 3 Zhy
def Zhz:SM:=(ZQ (mCB (mkG "End" Zbw) (Zc (Zd 0) (Zc (Zd 1) (Zc (Zd 2) (Zc (Zd 3) Zk))))))
def ZdP:GM:=ZU 4 4 Zhz
end
end My
namespace My
open PySem L2 L2.MM
noncomputable section
inductive State where
  | closed | listen | synSent | synCome | opn | waitOne | waitTwo | closeWait | closing | lastAck | timeWait
  deriving DecidableEq
def State.s:State→Str
  | .closed=>"closed" | .listen=>"listen" | .synSent=>"syn sent" | .synCome=>"syn come" | .opn=>"open" | .waitOne=>"wait one" | .waitTwo=>"wait two" | .closeWait=>"close wait" | .closing=>"closing" | .lastAck=>"last ack" | .timeWait=>"time wait"
inductive Err where
  | none | refused | reset | time
  deriving DecidableEq
def Err.s:Err→Str
  | .none=>"" | .refused=>"refused" | .reset=>"reset" | .time=>"time"
structure ZN where
  ours:Int
  theirs:Int
  state:State
  error:Err
  first:Int
  una:Int
  nxt:Int
  rcv:Int
  wnd:Int
  told:Int
  told_by:Int
  most:Int
  written:List Int
  come:List Int
  early:List (Int×Int)
  early_fin:Option Int
  has_closed:Bool
  behind:Int
  owed_reset:Option Seg
  owes_syn:Bool
  owes_answer:Bool
  probes:Bool
  since:Int
  wait:Int
  tries:Int
def ZyU:Option Int→D
  | none=>.non
  | some i=>.int i
def ZaD:Option Seg→D
  | none=>.non
  | some s=>s.d
def fields (l:Nat) (e:ZN):List (Str×D):=[("ours",.int e.ours),("theirs",.int e.theirs),("state",.str e.state.s),("error",.str e.error.s),("first",.int e.first),("una",.int e.una),("nxt",.int e.nxt),("rcv",.int e.rcv),("wnd",.int e.wnd),("told",.int e.told),("told_by",.int e.told_by),("most",.int e.most),("written",.ref (l+1)),("come",.ref (l+2)),("early",.ref (l+3)),("early_fin",ZyU e.early_fin),("has_closed",.bl e.has_closed),("behind",.int e.behind),("owed_reset",ZaD e.owed_reset),("owes_syn",.bl e.owes_syn),("owes_answer",.bl e.owes_answer),("probes",.bl e.probes),("since",.int e.since),("wait",.int e.wait),("tries",.int e.tries)]
def c0 (l:Nat) (e:ZN):Cell:=.ins "End" (fields l e)
def c1 (e:ZN):Cell:=.ins "Pile" [("row",il e.written)]
def c2 (e:ZN):Cell:=.ins "Pile" [("row",il e.come)]
def c3 (e:ZN):Cell:=.dK (e.early.map fun p=>(Sum.inl p.1,D.int p.2))
def upE (θ:Sto) (l:Nat) (e:ZN):Sto:=(((θ.set l (c0 l e)).set (l+1) (c1 e)).set (l+2) (c2 e)).set (l+3) (c3 e)
theorem at0 {θ:Sto} {l:Nat} (h:l+3 < θ.length) (e:ZN):(upE θ l e)[l]?=some (c0 l e):=by
  unfold upE
  rw [List.getElem?_set_ne (by omega),List.getElem?_set_ne (by omega),List.getElem?_set_ne (by omega),List.getElem?_set_self (by omega)]
theorem at1 {θ:Sto} {l:Nat} (h:l+3 < θ.length) (e:ZN):(upE θ l e)[l+1]?=some (c1 e):=by
  unfold upE
  rw [List.getElem?_set_ne (by omega),List.getElem?_set_ne (by omega),List.getElem?_set_self (by simp; omega)]
theorem ZyY {θ:Sto} {l:Nat} (h:l+3 < θ.length) (e:ZN):(upE θ l e)[l+2]?=some (c2 e):=by
  unfold upE
  rw [List.getElem?_set_ne (by omega),List.getElem?_set_self (by simp; omega)]
theorem ZeA {θ:Sto} {l:Nat} (h:l+3 < θ.length) (e e':ZN) (h1:e'.written=e.written) (h2:e'.come=e.come) (h3:e'.early=e.early):(upE θ l e).set l (c0 l e')=upE θ l e':=by
  unfold upE
  rw [show c1 e'=c1 e by unfold c1; rw [h1],show c2 e'=c2 e by unfold c2; rw [h2],show c3 e'=c3 e by unfold c3; rw [h3]]
  apply List.ext_getElem?
  intro i
  simp only [List.getElem?_set,List.length_set]
  by_cases h3:l=i
  · subst h3; simp
  · simp [h3]
theorem ZaH {θ:Sto} {l:Nat} (h:l+3 < θ.length) (e:ZN):Zco (upE θ l e) (.ref l)=some (l,("End":Str),fields l e):=by
  show (match (upE θ l e)[l]? with | some (Cell.ins C fs)=>some (l,C,fs) | _=>none)=_
  rw [at0 h]
  rfl
theorem ce:(["End"]:List Str).contains "End"=true:=by decide +kernel
theorem cp:(["Pile"]:List Str).contains "Pile"=true:=by decide +kernel
@[simp] theorem ZyP {θ:Sto} {l:Nat} (h:l+3 < θ.length) (e:ZN):zH ["End"] "ours" (.ref l) (upE θ l e)=.ok (.int e.ours) (upE θ l e):=by
  unfold zH
  rw [ZaH h]
  simp only [ce,if_true]
  rw [show (fields l e).lookup ("ours":Str)=some (.int e.ours) by with_unfolding_all rfl]
@[simp] theorem Zvs {θ:Sto} {l:Nat} (h:l+3 < θ.length) (e:ZN):zH ["End"] "theirs" (.ref l) (upE θ l e)=.ok (.int e.theirs) (upE θ l e):=by
  unfold zH
  rw [ZaH h]
  simp only [ce,if_true]
  rw [show (fields l e).lookup ("theirs":Str)=some (.int e.theirs) by with_unfolding_all rfl]
@[simp] theorem ZrN {θ:Sto} {l:Nat} (h:l+3 < θ.length) (e:ZN):zH ["End"] "state" (.ref l) (upE θ l e)=.ok (.str e.state.s) (upE θ l e):=by
  unfold zH
  rw [ZaH h]
  simp only [ce,if_true]
  rw [show (fields l e).lookup ("state":Str)=some (.str e.state.s) by with_unfolding_all rfl]
@[simp] theorem Zv5 {θ:Sto} {l:Nat} (h:l+3 < θ.length) (e:ZN):zH ["End"] "first" (.ref l) (upE θ l e)=.ok (.int e.first) (upE θ l e):=by
  unfold zH
  rw [ZaH h]
  simp only [ce,if_true]
  rw [show (fields l e).lookup ("first":Str)=some (.int e.first) by with_unfolding_all rfl]
@[simp] theorem Zzq {θ:Sto} {l:Nat} (h:l+3 < θ.length) (e:ZN):zH ["End"] "una" (.ref l) (upE θ l e)=.ok (.int e.una) (upE θ l e):=by
  unfold zH
  rw [ZaH h]
  simp only [ce,if_true]
  rw [show (fields l e).lookup ("una":Str)=some (.int e.una) by with_unfolding_all rfl]
@[simp] theorem Zzs {θ:Sto} {l:Nat} (h:l+3 < θ.length) (e:ZN):zH ["End"] "nxt" (.ref l) (upE θ l e)=.ok (.int e.nxt) (upE θ l e):=by
  unfold zH
  rw [ZaH h]
  simp only [ce,if_true]
  rw [show (fields l e).lookup ("nxt":Str)=some (.int e.nxt) by with_unfolding_all rfl]
@[simp] theorem Zzr {θ:Sto} {l:Nat} (h:l+3 < θ.length) (e:ZN):zH ["End"] "rcv" (.ref l) (upE θ l e)=.ok (.int e.rcv) (upE θ l e):=by
  unfold zH
  rw [ZaH h]
  simp only [ce,if_true]
  rw [show (fields l e).lookup ("rcv":Str)=some (.int e.rcv) by with_unfolding_all rfl]
@[simp] theorem Zzp {θ:Sto} {l:Nat} (h:l+3 < θ.length) (e:ZN):zH ["End"] "wnd" (.ref l) (upE θ l e)=.ok (.int e.wnd) (upE θ l e):=by
  unfold zH
  rw [ZaH h]
  simp only [ce,if_true]
  rw [show (fields l e).lookup ("wnd":Str)=some (.int e.wnd) by with_unfolding_all rfl]
@[simp] theorem ZyQ {θ:Sto} {l:Nat} (h:l+3 < θ.length) (e:ZN):zH ["End"] "most" (.ref l) (upE θ l e)=.ok (.int e.most) (upE θ l e):=by
  unfold zH
  rw [ZaH h]
  simp only [ce,if_true]
  rw [show (fields l e).lookup ("most":Str)=some (.int e.most) by with_unfolding_all rfl]
@[simp] theorem Zuj {θ:Sto} {l:Nat} (h:l+3 < θ.length) (e:ZN):zH ["End"] "written" (.ref l) (upE θ l e)=.ok (.ref (l+1)) (upE θ l e):=by
  unfold zH
  rw [ZaH h]
  simp only [ce,if_true]
  rw [show (fields l e).lookup ("written":Str)=some (.ref (l+1)) by with_unfolding_all rfl]
@[simp] theorem ZyR {θ:Sto} {l:Nat} (h:l+3 < θ.length) (e:ZN):zH ["End"] "come" (.ref l) (upE θ l e)=.ok (.ref (l+2)) (upE θ l e):=by
  unfold zH
  rw [ZaH h]
  simp only [ce,if_true]
  rw [show (fields l e).lookup ("come":Str)=some (.ref (l+2)) by with_unfolding_all rfl]
@[simp] theorem Zvu {θ:Sto} {l:Nat} (h:l+3 < θ.length) (e:ZN):zH ["End"] "behind" (.ref l) (upE θ l e)=.ok (.int e.behind) (upE θ l e):=by
  unfold zH
  rw [ZaH h]
  simp only [ce,if_true]
  rw [show (fields l e).lookup ("behind":Str)=some (.int e.behind) by with_unfolding_all rfl]
@[simp] theorem ZrO {θ:Sto} {l:Nat} (h:l+3 < θ.length) (e:ZN):zH ["End"] "owed_reset" (.ref l) (upE θ l e)=.ok (ZaD e.owed_reset) (upE θ l e):=by
  unfold zH
  rw [ZaH h]
  simp only [ce,if_true]
  rw [show (fields l e).lookup ("owed_reset":Str)=some (ZaD e.owed_reset) by with_unfolding_all rfl]
@[simp] theorem ZtO {θ:Sto} {l:Nat} (h:l+3 < θ.length) (e:ZN):zH ["End"] "owes_syn" (.ref l) (upE θ l e)=.ok (.bl e.owes_syn) (upE θ l e):=by
  unfold zH
  rw [ZaH h]
  simp only [ce,if_true]
  rw [show (fields l e).lookup ("owes_syn":Str)=some (.bl e.owes_syn) by with_unfolding_all rfl]
@[simp] theorem ZqX {θ:Sto} {l:Nat} (h:l+3 < θ.length) (e:ZN):zH ["End"] "owes_answer" (.ref l) (upE θ l e)=.ok (.bl e.owes_answer) (upE θ l e):=by
  unfold zH
  rw [ZaH h]
  simp only [ce,if_true]
  rw [show (fields l e).lookup ("owes_answer":Str)=some (.bl e.owes_answer) by with_unfolding_all rfl]
@[simp] theorem Zvt {θ:Sto} {l:Nat} (h:l+3 < θ.length) (e:ZN):zH ["End"] "probes" (.ref l) (upE θ l e)=.ok (.bl e.probes) (upE θ l e):=by
  unfold zH
  rw [ZaH h]
  simp only [ce,if_true]
  rw [show (fields l e).lookup ("probes":Str)=some (.bl e.probes) by with_unfolding_all rfl]
@[simp] theorem Zv4 {θ:Sto} {l:Nat} (h:l+3 < θ.length) (e:ZN):zH ["End"] "since" (.ref l) (upE θ l e)=.ok (.int e.since) (upE θ l e):=by
  unfold zH
  rw [ZaH h]
  simp only [ce,if_true]
  rw [show (fields l e).lookup ("since":Str)=some (.int e.since) by with_unfolding_all rfl]
@[simp] theorem ZyM {θ:Sto} {l:Nat} (h:l+3 < θ.length) (e:ZN):zH ["End"] "wait" (.ref l) (upE θ l e)=.ok (.int e.wait) (upE θ l e):=by
  unfold zH
  rw [ZaH h]
  simp only [ce,if_true]
  rw [show (fields l e).lookup ("wait":Str)=some (.int e.wait) by with_unfolding_all rfl]
@[simp] theorem Zv3 {θ:Sto} {l:Nat} (h:l+3 < θ.length) (e:ZN):zH ["End"] "tries" (.ref l) (upE θ l e)=.ok (.int e.tries) (upE θ l e):=by
  unfold zH
  rw [ZaH h]
  simp only [ce,if_true]
  rw [show (fields l e).lookup ("tries":Str)=some (.int e.tries) by with_unfolding_all rfl]
@[simp] theorem ZuS {θ:Sto} {l:Nat} (h:l+3 < θ.length) (e:ZN) (v:Int):Z1 ["End"] "theirs" (.int v) (.ref l) (upE θ l e)=some (upE θ l { e with theirs:=v }):=by
  unfold Z1
  rw [ZaH h]
  simp only [ce]
  rw [if_pos ⟨trivial,show 25<1000 by decide⟩,show Zau ("theirs":Str) (.int v) (fields l e)=fields l { e with theirs:=v } by with_unfolding_all rfl]
  exact congrArg some (ZeA h e { e with theirs:=v } rfl rfl rfl)
@[simp] theorem ZvW {θ:Sto} {l:Nat} (h:l+3 < θ.length) (e:ZN) (v:State):Z1 ["End"] "state" (.str v.s) (.ref l) (upE θ l e)=some (upE θ l { e with state:=v }):=by
  unfold Z1
  rw [ZaH h]
  simp only [ce]
  rw [if_pos ⟨trivial,show 25<1000 by decide⟩,show Zau ("state":Str) (.str v.s) (fields l e)=fields l { e with state:=v } by with_unfolding_all rfl]
  exact congrArg some (ZeA h e { e with state:=v } rfl rfl rfl)
@[simp] theorem ZvY {θ:Sto} {l:Nat} (h:l+3 < θ.length) (e:ZN) (v:Err):Z1 ["End"] "error" (.str v.s) (.ref l) (upE θ l e)=some (upE θ l { e with error:=v }):=by
  unfold Z1
  rw [ZaH h]
  simp only [ce]
  rw [if_pos ⟨trivial,show 25<1000 by decide⟩,show Zau ("error":Str) (.str v.s) (fields l e)=fields l { e with error:=v } by with_unfolding_all rfl]
  exact congrArg some (ZeA h e { e with error:=v } rfl rfl rfl)
@[simp] theorem Zzk {θ:Sto} {l:Nat} (h:l+3 < θ.length) (e:ZN) (v:Int):Z1 ["End"] "nxt" (.int v) (.ref l) (upE θ l e)=some (upE θ l { e with nxt:=v }):=by
  unfold Z1
  rw [ZaH h]
  simp only [ce]
  rw [if_pos ⟨trivial,show 25<1000 by decide⟩,show Zau ("nxt":Str) (.int v) (fields l e)=fields l { e with nxt:=v } by with_unfolding_all rfl]
  exact congrArg some (ZeA h e { e with nxt:=v } rfl rfl rfl)
@[simp] theorem Zzj {θ:Sto} {l:Nat} (h:l+3 < θ.length) (e:ZN) (v:Int):Z1 ["End"] "rcv" (.int v) (.ref l) (upE θ l e)=some (upE θ l { e with rcv:=v }):=by
  unfold Z1
  rw [ZaH h]
  simp only [ce]
  rw [if_pos ⟨trivial,show 25<1000 by decide⟩,show Zau ("rcv":Str) (.int v) (fields l e)=fields l { e with rcv:=v } by with_unfolding_all rfl]
  exact congrArg some (ZeA h e { e with rcv:=v } rfl rfl rfl)
@[simp] theorem Zzi {θ:Sto} {l:Nat} (h:l+3 < θ.length) (e:ZN) (v:Int):Z1 ["End"] "wnd" (.int v) (.ref l) (upE θ l e)=some (upE θ l { e with wnd:=v }):=by
  unfold Z1
  rw [ZaH h]
  simp only [ce]
  rw [if_pos ⟨trivial,show 25<1000 by decide⟩,show Zau ("wnd":Str) (.int v) (fields l e)=fields l { e with wnd:=v } by with_unfolding_all rfl]
  exact congrArg some (ZeA h e { e with wnd:=v } rfl rfl rfl)
@[simp] theorem Zyl {θ:Sto} {l:Nat} (h:l+3 < θ.length) (e:ZN) (v:Int):Z1 ["End"] "told" (.int v) (.ref l) (upE θ l e)=some (upE θ l { e with told:=v }):=by
  unfold Z1
  rw [ZaH h]
  simp only [ce]
  rw [if_pos ⟨trivial,show 25<1000 by decide⟩,show Zau ("told":Str) (.int v) (fields l e)=fields l { e with told:=v } by with_unfolding_all rfl]
  exact congrArg some (ZeA h e { e with told:=v } rfl rfl rfl)
@[simp] theorem Zud {θ:Sto} {l:Nat} (h:l+3 < θ.length) (e:ZN) (v:Int):Z1 ["End"] "told_by" (.int v) (.ref l) (upE θ l e)=some (upE θ l { e with told_by:=v }):=by
  unfold Z1
  rw [ZaH h]
  simp only [ce]
  rw [if_pos ⟨trivial,show 25<1000 by decide⟩,show Zau ("told_by":Str) (.int v) (fields l e)=fields l { e with told_by:=v } by with_unfolding_all rfl]
  exact congrArg some (ZeA h e { e with told_by:=v } rfl rfl rfl)
@[simp] theorem Zym {θ:Sto} {l:Nat} (h:l+3 < θ.length) (e:ZN) (v:Int):Z1 ["End"] "most" (.int v) (.ref l) (upE θ l e)=some (upE θ l { e with most:=v }):=by
  unfold Z1
  rw [ZaH h]
  simp only [ce]
  rw [if_pos ⟨trivial,show 25<1000 by decide⟩,show Zau ("most":Str) (.int v) (fields l e)=fields l { e with most:=v } by with_unfolding_all rfl]
  exact congrArg some (ZeA h e { e with most:=v } rfl rfl rfl)
@[simp] theorem Ze6 {θ:Sto} {l:Nat} (h:l+3 < θ.length) (e:ZN) (v:Option Seg):Z1 ["End"] "owed_reset" (ZaD v) (.ref l) (upE θ l e)=some (upE θ l { e with owed_reset:=v }):=by
  unfold Z1
  rw [ZaH h]
  simp only [ce]
  rw [if_pos ⟨trivial,show 25<1000 by decide⟩,show Zau ("owed_reset":Str) (ZaD v) (fields l e)=fields l { e with owed_reset:=v } by with_unfolding_all rfl]
  exact congrArg some (ZeA h e { e with owed_reset:=v } rfl rfl rfl)
@[simp] theorem Zs4 {θ:Sto} {l:Nat} (h:l+3 < θ.length) (e:ZN) (v:Bool):Z1 ["End"] "owes_syn" (.bl v) (.ref l) (upE θ l e)=some (upE θ l { e with owes_syn:=v }):=by
  unfold Z1
  rw [ZaH h]
  simp only [ce]
  rw [if_pos ⟨trivial,show 25<1000 by decide⟩,show Zau ("owes_syn":Str) (.bl v) (fields l e)=fields l { e with owes_syn:=v } by with_unfolding_all rfl]
  exact congrArg some (ZeA h e { e with owes_syn:=v } rfl rfl rfl)
@[simp] theorem ZqW {θ:Sto} {l:Nat} (h:l+3 < θ.length) (e:ZN) (v:Bool):Z1 ["End"] "owes_answer" (.bl v) (.ref l) (upE θ l e)=some (upE θ l { e with owes_answer:=v }):=by
  unfold Z1
  rw [ZaH h]
  simp only [ce]
  rw [if_pos ⟨trivial,show 25<1000 by decide⟩,show Zau ("owes_answer":Str) (.bl v) (fields l e)=fields l { e with owes_answer:=v } by with_unfolding_all rfl]
  exact congrArg some (ZeA h e { e with owes_answer:=v } rfl rfl rfl)
@[simp] theorem ZuT {θ:Sto} {l:Nat} (h:l+3 < θ.length) (e:ZN) (v:Bool):Z1 ["End"] "probes" (.bl v) (.ref l) (upE θ l e)=some (upE θ l { e with probes:=v }):=by
  unfold Z1
  rw [ZaH h]
  simp only [ce]
  rw [if_pos ⟨trivial,show 25<1000 by decide⟩,show Zau ("probes":Str) (.bl v) (fields l e)=fields l { e with probes:=v } by with_unfolding_all rfl]
  exact congrArg some (ZeA h e { e with probes:=v } rfl rfl rfl)
@[simp] theorem ZvX {θ:Sto} {l:Nat} (h:l+3 < θ.length) (e:ZN) (v:Int):Z1 ["End"] "since" (.int v) (.ref l) (upE θ l e)=some (upE θ l { e with since:=v }):=by
  unfold Z1
  rw [ZaH h]
  simp only [ce]
  rw [if_pos ⟨trivial,show 25<1000 by decide⟩,show Zau ("since":Str) (.int v) (fields l e)=fields l { e with since:=v } by with_unfolding_all rfl]
  exact congrArg some (ZeA h e { e with since:=v } rfl rfl rfl)
@[simp] theorem Zyk {θ:Sto} {l:Nat} (h:l+3 < θ.length) (e:ZN) (v:Int):Z1 ["End"] "wait" (.int v) (.ref l) (upE θ l e)=some (upE θ l { e with wait:=v }):=by
  unfold Z1
  rw [ZaH h]
  simp only [ce]
  rw [if_pos ⟨trivial,show 25<1000 by decide⟩,show Zau ("wait":Str) (.int v) (fields l e)=fields l { e with wait:=v } by with_unfolding_all rfl]
  exact congrArg some (ZeA h e { e with wait:=v } rfl rfl rfl)
@[simp] theorem ZvV {θ:Sto} {l:Nat} (h:l+3 < θ.length) (e:ZN) (v:Int):Z1 ["End"] "tries" (.int v) (.ref l) (upE θ l e)=some (upE θ l { e with tries:=v }):=by
  unfold Z1
  rw [ZaH h]
  simp only [ce]
  rw [if_pos ⟨trivial,show 25<1000 by decide⟩,show Zau ("tries":Str) (.int v) (fields l e)=fields l { e with tries:=v } by with_unfolding_all rfl]
  exact congrArg some (ZeA h e { e with tries:=v } rfl rfl rfl)
section
variable {θ:Sto} {l:Nat}
@[simp] theorem ZyN (h:l+3 < θ.length) (e:ZN):zH ["Pile"] "row" (.ref (l+1)) (upE θ l e)=.ok (il e.written) (upE θ l e):=by
  have:Zco (upE θ l e) (.ref (l+1))=some (l+1,("Pile":Str),[(("row":Str),il e.written)]):=by
    show (match (upE θ l e)[l+1]? with | some (Cell.ins C fs)=>some (l+1,C,fs) | _=>none)=_
    rw [at1 h]
    rfl
  unfold zH
  rw [this]
  simp only [cp,if_true]
  rw [show ([("row",il e.written)]:List (Str×D)).lookup ("row":Str)=some (il e.written) by with_unfolding_all rfl]
@[simp] theorem ZyO (h:l+3 < θ.length) (e:ZN):zH ["Pile"] "row" (.ref (l+2)) (upE θ l e)=.ok (il e.come) (upE θ l e):=by
  have:Zco (upE θ l e) (.ref (l+2))=some (l+2,("Pile":Str),[(("row":Str),il e.come)]):=by
    show (match (upE θ l e)[l+2]? with | some (Cell.ins C fs)=>some (l+2,C,fs) | _=>none)=_
    rw [ZyY h]
    rfl
  unfold zH
  rw [this]
  simp only [cp,if_true]
  rw [show ([("row",il e.come)]:List (Str×D)).lookup ("row":Str)=some (il e.come) by with_unfolding_all rfl]
end
@[simp] theorem Zuz:("closed":Str)=State.closed.s:=nr rfl
@[simp] theorem Zuy:("listen":Str)=State.listen.s:=nr rfl
@[simp] theorem Zt6:("syn sent":Str)=State.synSent.s:=nr rfl
@[simp] theorem Zt7:("syn come":Str)=State.synCome.s:=nr rfl
@[simp] theorem Zx3:("open":Str)=State.opn.s:=nr rfl
@[simp] theorem Zt5:("wait one":Str)=State.waitOne.s:=nr rfl
@[simp] theorem Zsb:("close wait":Str)=State.closeWait.s:=nr rfl
@[simp] theorem Zt9:("closing":Str)=State.closing.s:=nr rfl
@[simp] theorem Zt8:("last ack":Str)=State.lastAck.s:=nr rfl
@[simp] theorem ZsO:("time wait":Str)=State.timeWait.s:=nr rfl
@[simp] theorem Zx4:("":Str)=Err.none.s:=nr rfl
@[simp] theorem Zx2:("time":Str)=Err.time.s:=nr rfl
theorem State.inj:∀a b:State,a.s=b.s↔a=b:=by
  intro a b
  constructor
  · intro h
    cases a<;>cases b<;>first | rfl | (exact absurd h (by decide +kernel))
  · intro h; rw [h]
theorem Ztf (k:Nat) (x:Str):pl k (.str x)=PyData.strOk x:=by cases k<;>simp [pl]
theorem State.ok (a:State) (k:Nat):pl k (.str a.s)=true:=by
  rw [Ztf]
  cases a<;>decide +kernel
section
variable {θ:Sto}
@[simp] theorem ZvB (a b:State):eqM (.str a.s) (.str b.s) θ=.ok (.bl (decide (a=b))) θ:=by
  rw [Zmb (x:=.str a.s) (y:=.str b.s) (Zht (State.ok a 9) (State.ok b 9) rfl rfl)]
  simp [State.inj]
theorem Zhd (a:State):∀bs:List State,ZhO (bs.map fun b=>D.str b.s)=true∧memS a.s (bs.map fun b=>D.str b.s)=decide (a∈bs)
  | []=>⟨rfl,by simp [memS]⟩
  | b::bs=>by
    obtain ⟨h1,h2⟩:=Zhd a bs
    refine ⟨h1,?_⟩
    rw [List.map_cons]
    show (decide (b.s=a.s) || memS a.s (bs.map fun b=>D.str b.s))=_
    rw [h2,Bool.eq_iff_iff]
    simp only [Bool.or_eq_true,decide_eq_true_eq,List.mem_cons,State.inj]
    constructor
    · rintro (h | h)
      · exact .inl h.symm
      · exact .inr h
    · rintro (h | h)
      · exact .inl h.symm
      · exact .inr h
theorem Zf6 (a:State) (bs:List State):inM (.str a.s) (.tup (bs.map fun b=>.str b.s)) θ=.ok (.bl (decide (a∈bs))) θ:=by
  obtain ⟨h1,h2⟩:=Zhd a bs
  have e:inD θ (.str a.s) (.tup (bs.map fun b=>D.str b.s))=some (decide (a∈bs)):=by
    unfold inD
    simp only [ZkL]
    rw [if_pos h1,h2]
  unfold inM
  rw [e]
@[simp] theorem Zzo (a b c:State):inM (.str a.s) (.tup [.str b.s,.str c.s]) θ=.ok (.bl (decide (a∈[b,c]))) θ:=Zf6 a [b,c]
@[simp] theorem Zzn (a b c d:State):inM (.str a.s) (.tup [.str b.s,.str c.s,.str d.s]) θ=.ok (.bl (decide (a∈[b,c,d]))) θ:=Zf6 a [b,c,d]
@[simp] theorem Zzm (a b c d e f:State):inM (.str a.s) (.tup [.str b.s,.str c.s,.str d.s,.str e.s,.str f.s]) θ=.ok (.bl (decide (a∈[b,c,d,e,f]))) θ:=Zf6 a [b,c,d,e,f]
end
end
end My
namespace My
open PySem L2 L2.MM
noncomputable section
def zY (n k:Int):Int:=(n+k) % 4294967296
def Zbx (n b:Int):Int:=(n-b+2147483648) % 4294967296-2147483648
def zL (e:ZN) (now:Int):ZN:={ e with since:=now,wait:=1000,tries:=0 }
def Zax (e:ZN):Int:=64-(e.come.length:Int)
def zz (e:ZN):Int:=if 16<e.most then 16 else e.most
def ZdC (e:ZN) (now:Int):Bool:=decide (e.wait≤now-e.since)
def Zdz (e:ZN) (n f:Int) (data:List Int):Seg:=⟨e.ours,e.theirs,n,e.rcv,f+16,Zax e,0,data⟩
def Zem (e:ZN):Seg:=if e.state=.synSent then ⟨e.ours,e.theirs,e.first,0,2,64,16,[]⟩ else ⟨e.ours,e.theirs,e.first,e.rcv,18,64,16,[]⟩
def mn (i j:Int):Int:=if j<i then j else i
def ZbH (e:ZN):List Int:=Zct e.written none (some (mn (Zbx e.nxt e.una) (zz e)))
def again (e:ZN) (now:Int):Option Seg×ZN:=
  if e.tries=6 then (none,{ e with state:=.closed,error:=.time })
  else
    let e1:={ e with tries:=e.tries+1,wait:=mn (2*e.wait) 16000,since:=now }
    if e.state=.synSent∨e.state=.synCome then (some (Zem e1),{ e1 with owes_syn:=false })
    else (some (Zdz e1 e.una (if 0<(ZbH e).length then 0 else 1) (ZbH e)),e1)
def ZcH (e:ZN):Int:=Zbx e.behind e.nxt
def Za8 (e:ZN):Bool:=decide (e.state∈[State.opn,.waitOne,.closeWait,.closing,.lastAck]) && decide (0<ZcH e)
def hasNewFin (e:ZN):Bool:=decide (e.state∈[State.waitOne,.closing,.lastAck]) && decide (ZcH e=0)
def Zes (e:ZN):Bool:=Za8 e || hasNewFin e
section
variable {θ:Sto} {l:Nat} {e:ZN} {now n k:Int}
@[simp] theorem Zx6:zn [.int n,.int k] θ=.ok (.int (zY n k)) θ:=by simp [zn,Zlw,zY]
@[simp] theorem ZuC:zo [.int n,.int k] θ=.ok (.int (Zbx n k)) θ:=by simp [zo,ZhA,Zbx]
@[simp] theorem ZqT (h:l+3 < θ.length):Z2 [.ref l,.int now] (upE θ l e)=.ok .non (upE θ l (zL e now)):=by
  simp [Z2,ZdE,h,zL]
@[simp] theorem ZvS (h:l+3 < θ.length):ZeN [.ref (l+2)] (upE θ l e)=.ok (.int (Zax e)) (upE θ l e):=by
  simp [ZeN,Zlv,h,Zax]
@[simp] theorem Zq2 (h:l+3 < θ.length):Zap [.ref l] (upE θ l e)=.ok (.int (Zax e)) (upE θ l e):=by
  simp [Zap,Zd5,h]
@[simp] theorem Zpn (h:l+3 < θ.length):zS [.ref l] (upE θ l e)=.ok (.int (zz e)) (upE θ l e):=by
  simp [zS,Zc5,h,zz]
@[simp] theorem ZuE (h:l+3 < θ.length):Zcj [.ref l,.int now] (upE θ l e)=.ok (.bl (ZdC e now)) (upE θ l e):=by
  simp [Zcj,ZhG,h,ZdC]
theorem ZuR (a b c d f g i:Int) (x:List Int):D.tup [.int a,.int b,.int c,.int d,.int f,.int g,.int i,itp x]=(Seg.mk a b c d f g i x).d:=rfl
theorem ZfV (a b c d f g i:Int):D.tup [.int a,.int b,.int c,.int d,.int f,.int g,.int i,.tup []]=(Seg.mk a b c d f g i []).d:=rfl
@[simp] theorem ZsR (h:l+3 < θ.length):Za3 [.ref l] (upE θ l e)=.ok (Zem e).d (upE θ l { e with owes_syn:=false }):=by
  by_cases c:e.state=.synSent<;>simp [Za3,Zfu,Zd3,h,Zem,c,ZfV]
@[simp] theorem Zq1 {f:Int} {data:List Int} (h:l+3 < θ.length):zm [.ref l,.int n,.int f,il data] (upE θ l e)=.ok (Zdz e n f data).d (upE θ l e):=by
  simp [zm,Zd2,h,Zdz,ZuR]
theorem Zq5 (h:l+3 < θ.length):Zcw [.ref l,.int now] (upE θ l e)=.ok (ZaD (again e now).1) (upE θ l (again e now).2):=by
  by_cases c:e.tries=6
  · simp [Zcw,Zc9,ZbT,h,again,c,ZaD]
  · by_cases c2:e.state=.synSent∨e.state=.synCome
    · simp [Zcw,Zc9,ZbT,ZcE,h,again,c,c2,ZaD,ZfO,mn]
    · have am:∀e':ZN,e'.most=e.most→zz e'=zz e:=fun e' h=>by unfold zz; rw [h]
      have ad:ZbH e=Zct e.written none (some (mn (Zbx e.nxt e.una) (zz e))):=rfl
      have sl:∀e':ZN,e'.written=e.written→ZdK (upE θ l e') (il e'.written) none (some (if zz e<Zbx e.nxt e.una then zz e else Zbx e.nxt e.una))=some (il (ZbH e)):=fun e' h'=>by
        rw [Zlk,h']; rfl
      unfold again
      rw [if_neg c,if_neg c2]
      have c2':¬(e.state=State.synSent∨e.state=State.synCome):=c2
      by_cases c3:0<(ZbH e).length
      · rw [if_pos c3]
        have c3':(0:Int)<(ZbH e).length:=by omega
        simp [Zcw,Zc9,ZbT,ZcE,h,c,c2',ZfO,mn,am,sl,c3,c3',ZaD,-Zlk,Zdz,Zax]
      · rw [if_neg c3]
        have c3':¬(0:Int)<(ZbH e).length:=by omega
        simp [Zcw,Zc9,ZbT,ZcE,h,c,c2',ZfO,mn,am,sl,c3,c3',ZaD,-Zlk,Zdz,Zax]
@[simp] theorem ZuA (h:l+3 < θ.length):ZaZ [.ref l] (upE θ l e)=.ok (.int (ZcH e)) (upE θ l e):=by
  simp [ZaZ,Zhv,h,ZcH]
@[simp] theorem Zpp (h:l+3 < θ.length):zT [.ref l] (upE θ l e)=.ok (.bl (Za8 e)) (upE θ l e):=by
  simp [zT,Zc6,h,Za8]
@[simp] theorem ZqU (h:l+3 < θ.length):Za1 [.ref l] (upE θ l e)=.ok (.bl (hasNewFin e)) (upE θ l e):=by
  simp [Za1,ZdF,h,hasNewFin]
@[simp] theorem ZsW (h:l+3 < θ.length):Za5 [.ref l] (upE θ l e)=.ok (.bl (Zes e)) (upE θ l e):=by
  simp [Za5,ZfE,h,Zes]
end
def mn3 (i j k:Int):Int:=if j<i then (if k<j then k else j) else (if k<i then k else i)
def ZgL (e:ZN) (room:Int):Int:=mn3 (zz e) (ZcH e) room
def Zfe (e:ZN) (room:Int):Seg×ZN:=
  let e1:={ e with nxt:=zY e.nxt (ZgL e room) }
  (Zdz e1 e.nxt (if ZcH e1=0 then 8 else 0) (Zct e.written (some (Zbx e.nxt e.una)) (some (Zbx e.nxt e.una+ZgL e room))),e1)
def ZiY (e:ZN):Seg×ZN:=(Zdz e e.nxt 1 [],{ e with nxt:=zY e.nxt 1 })
def ZbQ (e:ZN) (room:Int):Seg×ZN:=if Za8 e=true then Zfe { e with probes:=false } room else ZiY { e with probes:=false }
def ZdW (e:ZN) (now:Int):Seg×ZN:=
  let e1:=if e.nxt=e.una then zL e now else e
  (Zem { e1 with nxt:=zY e.first 1 },{ e1 with nxt:=zY e.first 1,owes_syn:=false })
def zA (e:ZN) (now:Int):Option Seg×ZN:=
  if e.state=.synSent∨e.state=.synCome then
    if e.nxt=e.first∨e.owes_syn=true then (some (ZdW e now).1,(ZdW e now).2) else (none,e)
  else
    if e.wnd-Zbx e.nxt e.una≤0∨Zes e=false then (none,e)
    else
      let e1:=if e.nxt=e.una then zL e now else e
      (some (ZbQ { e1 with owes_answer:=false } (e.wnd-Zbx e.nxt e.una)).1,(ZbQ { e1 with owes_answer:=false } (e.wnd-Zbx e.nxt e.una)).2)
def zr (e:ZN) (now:Int):Option Seg×ZN:=
  if ¬e.nxt=e.una∨¬e.wnd=0∨Zes e=false then (none,{ e with probes:=false })
  else
    let e1:=if e.probes=true then e else zL { e with probes:=true } now
    if ZdC e1 now=true then (some (ZbQ { e1 with since:=now } 1).1,(ZbQ { e1 with since:=now } 1).2) else (none,e1)
def Zay (e:ZN):Option Seg×ZN:=if e.owes_answer=true then (some (Zdz e e.nxt 0 []),{ e with owes_answer:=false }) else (none,e)
def ZbJ (e:ZN) (now:Int):Option Seg×ZN:=
  match zA e now with
  | (some s,e1)=>(some s,e1)
  | (none,e1)=>match zr e1 now with
    | (some s,e2)=>(some s,e2)
    | (none,e2)=>Zay e2
def ZbR (e:ZN) (now:Int):Option Seg×ZN:=
  match e.owed_reset with
  | some s=>(some s,{ e with owed_reset:=none })
  | none=>
    let e1:=if e.state=.timeWait∧120000≤now-e.since then { e with state:=.closed } else e
    if e1.state=.closed∨e1.state=.listen then (none,e1)
    else if ¬e1.nxt=e1.una∧ZdC e1 now=true then again e1 now
    else ZbJ e1 now
section
variable {θ:Sto} {l:Nat} {e:ZN} {now n k:Int}
@[simp] theorem ZsS {r:Int} (h:l+3 < θ.length):Zbt [.ref l,.int r] (upE θ l e)=.ok (Zfe e r).1.d (upE θ l (Zfe e r).2):=by
  have em:(if ZcH e<zz e then (if r<ZcH e then r else ZcH e) else (if r<zz e then r else zz e))=ZgL e r:=rfl
  by_cases c:ZcH { e with nxt:=zY e.nxt (ZgL e r) }=0
  · simp [Zbt,Zdr,h,em]
    simp [Zfe,c,Zdz,Zax,h]
  · simp [Zbt,Zdr,h,em]
    simp [Zfe,c,Zdz,Zax,h]
@[simp] theorem Zub (h:l+3 < θ.length):ZcW [.ref l] (upE θ l e)=.ok (ZiY e).1.d (upE θ l (ZiY e).2):=by
  simp [ZcW,Zgp,h,ZiY,Zdz,Zax,ZcL]
@[simp] theorem Zsg {r:Int} (h:l+3 < θ.length):Zan [.ref l,.int r] (upE θ l e)=.ok (ZbQ e r).1.d (upE θ l (ZbQ e r).2):=by
  have hp:Za8 { e with probes:=false }=Za8 e:=rfl
  by_cases c:Za8 e=true
  · simp [Zan,ZcO,h,ZbQ,c,hp]
  · simp [Zan,ZcO,h,ZbQ,c,hp]
@[simp] theorem Zua (h:l+3 < θ.length):Zb8 [.ref l,.int now] (upE θ l e)=.ok (ZdW e now).1.d (upE θ l (ZdW e now).2):=by
  by_cases c:e.nxt=e.una
  · simp [Zb8,Zd6,ZcN,h,ZdW,c,zL]
  · simp [Zb8,Zd6,ZcN,h,ZdW,c]
theorem Zce (h:l+3 < θ.length):Z0 [.ref l,.int now] (upE θ l e)=.ok (ZaD (zA e now).1) (upE θ l (zA e now).2):=by
  by_cases c1:e.state=.synSent∨e.state=.synCome
  · by_cases c2:e.nxt=e.first∨e.owes_syn=true
    · simp [Z0,zB,zh,h,zA,c1,c2,ZaD]
    · simp [Z0,zB,zh,h,zA,c1,c2,ZaD]
  · by_cases c3:e.wnd-Zbx e.nxt e.una≤0
    · simp [Z0,zB,zh,zW,h,zA,c1,c3,ZaD]
    · by_cases c4:Zes e=true
      · by_cases c5:e.nxt=e.una
        · have c3':=c3
          rw [c5] at c3'
          simp [Z0,zB,zh,zW,Za9,h,zA,c1,c3',c4,c5,ZaD,zL]
        · simp [Z0,zB,zh,zW,Za9,h,zA,c1,c3,c4,c5,ZaD]
      · simp [Z0,zB,zh,zW,h,zA,c1,c3,c4,ZaD]
theorem ZcQ (h:l+3 < θ.length):Z3 [.ref l,.int now] (upE θ l e)=.ok (ZaD (zr e now).1) (upE θ l (zr e now).2):=by
  by_cases c1:e.nxt=e.una
  · by_cases c2:e.wnd=0
    · by_cases c3:Zes e=true
      · by_cases c4:e.probes=true
        · by_cases c5:ZdC e now=true
          · simp [Z3,zg,Z6,z9,z8,h,zr,c1,c2,c3,c4,c5,ZaD]
          · simp [Z3,zg,Z6,z9,z8,h,zr,c1,c2,c3,c4,c5,ZaD]
        · have c5:ZdC (zL { e with probes:=true } now) now=false:=by simp [ZdC,zL]
          simp [Z3,zg,Z6,z9,z8,h,zr,c1,c2,c3,c4,ZaD] at c5 ⊢
          simp [c5,ZdC,zL]
      · simp [Z3,zg,Z6,h,zr,c1,c2,c3,ZaD]
    · simp [Z3,zg,Z6,h,zr,c1,c2,ZaD]
  · simp [Z3,zg,Z6,h,zr,c1,ZaD]
theorem Ze4 (h:l+3 < θ.length):zK [.ref l] (upE θ l e)=.ok (ZaD (Zay e).1) (upE θ l (Zay e).2):=by
  by_cases c:e.owes_answer=true
  · simp [zK,ZaY,ZaC,h,Zay,c,ZaD,ZcL,Zdz,Zax]
  · simp [zK,ZaY,ZaC,h,Zay,c,ZaD]
@[simp] theorem Zue:ZaD none=.non:=rfl
@[simp] theorem Znh (s:Seg):ZaD (some s)=s.d:=rfl
@[simp] theorem Zv2 (s:Seg):zZ s.d=false:=rfl
@[simp] theorem Zui:zZ .non=true:=nr rfl
@[simp] theorem Zsl (h:l+3 < θ.length) (e:ZN):Z1 ["End"] "owed_reset" .non (.ref l) (upE θ l e)=some (upE θ l { e with owed_reset:=none }):=Ze6 h e none
@[simp] theorem Zsk (h:l+3 < θ.length) (e:ZN) (s:Seg):Z1 ["End"] "owed_reset" s.d (.ref l) (upE θ l e)=some (upE θ l { e with owed_reset:=some s }):=Ze6 h e (some s)
theorem Zh4 (h:l+3 < θ.length) (x:Sl):thenS (ZL 2 (mCB Z0 (Zc (Zd 0) (Zc (Zd 1) Zk))) [.val (.ref l),.val (.int now),x] (upE θ l e)) (Zo Zbf (Zo Zbe (ZQ (Zd 2)))) =
    .ok (.rt (ZaD (ZbJ e now).1),[.val (.ref l),.val (.int now),.val (ZaD (ZbJ e now).1)]) (upE θ l (ZbJ e now).2):=by
  unfold ZbJ
  cases c1:zA e now with
  | mk r1 e1=>
    cases r1 with
    | some s=>simp [h,Zce,c1,Zbf,Zbe]
    | none=>
      cases c2:zr e1 now with
      | mk r2 e2=>
        cases r2 with
        | some s=>simp [h,Zce,c1,Zbf,Zbe,ZcQ,c2]
        | none=>simp [h,Zce,c1,Zbf,Zbe,ZcQ,c2,Ze4]
theorem Zmo (h:l+3 < θ.length):Zdk [.ref l,.int now] (upE θ l e)=.ok (ZaD (ZbR e now).1) (upE θ l (ZbR e now).2):=by
  cases c0:e.owed_reset with
  | some s=>simp [Zdk,Zev,ZcB,h,ZbR,c0,Zb3,Zd4]
  | none=>
    have key:∀e1:ZN,(thenS (Zbg [.val (.ref l),.val (.int now),.no] (upE θ l e1)) (Zo ZbS (Zo (ZL 2 (mCB Z0 (Zc (Zd 0) (Zc (Zd 1) Zk)))) (Zo Zbf (Zo Zbe (ZQ (Zd 2))))))).bind (fun p θ=>match p.1 with | .nx=>.ok .non θ | .rt d=>.ok d θ | _=>.bad) =
        .ok (ZaD (if e1.state=.closed∨e1.state=.listen then (none,e1) else if ¬e1.nxt=e1.una∧ZdC e1 now=true then again e1 now else ZbJ e1 now).1) (upE θ l (if e1.state=.closed∨e1.state=.listen then (none,e1) else if ¬e1.nxt=e1.una∧ZdC e1 now=true then again e1 now else ZbJ e1 now).2):=fun e1=>by
      by_cases c1:e1.state=.closed∨e1.state=.listen
      · simp [Zbg,h,c1]
      · by_cases c2:e1.nxt=e1.una
        · have g:=Zh4 (e:=e1) (now:=now) h .no
          simp at g
          simp [Zbg,ZbS,h,c1,c2]
          rw [g]
          simp
        · by_cases c3:ZdC e1 now=true
          · simp [Zbg,ZbS,h,c1,c2,c3,Zq5]
          · have g:=Zh4 (e:=e1) (now:=now) h .no
            simp at g
            simp [Zbg,ZbS,h,c1,c2,c3]
            rw [g]
            simp
    by_cases c1:e.state=.timeWait∧120000≤now-e.since
    · have:=key { e with state:=.closed }
      simp [Zdk,Zev,ZcB,Zd9,h,ZbR,c0,c1] at this ⊢
      exact this
    · have:=key e
      simp [Zdk,Zev,ZcB,Zd9,h,ZbR,c0,c1] at this ⊢
      exact this
def ZiH (e:ZN) (now:Int):List Int:=match (ZbR e now).1 with
  | none=>[]
  | some s=>putL s
theorem ZsQ (h:l+3 < θ.length) (hp:∀s,(ZbR e now).1=some s→s.Put):ZeM [.ref l,.int now] (upE θ l e)=.ok (il (ZiH e now)) (upE θ l (ZbR e now).2):=by
  unfold ZiH
  cases c:(ZbR e now).1 with
  | none=>simp [ZeM,Zhy,Zmo,h,c,ZcL]
  | some s=>simp [ZeM,Zhy,Zmo,h,c,Zse (hp s c)]
def newEnd (ours theirs first:Int) (active:Bool):ZN:=⟨ours,theirs,if active then .synSent else .listen,.none,first,first,first,0,0,0,0,12,[],[],[],none,false,zY first 1,none,false,false,false,0,1000,0⟩
def cells (l:Nat) (e:ZN):Sto:=[c0 l e,c1 e,c2 e,c3 e]
theorem ZnE (θ r:Sto) (C:Str) (fs:List (Str×D)):Zco (θ++.ins C fs::r) (.ref θ.length)=some (θ.length,C,fs):=by
  show (match (θ++.ins C fs::r)[θ.length]? with | some (Cell.ins C fs)=>some (θ.length,C,fs) | _=>none)=_
  rw [List.getElem?_append_right (Nat.le_refl _),Nat.sub_self]
  rfl
theorem Zh9 {f:Str} {y:D}:∀{fs:List (Str×D)},(fs.map Prod.fst).contains f=false→Zau f y fs=fs++[(f,y)]
  | [],_=>rfl
  | (g,x)::r,h=>by
    rw [List.map_cons,List.contains_cons,Bool.or_eq_false_iff] at h
    have hn:¬g=f:=fun e=>by rw [e,beq_self_eq_true] at h; cases h.1
    unfold Zau
    rw [if_neg hn,Zh9 h.2]
    rfl
theorem ZV {C f:Str} {y:D} (θ r:Sto) {fs:List (Str×D)} (h0:[C].contains C=true) (h1:(fs.map Prod.fst).contains f=false) (h2:fs.length<1000):Z1 [C] f y (.ref θ.length) (θ++.ins C fs::r)=some (θ++.ins C (fs++[(f,y)])::r):=by
  unfold Z1
  rw [ZnE]
  simp only [h0]
  rw [if_pos ⟨trivial,h2⟩,Zh9 h1]
  congr 1
  rw [List.set_append,if_neg (Nat.lt_irrefl _),Nat.sub_self]
  rfl
theorem ZmK (S:Sto):mkG "Pile" Zbc [] S=.ok (.ref S.length) (S++[.ins "Pile" [("row",il [])]]):=by
  have:=ZV (C:="Pile") (f:="row") (y:=il []) S [] (fs:=[]) (by decide +kernel) rfl (by decide)
  simp [mkG,Zbc,ZeK,ZcL,this]
theorem Zp4 (θ r:Sto) (y:D):Z1 ["End"] "ours" y (.ref θ.length) (θ++.ins "End" []::r)=some (θ++.ins "End" [("ours",y)]::r):=ZV θ r ce (by simp only [List.map_cons,List.map_nil]; decide +kernel) (by simp only [List.length_cons,List.length_nil]; decide)
theorem Zk5 (θ r:Sto) (x0 y:D):Z1 ["End"] "theirs" y (.ref θ.length) (θ++.ins "End" [("ours",x0)]::r)=some (θ++.ins "End" [("ours",x0),("theirs",y)]::r):=ZV θ r ce (by simp only [List.map_cons,List.map_nil]; decide +kernel) (by simp only [List.length_cons,List.length_nil]; decide)
theorem ZmC (θ r:Sto) (x0 x1 y:D):Z1 ["End"] "state" y (.ref θ.length) (θ++.ins "End" [("ours",x0),("theirs",x1)]::r)=some (θ++.ins "End" [("ours",x0),("theirs",x1),("state",y)]::r):=ZV θ r ce (by simp only [List.map_cons,List.map_nil]; decide +kernel) (by simp only [List.length_cons,List.length_nil]; decide)
theorem ZmG (θ r:Sto) (x0 x1 x2 y:D):Z1 ["End"] "error" y (.ref θ.length) (θ++.ins "End" [("ours",x0),("theirs",x1),("state",x2)]::r)=some (θ++.ins "End" [("ours",x0),("theirs",x1),("state",x2),("error",y)]::r):=ZV θ r ce (by simp only [List.map_cons,List.map_nil]; decide +kernel) (by simp only [List.length_cons,List.length_nil]; decide)
theorem ZmF (θ r:Sto) (x0 x1 x2 x3 y:D):Z1 ["End"] "first" y (.ref θ.length) (θ++.ins "End" [("ours",x0),("theirs",x1),("state",x2),("error",x3)]::r)=some (θ++.ins "End" [("ours",x0),("theirs",x1),("state",x2),("error",x3),("first",y)]::r):=ZV θ r ce (by simp only [List.map_cons,List.map_nil]; decide +kernel) (by simp only [List.length_cons,List.length_nil]; decide)
theorem Zsq (θ r:Sto) (x0 x1 x2 x3 x4 y:D):Z1 ["End"] "una" y (.ref θ.length) (θ++.ins "End" [("ours",x0),("theirs",x1),("state",x2),("error",x3),("first",x4)]::r)=some (θ++.ins "End" [("ours",x0),("theirs",x1),("state",x2),("error",x3),("first",x4),("una",y)]::r):=ZV θ r ce (by simp only [List.map_cons,List.map_nil]; decide +kernel) (by simp only [List.length_cons,List.length_nil]; decide)
theorem Zss (θ r:Sto) (x0 x1 x2 x3 x4 x5 y:D):Z1 ["End"] "nxt" y (.ref θ.length) (θ++.ins "End" [("ours",x0),("theirs",x1),("state",x2),("error",x3),("first",x4),("una",x5)]::r)=some (θ++.ins "End" [("ours",x0),("theirs",x1),("state",x2),("error",x3),("first",x4),("una",x5),("nxt",y)]::r):=ZV θ r ce (by simp only [List.map_cons,List.map_nil]; decide +kernel) (by simp only [List.length_cons,List.length_nil]; decide)
theorem Zsr (θ r:Sto) (x0 x1 x2 x3 x4 x5 x6 y:D):Z1 ["End"] "rcv" y (.ref θ.length) (θ++.ins "End" [("ours",x0),("theirs",x1),("state",x2),("error",x3),("first",x4),("una",x5),("nxt",x6)]::r)=some (θ++.ins "End" [("ours",x0),("theirs",x1),("state",x2),("error",x3),("first",x4),("una",x5),("nxt",x6),("rcv",y)]::r):=ZV θ r ce (by simp only [List.map_cons,List.map_nil]; decide +kernel) (by simp only [List.length_cons,List.length_nil]; decide)
theorem Zsp (θ r:Sto) (x0 x1 x2 x3 x4 x5 x6 x7 y:D):Z1 ["End"] "wnd" y (.ref θ.length) (θ++.ins "End" [("ours",x0),("theirs",x1),("state",x2),("error",x3),("first",x4),("una",x5),("nxt",x6),("rcv",x7)]::r)=some (θ++.ins "End" [("ours",x0),("theirs",x1),("state",x2),("error",x3),("first",x4),("una",x5),("nxt",x6),("rcv",x7),("wnd",y)]::r):=ZV θ r ce (by simp only [List.map_cons,List.map_nil]; decide +kernel) (by simp only [List.length_cons,List.length_nil]; decide)
theorem Zp3 (θ r:Sto) (x0 x1 x2 x3 x4 x5 x6 x7 x8 y:D):Z1 ["End"] "told" y (.ref θ.length) (θ++.ins "End" [("ours",x0),("theirs",x1),("state",x2),("error",x3),("first",x4),("una",x5),("nxt",x6),("rcv",x7),("wnd",x8)]::r)=some (θ++.ins "End" [("ours",x0),("theirs",x1),("state",x2),("error",x3),("first",x4),("una",x5),("nxt",x6),("rcv",x7),("wnd",x8),("told",y)]::r):=ZV θ r ce (by simp only [List.map_cons,List.map_nil]; decide +kernel) (by simp only [List.length_cons,List.length_nil]; decide)
theorem Zic (θ r:Sto) (x0 x1 x2 x3 x4 x5 x6 x7 x8 x9 y:D):Z1 ["End"] "told_by" y (.ref θ.length) (θ++.ins "End" [("ours",x0),("theirs",x1),("state",x2),("error",x3),("first",x4),("una",x5),("nxt",x6),("rcv",x7),("wnd",x8),("told",x9)]::r)=some (θ++.ins "End" [("ours",x0),("theirs",x1),("state",x2),("error",x3),("first",x4),("una",x5),("nxt",x6),("rcv",x7),("wnd",x8),("told",x9),("told_by",y)]::r):=ZV θ r ce (by simp only [List.map_cons,List.map_nil]; decide +kernel) (by simp only [List.length_cons,List.length_nil]; decide)
theorem Zp5 (θ r:Sto) (x0 x1 x2 x3 x4 x5 x6 x7 x8 x9 x10 y:D):Z1 ["End"] "most" y (.ref θ.length) (θ++.ins "End" [("ours",x0),("theirs",x1),("state",x2),("error",x3),("first",x4),("una",x5),("nxt",x6),("rcv",x7),("wnd",x8),("told",x9),("told_by",x10)]::r)=some (θ++.ins "End" [("ours",x0),("theirs",x1),("state",x2),("error",x3),("first",x4),("una",x5),("nxt",x6),("rcv",x7),("wnd",x8),("told",x9),("told_by",x10),("most",y)]::r):=ZV θ r ce (by simp only [List.map_cons,List.map_nil]; decide +kernel) (by simp only [List.length_cons,List.length_nil]; decide)
theorem Zib (θ r:Sto) (x0 x1 x2 x3 x4 x5 x6 x7 x8 x9 x10 x11 y:D):Z1 ["End"] "written" y (.ref θ.length) (θ++.ins "End" [("ours",x0),("theirs",x1),("state",x2),("error",x3),("first",x4),("una",x5),("nxt",x6),("rcv",x7),("wnd",x8),("told",x9),("told_by",x10),("most",x11)]::r)=some (θ++.ins "End" [("ours",x0),("theirs",x1),("state",x2),("error",x3),("first",x4),("una",x5),("nxt",x6),("rcv",x7),("wnd",x8),("told",x9),("told_by",x10),("most",x11),("written",y)]::r):=ZV θ r ce (by simp only [List.map_cons,List.map_nil]; decide +kernel) (by simp only [List.length_cons,List.length_nil]; decide)
theorem Zp6 (θ r:Sto) (x0 x1 x2 x3 x4 x5 x6 x7 x8 x9 x10 x11 x12 y:D):Z1 ["End"] "come" y (.ref θ.length) (θ++.ins "End" [("ours",x0),("theirs",x1),("state",x2),("error",x3),("first",x4),("una",x5),("nxt",x6),("rcv",x7),("wnd",x8),("told",x9),("told_by",x10),("most",x11),("written",x12)]::r)=some (θ++.ins "End" [("ours",x0),("theirs",x1),("state",x2),("error",x3),("first",x4),("una",x5),("nxt",x6),("rcv",x7),("wnd",x8),("told",x9),("told_by",x10),("most",x11),("written",x12),("come",y)]::r):=ZV θ r ce (by simp only [List.map_cons,List.map_nil]; decide +kernel) (by simp only [List.length_cons,List.length_nil]; decide)
theorem ZmH (θ r:Sto) (x0 x1 x2 x3 x4 x5 x6 x7 x8 x9 x10 x11 x12 x13 y:D):Z1 ["End"] "early" y (.ref θ.length) (θ++.ins "End" [("ours",x0),("theirs",x1),("state",x2),("error",x3),("first",x4),("una",x5),("nxt",x6),("rcv",x7),("wnd",x8),("told",x9),("told_by",x10),("most",x11),("written",x12),("come",x13)]::r)=some (θ++.ins "End" [("ours",x0),("theirs",x1),("state",x2),("error",x3),("first",x4),("una",x5),("nxt",x6),("rcv",x7),("wnd",x8),("told",x9),("told_by",x10),("most",x11),("written",x12),("come",x13),("early",y)]::r):=ZV θ r ce (by simp only [List.map_cons,List.map_nil]; decide +kernel) (by simp only [List.length_cons,List.length_nil]; decide)
theorem Zgi (θ r:Sto) (x0 x1 x2 x3 x4 x5 x6 x7 x8 x9 x10 x11 x12 x13 x14 y:D):Z1 ["End"] "early_fin" y (.ref θ.length) (θ++.ins "End" [("ours",x0),("theirs",x1),("state",x2),("error",x3),("first",x4),("una",x5),("nxt",x6),("rcv",x7),("wnd",x8),("told",x9),("told_by",x10),("most",x11),("written",x12),("come",x13),("early",x14)]::r)=some (θ++.ins "End" [("ours",x0),("theirs",x1),("state",x2),("error",x3),("first",x4),("una",x5),("nxt",x6),("rcv",x7),("wnd",x8),("told",x9),("told_by",x10),("most",x11),("written",x12),("come",x13),("early",x14),("early_fin",y)]::r):=ZV θ r ce (by simp only [List.map_cons,List.map_nil]; decide +kernel) (by simp only [List.length_cons,List.length_nil]; decide)
theorem Zfb (θ r:Sto) (x0 x1 x2 x3 x4 x5 x6 x7 x8 x9 x10 x11 x12 x13 x14 x15 y:D):Z1 ["End"] "has_closed" y (.ref θ.length) (θ++.ins "End" [("ours",x0),("theirs",x1),("state",x2),("error",x3),("first",x4),("una",x5),("nxt",x6),("rcv",x7),("wnd",x8),("told",x9),("told_by",x10),("most",x11),("written",x12),("come",x13),("early",x14),("early_fin",x15)]::r)=some (θ++.ins "End" [("ours",x0),("theirs",x1),("state",x2),("error",x3),("first",x4),("una",x5),("nxt",x6),("rcv",x7),("wnd",x8),("told",x9),("told_by",x10),("most",x11),("written",x12),("come",x13),("early",x14),("early_fin",x15),("has_closed",y)]::r):=ZV θ r ce (by simp only [List.map_cons,List.map_nil]; decide +kernel) (by simp only [List.length_cons,List.length_nil]; decide)
theorem Zk7 (θ r:Sto) (x0 x1 x2 x3 x4 x5 x6 x7 x8 x9 x10 x11 x12 x13 x14 x15 x16 y:D):Z1 ["End"] "behind" y (.ref θ.length) (θ++.ins "End" [("ours",x0),("theirs",x1),("state",x2),("error",x3),("first",x4),("una",x5),("nxt",x6),("rcv",x7),("wnd",x8),("told",x9),("told_by",x10),("most",x11),("written",x12),("come",x13),("early",x14),("early_fin",x15),("has_closed",x16)]::r)=some (θ++.ins "End" [("ours",x0),("theirs",x1),("state",x2),("error",x3),("first",x4),("una",x5),("nxt",x6),("rcv",x7),("wnd",x8),("told",x9),("told_by",x10),("most",x11),("written",x12),("come",x13),("early",x14),("early_fin",x15),("has_closed",x16),("behind",y)]::r):=ZV θ r ce (by simp only [List.map_cons,List.map_nil]; decide +kernel) (by simp only [List.length_cons,List.length_nil]; decide)
theorem Ze9 (θ r:Sto) (x0 x1 x2 x3 x4 x5 x6 x7 x8 x9 x10 x11 x12 x13 x14 x15 x16 x17 y:D):Z1 ["End"] "owed_reset" y (.ref θ.length) (θ++.ins "End" [("ours",x0),("theirs",x1),("state",x2),("error",x3),("first",x4),("una",x5),("nxt",x6),("rcv",x7),("wnd",x8),("told",x9),("told_by",x10),("most",x11),("written",x12),("come",x13),("early",x14),("early_fin",x15),("has_closed",x16),("behind",x17)]::r)=some (θ++.ins "End" [("ours",x0),("theirs",x1),("state",x2),("error",x3),("first",x4),("una",x5),("nxt",x6),("rcv",x7),("wnd",x8),("told",x9),("told_by",x10),("most",x11),("written",x12),("come",x13),("early",x14),("early_fin",x15),("has_closed",x16),("behind",x17),("owed_reset",y)]::r):=ZV θ r ce (by simp only [List.map_cons,List.map_nil]; decide +kernel) (by simp only [List.length_cons,List.length_nil]; decide)
theorem Zg8 (θ r:Sto) (x0 x1 x2 x3 x4 x5 x6 x7 x8 x9 x10 x11 x12 x13 x14 x15 x16 x17 x18 y:D):Z1 ["End"] "owes_syn" y (.ref θ.length) (θ++.ins "End" [("ours",x0),("theirs",x1),("state",x2),("error",x3),("first",x4),("una",x5),("nxt",x6),("rcv",x7),("wnd",x8),("told",x9),("told_by",x10),("most",x11),("written",x12),("come",x13),("early",x14),("early_fin",x15),("has_closed",x16),("behind",x17),("owed_reset",x18)]::r)=some (θ++.ins "End" [("ours",x0),("theirs",x1),("state",x2),("error",x3),("first",x4),("una",x5),("nxt",x6),("rcv",x7),("wnd",x8),("told",x9),("told_by",x10),("most",x11),("written",x12),("come",x13),("early",x14),("early_fin",x15),("has_closed",x16),("behind",x17),("owed_reset",x18),("owes_syn",y)]::r):=ZV θ r ce (by simp only [List.map_cons,List.map_nil]; decide +kernel) (by simp only [List.length_cons,List.length_nil]; decide)
theorem ZeF (θ r:Sto) (x0 x1 x2 x3 x4 x5 x6 x7 x8 x9 x10 x11 x12 x13 x14 x15 x16 x17 x18 x19 y:D):Z1 ["End"] "owes_answer" y (.ref θ.length) (θ++.ins "End" [("ours",x0),("theirs",x1),("state",x2),("error",x3),("first",x4),("una",x5),("nxt",x6),("rcv",x7),("wnd",x8),("told",x9),("told_by",x10),("most",x11),("written",x12),("come",x13),("early",x14),("early_fin",x15),("has_closed",x16),("behind",x17),("owed_reset",x18),("owes_syn",x19)]::r)=some (θ++.ins "End" [("ours",x0),("theirs",x1),("state",x2),("error",x3),("first",x4),("una",x5),("nxt",x6),("rcv",x7),("wnd",x8),("told",x9),("told_by",x10),("most",x11),("written",x12),("come",x13),("early",x14),("early_fin",x15),("has_closed",x16),("behind",x17),("owed_reset",x18),("owes_syn",x19),("owes_answer",y)]::r):=ZV θ r ce (by simp only [List.map_cons,List.map_nil]; decide +kernel) (by simp only [List.length_cons,List.length_nil]; decide)
theorem Zk6 (θ r:Sto) (x0 x1 x2 x3 x4 x5 x6 x7 x8 x9 x10 x11 x12 x13 x14 x15 x16 x17 x18 x19 x20 y:D):Z1 ["End"] "probes" y (.ref θ.length) (θ++.ins "End" [("ours",x0),("theirs",x1),("state",x2),("error",x3),("first",x4),("una",x5),("nxt",x6),("rcv",x7),("wnd",x8),("told",x9),("told_by",x10),("most",x11),("written",x12),("come",x13),("early",x14),("early_fin",x15),("has_closed",x16),("behind",x17),("owed_reset",x18),("owes_syn",x19),("owes_answer",x20)]::r)=some (θ++.ins "End" [("ours",x0),("theirs",x1),("state",x2),("error",x3),("first",x4),("una",x5),("nxt",x6),("rcv",x7),("wnd",x8),("told",x9),("told_by",x10),("most",x11),("written",x12),("come",x13),("early",x14),("early_fin",x15),("has_closed",x16),("behind",x17),("owed_reset",x18),("owes_syn",x19),("owes_answer",x20),("probes",y)]::r):=ZV θ r ce (by simp only [List.map_cons,List.map_nil]; decide +kernel) (by simp only [List.length_cons,List.length_nil]; decide)
theorem ZmD (θ r:Sto) (x0 x1 x2 x3 x4 x5 x6 x7 x8 x9 x10 x11 x12 x13 x14 x15 x16 x17 x18 x19 x20 x21 y:D):Z1 ["End"] "since" y (.ref θ.length) (θ++.ins "End" [("ours",x0),("theirs",x1),("state",x2),("error",x3),("first",x4),("una",x5),("nxt",x6),("rcv",x7),("wnd",x8),("told",x9),("told_by",x10),("most",x11),("written",x12),("come",x13),("early",x14),("early_fin",x15),("has_closed",x16),("behind",x17),("owed_reset",x18),("owes_syn",x19),("owes_answer",x20),("probes",x21)]::r)=some (θ++.ins "End" [("ours",x0),("theirs",x1),("state",x2),("error",x3),("first",x4),("una",x5),("nxt",x6),("rcv",x7),("wnd",x8),("told",x9),("told_by",x10),("most",x11),("written",x12),("come",x13),("early",x14),("early_fin",x15),("has_closed",x16),("behind",x17),("owed_reset",x18),("owes_syn",x19),("owes_answer",x20),("probes",x21),("since",y)]::r):=ZV θ r ce (by simp only [List.map_cons,List.map_nil]; decide +kernel) (by simp only [List.length_cons,List.length_nil]; decide)
theorem Zp2 (θ r:Sto) (x0 x1 x2 x3 x4 x5 x6 x7 x8 x9 x10 x11 x12 x13 x14 x15 x16 x17 x18 x19 x20 x21 x22 y:D):Z1 ["End"] "wait" y (.ref θ.length) (θ++.ins "End" [("ours",x0),("theirs",x1),("state",x2),("error",x3),("first",x4),("una",x5),("nxt",x6),("rcv",x7),("wnd",x8),("told",x9),("told_by",x10),("most",x11),("written",x12),("come",x13),("early",x14),("early_fin",x15),("has_closed",x16),("behind",x17),("owed_reset",x18),("owes_syn",x19),("owes_answer",x20),("probes",x21),("since",x22)]::r)=some (θ++.ins "End" [("ours",x0),("theirs",x1),("state",x2),("error",x3),("first",x4),("una",x5),("nxt",x6),("rcv",x7),("wnd",x8),("told",x9),("told_by",x10),("most",x11),("written",x12),("come",x13),("early",x14),("early_fin",x15),("has_closed",x16),("behind",x17),("owed_reset",x18),("owes_syn",x19),("owes_answer",x20),("probes",x21),("since",x22),("wait",y)]::r):=ZV θ r ce (by simp only [List.map_cons,List.map_nil]; decide +kernel) (by simp only [List.length_cons,List.length_nil]; decide)
theorem ZmB (θ r:Sto) (x0 x1 x2 x3 x4 x5 x6 x7 x8 x9 x10 x11 x12 x13 x14 x15 x16 x17 x18 x19 x20 x21 x22 x23 y:D):Z1 ["End"] "tries" y (.ref θ.length) (θ++.ins "End" [("ours",x0),("theirs",x1),("state",x2),("error",x3),("first",x4),("una",x5),("nxt",x6),("rcv",x7),("wnd",x8),("told",x9),("told_by",x10),("most",x11),("written",x12),("come",x13),("early",x14),("early_fin",x15),("has_closed",x16),("behind",x17),("owed_reset",x18),("owes_syn",x19),("owes_answer",x20),("probes",x21),("since",x22),("wait",x23)]::r)=some (θ++.ins "End" [("ours",x0),("theirs",x1),("state",x2),("error",x3),("first",x4),("una",x5),("nxt",x6),("rcv",x7),("wnd",x8),("told",x9),("told_by",x10),("most",x11),("written",x12),("come",x13),("early",x14),("early_fin",x15),("has_closed",x16),("behind",x17),("owed_reset",x18),("owes_syn",x19),("owes_answer",x20),("probes",x21),("since",x22),("wait",x23),("tries",y)]::r):=ZV θ r ce (by simp only [List.map_cons,List.map_nil]; decide +kernel) (by simp only [List.length_cons,List.length_nil]; decide)
theorem ZsU {a b c:Int} {act:Bool} (θ:Sto):Zbw [.ref θ.length,.int a,.int b,.int c,.bl act] (θ++[.ins "End" []])=.ok .non (θ++cells θ.length (newEnd a b c act)):=by
  cases act with
  | true=>
    simp [Zbw,Zdx,ZmK,Zp4,Zk5,ZmC,ZmG,ZmF,Zsq,Zss,Zsr,Zsp,Zp3,Zic,Zp5,Zib,Zp6,ZmH,Zgi,Zfb,Zk7,Ze9,Zg8,ZeF,Zk6,ZmD,Zp2,ZmB]
    rfl
  | false=>
    simp [Zbw,Zdx,ZmK,Zp4,Zk5,ZmC,ZmG,ZmF,Zsq,Zss,Zsr,Zsp,Zp3,Zic,Zp5,Zib,Zp6,ZmH,Zgi,Zfb,Zk7,Ze9,Zg8,ZeF,Zk6,ZmD,Zp2,ZmB]
    rfl
theorem Zpm {a b c:Int} {act:Bool} (θ:Sto):ZdP [.int a,.int b,.int c,.bl act] θ=.ok (.ref θ.length) (θ++cells θ.length (newEnd a b c act)):=by
  simp [ZdP,Zhz,mkG,ZsU]
end
end
end My
namespace L2
open PySem PySem.Spec PyProof.Rows
open AutoSeq1 (wpAny_loadPart')
theorem ZrS (tp:Addr) (its:Array Value) (k:Nat) (dct:Option Addr) (sl:Array (Option Value)) :
    Meets (Builtin.«enumerate.__new__» ⟨[.type "enumerate",.ref tp],[]⟩) (fun _ R s=>s.heap.get? tp=some { cls:=.type "tuple",dict:=dct,data:=.seq its k,slots:=sl }∧
      R (.ok (.ret (.ref (s.heap.push { cls:=.type "tuple_iterator",data:=.fields #[.ref tp,.int 0 0] }).objs.size)))
        { s with heap:=(s.heap.push { cls:=.type "tuple_iterator",data:=.fields #[.ref tp,.int 0 0] }).push { cls:=.type "enumerate",data:=.fields #[.none,.bool false,.ref s.heap.objs.size,rawInt 0,.none,.none] } }):=by
  refine .of_wp fun prog w A R s h=>?_
  obtain ⟨hp,g,d,tk,os⟩:=s
  obtain ⟨ht,h⟩:=h
  have hsub:=sub_enumerate
  have hT:Heap.IsTuple (Shared.heap ⟨hp,g,d,tk,os⟩) tp its:=⟨_,ht,rfl,k,rfl⟩
  wp_walk using wpAny_loadPart' ht
  refine wpAny_stack_any fun st=>?_
  refine wpAny_pure ?_
  split
  · rename_i c _ _ _ _ _
    cases (c == Value.type "enumerate")<;>(wp_walk using wpAny_loadPart' ht,wpAny_pyIter_tuple hT; exact ⟨_,rfl,h⟩)
  · wp_walk using wpAny_loadPart' ht,wpAny_pyIter_tuple hT; exact ⟨_,rfl,h⟩
section
variable {prog:Program} {w:World} {A:Around} {E:Value→Shared→Prop} {s:Shared}
theorem ZqK {tp:Addr} {its:Array Value} {Q:Value→Shared→Prop} (hT:s.heap.IsTuple tp its)
    (h:∀h',IsEnum h' (s.heap.objs.size+1) s.heap.objs.size 0 .none→h'.IsTupleIter s.heap.objs.size tp 0→h'.objs.size=s.heap.objs.size+2→(∀b o,s.heap.get? b=some o→h'.get? b=some o)→Q (.ref (s.heap.objs.size+1)) { s with heap:=h' }) :
    wpAny (model prog w) A (call (.type "enumerate") [.ref tp]) Q E s:=by
  obtain ⟨⟨c,dct,dt,sl⟩,ht,hc,k,hd⟩:=hT
  cases (show c=.type "tuple" from hc)
  cases (show dt=.seq its k from hd)
  refine callType_new F.called_enumerate (by decide) (F.typeCall_enumerate_1 _) (F.newCall_enumerate_1 _) (fun obj=>F.args_object_init_2 obj _) F.entry_enumerate_new (ZrS tp its k dct sl) ⟨ht,?_⟩
  have hz:(s.heap.push { cls:=.type "tuple_iterator",data:=.fields #[.ref tp,.int 0 0] }).objs.size=s.heap.objs.size+1:=Heap.size_push ..
  show _∧_
  rw [hz]
  have he:IsEnum ((s.heap.push { cls:=.type "tuple_iterator",data:=.fields #[.ref tp,.int 0 0] }).push { cls:=.type "enumerate",data:=.fields #[.none,.bool false,.ref s.heap.objs.size,rawInt 0,.none,.none] }) (s.heap.objs.size+1) s.heap.objs.size 0 .none:=by
    have q:=Heap.get?_push_size (s.heap.push { cls:=.type "tuple_iterator",data:=.fields #[.ref tp,.int 0 0] }) (o:={ cls:=.type "enumerate",data:=.fields #[.none,.bool false,.ref s.heap.objs.size,rawInt 0,.none,.none] }) rfl
    rw [hz] at q
    exact q
  exact ⟨⟨_,he,rfl⟩,h _ he ⟨_,Heap.get?_push_of_some _ (Heap.get?_push_size _ rfl),rfl,rfl⟩ (by rw [Heap.size_push,hz]) fun b o x=>Heap.get?_push_of_some _ (Heap.get?_push_of_some _ x)⟩
theorem ZlV {it tp:Addr} {i:Nat} {its} {x:Value} {Q:Value→Shared→Prop} (hit:s.heap.IsTupleIter it tp i) (ht:s.heap.IsTuple tp its) (hx:its[i]?=some x)
    (hQ:∀h',h'.IsTupleIter it tp (i+1)→Heap.SameBut it s.heap h'→Q x { s with heap:=h' }):wpAny (model prog w) A (Builtin.SmallTypes.nextOf (.ref it)) Q E s:=by
  obtain ⟨o,ho,hc,hd⟩:=id hit
  obtain ⟨ol,hol,_,nl,hdl⟩:=ht
  unfold Builtin.SmallTypes.nextOf
  refine wpAny_bind (wpAny_callSpecial?_slot (name:=Str.ofString "__next__") hit.typeIs F.slot_tuple_iterator_next (wpAny_call_entry F.slot_tuple_iterator_next hit.typeIs F.entry_tuple_iterator_next ?_ (F.args_tuple_iterator_next_1 _)))
  show wpAny _ _ (field (.ref it) 0 >>= _) _ _ s
  refine wpAny_bind (wpAny_field ho hd (x:=.ref tp) rfl ?_)
  rw [if_neg (show ¬((Value.ref tp == Value.none)=true) from Bool.false_ne_true)]
  refine wpAny_bind (wpAny_field ho hd (x:=.int i 0) rfl (wpAny_bind (wpAny_seqItems hol hdl ?_)))
  simp only [Int.toNat_natCast,hx]
  refine wpAny_bind (wpAny_setField ho hd (by simp) (wpAny_pure ⟨x,rfl,wpAny_pure (hQ _ ⟨_,Heap.get?_update_self _ ho (Obj.isFreed_of_fields (Obj.data_mapFields hd _)),(Obj.cls_mapFields ..).trans hc,?_⟩ (Heap.SameBut.update ..))⟩))
  rw [Obj.data_mapFields hd]
  simp [rawInt]
theorem Znq {it tp:Addr} {i:Nat} {its} {Q:Value→Shared→Prop} (hh:A.handled=none) (hit:s.heap.IsTupleIter it tp i) (ht:s.heap.IsTuple tp its) (hx:its[i]?=none)
    (hE:∀h' e,Heap.ExtBut it s.heap h'→(∃o,h'.get? e=some o∧o.cls=.type "StopIteration")→E (.ref e) { s with heap:=h' }):wpAny (model prog w) A (Builtin.SmallTypes.nextOf (.ref it)) Q E s:=by
  obtain ⟨o,ho,hc,hd⟩:=id hit
  obtain ⟨ol,hol,_,nl,hdl⟩:=ht
  unfold Builtin.SmallTypes.nextOf
  refine wpAny_bind (wpAny_callSpecial?_slot (name:=Str.ofString "__next__") hit.typeIs F.slot_tuple_iterator_next (wpAny_call_entry F.slot_tuple_iterator_next hit.typeIs F.entry_tuple_iterator_next ?_ (F.args_tuple_iterator_next_1 _)))
  show wpAny _ _ (field (.ref it) 0 >>= _) _ _ s
  refine wpAny_bind (wpAny_field ho hd (x:=.ref tp) rfl ?_)
  rw [if_neg (show ¬((Value.ref tp == Value.none)=true) from Bool.false_ne_true)]
  refine wpAny_bind (wpAny_field ho hd (x:=.int i 0) rfl (wpAny_bind (wpAny_seqItems hol hdl ?_)))
  simp only [Int.toNat_natCast,hx]
  refine wpAny_bind (wpAny_rule (wpAny_bind (wpAny_setField ho hd (by simp) ?_)))
  refine wpAny_bind (m:=newExc (.type "StopIteration") []) ?_
  simp only [newExc,newTuple]
  refine wpAny_bind (wpAny_newObj_type (wpAny_bind (m:=firstArgMember _ _) (wpAny_of_eq (a:=Value.none) (by first | rfl | (simp only [firstArgMember]; rfl)) (wpAny_newObj_type ?_ (by size_fits)))) (by size_fits))
  simp only [raiseNew]
  refine wpAny_bind (wpAny_handled ?_)
  rw [show A.in1.handled=none from hh]
  exact wpAny_bind (wpAny_pure (wpAny_throw (hE _ _ (((Heap.SameBut.update ..).extBut.push _).push _) ⟨_,Heap.get?_push_size _ rfl,rfl⟩)))
theorem Zqy {e it tp:Addr} {i:Nat} {its:Array Value} {x old:Value} {Q:Value→Shared→Prop} (he:IsEnum s.heap e it i old) (hit:s.heap.IsTupleIter it tp i) (ht:s.heap.IsTuple tp its) (hx:its[i]?=some x) (hne:e≠it)
    (hQ:∀h',IsEnumOut h' e it ((i:Int)+1) x s.heap.objs.size→h'.IsTupleIter it tp (i+1)→h'.get? s.heap.objs.size=some { cls:=.type "tuple",data:=.seq #[.int i s.toks,x] }→h'.objs.size=s.heap.objs.size+1→(∀b o,b≠e→b≠it→s.heap.get? b=some o→h'.get? b=some o)→Q (.ref s.heap.objs.size) { s with heap:=h',toks:=s.toks+1 }) :
    wpAny (model prog w) A (Builtin.«enumerate.__next__» ⟨[.ref e],[]⟩) (fun fin s'=>∃v,fin=.done (.ret v)∧Q v s') E s:=by
  obtain ⟨hp,g,d,tk,os⟩:=s
  show wpAny _ _ (field (.ref e) 2 >>= _) _ _ _
  refine wpAny_bind (wpAny_field he rfl (x:=.ref it) rfl (wpAny_bind (ZlV hit ht hx fun h1 hit1 hs1=>?_)))
  replace hs1:Heap.SameBut it hp h1:=hs1
  have he1:IsEnum h1 e it i old:=(hs1.2 e hne).trans he
  refine wpAny_bind (wpAny_field (s:=⟨h1,g,d,tk,os⟩) he1 rfl (x:=rawInt i) rfl ?_)
  refine wpAny_bind (wpAny_field (s:=⟨h1,g,d,tk,os⟩) he1 rfl (x:=.none) rfl ?_)
  show wpAny _ _ (mkInt i >>= _) _ _ ⟨h1,g,d,tk,os⟩
  refine wpAny_bind (wpAny_mkInt ?_)
  show wpAny _ _ (setField (.ref e) 3 (rawInt ((i:Int)+1)) >>= _) _ _ ⟨h1,g,d,tk+1,os⟩
  refine wpAny_bind (wpAny_setField_rec he1 (by simp) fun h2 he2 hs2=>?_)
  replace hs2:Heap.SameBut e h1 h2:=hs2
  replace he2:IsEnum h2 e it ((i:Int)+1) old:=he2
  show wpAny _ _ (setField (.ref e) 4 .none >>= _) _ _ ⟨h2,g,d,tk+1,os⟩
  refine wpAny_bind (wpAny_setField_rec he2 (by simp) fun h3 he3 hs3=>?_)
  replace hs3:Heap.SameBut e h2 h3:=hs3
  replace he3:IsEnum h3 e it ((i:Int)+1) old:=he3
  show wpAny _ _ (newTuple [.int i tk,x] >>= _) _ _ ⟨h3,g,d,tk+1,os⟩
  refine wpAny_bind (wpAny_newTuple ?_)
  have he4:IsEnum (h3.push { cls:=.type "tuple",data:=.seq #[.int i tk,x] }) e it ((i:Int)+1) old:=Heap.get?_push_of_some _ he3
  obtain ⟨h4,hh4⟩:∃z,z=h3.push { cls:=.type "tuple",data:=.seq #[.int i tk,x] }:=⟨_,rfl⟩
  rw [←hh4] at he4
  have hsz:h3.objs.size=hp.objs.size:=by rw [hs3.1,hs2.1,hs1.1]
  have hel:hp.objs.size≠e:=Nat.ne_of_gt (Heap.lt_size he)
  have ht4:h4.get? hp.objs.size=some { cls:=.type "tuple",data:=.seq #[.int i tk,x] }:=by rw [hh4,←hsz]; exact Heap.get?_push_size _ rfl
  have hz4:h4.objs.size=hp.objs.size+1:=by rw [hh4,Heap.size_push,hsz]
  have hk4:∀b o,b≠e→b≠it→hp.get? b=some o→h4.get? b=some o:=fun b o q1 q2 q3=>by
    rw [hh4]
    exact Heap.get?_push_of_some _ (hs3.extBut b o q1 (hs2.extBut b o q1 (hs1.extBut b o q2 q3)))
  have hit4:h4.IsTupleIter it tp (i+1):=by
    obtain ⟨o,ho,r⟩:=(hit1.extBut hs2.extBut (Ne.symm hne)).extBut hs3.extBut (Ne.symm hne)
    exact ⟨o,by rw [hh4]; exact Heap.get?_push_of_some _ ho,r⟩
  show wpAny _ _ (Builtin.SmallTypes.ownedTupleIsFree (.ref e) >>= _) _ _ ⟨h3.push { cls:=.type "tuple",data:=.seq #[.int i tk,x] },g,d,tk+1,os⟩
  rw [←hh4,hsz]
  refine wpAny_bind ?_
  unfold Builtin.SmallTypes.ownedTupleIsFree
  refine wpAny_bind (wpAny_field he4 rfl (x:=.none) rfl (wpAny_pure ?_))
  simp only [if_true]
  refine wpAny_bind (wpAny_rule (wpAny_bind (wpAny_field he4 rfl (x:=old) rfl (wpAny_bind (wpAny_setField_rec he4 (by simp) fun h5 he5 hs5=>?_)))))
  replace hs5:Heap.SameBut e h4 h5:=hs5
  replace he5:IsEnum h5 e it ((i:Int)+1) x:=he5
  refine wpAny_bind (m:=Builtin.SmallTypes.ownedTupleHandOut (.ref e) (.ref hp.objs.size)) ?_
  unfold Builtin.SmallTypes.ownedTupleHandOut
  refine wpAny_bind (wpAny_setField_rec he5 (by simp) fun h6 he6 hs6=>?_)
  replace hs6:Heap.SameBut e h5 h6:=hs6
  replace he6:IsEnumOut h6 e it ((i:Int)+1) x hp.objs.size:=he6
  refine wpAny_setField_rec he6 (by simp) fun h7 he7 hs7=>?_
  replace hs7:Heap.SameBut e h6 h7:=hs7
  replace he7:IsEnumOut h7 e it ((i:Int)+1) x hp.objs.size:=he7
  have up:∀b o,b≠e→h4.get? b=some o→h7.get? b=some o:=fun b o q1 q2=>hs7.extBut b o q1 (hs6.extBut b o q1 (hs5.extBut b o q1 q2))
  refine wpAny_bind (wpAny_letGo (wpAny_pure ⟨_,rfl,hQ h7 he7 ?_ (up _ _ hel ht4) (by rw [hs7.1,hs6.1,hs5.1,hz4]) fun b o q1 q2 q3=>up b o q1 (hk4 b o q1 q2 q3)⟩))
  obtain ⟨o,ho,r⟩:=hit4
  exact ⟨o,up _ _ (Ne.symm hne) ho,r⟩
theorem Zqz {e it tp:Addr} {i:Nat} {its:Array Value} {x old:Value} {Q:Option Value→Shared→Prop} (he:IsEnum s.heap e it i old) (hit:s.heap.IsTupleIter it tp i) (ht:s.heap.IsTuple tp its) (hx:its[i]?=some x) (hne:e≠it)
    (hQ:∀h',IsEnumOut h' e it ((i:Int)+1) x s.heap.objs.size→h'.IsTupleIter it tp (i+1)→h'.get? s.heap.objs.size=some { cls:=.type "tuple",data:=.seq #[.int i s.toks,x] }→h'.objs.size=s.heap.objs.size+1→(∀b o,b≠e→b≠it→s.heap.get? b=some o→h'.get? b=some o)→Q (some (.ref s.heap.objs.size)) { s with heap:=h',toks:=s.toks+1 }) :
    wpAny (model prog w) A (pyNext (.ref e)) Q E s:=by
  have hT:s.TypeIs (.ref e) "enumerate":=⟨_,he,rfl⟩
  unfold pyNext
  exact wpAny_bind (wpAny_attempt (wpAny_callSpecial?_slot (name:=Str.ofString "__next__") hT F.slot_enumerate_next (wpAny_call_entry F.slot_enumerate_next hT F.entry_enumerate_next (Zqy he hit ht hx hne fun h' a b c d k=>wpAny_pure (hQ h' a b c d k)) (F.args_enumerate_next_1 _))))
theorem ZrT {e it tp:Addr} {i:Nat} {its:Array Value} {old:Value} {Q:Option Value→Shared→Prop} (hh:A.handled=none) (he:IsEnum s.heap e it i old) (hit:s.heap.IsTupleIter it tp i) (ht:s.heap.IsTuple tp its) (hx:its[i]?=none)
    (hQ:∀h',Heap.ExtBut it s.heap h'→Q none { s with heap:=h' }):wpAny (model prog w) A (pyNext (.ref e)) Q E s:=by
  have hT:s.TypeIs (.ref e) "enumerate":=⟨_,he,rfl⟩
  unfold pyNext
  refine wpAny_bind (wpAny_attempt (wpAny_callSpecial?_slot (name:=Str.ofString "__next__") hT F.slot_enumerate_next (wpAny_call_entry F.slot_enumerate_next hT F.entry_enumerate_next ?_ (F.args_enumerate_next_1 _))))
  show wpAny _ _ (field (.ref e) 2 >>= _) _ _ _
  refine wpAny_bind (wpAny_field he rfl (x:=.ref it) rfl (wpAny_bind (Znq hh hit ht hx fun h' x he' hx'=>?_)))
  obtain ⟨o,ho,hc⟩:=hx'
  exact wpAny_bind (wpAny_isInstance (T:="StopIteration") (b:=true) ⟨o,ho,hc⟩ isSubtype_stop (wpAny_pure (hQ _ he')))
def Ite (K:PySem.W.Frag) (a:Addr):It:=
  ⟨fun i H=>∃xs x,SqT K H a xs∧xs[i]?=some x,fun i H x H'=>∃p v,x=.ref p∧H p=none∧H'=upd H p (.tup [.int i,v])∧∀xs,SqT K H a xs→xs[i]?=some v,fun i H=>∃xs,SqT K H a xs∧xs.length≤i⟩
theorem Zpj {P:Program} {w:World} {K:PySem.W.Frag} {es:List Expr} {x1} {pos:Pos} (a e it:Addr) (hne:e≠it) (ha:a≠e) (hb:a≠it):Zmi P w K (.Tuple es x1 pos) (Ite K a) [e,it] e (fun i h=>(∃old,IsEnum h e it i old)∧h.IsTupleIter it a i) where
  mem:=by simp
  obj:=fun i h st b hb=>by
    obtain ⟨⟨old,st1⟩,o,e1,c,d⟩:=st
    have q:b=e∨b=it:=by simpa using hb
    rcases q with rfl | rfl
    · exact ⟨_,st1,fun v z=>by
        have z':Data.fields _=Data.cell v:=z
        cases z'⟩
    · exact ⟨o,e1,fun v z=>by rw [d] at z; cases z⟩
  keep:=fun i h h' st k=>by
    obtain ⟨⟨old,st1⟩,o,e1,r⟩:=st
    exact ⟨⟨old,k e (by simp) _ st1⟩,o,k it (by simp) o e1,r⟩
  item:=by
    intro X hP hw hK hc i pins s σ H E I hf st hg
    subst hP hw hK
    obtain ⟨⟨old,st1⟩,st2⟩:=st
    obtain ⟨xs,x,hq,hx⟩:=hg
    obtain ⟨its,rv,p,hz⟩:=I.tuple hq
    obtain ⟨u,hu,ru⟩:=rv.get hx
    obtain ⟨f0,f1,f2,f3,f4,f5⟩:=hf e (by simp)
    obtain ⟨g0,g1,g2,g3,g4,g5⟩:=hf it (by simp)
    refine Zqz st1 st2 (show s.heap.IsTuple a its.toArray from p) (x:=u) (by simpa using hu) hne fun h' out it' tp' sz' kk=>?_
    have hes:e<s.heap.objs.size:=Heap.lt_size st1
    have his:it<s.heap.objs.size:=by obtain ⟨o,q,_⟩:=st2; exact Heap.lt_size q
    refine ⟨_,rfl,wpAny_letOwnedTupleGo_enum out fun h2 e2 s2=>?_⟩
    replace s2:Heap.SameBut e h' h2:=s2
    have tp2:h2.get? s.heap.objs.size=some { cls:=.type "tuple",data:=.seq #[.int i s.toks,u] }:=s2.extBut _ _ (Nat.ne_of_gt hes) tp'
    have k2:∀b o,b≠e→b≠it→s.heap.get? b=some o→h2.get? b=some o:=fun b o q1 q2 q3=>s2.extBut b o q1 (kk b o q1 q2 q3)
    have hn:H s.heap.objs.size=none:=I.hok.fresh (Nat.le_refl _)
    have nn:∀{b:Addr} {o:HO},H b=some o→b≠s.heap.objs.size:=fun q=>za q hn
    have nch:∀{b:Addr},b∉[e,it]→b≠e∧b≠it:=fun hb=>⟨fun z=>hb (by simp [z]),fun z=>hb (by simp [z])⟩
    have new:ObjOk X.prog X.w (upd H s.heap.objs.size (.tup [.int i,x])) h2 s.heap.objs.size (.tup [.int i,x]):=⟨by show 2≤sizeLine; decide,[.int i s.toks,u],.cons ⟨_,rfl⟩ (.cons ru .nil),⟨_,tp2,rfl,_,rfl⟩⟩
    have I1:Inv X pins σ (upd H s.heap.objs.size (.tup [.int i,x])) { s with heap:=h2,toks:=s.toks+1 }:=by
      refine I.step (g':=s.gens) (d':=s.drawn) (ch:=[e,it]) (fun b hb=>?_) (fun b o _ _ hc e' _=>k2 b o (nch hc).1 (nch hc).2 e') (fun b o _ _ hc e' _=>⟨o.slots,k2 b o (nch hc).1 (nch hc).2 e'⟩) (fun b o _ e' n=>by rw [ZT (Nat.ne_of_lt (Heap.lt_size e'))]; exact n)
        (fun b o hc e'=>⟨o,k2 b o (nch hc).1 (nch hc).2 e'⟩) (fun b _ q=>by rw [ZT (nn q)]; exact q) (fun b _ _ q=>by rw [ZT (nn q)]; exact q) (fun b ps q=>⟨#[],by rw [ZT (nn q),q]; simp⟩) (fun m hm=>?_) (fun b v q=>?_) I.bare
      · have z:b=e∨b=it:=by simpa using hb
        rcases z with rfl | rfl
        · exact ⟨f3,f1,f4,f5⟩
        · exact ⟨g3,g1,g4,g5⟩
      · obtain ⟨o,es,ep,ho,r⟩:=hm
        exact ⟨o,es,ep,k2 _ o (Ne.symm f1) (Ne.symm g1) ho,r⟩
      · by_cases hb:b=s.heap.objs.size
        · subst hb; rw [Z4] at q; cases q; exact new
        · rw [ZT hb] at q
          refine (I.hok b v q).stay (fun c o hc z=>k2 c o ?_ ?_ z) (fun c z=>by rw [ZT (nn z)]; exact z) fun c _ z=>by rw [ZT (nn z)]; exact z
          · rcases hc with z | z
            · rw [z]; exact fun y=>by rw [y,f0] at q; cases q
            · exact fun y=>by rw [y,f0] at z; cases z
          · rcases hc with z | z
            · rw [z]; exact fun y=>by rw [y,g0] at q; cases q
            · exact fun y=>by rw [y,g0] at z; cases z
    refine ⟨.ref s.heap.objs.size,_,I1,rfl,⟨_,x,rfl,hn,rfl,fun ys hy=>by rw [I.tuple_inj hy hq]; exact hx⟩,⟨⟨_,by simpa using e2⟩,?_⟩,fun b hb=>?_⟩
    · obtain ⟨o,q,r⟩:=it'
      exact ⟨o,s2.extBut _ _ (Ne.symm hne) q,r⟩
    · have z:b=e∨b=it:=by simpa using hb
      rcases z with rfl | rfl
      · rw [ZT (Nat.ne_of_lt hes)]; exact f0
      · rw [ZT (Nat.ne_of_lt his)]; exact g0
  done:=by
    intro X hP hw hK hc i pins s σ H E I hf st hg
    subst hP hw hK
    obtain ⟨⟨old,st1⟩,st2⟩:=st
    obtain ⟨xs,hq,hx⟩:=hg
    obtain ⟨its,rv,p,hz⟩:=I.tuple hq
    obtain ⟨f0,f1,f2,f3,f4,f5⟩:=hf it (by simp)
    have hl:=rv.length
    exact ZrT (I.ok.hd hc) st1 st2 (show s.heap.IsTuple a its.toArray from p) (by simp; omega) fun h' eb=>⟨rfl,I.turned (t':=s.toks) (fun b o hb e=>eb b o hb e) f0 f1 f3 f4 f5⟩
  self:=fun _ _ _ _ _ st h=>by
    obtain ⟨⟨old,st1⟩,_⟩:=st
    exact wpAny_pyIter_enum st1 h
end
end L2
namespace L2
open PySem PySem.Spec PyProof.Rows
section
variable {X:Cx}
def ZyH (K:PySem.W.Frag) (ta:TA):TI:=fun σ H R=>ta σ H fun vs H1=>∃a,vs=[.ref a]∧(∃xs,SqT K H1 a xs)∧R (Ite K a) H1
theorem Zti {l:Expr} {ta:TA} {es:List Expr} {x1} {p pos tp:Pos} (hg:Gl X "enumerate") (hm:X.mg "enumerate"=none) (ha:PA X [l] ta) (hs:starEach [l] X.env=[(false,eval l X.env)]:=by rfl):PI X (.Tuple es x1 tp) (.Call (.Name "enumerate" p) [l] [] pos) (ZyH X.K ta):=by
  intro pins s σ H R I h
  refine Call_ (Zhj I hg hm boot_enumerate (PyProof.Rows.callWith_type1 (thn (ha pos pins s σ H _ I h) fun us s1 ⟨vs,H1,I1,r1,q1⟩=>?_) hs rfl))
  obtain ⟨a,e,⟨xs,hq⟩,q⟩:=q1
  subst e
  obtain ⟨u,rfl,ru⟩:=Zgg r1
  cases ru
  obtain ⟨its,rv,t1,hz⟩:=I1.tuple hq
  have T1:s1.heap.IsTuple a its.toArray:=t1
  have al:a<s1.heap.objs.size:=by obtain ⟨o,z,_⟩:=T1; exact Heap.lt_size z
  refine ZqK T1 fun h' e' i' z' k'=>wpAny_pyIter_enum (s:={ s1 with heap:=h' }) e' ?_
  have I2:Inv X pins σ H1 { s1 with heap:=h' }:=I1.kept (t':=s1.toks) k'
  refine ⟨s1.heap.objs.size+1,[s1.heap.objs.size+1,s1.heap.objs.size],_,_,H1,rfl,I2,Zpj a _ _ (Nat.succ_ne_self _) (Nat.ne_of_lt (Nat.lt_succ_of_lt al)) (Nat.ne_of_lt al),⟨⟨_,e'⟩,i'⟩,fun b hb=>?_,q⟩
  have z:b=s1.heap.objs.size+1∨b=s1.heap.objs.size:=by simpa using hb
  have hb':s1.heap.objs.size≤b:=z.elim (fun y=>by rw [y]; exact Nat.le_succ _) fun y=>by rw [y]; exact Nat.le_refl _
  exact I1.fpOk hb' (I1.hok.fresh hb')
end
end L2
namespace L2.MM
open PySem PySem.Spec PyProof.Rows
section
variable {X:Cx}
def ZnI (i j:Nat) (body:SM):Nat→List D→SM
  | _,[]=>fun ρ θ=>.ok (.nx,ρ) θ
  | k,x::r=>fun ρ θ=>(body ((ρ.set i (.val (.int (k:Nat)))).set j (.val x)) θ).bind (Zhh (ZnI i j body (k+1) r))
def Zsw (fa:AM) (i j:Nat) (body:SM):SM:=fun ρ θ=>(fa ρ θ).bind fun ds θ=>match ds with
  | [.tup xs]=>ZnI i j body 0 xs ρ θ
  | _=>.bad
theorem ZrD {l:Expr} {body:List Stmt} {fa:AM} {fb:SM} {x y:Str} {x1} {p p1 p2 tp cp pos:Pos} (i j:Nat) (hN:X.N.Nodup) (hp:PassesOwn (model X.prog X.w) X.A X.env X.xe) (hm:X.mg "enumerate"=none) (ha:MA X [l] fa) (hb:MSs X body fb) (hc:X.calm=true:=by rfl)
    (hg:Gl X "enumerate":=by rfl) (hs:starEach [l] X.env=[(false,eval l X.env)]:=by rfl)
    (hi:X.N[i]?=some x:=by rfl) (hx:Loc X.env.scope x:=by first | exact Or.inl rfl | exact Or.inr rfl) (hf:X.fn x=true∨X.env.scope.names.lookup x=some .local:=by first | exact .inl rfl | exact .inr rfl)
    (hj:X.N[j]?=some y:=by rfl) (hy:Loc X.env.scope y:=by first | exact Or.inl rfl | exact Or.inr rfl) (hf':X.fn y=true∨X.env.scope.names.lookup y=some .local:=by first | exact .inl rfl | exact .inr rfl)
    (hse:∀z,foldedSetIterable (.Call (.Name "enumerate" p) [l] [] cp) X.env z=pure z:=by intro _; rfl)
    (ha1:(assignEach [.Name x p1,.Name y p2] X.env).map (·.2)=assign (.Name x p1) X.env::(assignEach [.Name y p2] X.env).map (·.2):=by rfl) (ha2:(assignEach [.Name y p2] X.env).map (·.2)=assign (.Name y p2) X.env::(assignEach [] X.env).map (·.2):=by rfl)
    (hn:(assignEach [.Name x p1,.Name y p2] X.env).length=2:=by rfl) (hst:(assignEach [.Name x p1,.Name y p2] X.env).findIdx? (·.1)=none:=by rfl) :
    MS X (.For (.Tuple [.Name x p1,.Name y p2] x1 tp) (.Call (.Name "enumerate" p) [l] [] cp) body [] pos) (Zsw fa i j fb):=
  PS.imp (ZpJ hp hc (Zti hg hm ha hs) (Ztj hc (Zk3 (Zel hN hi hx hf) (Zk3 (Zel hN hj hy hf') Zrp ha2) ha1) hn hst) hb hse) fun Dn σ H h=>by
  obtain ⟨B,θ,ρ,F,w⟩:=h
  refine ZaE (Zpy F w) ?_
  rintro vs H1 ⟨B1,θ1,ds,E1,F1,rd,w1⟩
  split at w1
  · rename_i xs
    obtain ⟨v,rfl,rv⟩:=rd.one
    obtain ⟨a,us,rfl,g1,okA,ru⟩:=rv
    refine ⟨a,rfl,⟨us,SqT.of g1⟩,fun k m σ H=>∃B θ ρ,Frm X.cl B θ ρ σ H∧RepV B H (.tup xs) (.ref a)∧m=xs.length-k∧k≤xs.length∧wpS X σ B H (ZnI i j fb k (xs.drop k) ρ θ) Dn,⟨xs.length,B1,θ1,ρ,F1,⟨a,us,rfl,g1,okA,ru⟩,rfl,Nat.zero_le _,w1⟩,?_⟩
    rintro k m σ2 H2 ⟨B2,θ2,ρ2,F2,rv2,rfl,hk,w2⟩
    obtain ⟨a',us2,e2,g2,ok2,ru2⟩:=id rv2
    cases e2
    by_cases hlt:k<xs.length
    · rw [List.drop_eq_getElem_cons hlt] at w2
      unfold ZnI at w2
      obtain ⟨v,q1,q2⟩:=ru2.get (List.getElem?_eq_getElem hlt)
      refine .inr ⟨⟨us2,v,SqT.of g2,q1⟩,fun σ' H'=>∃B' θ' ρ',ExtS B2 B' H2 H'∧Frm X.cl B' θ' ρ' σ' H'∧wpS X σ' B' H' (ZnI i j fb (k+1) (xs.drop (k+1)) ρ' θ') Dn,?_,fun z H' hz=>?_⟩
      · rintro σ' H' ⟨B',θ',ρ',E',F',w'⟩
        exact ⟨xs.length-(k+1),by omega,B',θ',ρ',F',rv2.ext E',rfl,hlt,w'⟩
      · obtain ⟨t,v',rfl,ht,rfl,hv⟩:=hz
        have:=hv us2 (SqT.of g2)
        rw [q1] at this
        cases this
        have E3:=Zb5 F2.good ht (.tup [.int k,v])
        have F3:=F2.ext E3 (Zd0 F2.good ht (.tup [.int k,v]))
        refine ⟨t,[.int k,v],rfl,SqT.of Z4,rfl,.int k,[v],rfl,v,[],rfl,rfl,?_⟩
        have F4:=(F3.set i (d:=.int (k:Nat)) (v:=.int k) rfl).set j (q2.ext E3.toExtS)
        refine ⟨B2,θ2,_,F4,?_⟩
        exact wpS.trans (wpS.loop w2) E3.toExtS
    · have e:k=xs.length:=by omega
      subst e
      rw [List.drop_length] at w2
      unfold ZnI at w2
      exact .inl ⟨⟨us2,SqT.of g2,by rw [ru2.len]; exact Nat.le_refl _⟩,Zdh F2 w2⟩
  · exact w1.elim
end
end L2.MM
namespace L2
open PySem PySem.Spec PyProof.Rows
section
variable {X:Cx} {pins:List (Addr×Obj)} {σ:St} {H:Hp} {s:Shared} {a:Addr} {kvs:List (Key×V)} {k:Key} {z:V} {u r:Value} {A:Around} {E:Value→Shared→Prop}
theorem ZtQ {Q:Value→Shared→Prop} (I:Inv X pins σ H s) (e:H a=some (.dK kvs)) (ry:RelV (kV k) u) (rz:RelV z r) (hl:kvs.length<sizeLine)
    (h1:∀v w' s',valV kvs k=some v→Inv X pins σ H s'→RelV v w'→Q w' s') (h2:valV kvs k=none→∀s',Inv X pins σ (upd H a (.dK (ZbV kvs k z))) s'→Q r s'):wpAny (model X.prog X.w) A (call (.builtin "dict.setdefault") [.ref a,u,r]) Q E s:=by
  obtain ⟨z1,hd,vs,rel,dd⟩:=ZmV I.hok e
  have hv:vs.length≤sizeLine:=by rw [←rel.length]; exact z1
  refine call_meetsIn PySem.F.slot_dict_setdefault dd.typeIs PySem.F.entry_dict_setdefault (PySem.F.args_dict_setdefault_3 _ _ _) (kt_meets_setdefault (zQ X.prog X.w) a (Zfk ry) hd r) ⟨vs,dd,hv,fun v q=>?_,fun q h' dd' hs=>?_⟩
  · cases l:valV kvs k with
    | none=>
      have:valueAt vs k=none:=RelO.none_of (by rw [←l]; exact rel.val k)
      rw [this] at q
      cases q
    | some v0=>
      obtain ⟨w1,hw,r1⟩:=RelO.some_of (v:=v0) (o:=valueAt vs k) (by rw [←l]; exact rel.val k)
      have z2:w1=v:=by rw [hw] at q; injection q
      subst z2
      exact h1 v0 w1 _ l (I.tok _) r1
  · have l:valV kvs k=none:=by
      cases l:valV kvs k with
      | none=>rfl
      | some v0=>
        obtain ⟨w',hw,rw'⟩:=RelO.some_of (v:=v0) (o:=valueAt vs k) (by rw [←l]; exact rel.val k)
        rw [hw] at q
        cases q
    have hl2:(ZbV kvs k z).length≤sizeLine:=by have:=ZdZ kvs k z; omega
    have he:∃q,h'.get? a=some q:=let ⟨q,_,_,hq,_⟩:=dd'; ⟨q,hq⟩
    exact h2 l _ (Zfs I (by rw [e]; exact True.intro) hs he (Zjf hl2 hd (rel.put k rz) dd'))
end
def ZsY (td ty tx:TE):TE:=fun σ H Q=>td σ H fun x H1=>∃a,x=.ref a∧IsD H1 a∧ty σ H1 fun y H2=>tx σ H2 fun z H3=>∃kvs k,H3 a=some (.dK kvs)∧y=kV k∧kvs.length<sizeLine∧
  (∀v,valV kvs k=some v→Q v H3)∧(valV kvs k=none→Q z (upd H3 a (.dK (ZbV kvs k z))))
theorem ZpQ {X:Cx} {o e f:Expr} {apos cpos:Pos} {td ty tx:TE} (ho:PE X o td) (he:PE X e ty) (hf:PE X f tx) (m:M2 X o "setdefault" apos e f cpos):PE X (.Call (.Attribute o "setdefault" apos) [e,f] [] cpos) (ZsY td ty tx):=by
  intro pins s σ H Q I h
  refine wpAny_Call_method m.base m.few m.line PySem.F.plainAttrs_dict PySem.F.slot_dict_setdefault PySem.F.type_dict_setdefault (thn (ho pins s σ H _ I h) fun u s1 ⟨x,H1,I1,rx,a,ex,d,q1⟩=>?_)
  subst ex
  cases (show u=Value.ref a from rx)
  obtain ⟨t1,t2,_⟩:=Zl5 I1 d
  refine ⟨t1,t2,?_⟩
  rw [m.trees]
  refine Calls.callWith_builtin rfl (Calls.evalArgs_plain (Calls.spliced_cons (thn (he pins s1 σ H1 _ I1 q1) fun iv s2 ⟨y,H2,I2,ry,q2⟩=>Calls.spliced_cons (thn (hf pins s2 σ H2 _ I2 q2) fun fv s3 ⟨z,H3,I3,rz,kvs,k,ea,ey,hl,q3,q4⟩=>Calls.spliced_nil ?_))))
  subst ey
  exact ZtQ I3 ea ry rz hl (fun v w' s4 l I4 rw'=>⟨v,H3,I4,rw',q3 v l⟩) fun l s4 I4=>⟨z,_,I4,rz,q4 l⟩
end L2
namespace L2.MM
open PySem PySem.Spec PyProof.Rows
def valD (kvs:List (Key×D)) (k:Key):Option D:=(kvs.find? fun kv=>decide (kv.1=k)).map (·.2)
def putD (kvs:List (Key×D)) (k:Key) (v:D):List (Key×D):=
  if (kvs.any fun kv=>decide (kv.1=k))=true then kvs.map (fun kv=>if kv.1=k then (kv.1,v) else kv) else kvs++[(k,v)]
def dropD (kvs:List (Key×D)) (k:Key):List (Key×D):=kvs.filter fun kv=>decide (kv.1≠k)
def keyD:D→Option Key
  | .int n=>some (.inl n)
  | .str x=>some (.inr x)
  | _=>none
def dkOf (θ:Sto):D→Option (Nat×List (Key×D))
  | .ref l=>match θ[l]? with
    | some (.dK kvs)=>some (l,kvs)
    | _=>none
  | _=>none
section
variable {B:Bx} {H:Hp}
theorem RepKV.valD (k:Key):∀{ks:List (Key×D)} {vs:List (Key×V)},RepKV B H ks vs→(L2.MM.valD ks k=Option.none∧valV vs k=Option.none)∨∃d v,L2.MM.valD ks k=some d∧valV vs k=some v∧RepV B H d v
  | _,_,.nil=>.inl ⟨rfl,rfl⟩
  | (k1,d1)::ks,(k2,v2)::vs,.cons ⟨h1,h2⟩ t=>by
    cases (show k1=k2 from h1)
    by_cases e:k1=k
    · refine .inr ⟨d1,v2,?_,?_,h2⟩<;>simp [L2.MM.valD,valV,List.find?_cons,e]
    · have:=RepKV.valD k t
      simpa [L2.MM.valD,valV,List.find?_cons,e] using this
theorem RepKV.any (k:Key):∀{ks:List (Key×D)} {vs:List (Key×V)},RepKV B H ks vs→(ks.any fun kv=>decide (kv.1=k))=(vs.any fun kv=>decide (kv.1=k))
  | _,_,.nil=>rfl
  | (k1,d1)::ks,(k2,v2)::vs,.cons ⟨h1,h2⟩ t=>by
    cases (show k1=k2 from h1)
    rw [List.any_cons,List.any_cons,RepKV.any k t]
theorem RepKV.snoc {k:Key} {d:D} {v:V} (r:RepV B H d v):∀{ks:List (Key×D)} {vs:List (Key×V)},RepKV B H ks vs→RepKV B H (ks++[(k,d)]) (vs++[(k,v)])
  | _,_,.nil=>.cons ⟨rfl,r⟩ .nil
  | _,_,.cons h t=>.cons h (RepKV.snoc r t)
theorem RepKV.over {k:Key} {d:D} {v:V} (r:RepV B H d v):∀{ks:List (Key×D)} {vs:List (Key×V)},RepKV B H ks vs→RepKV B H (ks.map fun kv=>if kv.1=k then (kv.1,d) else kv) (vs.map fun kv=>if kv.1=k then (kv.1,v) else kv)
  | _,_,.nil=>.nil
  | (k1,d1)::ks,(k2,v2)::vs,.cons ⟨h1,h2⟩ t=>by
    cases (show k1=k2 from h1)
    rw [List.map_cons,List.map_cons]
    refine .cons ?_ (RepKV.over r t)
    by_cases e:k1=k
    · rw [if_pos (show (k1,d1).1=k from e),if_pos (show (k1,v2).1=k from e)]; exact ⟨rfl,r⟩
    · rw [if_neg (show ¬(k1,d1).1=k from e),if_neg (show ¬(k1,v2).1=k from e)]; exact ⟨rfl,h2⟩
theorem RepKV.putD {k:Key} {d:D} {v:V} (r:RepV B H d v) {ks:List (Key×D)} {vs:List (Key×V)} (h:RepKV B H ks vs):RepKV B H (L2.MM.putD ks k d) (ZbV vs k v):=by
  unfold L2.MM.putD ZbV
  rw [h.any k]
  split
  · exact h.over r
  · exact h.snoc r
theorem RepKV.dropD (k:Key):∀{ks:List (Key×D)} {vs:List (Key×V)},RepKV B H ks vs→RepKV B H (L2.MM.dropD ks k) (ZeI vs k)
  | _,_,.nil=>.nil
  | (k1,d1)::ks,(k2,v2)::vs,.cons ⟨h1,h2⟩ t=>by
    cases (show k1=k2 from h1)
    have ih:=RepKV.dropD k t
    unfold L2.MM.dropD ZeI at ih ⊢
    by_cases e:k1=k
    · rw [List.filter_cons_of_neg (by simpa using e),List.filter_cons_of_neg (by simpa using e)]; exact ih
    · rw [List.filter_cons_of_pos (by simpa using e),List.filter_cons_of_pos (by simpa using e)]; exact .cons ⟨rfl,h2⟩ ih
theorem keyD_rep {d:D} {v:V} {k:Key} (r:RepV B H d v) (h:keyD d=some k):v=kV k:=by
  cases d with
  | int n=>cases h; exact r
  | str x=>cases h; exact r
  | _=>cases h
theorem ZcA {cl:Mo} {θ:Sto} (G:Good cl B θ H) {d:D} {v:V} {l:Nat} {kvs:List (Key×D)} (r:RepV B H d v) (h:dkOf θ d=some (l,kvs)):l<B.n∧v=.ref (B.m l)∧∃vs,H (B.m l)=some (.dK vs)∧RepKV B H kvs vs:=by
  cases d with
  | ref k=>
    simp only [dkOf] at h
    split at h
    · rename_i kvs' e
      cases h
      obtain ⟨hl,rfl⟩:=r
      obtain ⟨vs,h1,h2⟩:=G.cel _ _ e
      exact ⟨hl,rfl,vs,h1,h2⟩
    · cases h
  | _=>cases h
end
section
variable {X:Cx}
theorem ZfQ {k:Nat} {A:Around} (hr:Room k A):A.units+1<cLine:=by have:=hr.un; omega
def Zgz (fi fo:EM):EM:=fun ρ θ=>(fi ρ θ).bind fun y θ=>(fo ρ θ).bind fun d θ=>match keyD y,dkOf θ d with
  | some k,some (_,kvs)=>.ok (.bl (valD kvs k).isSome) θ
  | _,_=>.bad
theorem ZrW {fi fo:EM} (σ:St) (H:Hp) (Q:VK) (h:tM X (Zgz fi fo) σ H Q):ZuN (tM X fi) (tM X fo) σ H Q:=by
  obtain ⟨B,θ,ρ,F,w⟩:=h
  refine ZO (step F w) ?_
  rintro y H1 ⟨B1,θ1,dy,E1,F1,ry,w1⟩
  refine ZO (step F1 w1) ?_
  rintro v H2 ⟨B2,θ2,d,E2,F2,rd,w2⟩
  split at w2
  · rename_i k l kvs ek ed
    obtain ⟨hl,rfl,vs,h1,h2⟩:=ZcA F2.good rd ed
    cases keyD_rep ry ek
    refine ⟨_,valV vs k,rfl,DGet.k h1,?_⟩
    have e:(valD kvs k).isSome=(valV vs k).isSome:=by
      rcases h2.valD k with ⟨q1,q2⟩ | ⟨d,v,q1,q2,_⟩<;>(rw [q1,q2]; rfl)
    rw [←e]
    exact ZS (Rel:=RepV) F2.good (show RepV B2 H2 (.bl (valD kvs k).isSome) (.bl (valD kvs k).isSome) from rfl) w2
  · exact w2.elim
theorem Zi1 {i o:Expr} {fi fo:EM} {pos:Pos} {k:Nat} (hr:Room k X.A) (hi:ME X i fi) (ho:ME X o fo) (hm:behindInMarks .In o=false:=by rfl):MT X (.Compare i [.In] [o] pos) (ZF (Zgz fi fo)):=by
  refine PT.imp (ZpG (Ztp (ZfQ hr) hi ho) hm) fun σ H Q h=>?_
  exact ZrW σ H _ (Zg0 σ H Q h)
def Zsx (fo fe:EM):EM:=fun ρ θ=>(fo ρ θ).bind fun d θ=>match dkOf θ d with
  | none=>.bad
  | some _=>(fe ρ θ).bind fun y θ=>match keyD y,dkOf θ d with
    | some k,some (l,kvs)=>match valD kvs k with
      | some v=>.ok v (θ.set l (.dK (dropD kvs k)))
      | none=>.bad
    | _,_=>.bad
theorem ZmL {o e:Expr} {fo fe:EM} {apos cpos:Pos} (ho:ME X o fo) (he:ME X e fe) (m:M1 X o "pop" apos e cpos):ME X (.Call (.Attribute o "pop" apos) [e] [] cpos) (Zsx fo fe):=by
  refine PE.imp (ZpR ho he m) fun σ H Q h=>?_
  obtain ⟨B,θ,ρ,F,w⟩:=h
  refine ZO (step F w) ?_
  rintro v H1 ⟨B1,θ1,d,E1,F1,rd,w1⟩
  split at w1
  · exact w1.elim
  · rename_i q ed
    obtain ⟨l,kvs⟩:=q
    obtain ⟨hl,rfl,vs,h1,h2⟩:=ZcA F1.good rd ed
    refine ⟨_,rfl,.inl ⟨vs,.inl h1⟩,?_⟩
    refine ZO (step F1 w1) ?_
    rintro y H2 ⟨B2,θ2,dy,E2,F2,ry,w2⟩
    split at w2
    · rename_i k l2 kvs2 ek ed2
      obtain ⟨hl2,e2,vs2,h3,h4⟩:=ZcA F2.good (rd.ext E2.toExtS) ed2
      cases keyD_rep ry ek
      have e3:B1.m l=B2.m l2:=by injection e2
      rw [e3]
      rcases h4.valD k with ⟨q1,q2⟩ | ⟨dv,v,q1,q2,rv⟩
      · rw [q1] at w2; exact w2.elim
      · rw [q1] at w2
        refine ⟨vs2,k,v,h3,rfl,q2,?_⟩
        have E3:=Zdo F2.good hl2 (.dK (ZeI vs2 k))
        have G3:=Zc2 F2.good hl2 (o:=.dK (ZeI vs2 k)) (c:=.dK (dropD kvs2 k)) ⟨_,Z4,(h4.dropD k).ext E3.toExtS⟩
        exact w2 _ _ _ E3 G3 (rv.ext E3.toExtS)
    · exact w2.elim
def Zqj (fo fe ff:EM):EM:=fun ρ θ=>(fo ρ θ).bind fun d θ=>match dkOf θ d with
  | none=>.bad
  | some _=>(fe ρ θ).bind fun y θ=>(ff ρ θ).bind fun z θ=>match keyD y,dkOf θ d with
    | some k,some (l,kvs)=>if kvs.length<BIG then (match valD kvs k with
      | some v=>.ok v θ
      | none=>.ok z (θ.set l (.dK (putD kvs k z)))) else .bad
    | _,_=>.bad
theorem Zqe {o e f:Expr} {fo fe ff:EM} {apos cpos:Pos} (ho:ME X o fo) (he:ME X e fe) (hf:ME X f ff) (m:M2 X o "setdefault" apos e f cpos):ME X (.Call (.Attribute o "setdefault" apos) [e,f] [] cpos) (Zqj fo fe ff):=by
  refine PE.imp (ZpQ ho he hf m) fun σ H Q h=>?_
  obtain ⟨B,θ,ρ,F,w⟩:=h
  refine ZO (step F w) ?_
  rintro v H1 ⟨B1,θ1,d,E1,F1,rd,w1⟩
  split at w1
  · exact w1.elim
  · rename_i q ed
    obtain ⟨l,kvs⟩:=q
    obtain ⟨hl,rfl,vs,h1,h2⟩:=ZcA F1.good rd ed
    refine ⟨_,rfl,.inl ⟨vs,.inl h1⟩,?_⟩
    refine ZO (step F1 w1) ?_
    rintro y H2 ⟨B2,θ2,dy,E2,F2,ry,w2⟩
    refine ZO (step F2 w2) ?_
    rintro z H3 ⟨B3,θ3,dz,E3,F3,rz,w3⟩
    split at w3
    · rename_i k l2 kvs2 ek ed2
      obtain ⟨hl2,e2,vs2,h3,h4⟩:=ZcA F3.good ((rd.ext E2.toExtS).ext E3.toExtS) ed2
      cases keyD_rep ry ek
      have e3:B1.m l=B3.m l2:=by injection e2
      rw [e3]
      split at w3
      · rename_i hb
        refine ⟨vs2,k,h3,rfl,?_,fun v hv=>?_,fun hn=>?_⟩
        · have:=zt (n:=kvs2.length+1) hb
          rw [RepKV.len h4]; omega
        · rcases h4.valD k with ⟨q1,q2⟩ | ⟨dv,v',q1,q2,rv⟩
          · rw [q2] at hv; cases hv
          · rw [q2] at hv; cases hv
            rw [q1] at w3
            exact ZS (Rel:=RepV) F3.good rv w3
        · rcases h4.valD k with ⟨q1,q2⟩ | ⟨dv,v',q1,q2,rv⟩
          · rw [q1] at w3
            have E4:=Zdo F3.good hl2 (.dK (ZbV vs2 k z))
            have G4:=Zc2 F3.good hl2 (o:=.dK (ZbV vs2 k z)) (c:=.dK (putD kvs2 k dz)) ⟨_,Z4,(h4.putD rz).ext E4.toExtS⟩
            exact w3 _ _ _ E4 G4 (rz.ext E4.toExtS)
          · rw [q2] at hn; cases hn
      · exact w3.elim
    · exact w3.elim
end
end L2.MM
namespace My
open PySem L2 L2.MM
noncomputable section
def Zr0:SM:=(Zo (ZL 2 (mSl (Zd 1) zq (Zai (mCB ZeN (Zc (Zd 0) Zk)))))
  (Zo (ZC ["Pile"] "row" (Zd 0) (mOp ZM (ZE ["Pile"] "row" (Zd 0)) (Zd 2)))
  (ZQ (mCB Zbm (Zc (Zd 2) Zk)))))
def ZpY:GM:=ZU 2 3 Zr0
def ZqN:SM:=(Zo (ZL 2 (mCB ZtE (Zc (Zd 1) (Zc (mC (.int 0)) Zk))))
  (Zo (ZL 3 (mSl (ZE ["Pile"] "row" (Zd 0)) zq (Zai (Zd 2))))
  (Zo (ZC ["Pile"] "row" (Zd 0) (mSl (ZE ["Pile"] "row" (Zd 0)) (Zai (Zd 2)) zq))
  (ZQ (Zd 3)))))
def ZlQ:GM:=ZU 2 4 ZqN
def ZqO:SM:=(ZQ (mOp gtM (mCB zo (Zc (Zd 0) (Zc (Zd 1) Zk))) (mC (.int 0))))
def Zci:GM:=ZU 2 2 ZqO
def Zgb:SM:=(ZQ (mCB Zci (Zc (ZE ["End"] "nxt" (Zd 0)) (Zc (ZE ["End"] "behind" (Zd 0)) Zk))))
def Zck:GM:=ZU 1 1 Zgb
def Ziy:SM:=(ZQ (mOp eqM (mCB ZeD (Zc (mOp ixM (Zd 0) (mC (.int 4))) (Zc (Zd 1) Zk))) (mC (.int 1))))
def ZX:GM:=ZU 2 2 Ziy
def ZbY:SM:=(mIf (zC (mCB ZX (Zc (Zd 0) (Zc (mC (.int 16)) Zk)))) (ZQ (mOp ZM (Zd 1) (Zar (Zc (mOp ixM (Zd 0) (mC (.int 3))) (Zc (mC (.int 0)) (Zc (mC (.int 4)) (Zc (mC (.int 0)) (Zc (mC (.int 0)) (Zc (Zar Zk) Zk))))))))) ZP)
def ZcM:SM:=(Zo (ZL 1 (Zar (Zc (mOp ixM (Zd 0) (mC (.int 1))) (Zc (mOp ixM (Zd 0) (mC (.int 0))) Zk))))
  (Zo ZbY
  (ZQ (mOp ZM (Zd 1) (Zar (Zc (mC (.int 0)) (Zc (mCB zn (Zc (mOp ixM (Zd 0) (mC (.int 2))) (Zc (mCB ZbP (Zc (Zd 0) Zk)) Zk))) (Zc (mOp ZM (mC (.int 4)) (mC (.int 16))) (Zc (mC (.int 0)) (Zc (mC (.int 0)) (Zc (Zar Zk) Zk)))))))))))
def Zam:GM:=ZU 1 2 ZcM
def ZaX:SM:=(mIf (ZcZ (zC (mCB ZX (Zc (Zd 1) (Zc (mC (.int 4)) Zk))))) (ZC ["End"] "owed_reset" (Zd 0) (mCB Zam (Zc (Zd 1) Zk))) ZP)
def Zbo:SM:=ZaX
def ZZ:GM:=ZU 2 2 Zbo
def Ze0:SM:=(ze (mCB ZZ (Zc (Zd 0) (Zc (Zd 1) Zk))))
def Zbv:GM:=ZU 2 2 Ze0
def Zd7:SM:=(mIf (ZF (mOp neM (mOp ixM (Zd 1) (mC (.int 6))) (mC (.int 0)))) (ZC ["End"] "most" (Zd 0) (mOp ixM (Zd 1) (mC (.int 6)))) ZP)
def Zfw:SM:=(Zo (ZC ["End"] "rcv" (Zd 0) (mCB zn (Zc (mOp ixM (Zd 1) (mC (.int 2))) (Zc (mC (.int 1)) Zk))))
  (Zo (ZC ["End"] "wnd" (Zd 0) (mOp ixM (Zd 1) (mC (.int 5))))
  (Zo (ZC ["End"] "told" (Zd 0) (mOp ixM (Zd 1) (mC (.int 2))))
  (Zo (ZC ["End"] "told_by" (Zd 0) (ZeT (zC (mCB ZX (Zc (Zd 1) (Zc (mC (.int 16)) Zk)))) (mOp ixM (Zd 1) (mC (.int 3))) (mC (.int 0))))
  Zd7))))
def Za4:GM:=ZU 2 2 Zfw
def zJ:SM:=(mIf (zC (mCB ZX (Zc (Zd 1) (Zc (mC (.int 4)) Zk)))) Zfg ZP)
def Zab:SM:=(mIf (zC (mCB ZX (Zc (Zd 1) (Zc (mC (.int 2)) Zk)))) (Zo (ZC ["End"] "theirs" (Zd 0) (mOp ixM (Zd 1) (mC (.int 0))))
      (Zo (ze (mCB Za4 (Zc (Zd 0) (Zc (Zd 1) Zk))))
      (ZC ["End"] "state" (Zd 0) (mC (.str "syn come"))))) ZP)
def Zaa:SM:=(mIf (zC (mCB ZX (Zc (Zd 1) (Zc (mC (.int 16)) Zk)))) (ze (mCB ZZ (Zc (Zd 0) (Zc (Zd 1) Zk)))) Zab)
def zX:SM:=(Zo zJ
  Zaa)
def zi:GM:=ZU 2 2 zX
def ZgK:SM:=(ZQ (Zbd (mOp neM (ZE ["End"] "nxt" (Zd 0)) (ZE ["End"] "first" (Zd 0))) (mOp eqM (mOp ixM (Zd 1) (mC (.int 3))) (mCB zn (Zc (ZE ["End"] "first" (Zd 0)) (Zc (mC (.int 1)) Zk))))))
def ZcK:GM:=ZU 2 2 ZgK
def Zcv:SM:=(mIf (zC (mCB ZX (Zc (Zd 1) (Zc (mC (.int 16)) Zk)))) (Zo (ZC ["End"] "una" (Zd 0) (mOp ixM (Zd 1) (mC (.int 3))))
    (Zo (ZC ["End"] "state" (Zd 0) (mC (.str "open")))
    (ZC ["End"] "owes_answer" (Zd 0) (mC (.bl true))))) (Zo (ZC ["End"] "state" (Zd 0) (mC (.str "syn come")))
    (Zo (ze (mCB Z2 (Zc (Zd 0) (Zc (Zd 2) Zk))))
    (ZC ["End"] "owes_syn" (Zd 0) (mC (.bl true))))))
def Zc7:SM:=Zcv
def Zaz:GM:=ZU 3 3 Zc7
def Zjm:SM:=(mIf (zC (mCB ZX (Zc (Zd 1) (Zc (mC (.int 16)) Zk)))) (Zo (ZC ["End"] "state" (Zd 0) (mC (.str "closed")))
    (ZC ["End"] "error" (Zd 0) (mC (.str "refused")))) ZP)
def Zmf:SM:=Zjm
def Zg5:GM:=ZU 2 2 Zmf
def Zdw:SM:=(mIf (zC (mCB ZX (Zc (Zd 1) (Zc (mC (.int 2)) Zk)))) (Zo (ze (mCB Za4 (Zc (Zd 0) (Zc (Zd 1) Zk))))
        (ze (mCB Zaz (Zc (Zd 0) (Zc (Zd 1) (Zc (Zd 2) Zk)))))) ZP)
def Zdv:SM:=(mIf (zC (mCB ZX (Zc (Zd 1) (Zc (mC (.int 4)) Zk)))) (ze (mCB Zg5 (Zc (Zd 0) (Zc (Zd 1) Zk)))) Zdw)
def Zdu:SM:=(mIf (Zfi (zC (mCB ZX (Zc (Zd 1) (Zc (mC (.int 16)) Zk)))) (ZcZ (zC (mCB ZcK (Zc (Zd 0) (Zc (Zd 1) Zk)))))) (ze (mCB ZZ (Zc (Zd 0) (Zc (Zd 1) Zk)))) Zdv)
def Zeb:SM:=Zdu
def Za7:GM:=ZU 3 3 Zeb
def Zf8:SM:=(ZQ (Zf1 leM ltM (mC (.int 0)) (mCB zo (Zc (Zd 1) (Zc (ZE ["End"] "rcv" (Zd 0)) Zk))) (mCB Zap (Zc (Zd 0) Zk))))
def zE:GM:=ZU 2 2 Zf8
def Zmg:SM:=(mIf (ZF (mOp eqM (Zd 2) (mC (.int 0)))) (ZQ (Zf1 leM leM (mC (.int 0)) (mCB zo (Zc (mOp ixM (Zd 1) (mC (.int 2))) (Zc (ZE ["End"] "rcv" (Zd 0)) Zk))) (mC (.int 64)))) ZP)
def ZqP:SM:=(Zo (ZL 2 (mCB ZbP (Zc (Zd 1) Zk)))
  (Zo Zmg
  (Zo (ZL 3 (mCB zn (Zc (mOp ixM (Zd 1) (mC (.int 2))) (Zc (mOp Zgx (Zd 2) (mC (.int 1))) Zk))))
  (ZQ (Zi6 (mCB zE (Zc (Zd 0) (Zc (mOp ixM (Zd 1) (mC (.int 2))) Zk))) (mCB zE (Zc (Zd 0) (Zc (Zd 3) Zk))))))))
def ZlR:GM:=ZU 2 4 ZqP
def ZbE:SM:=(mIf (mOr (ZcZ (zC (mCB Zck (Zc (Zd 0) Zk)))) (ZF (mOp neM (ZE ["End"] "una" (Zd 0)) (ZE ["End"] "nxt" (Zd 0))))) Zfg ZP)
def ZbD:SM:=(mIf (ZF (mOp eqM (ZE ["End"] "state" (Zd 0)) (mC (.str "last ack")))) (ZC ["End"] "state" (Zd 0) (mC (.str "closed"))) ZP)
def ZbC:SM:=(mIf (ZF (mOp eqM (ZE ["End"] "state" (Zd 0)) (mC (.str "closing")))) (Zo (ZC ["End"] "state" (Zd 0) (mC (.str "time wait")))
      (ZC ["End"] "since" (Zd 0) (Zd 1))) ZbD)
def ZbB:SM:=(mIf (ZF (mOp eqM (ZE ["End"] "state" (Zd 0)) (mC (.str "wait one")))) (ZC ["End"] "state" (Zd 0) (mC (.str "wait two"))) ZbC)
def ZbZ:SM:=(Zo ZbE
  ZbB)
def zU:GM:=ZU 2 2 ZbZ
def ZgE:SM:=(Zo (ZC ["End"] "wnd" (Zd 0) (mOp ixM (Zd 1) (mC (.int 5))))
  (Zo (ZC ["End"] "told" (Zd 0) (mOp ixM (Zd 1) (mC (.int 2))))
  (ZC ["End"] "told_by" (Zd 0) (mOp ixM (Zd 1) (mC (.int 3))))))
def Za0:GM:=ZU 2 2 ZgE
def Zdt:SM:=(mIf (mOr (ZF (mOp eqM (ZE ["End"] "nxt" (Zd 0)) (ZE ["End"] "first" (Zd 0)))) (ZF (mOp neM (mOp ixM (Zd 1) (mC (.int 3))) (ZE ["End"] "nxt" (Zd 0))))) (Zo (ze (mCB ZZ (Zc (Zd 0) (Zc (Zd 1) Zk))))
    (ZQ (mC (.bl false)))) ZP)
def Zd8:SM:=(Zo Zdt
  (Zo (ZC ["End"] "una" (Zd 0) (mOp ixM (Zd 1) (mC (.int 3))))
  (Zo (ZC ["End"] "state" (Zd 0) (ZeT (zC (ZE ["End"] "has_closed" (Zd 0))) (mC (.str "wait one")) (mC (.str "open"))))
  (Zo (ze (mCB Za0 (Zc (Zd 0) (Zc (Zd 1) Zk))))
  (ZQ (mC (.bl true)))))))
def Za6:GM:=ZU 2 2 Zd8
def ZhE:SM:=(mIf (ZF (mOp eqM (mOp ixM (Zd 1) (mC (.int 2))) (ZE ["End"] "told" (Zd 0)))) (ZQ (ZeH (mCB Zci (Zc (ZE ["End"] "told_by" (Zd 0)) (Zc (mOp ixM (Zd 1) (mC (.int 3))) Zk))))) ZP)
def Zjo:SM:=(Zo ZhE
  (ZQ (mCB Zci (Zc (mOp ixM (Zd 1) (mC (.int 2))) (Zc (ZE ["End"] "told" (Zd 0)) Zk)))))
def ZeP:GM:=ZU 2 2 Zjo
def ZfD:SM:=(mIf (ZF (mOp neM (ZE ["End"] "una" (Zd 0)) (ZE ["End"] "nxt" (Zd 0)))) (ze (mCB Z2 (Zc (Zd 0) (Zc (Zd 2) Zk)))) ZP)
def ZfC:SM:=(mIf (zC (Zd 4)) (Zo (ze (mCB ZlQ (Zc (ZE ["End"] "written" (Zd 0)) (Zc (mCB zo (Zc (Zd 3) (Zc (ZE ["End"] "una" (Zd 0)) Zk))) Zk))))
    (Zo (ZC ["End"] "una" (Zd 0) (Zd 3))
    ZfD)) ZP)
def ZfB:SM:=(mIf (zC (mCB Zci (Zc (ZE ["End"] "una" (Zd 0)) (Zc (Zd 3) Zk)))) Zfg ZP)
def ZfA:SM:=(mIf (mOr (zC (Zd 4)) (zC (mCB ZeP (Zc (Zd 0) (Zc (Zd 1) Zk))))) (ze (mCB Za0 (Zc (Zd 0) (Zc (Zd 1) Zk)))) ZP)
def Zfz:SM:=(mIf (mOr (zC (Zd 5)) (ZF (mOp eqM (ZE ["End"] "wnd" (Zd 0)) (mC (.int 0))))) (ZC ["End"] "tries" (Zd 0) (mC (.int 0))) ZP)
def ZgJ:SM:=(Zo (ZL 3 (mOp ixM (Zd 1) (mC (.int 3))))
  (Zo (ZL 4 (mCB Zci (Zc (Zd 3) (Zc (ZE ["End"] "una" (Zd 0)) Zk))))
  (Zo ZfC
  (Zo ZfB
  (Zo (ZL 5 (mOp eqM (ZE ["End"] "wnd" (Zd 0)) (mC (.int 0))))
  (Zo ZfA
  Zfz))))))
def ZcJ:GM:=ZU 3 6 ZgJ
def Zb7:SM:=(mIf (ZF (mOp eqM (ZE ["End"] "state" (Zd 0)) (mC (.str "syn come")))) (ZQ (mCB Za6 (Zc (Zd 0) (Zc (Zd 1) Zk)))) ZP)
def Zb6:SM:=(mIf (zC (mCB Zci (Zc (mOp ixM (Zd 1) (mC (.int 3))) (Zc (ZE ["End"] "nxt" (Zd 0)) Zk)))) (Zo (ZC ["End"] "owes_answer" (Zd 0) (mC (.bl true)))
    (ZQ (mC (.bl false)))) ZP)
def Zcu:SM:=(Zo Zb7
  (Zo Zb6
  (Zo (ze (mCB ZcJ (Zc (Zd 0) (Zc (Zd 1) (Zc (Zd 2) Zk)))))
  (Zo (ze (mCB zU (Zc (Zd 0) (Zc (Zd 2) Zk))))
  (ZQ (mOp neM (ZE ["End"] "state" (Zd 0)) (mC (.str "closed"))))))))
def Zag:GM:=ZU 3 3 Zcu
def Zga:SM:=(mIf (ZF (mOp eqM (ZE ["End"] "state" (Zd 0)) (mC (.str "time wait")))) Zfg ZP)
def Zf9:SM:=(mIf (ZF (mOp eqM (mOp ixM (Zd 1) (mC (.int 2))) (ZE ["End"] "rcv" (Zd 0)))) (Zo (ZC ["End"] "state" (Zd 0) (mC (.str "closed")))
    (ZC ["End"] "error" (Zd 0) (mC (.str "reset")))) (ZC ["End"] "owes_answer" (Zd 0) (mC (.bl true))))
def ZhH:SM:=(Zo Zga
  Zf9)
def Zdj:GM:=ZU 2 2 ZhH
def ZeC:SM:=(ZcG (Zfi (ZF (mOp neM (ZE ["End"] "rcv" (Zd 0)) (ZE ["End"] "early_fin" (Zd 0)))) (ZF (Zgz (ZE ["End"] "rcv" (Zd 0)) (ZE ["End"] "early" (Zd 0))))) (Zo (Zfh 1 (Zsx (ZE ["End"] "early" (Zd 0)) (ZE ["End"] "rcv" (Zd 0))))
    (ZC ["End"] "rcv" (Zd 0) (mCB zn (Zc (ZE ["End"] "rcv" (Zd 0)) (Zc (mC (.int 1)) Zk))))) 200)
def ZfG:SM:=(Zo (ZgN 1 Zk)
  (Zo ZeC
  (Zep 1 (ze (mCB ZpY (Zc (ZE ["End"] "come" (Zd 0)) (Zc (Zd 1) Zk)))))))
def ZbW:GM:=ZU 1 2 ZfG
def ZhJ:SM:=(mIf (ZF (mOp eqM (ZE ["End"] "state" (Zd 0)) (mC (.str "wait one")))) (ZC ["End"] "state" (Zd 0) (mC (.str "closing"))) (Zo (ZC ["End"] "state" (Zd 0) (mC (.str "time wait")))
      (ZC ["End"] "since" (Zd 0) (Zd 1))))
def ZhI:SM:=(mIf (ZF (mOp eqM (ZE ["End"] "state" (Zd 0)) (mC (.str "open")))) (ZC ["End"] "state" (Zd 0) (mC (.str "close wait"))) ZhJ)
def Zjp:SM:=(Zo (ZC ["End"] "rcv" (Zd 0) (mCB zn (Zc (ZE ["End"] "rcv" (Zd 0)) (Zc (mC (.int 1)) Zk))))
  ZhI)
def ZeQ:GM:=ZU 2 2 Zjp
def ZgH:SM:=(mIf (zC (mCB zE (Zc (Zd 0) (Zc (Zd 4) Zk)))) (ze (Zqj (ZE ["End"] "early" (Zd 0)) (Zd 4) (Zd 3))) ZP)
def ZgG:SM:=(Zsw (Zc (mOp ixM (Zd 1) (mC (.int 7))) Zk) 2 3 (Zo (ZL 4 (mCB zn (Zc (mOp ixM (Zd 1) (mC (.int 2))) (Zc (Zd 2) Zk))))
    ZgH))
def ZgF:SM:=(mIf (ZF (mOp gtM (mCB Zbm (Zc (mOp ixM (Zd 1) (mC (.int 7))) Zk)) (mC (.int 0)))) (ZC ["End"] "owes_answer" (Zd 0) (mC (.bl true))) ZP)
def Zh0:SM:=(Zo ZgG
  ZgF)
def ZdQ:GM:=ZU 2 5 Zh0
def ZhD:SM:=(mIf (ZcZ (zC (mCB ZX (Zc (Zd 1) (Zc (mC (.int 1)) Zk))))) Zfg ZP)
def ZhC:SM:=(mIf (Zfi (ZF (mOp isM (ZE ["End"] "early_fin" (Zd 0)) (mC .non))) (zC (mCB zE (Zc (Zd 0) (Zc (Zd 2) Zk))))) (ZC ["End"] "early_fin" (Zd 0) (Zd 2)) ZP)
def Zjn:SM:=(Zo ZhD
  (Zo (ZC ["End"] "owes_answer" (Zd 0) (mC (.bl true)))
  (Zo (ZL 2 (mCB zn (Zc (mOp ixM (Zd 1) (mC (.int 2))) (Zc (mCB Zbm (Zc (mOp ixM (Zd 1) (mC (.int 7))) Zk)) Zk))))
  ZhC)))
def ZeO:GM:=ZU 2 3 Zjn
def Zfy:SM:=(mIf (ZF (mOp ZiW (ZE ["End"] "state" (Zd 0)) (Zar (Zc (mC (.str "open")) (Zc (mC (.str "wait one")) (Zc (mC (.str "wait two")) Zk)))))) Zfg ZP)
def Zfx:SM:=(mIf (ZF (mOp eqM (ZE ["End"] "rcv" (Zd 0)) (ZE ["End"] "early_fin" (Zd 0)))) (ze (mCB ZeQ (Zc (Zd 0) (Zc (Zd 2) Zk)))) ZP)
def ZgI:SM:=(Zo Zfy
  (Zo (ze (mCB ZdQ (Zc (Zd 0) (Zc (Zd 1) Zk))))
  (Zo (ze (mCB ZeO (Zc (Zd 0) (Zc (Zd 1) Zk))))
  (Zo (ze (mCB ZbW (Zc (Zd 0) Zk)))
  Zfx))))
def ZcI:GM:=ZU 3 3 ZgI
def ZgD:SM:=(mIf (zC (mCB ZX (Zc (Zd 1) (Zc (mC (.int 4)) Zk)))) Zfg ZP)
def ZgC:SM:=(mIf (Zfi (ZF (mOp eqM (ZE ["End"] "state" (Zd 0)) (mC (.str "syn come")))) (Zfi (zC (mCB ZX (Zc (Zd 1) (Zc (mC (.int 2)) Zk)))) (ZcZ (zC (mCB ZX (Zc (Zd 1) (Zc (mC (.int 16)) Zk))))))) (ZC ["End"] "owes_syn" (Zd 0) (mC (.bl true))) (ZC ["End"] "owes_answer" (Zd 0) (mC (.bl true))))
def ZgB:SM:=(mIf (ZF (mOp eqM (ZE ["End"] "state" (Zd 0)) (mC (.str "time wait")))) (ZC ["End"] "since" (Zd 0) (Zd 2)) ZP)
def ZhZ:SM:=(Zo ZgD
  (Zo ZgC
  ZgB))
def ZdN:GM:=ZU 3 3 ZhZ
def Zef:SM:=(mIf (Zfi (zC (mCB ZX (Zc (Zd 1) (Zc (mC (.int 16)) Zk)))) (zC (mCB Zag (Zc (Zd 0) (Zc (Zd 1) (Zc (Zd 2) Zk)))))) (ze (mCB ZcI (Zc (Zd 0) (Zc (Zd 1) (Zc (Zd 2) Zk))))) ZP)
def Zee:SM:=(mIf (zC (mCB ZX (Zc (Zd 1) (Zc (mC (.int 2)) Zk)))) (ZC ["End"] "owes_answer" (Zd 0) (mC (.bl true))) Zef)
def Zed:SM:=(mIf (zC (mCB ZX (Zc (Zd 1) (Zc (mC (.int 4)) Zk)))) (ze (mCB Zdj (Zc (Zd 0) (Zc (Zd 1) Zk)))) Zee)
def Zec:SM:=(mIf (ZcZ (zC (mCB ZlR (Zc (Zd 0) (Zc (Zd 1) Zk))))) (ze (mCB ZdN (Zc (Zd 0) (Zc (Zd 1) (Zc (Zd 2) Zk))))) Zed)
def ZeZ:SM:=Zec
def Zbu:GM:=ZU 3 3 ZeZ
def ZhF:SM:=(ZQ (Zbd (mOp eqM (mOp ixM (Zd 1) (mC (.int 1))) (ZE ["End"] "ours" (Zd 0))) (Zi6 (mOp inM (ZE ["End"] "state" (Zd 0)) (Zar (Zc (mC (.str "closed")) (Zc (mC (.str "listen")) Zk)))) (mOp eqM (mOp ixM (Zd 1) (mC (.int 0))) (ZE ["End"] "theirs" (Zd 0))))))
def ZdR:GM:=ZU 2 2 ZhF
def ZfK:SM:=(mIf (ZcZ (zC (mCB zy (Zc (Zd 1) Zk)))) (ZQ (mC (.bl false))) ZP)
def ZfJ:SM:=(mIf (ZcZ (zC (mCB ZdR (Zc (Zd 0) (Zc (Zd 3) Zk))))) (ZQ (mC (.bl false))) ZP)
def Zjr:SM:=(mIf (ZF (mOp eqM (ZE ["End"] "state" (Zd 0)) (mC (.str "syn sent")))) (ze (mCB Za7 (Zc (Zd 0) (Zc (Zd 3) (Zc (Zd 2) Zk))))) (ze (mCB Zbu (Zc (Zd 0) (Zc (Zd 3) (Zc (Zd 2) Zk))))))
def ZfI:SM:=(mIf (ZF (mOp eqM (ZE ["End"] "state" (Zd 0)) (mC (.str "listen")))) (ze (mCB zi (Zc (Zd 0) (Zc (Zd 3) Zk)))) Zjr)
def ZfH:SM:=(mIf (ZF (mOp eqM (ZE ["End"] "state" (Zd 0)) (mC (.str "closed")))) (ze (mCB Zbv (Zc (Zd 0) (Zc (Zd 3) Zk)))) ZfI)
def ZhL:SM:=(Zo ZfK
  (Zo (ZL 3 (mCB Zgh (Zc (Zd 1) Zk)))
  (Zo ZfJ
  (Zo ZfH
  (ZQ (mC (.bl true)))))))
def ZdS:GM:=ZU 3 4 ZhL
end
end My
namespace My
open PySem L2 L2.MM
noncomputable section
def bears (s:Seg) (f:Int):Bool:=decide (bit s.flags f=1)
def ZdH (s:Seg):Int:=s.data.length+bit s.flags 2+bit s.flags 1
def ZbN (s:Seg):Seg:=if bears s 16=true then ⟨s.goal,s.src,s.ans,0,4,0,0,[]⟩ else ⟨s.goal,s.src,0,zY s.num (ZdH s),20,0,0,[]⟩
def Ze8 (e:ZN) (s:Seg):ZN:=if bears s 4=true then e else { e with owed_reset:=some (ZbN s) }
def ZgO (e:ZN) (s:Seg):ZN:={ e with rcv:=zY s.num 1,wnd:=s.win,told:=s.num,told_by:=if bears s 16=true then s.ans else 0,most:=if s.most=0 then e.most else s.most }
def ZaI (e:ZN) (s:Seg):ZN:=
  if bears s 4=true then e
  else if bears s 16=true then Ze8 e s
  else if bears s 2=true then { ZgO { e with theirs:=s.src } s with state:=.synCome }
  else e
def ZmT (e:ZN) (s:Seg):Bool:=decide (s.goal=e.ours) && (decide (e.state∈[State.closed,.listen]) || decide (s.src=e.theirs))
section
variable {θ:Sto} {l:Nat} {e:ZN} {s:Seg} {now f:Int}
@[simp] theorem ZvT:ZX [s.d,.int f] θ=.ok (.bl (bears s f)) θ:=by
  simp [ZX,Ziy,bears]
theorem Zna:ZbP [s.d] θ=.ok (.int (ZdH s)) θ:=Zpo s θ
@[simp] theorem Zsd:Zam [s.d] θ=.ok (ZbN s).d θ:=by
  by_cases c:bears s 16=true
  · simp [Zam,ZcM,ZbY,c,ZbN,ZfV]
  · simp [Zam,ZcM,ZbY,c,ZbN,ZfV,Zna]
@[simp] theorem Zsf (h:l+3 < θ.length):ZZ [.ref l,s.d] (upE θ l e)=.ok .non (upE θ l (Ze8 e s)):=by
  by_cases c:bears s 4=true
  · simp [ZZ,Zbo,ZaX,h,c,Ze8]
  · simp [ZZ,Zbo,ZaX,h,c,Ze8]
@[simp] theorem ZsV (h:l+3 < θ.length):Za4 [.ref l,s.d] (upE θ l e)=.ok .non (upE θ l (ZgO e s)):=by
  by_cases c:bears s 16=true<;>by_cases c2:s.most=0<;>simp [Za4,Zfw,Zd7,h,c,c2,ZgO]
@[simp] theorem Znb (h:l+3 < θ.length):zi [.ref l,s.d] (upE θ l e)=.ok .non (upE θ l (ZaI e s)):=by
  by_cases c:bears s 4=true
  · simp [zi,zX,zJ,h,c,ZaI]
  · by_cases c1:bears s 16=true
    · simp [zi,zX,zJ,Zab,Zaa,h,c,c1,ZaI]
    · by_cases c2:bears s 2=true
      · simp [zi,zX,zJ,Zab,Zaa,h,c,c1,c2,ZaI]
      · simp [zi,zX,zJ,Zab,Zaa,h,c,c1,c2,ZaI]
@[simp] theorem ZuD (h:l+3 < θ.length):ZdR [.ref l,s.d] (upE θ l e)=.ok (.bl (ZmT e s)) (upE θ l e):=by
  simp [ZdR,ZhF,h,ZmT]
theorem Zgw (h:l+3 < θ.length) {r:List Int} (hb:Byt r) (hr:Zas r=true) (hf:ZmT e (ZeV r)=true) (hs:e.state=.listen):ZdS [.ref l,il r,.int now] (upE θ l e)=.ok (.bl true) (upE θ l (ZaI e (ZeV r))):=by
  simp [ZdS,ZhL,ZfK,ZfJ,ZfH,ZfI,Zcd hb,hr,Zpq hb hr,h,hf,hs]
end
end
end My
namespace My
open PySem L2 L2.MM
noncomputable section
section
variable {θ:Sto} {ρ:List Sl} {fi fo fe ff:EM} {fa:AM} {i j k:Nat} {b:SM} {x:D} {r:List D}
theorem nr' {p:Prop} (h:p):p:=h
@[simp] theorem Zzd:Zgz fi fo ρ θ=(fi ρ θ).bind fun y θ=>(fo ρ θ).bind fun d θ=>match keyD y,dkOf θ d with
  | some k,some (_,kvs)=>.ok (.bl (valD kvs k).isSome) θ
  | _,_=>.bad:=nr' rfl
end
abbrev EL:=List (Int×Int)
def atE (m:EL) (n:Int):Option Int:=(m.find? fun p=>decide (p.1=n)).map (·.2)
def ZsD (m:EL) (n:Int):EL:=m.filter fun p=>decide (p.1≠n)
abbrev ed (p:Int×Int):Key×D:=(Sum.inl p.1,D.int p.2)
section
variable {θ:Sto} {l:Nat} {e:ZN} {s:Seg} {now:Int}
end
def drawn:Nat→ZN→List Int×ZN
  | 0,e=>([],e)
  | n+1,e=>if e.early_fin=some e.rcv then ([],e) else match atE e.early e.rcv with
    | none=>([],e)
    | some b=>(b::(drawn n { e with early:=ZsD e.early e.rcv,rcv:=zY e.rcv 1 }).1,(drawn n { e with early:=ZsD e.early e.rcv,rcv:=zY e.rcv 1 }).2)
section
variable {θ:Sto} {l:Nat} {e:ZN} {s:Seg} {now n a b:Int}
end
end
end My
namespace My
open PySem L2 L2.MM
noncomputable section
theorem Zro {n k:Int} (h:0<k∧k<4294967296):¬zY n k=n:=by
  unfold zY; omega
end
end My
namespace My
open PySem L2 L2.MM
noncomputable section
@[simp] theorem ZvH {a b c d f w m k:Int} {x:List Int}:bears ⟨a,b,c,d,f,w,m,x⟩ k=decide (bit f k=1):=rfl
@[simp] theorem ZvZ {a b c d f w m:Int} {x:List Int}:ZdH ⟨a,b,c,d,f,w,m,x⟩=x.length+bit f 2+bit f 1:=rfl
def ZbM:Option Seg→List Int
  | none=>[]
  | some s=>putL s
@[simp] theorem Zs7:ZbM none=[]:=rfl
@[simp] theorem Zs6 (s:Seg):ZbM (some s)=putL s:=rfl
theorem Zrb {base:Sto} {l:Nat} {e:ZN} {t:Int} {r:Option Seg} {e':ZN} (hl:l+3<base.length) (g:ZbR e t=(r,e')) (hp:∀s,r=some s→s.Put):ZeM [.ref l,.int t] (upE base l e)=.ok (il (ZbM r)) (upE base l e'):=by
  rw [ZsQ hl (by rw [g]; exact hp),g]
  unfold ZiH
  rw [g]
  cases r<;>rfl
theorem Zta (s:Seg):putL s≠[]:=fun z=>by
  have:=ZiO (s:=s)
  rw [z] at this
  simp at this
  split at this<;>omega
def synE (a b f g W m:Int):ZN:={ newEnd a b f false with state:=.synCome,rcv:=zY g 1,wnd:=W,told:=g,told_by:=0,most:=if m=0 then 12 else m }
def ZkT (a b f g W m t:Int):ZN:={ synE a b f g W m with nxt:=zY f 1,since:=t }
section
variable {a b f g W m t t' x:Int} {ex:List Int} {fl:Int}
theorem Zva:ZbR (synE a b f g W m) t=(some ⟨a,b,f,zY g 1,18,64,16,[]⟩,ZkT a b f g W m t):=by
  simp [ZbR,ZbJ,zA,ZdW,newEnd,Zem,zL,synE,ZkT]
theorem Zu9 (h:t'-t<1000):ZbR (ZkT a b f g W m t) t'=(none,ZkT a b f g W m t):=by
  have h1:¬(1000:Int)≤t'-t:=by omega
  have h2:¬zY f 1=f:=Zro (by omega)
  simp [ZbR,ZbJ,zA,zr,Zay,newEnd,synE,ZkT,ZdC,h1,h2]
end
section
variable {θ:Sto} {l:Nat} {e:ZN} {s:Seg} {now n:Int}
theorem ZqH (θ:Sto) (e e':ZN):upE (θ++cells θ.length e) θ.length e'=θ++cells θ.length e':=by
  have h0:∀(i:Nat) (c:Cell) (r:Sto),(θ++r).set (θ.length+i) c=θ++r.set i c:=by
    intro i c r
    rw [List.set_append_right _ _ (by omega)]
    congr 2
    omega
  have h1:∀(c:Cell) (r:Sto),(θ++r).set θ.length c=θ++r.set 0 c:=fun c r=>h0 0 c r
  unfold upE cells
  rw [h1,h0,h0,h0]
  rfl
theorem Zp1 {a b n k f w m:Int} {x:List Int} (ha:0≤a∧a≤65535) (hb:0≤b∧b≤65535) (hn:0≤n∧n≤4294967295) (hk:0≤k∧k≤4294967295) (hf:0≤f∧f≤31) (hw:0≤w∧w≤65535) (hm:m=0∨(4≤m∧m≤65535∧f/2 % 2=1)) (hx:(∀z∈x,0≤z∧z≤255)∧x.length≤16):(Seg.mk a b n k f w m x).Ok:=⟨ha,hb,hn,hk,hf,hw,hm,hx⟩
theorem ZiX:(∀z∈([]:List Int),0≤z∧z≤255)∧([]:List Int).length≤16:=⟨by simp,by simp⟩
end
end
end My
namespace L2.MM
open PySem PySem.Spec PyProof.Rows
section
variable {X:Cx}
def ZmN (fo fi fv:EM):SM:=fun ρ θ=>(fv ρ θ).bind fun v θ=>(fo ρ θ).bind fun d θ=>(fi ρ θ).bind fun y θ=>match keyD y,dkOf θ d with
  | some k,some (l,kvs)=>if kvs.length<BIG then .ok (.nx,ρ) (θ.set l (.dK (putD kvs k v))) else .bad
  | _,_=>.bad
theorem ZmJ {o i value:Expr} {fo fi fv:EM} {pos pos':Pos} {k:Nat} (hr:Room k X.A) (ho:ME X o fo) (hi:ME X i fi) (hv:ME X value fv) (hs:swapsWith value (some (.Subscript o i pos')) pos.line X.env=pure false:=by rfl):MS X (.Assign [.Subscript o i pos'] value pos) (ZmN fo fi fv):=
  PS.imp (Zmw (ZfQ hr) ho hi hv hs) fun D σ H h=>by
  obtain ⟨B,θ,ρ,F,w⟩:=h
  refine ZO (ZcS F w) ?_
  rintro v H1 ⟨B1,θ1,dv,E1,F1,rv,w1⟩
  refine ZO (ZcS F1 w1) ?_
  rintro x H2 ⟨B2,θ2,d,E2,F2,rd,w2⟩
  refine ZO (ZcS F2 w2) ?_
  rintro y H3 ⟨B3,θ3,dy,E3,F3,ry,w3⟩
  split at w3
  · rename_i k l kvs ek ed
    split at w3
    · rename_i hb
      obtain ⟨hl,rfl,vs,h1,h2⟩:=ZcA F3.good (rd.ext E3.toExtS) ed
      cases keyD_rep ry ek
      have hz:vs.length<sizeLine:=by
        have:=zt (n:=kvs.length+1) hb
        rw [RepKV.len h2]; omega
      refine ⟨_,_,rfl,DPut.k h1 hz,?_⟩
      have E4:=Zdo F3.good hl (.dK (ZbV vs k v))
      have G4:=Zc2 F3.good hl (o:=.dK (ZbV vs k v)) (c:=.dK (putD kvs k dv)) ⟨_,Z4,(h2.putD ((rv.ext E2.toExtS).ext E3.toExtS)).ext E4.toExtS⟩
      exact w3 _ _ _ E4.toExtS (F3.ext E4 G4)
    · exact w3.elim
  · exact w3.elim
end
section
variable {ρ:List Sl} {θ:Sto}
@[simp] theorem ZxX (fo fi fv:EM):ZmN fo fi fv ρ θ=(fv ρ θ).bind fun v θ=>(fo ρ θ).bind fun d θ=>(fi ρ θ).bind fun y θ=>match keyD y,dkOf θ d with
  | some k,some (l,kvs)=>if kvs.length<BIG then .ok (.nx,ρ) (θ.set l (.dK (putD kvs k v))) else .bad
  | _,_=>.bad:=nr rfl
end
end L2.MM
namespace L2.MM
open PySem PySem.Spec PyProof.Rows
def ZhW (θ:Sto):D→Option (Nat×List D)
  | .ref l=>match θ[l]? with
    | some (.lst xs)=>some (l,xs)
    | _=>none
  | _=>none
def ZhX (θ:Sto):D→Option (Nat×List (List Key×D))
  | .ref l=>match θ[l]? with
    | some (.dT kvs)=>some (l,kvs)
    | _=>none
  | _=>none
def ZmS:List D→Option (List Key)
  | []=>some []
  | d::ds=>match keyD d,ZmS ds with
    | some k,some ks=>some (k::ks)
    | _,_=>none
def ktD:D→Option (List Key)
  | .tup xs=>ZmS xs
  | _=>none
def valT (kvs:List (List Key×D)) (k:List Key):Option D:=(kvs.find? fun kv=>decide (kv.1=k)).map (·.2)
def putT (kvs:List (List Key×D)) (k:List Key) (v:D):List (List Key×D):=
  if (kvs.any fun kv=>decide (kv.1=k))=true then kvs.map (fun kv=>if kv.1=k then (kv.1,v) else kv) else kvs++[(k,v)]
section
variable {B:Bx} {H:Hp}
theorem ZmP {cl:Mo} {θ:Sto} (G:Good cl B θ H) {d:D} {v:V} {l:Nat} {xs:List D} (r:RepV B H d v) (h:ZhW θ d=some (l,xs)):l<B.n∧v=.ref (B.m l)∧∃vs,H (B.m l)=some (.lst vs)∧RepL B H xs vs:=by
  cases d with
  | ref k=>
    simp only [ZhW] at h
    split at h
    · rename_i xs' e
      cases h
      obtain ⟨hl,rfl⟩:=r
      obtain ⟨vs,h1,h2⟩:=G.cel _ _ e
      exact ⟨hl,rfl,vs,h1,h2⟩
    · cases h
  | _=>cases h
theorem Zje {cl:Mo} {θ:Sto} (G:Good cl B θ H) {d:D} {v:V} {l:Nat} {kvs:List (List Key×D)} (r:RepV B H d v) (h:ZhX θ d=some (l,kvs)):l<B.n∧v=.ref (B.m l)∧∃vs,H (B.m l)=some (.dT vs)∧RepKV B H kvs vs:=by
  cases d with
  | ref k=>
    simp only [ZhX] at h
    split at h
    · rename_i xs' e
      cases h
      obtain ⟨hl,rfl⟩:=r
      obtain ⟨vs,h1,h2⟩:=G.cel _ _ e
      exact ⟨hl,rfl,vs,h1,h2⟩
    · cases h
  | _=>cases h
theorem Zik:∀{ds:List D} {vs:List V} {ks:List Key},RepL B H ds vs→ZmS ds=some ks→vs=ks.map kV
  | [],vs,ks,r,h=>by cases h; exact r
  | d::ds,vs,ks,r,h=>by
    obtain ⟨v,vs',rfl,r1,r2⟩:=r
    simp only [ZmS] at h
    split at h
    · rename_i k ks' e1 e2
      cases h
      rw [keyD_rep r1 e1,Zik r2 e2]
      rfl
    · cases h
theorem ZmR {d:D} {v:V} {ks:List Key} (r:RepV B H d v) (h:ktD d=some ks):∃b,v=.ref b∧H b=some (.tup (ks.map kV)):=by
  cases d with
  | tup xs=>
    obtain ⟨a,vs,rfl,h1,_,h2⟩:=r
    exact ⟨a,rfl,by rw [h1,Zik h2 h]⟩
  | _=>cases h
theorem RepKV.valT (k:List Key):∀{ks:List (List Key×D)} {vs:List (List Key×V)},RepKV B H ks vs→(L2.MM.valT ks k=Option.none∧valV vs k=Option.none)∨∃d v,L2.MM.valT ks k=some d∧valV vs k=some v∧RepV B H d v
  | _,_,.nil=>.inl ⟨rfl,rfl⟩
  | (k1,d1)::ks,(k2,v2)::vs,.cons ⟨h1,h2⟩ t=>by
    cases (show k1=k2 from h1)
    by_cases e:k1=k
    · refine .inr ⟨d1,v2,?_,?_,h2⟩<;>simp [L2.MM.valT,valV,List.find?_cons,e]
    · have:=RepKV.valT k t
      simpa [L2.MM.valT,valV,List.find?_cons,e] using this
theorem RepKV.anyT (k:List Key):∀{ks:List (List Key×D)} {vs:List (List Key×V)},RepKV B H ks vs→(ks.any fun kv=>decide (kv.1=k))=(vs.any fun kv=>decide (kv.1=k))
  | _,_,.nil=>rfl
  | (k1,d1)::ks,(k2,v2)::vs,.cons ⟨h1,h2⟩ t=>by
    cases (show k1=k2 from h1)
    rw [List.any_cons,List.any_cons,RepKV.anyT k t]
theorem RepKV.snocT {k:List Key} {d:D} {v:V} (r:RepV B H d v):∀{ks:List (List Key×D)} {vs:List (List Key×V)},RepKV B H ks vs→RepKV B H (ks++[(k,d)]) (vs++[(k,v)])
  | _,_,.nil=>.cons ⟨rfl,r⟩ .nil
  | _,_,.cons h t=>.cons h (RepKV.snocT r t)
theorem RepKV.overT {k:List Key} {d:D} {v:V} (r:RepV B H d v):∀{ks:List (List Key×D)} {vs:List (List Key×V)},RepKV B H ks vs→RepKV B H (ks.map fun kv=>if kv.1=k then (kv.1,d) else kv) (vs.map fun kv=>if kv.1=k then (kv.1,v) else kv)
  | _,_,.nil=>.nil
  | (k1,d1)::ks,(k2,v2)::vs,.cons ⟨h1,h2⟩ t=>by
    cases (show k1=k2 from h1)
    rw [List.map_cons,List.map_cons]
    refine .cons ?_ (RepKV.overT r t)
    by_cases e:k1=k
    · rw [if_pos (show (k1,d1).1=k from e),if_pos (show (k1,v2).1=k from e)]; exact ⟨rfl,r⟩
    · rw [if_neg (show ¬(k1,d1).1=k from e),if_neg (show ¬(k1,v2).1=k from e)]; exact ⟨rfl,h2⟩
theorem RepKV.putT {k:List Key} {d:D} {v:V} (r:RepV B H d v) {ks:List (List Key×D)} {vs:List (List Key×V)} (h:RepKV B H ks vs):RepKV B H (L2.MM.putT ks k d) (ZbV vs k v):=by
  unfold L2.MM.putT ZbV
  rw [h.anyT k]
  split
  · exact h.overT r
  · exact h.snocT r
end
section
variable {X:Cx}
def ZmO (fo fe:EM):EM:=fun ρ θ=>(fo ρ θ).bind fun d θ=>match ZhW θ d with
  | none=>.bad
  | some _=>(fe ρ θ).bind fun y θ=>match ZhW θ d with
    | some (l,xs)=>if xs.length<BIG then .ok .non (θ.set l (.lst (xs++[y]))) else .bad
    | none=>.bad
theorem ZmM {o e:Expr} {fo fe:EM} {apos pos:Pos} (hpe:PE X (.Call (.Attribute o "append" apos) [e] [] pos) (tBM X.K "list" ZiL (tM X fo) (Zmr (tM X fe) Zpt))):ME X (.Call (.Attribute o "append" apos) [e] [] pos) (ZmO fo fe):=by
  refine PE.imp hpe fun σ H Q h=>?_
  obtain ⟨B,θ,ρ,F,w⟩:=h
  refine ZO (step F w) ?_
  rintro v H1 ⟨B1,θ1,d,E1,F1,rd,w1⟩
  split at w1
  · exact w1.elim
  · rename_i q ed
    obtain ⟨l,xs⟩:=q
    obtain ⟨hl,rfl,vs,h1,h2⟩:=ZmP F1.good rd ed
    refine ⟨.inl ⟨rfl,vs,SqL.of h1⟩,?_⟩
    refine ZO (step F1 w1) ?_
    rintro y H2 ⟨B2,θ2,dy,E2,F2,ry,w2⟩
    split at w2
    · rename_i l2 xs2 ed2
      obtain ⟨hl2,e2,vs2,h3,h4⟩:=ZmP F2.good (rd.ext E2.toExtS) ed2
      have e3:B1.m l=B2.m l2:=by injection e2
      split at w2
      · rename_i hb
        refine ⟨B1.m l,vs2,y,rfl,rfl,by rw [e3]; exact h3,by rw [h4.len]; exact Nat.lt_of_lt_of_le hb (zt (Nat.le_refl _)),?_⟩
        rw [e3]
        have E4:=Zdo F2.good hl2 (.lst (vs2++[y]))
        have G4:=Zc2 F2.good hl2 (o:=.lst (vs2++[y])) (c:=.lst (xs2++[dy])) ⟨_,Z4,(h4.app (show RepL B2 H2 [dy] [y] from ⟨y,[],rfl,ry,rfl⟩)).ext E4.toExtS⟩
        exact w2 _ _ _ E4 G4 (show RepV _ _ .non .non from rfl)
      · exact w2.elim
    · exact w2.elim
def Zl2 (fo fe:EM):EM:=fun ρ θ=>(fo ρ θ).bind fun d θ=>match ZhX θ d with
  | none=>.bad
  | some _=>(fe ρ θ).bind fun y θ=>match ktD y,ZhX θ d with
    | some k,some (_,kvs)=>.ok ((valT kvs k).getD .non) θ
    | _,_=>.bad
theorem Zqg {o e:Expr} {fo fe:EM} {apos cpos:Pos} {k:Nat} (hr:Room k X.A) (ho:ME X o fo) (he:ME X e fe) (m:M1 X o "get" apos e cpos):ME X (.Call (.Attribute o "get" apos) [e] [] cpos) (Zl2 fo fe):=by
  refine PE.imp (ZpU (ZfQ hr) ho he m) fun σ H Q h=>?_
  obtain ⟨B,θ,ρ,F,w⟩:=h
  refine ZO (step F w) ?_
  rintro v H1 ⟨B1,θ1,d,E1,F1,rd,w1⟩
  split at w1
  · exact w1.elim
  · rename_i q ed
    obtain ⟨l,kvs⟩:=q
    obtain ⟨hl,rfl,vs,h1,h2⟩:=Zje F1.good rd ed
    refine ⟨_,rfl,.inr ⟨vs,.inl h1⟩,?_⟩
    refine ZO (step F1 w1) ?_
    rintro y H2 ⟨B2,θ2,dy,E2,F2,ry,w2⟩
    split at w2
    · rename_i k l2 kvs2 ek ed2
      obtain ⟨hl2,e2,vs2,h3,h4⟩:=Zje F2.good (rd.ext E2.toExtS) ed2
      obtain ⟨b,rfl,hb⟩:=ZmR ry ek
      have e3:B1.m l=B2.m l2:=by injection e2
      rw [e3]
      refine ⟨_,DGet.t h3 hb,?_⟩
      rcases h4.valT k with ⟨q1,q2⟩ | ⟨dv,v,q1,q2,rv⟩
      · rw [q1] at w2; rw [q2]
        exact ZS (Rel:=RepV) F2.good (show RepV B2 H2 .non .non from rfl) w2
      · rw [q1] at w2; rw [q2]
        exact ZS (Rel:=RepV) F2.good rv w2
    · exact w2.elim
def Zl1 (fo fi fv:EM):SM:=fun ρ θ=>(fv ρ θ).bind fun v θ=>(fo ρ θ).bind fun d θ=>(fi ρ θ).bind fun y θ=>match ktD y,ZhX θ d with
  | some k,some (l,kvs)=>if kvs.length<BIG then .ok (.nx,ρ) (θ.set l (.dT (putT kvs k v))) else .bad
  | _,_=>.bad
theorem Zqc {o i value:Expr} {fo fi fv:EM} {pos pos':Pos} {k:Nat} (hr:Room k X.A) (ho:ME X o fo) (hi:ME X i fi) (hv:ME X value fv) (hs:swapsWith value (some (.Subscript o i pos')) pos.line X.env=pure false:=by rfl):MS X (.Assign [.Subscript o i pos'] value pos) (Zl1 fo fi fv):=
  PS.imp (Zmw (ZfQ hr) ho hi hv hs) fun D σ H h=>by
  obtain ⟨B,θ,ρ,F,w⟩:=h
  refine ZO (ZcS F w) ?_
  rintro v H1 ⟨B1,θ1,dv,E1,F1,rv,w1⟩
  refine ZO (ZcS F1 w1) ?_
  rintro x H2 ⟨B2,θ2,d,E2,F2,rd,w2⟩
  refine ZO (ZcS F2 w2) ?_
  rintro y H3 ⟨B3,θ3,dy,E3,F3,ry,w3⟩
  split at w3
  · rename_i k l kvs ek ed
    split at w3
    · rename_i hb
      obtain ⟨hl,rfl,vs,h1,h2⟩:=Zje F3.good (rd.ext E3.toExtS) ed
      obtain ⟨b,rfl,hk⟩:=ZmR ry ek
      have hz:vs.length<sizeLine:=by
        have:=zt (n:=kvs.length+1) hb
        rw [RepKV.len h2]; omega
      refine ⟨_,_,rfl,DPut.t h1 hk hz,?_⟩
      have E4:=Zdo F3.good hl (.dT (ZbV vs k v))
      have G4:=Zc2 F3.good hl (o:=.dT (ZbV vs k v)) (c:=.dT (putT kvs k dv)) ⟨_,Z4,(h2.putT ((rv.ext E2.toExtS).ext E3.toExtS)).ext E4.toExtS⟩
      exact w3 _ _ _ E4.toExtS (F3.ext E4 G4)
    · exact w3.elim
  · exact w3.elim
end
end L2.MM
namespace My
open PySem L2 L2.MM
noncomputable section
section
variable {cf turn:Int} {r:Option Seg} {rs:List D} {kv:List (List Key×D)} {un:List (Key×D)} {X:Sto} {es:List ZN}
end
@[simp] theorem ZxY {fo fe:EM} {ρ:List Sl} {θ:Sto}:ZmO fo fe ρ θ=(fo ρ θ).bind fun d θ=>match ZhW θ d with
  | none=>.bad
  | some _=>(fe ρ θ).bind fun y θ=>match ZhW θ d with
    | some (l,xs)=>if xs.length<BIG then .ok .non (θ.set l (.lst (xs++[y]))) else .bad
    | none=>.bad:=nr' rfl
@[simp] theorem ZvQ {fo fe:EM} {ρ:List Sl} {θ:Sto}:Zl2 fo fe ρ θ=(fo ρ θ).bind fun d θ=>match ZhX θ d with
  | none=>.bad
  | some _=>(fe ρ θ).bind fun y θ=>match ktD y,ZhX θ d with
    | some k,some (_,kvs)=>.ok ((valT kvs k).getD .non) θ
    | _,_=>.bad:=nr' rfl
@[simp] theorem ZvO {fo fi fv:EM} {ρ:List Sl} {θ:Sto}:Zl1 fo fi fv ρ θ=(fv ρ θ).bind fun v θ=>(fo ρ θ).bind fun d θ=>(fi ρ θ).bind fun y θ=>match ktD y,ZhX θ d with
  | some k,some (l,kvs)=>if kvs.length<BIG then .ok (.nx,ρ) (θ.set l (.dT (putT kvs k v))) else .bad
  | _,_=>.bad:=nr' rfl
theorem kt2 (a b:Int):ktD (.tup [.int a,.int b])=some [.inl a,.inl b]:=rfl
theorem ZrE {C m:Str} {f:GM} {fo:EM} {fs:AM} {ρ:List Sl} {θ θ1:Sto} {d:D} {l:Nat} {gs:List (Str×D)} (h:fo ρ θ=.ok d θ1) (hi:Zco θ1 d=some (l,C,gs)) (hl:gs.lookup m=none):Zbl C m f fo fs ρ θ=(fs ρ θ1).bind fun vs θ=>f (d::vs) θ:=by
  unfold Zbl
  rw [h,R.bind_ok,hi]
  exact if_pos ⟨rfl,hl⟩
end
end My
namespace L2.MM
open PySem PySem.Spec PyProof.Rows PySem.W
section
variable {P:Program} {w:World} {H H':Hp} {h h':Heap} {a:Addr} {o:HO}
theorem obj_there (x:ObjOk P w H h a o):∃u,h.get? a=some u:=by
  cases o with
  | lst xs=>obtain ⟨_,_,_,_,e⟩:=x; exact ⟨_,e⟩
  | tup xs=>obtain ⟨_,_,_,ob,e,_⟩:=x; exact ⟨_,e⟩
  | dK kvs=>obtain ⟨_,_,_,_,o,_,_,e,_⟩:=x; exact ⟨_,e⟩
  | dT kvs=>obtain ⟨_,_,_,_,o,_,_,e,_⟩:=x; exact ⟨_,e⟩
  | set S n=>obtain ⟨o,_,_,_,e,_⟩:=x; exact ⟨_,e⟩
  | ins C dx fs=>obtain ⟨_,_,_,e,_⟩:=x; exact ⟨_,e⟩
  | own y=>obtain ⟨_,e⟩:=x; exact ⟨_,e⟩
  | xd fs=>obtain ⟨_,⟨_,_,_,e,_⟩,_⟩:=x; exact ⟨_,e⟩
  | rng lo hi=>obtain ⟨_,_,_,e⟩:=x; exact ⟨_,e⟩
  | frz ob u=>obtain ⟨e,_⟩:=x; exact ⟨_,e⟩
  | tbl ps=>exact ⟨_,(show h.get? a=some _ from x)⟩
  | met f y=>exact ⟨_,(show h.get? a=some _ from x)⟩
  | ext φ=>obtain ⟨_,⟨_,e⟩,_⟩:=x; exact ⟨_,e⟩
theorem Zfq (x:HOk P w H h) (k:∀b u o,H b=some o→h.get? b=some u→h'.get? b=some u):HOk P w H h':=fun b o e=>
  (x b o e).stay (fun c u hc q=>hc.elim (fun z=>k c u o (by rw [z]; exact e) q) (fun z=>k c u _ z q)) (fun _ q=>q) fun _ _ q=>q
end
structure FlyT (base:Heap) (l:List Env) (x T:Addr) (C:Addr) (fl:Value) (h:Heap):Prop where
  bx:base.get? x=none
  bT:base.get? T=none
  st:base.StaysIn h
  fun_:h.FunFrames base l
  tr:∃oe vs oT ts a0,h.get? x=some oe∧oe.cls=.ref C∧vs[0]?=some a0∧oe.data=.fields vs∧vs[1]?=some (.ref T)∧T≠x∧h.get? T=some oT∧oT.data=.fields ts∧ts[3]?=some fl
structure FlyS (P:Program) (w:World) (base:Heap) (l:List Env) (H:Hp) (s:Heap) (x T C:Addr) (fl:Value) (H':Hp) (h:Heap):Prop where
  un:Un (frs l) [] H H' s h
  hok:HOk P w H' h
  nx:s.get? x=none
  nT:s.get? T=none
  ux:H' x=none
  uT:H' T=none
  fly:FlyT base l x T C fl h
section
variable {P:Program} {w:World} {base:Heap} {l:List Env} {H H':Hp} {s h h':Heap} {x T C:Addr} {fl fl':Value}
abbrev hid (h:Heap) (l:List Env) (x T:Addr):Heap:=hideAll h (frs l++[x,T])
theorem FlyT.nfr (f:FlyT base l x T C fl h):x∉frs l∧T∉frs l:=by
  obtain ⟨oe,vs,oT,ts,a0,h1,h2,h3,h4,h5,h6,h7,h8,h9⟩:=f.tr
  refine ⟨fun z=>?_,fun z=>?_⟩
  · obtain ⟨_,o,ho,hn⟩:=f.fun_.mem z
    rw [h1] at ho; cases ho
    exact hn vs h4
  · obtain ⟨_,o,ho,hn⟩:=f.fun_.mem z
    rw [h7] at ho; cases ho
    exact hn ts h8
theorem Zqq (f:FlyT base l x T C fl h):base.StaysIn (hid h l x T):=fun b o e=>by
  refine hideAll_get _ (f.st b o e) fun z=>?_
  rcases List.mem_append.mp z with z | z
  · have:=(f.fun_.mem z).1
    rw [e] at this; cases this
  · simp only [List.mem_cons,List.not_mem_nil,or_false] at z
    rcases z with rfl | rfl
    · rw [f.bx] at e; cases e
    · rw [f.bT] at e; cases e
theorem Zjc (f:FlyT base l x T C fl h):∃a0,(hid h l x T).StaysIn h∧(hid h l x T).get? x=none∧h.FunFrames (hid h l x T) l∧h.TracedAtW (hid h l x T) x (.ref C) a0 fl:=by
  obtain ⟨oe,vs,oT,ts,a0,h1,h2,h3,h4,h5,h6,h7,h8,h9⟩:=f.tr
  exact ⟨a0,fun b o e=>of_hideAll _ e,hideAll_none _ (by simp),funFrames_hide f.fun_ (fun env he b hb=>List.mem_append_left _ (List.mem_filterMap.mpr ⟨env,he,hb⟩)),oe,vs,T,oT,ts,h1,⟨h2,h3⟩,h4,h5,hideAll_none _ (by simp),h6,h7,h8,h9⟩
theorem FlyS.move {a0:Value} {l':List Env} (F:FlyS P w base l H s x T C fl H' h) (hfr:∀b∈frs l,H b=none) (hl:∀b∈frs l,b∈frs l'∨s.get? b=none) (k1:(hid h l x T).StaysIn h') (k2:h'.FunFrames (hid h l x T) l') (k3:h'.TracedAtW (hid h l x T) x (.ref C) a0 fl') (k4:h.UpToSlots h') (hsub:∀b∈frs l',b∈frs l) (ku:∀b∈frs l,s.get? b=none∨b∈frs l' ) (hh:∀b∈frs l,H' b=none) :
    ∃T',FlyS P w base l' H s x T' C fl' H' h':=by
  have hb:=Zqq F.fly
  have nf:=F.fly.nfr
  obtain ⟨oe,vs,T',oT,ts,h1,⟨h2,h3⟩,h4,h5,h6,h7,h8,h9,h10⟩:=k3
  have inB:∀b o,h.get? b=some o→b∉frs l→b≠x→b≠T→h'.get? b=some o:=fun b o e n1 n2 n3=>k1 b o (hideAll_get _ e (by simp [n1,n2,n3]))
  have nT':T'∉frs l':=fun z=>by
    obtain ⟨_,o,ho,hn⟩:=k2.mem z
    rw [h8] at ho; cases ho
    exact hn ts h9
  have frk:∀b o,b∈frs l→h.get? b=some o→∃sl,h'.get? b=some { o with slots:=sl }:=fun b o z e=>by
    obtain ⟨_,o',ho',hn⟩:=F.fly.fun_.mem z
    rw [e] at ho'; cases ho'
    exact k4 b o e hn
  have gone:T'=T∨h.get? T'=none∨(T'∈frs l):=by
    by_cases z:T'=T
    · exact .inl z
    · by_cases y:T'∈frs l
      · exact .inr (.inr y)
      · right; left
        cases e:h.get? T' with
        | none=>rfl
        | some o=>
          have:=hideAll_get (frs l++[x,T]) e (by simp [z,y,h7])
          rw [this] at h6; cases h6
  have nfl:T'∉frs l:=fun z=>by
    obtain ⟨_,o,ho,hn⟩:=F.fly.fun_.mem z
    obtain ⟨sl,q⟩:=frk T' o z ho
    rw [h8] at q; cases q
    exact hn ts h9
  refine ⟨T',⟨⟨fun b o e n hb' _=>?_,fun b o e n hb' _=>?_,fun b o e n _=>F.un.free b o e n (by simp),fun b o e _=>?_,F.un.tups,F.un.frzs,F.un.tbls⟩,?_,F.nx,?_,F.ux,?_,⟨F.fly.bx,?_,fun b o e=>k1 b o (hb b o e),funFrames_base hb k2,oe,vs,oT,ts,a0,h1,h2,h3,h4,h5,h7,h8,h9,h10⟩⟩⟩
  · have nb:b∉frs l:=fun z=>(hl b z).elim hb' (fun y=>by rw [e] at y; cases y)
    exact inB b o (F.un.keep b o e n nb (by simp)) nb (fun z=>by rw [z,F.nx] at e; cases e) (fun z=>by rw [z,F.nT] at e; cases e)
  · obtain ⟨sl,q⟩:=F.un.slot b o e n (hsub b hb') (by simp)
    obtain ⟨sl2,q2⟩:=frk b _ (hsub b hb') q
    exact ⟨sl2,q2⟩
  · obtain ⟨o',q⟩:=F.un.there b o e (by simp)
    by_cases z:b∈frs l
    · obtain ⟨sl,q2⟩:=frk b o' z q
      exact ⟨_,q2⟩
    · exact ⟨o',inB b o' q z (fun z=>by rw [z,F.nx] at e; cases e) (fun z=>by rw [z,F.nT] at e; cases e)⟩
  · refine Zfq F.hok fun b u o e q=>inB b u q (fun z=>by rw [hh b z] at e; cases e) (fun z=>by rw [z,F.ux] at e; cases e) (fun z=>by rw [z,F.uT] at e; cases e)
  · rcases gone with z | z | z
    · rw [z]; exact F.nT
    · cases e:s.get? T' with
      | none=>rfl
      | some o=>obtain ⟨o',q⟩:=F.un.there T' o e (by simp); rw [z] at q; cases q
    · exact absurd z nfl
  · rcases gone with z | z | z
    · rw [z]; exact F.uT
    · cases e:H' T' with
      | none=>rfl
      | some o=>obtain ⟨u,q⟩:=obj_there (F.hok T' o e); rw [z] at q; cases q
    · exact absurd z nfl
  · cases e:base.get? T' with
    | none=>rfl
    | some o=>have:=hb T' o e; rw [this] at h6; cases h6
end
end L2.MM
namespace L2.MM
open PySem PySem.Spec PyProof.Rows PySem.W
def CX1 (P:Program) (w:World) (base:Heap) (C:Addr):CXT:=fun outer H s E e s'=>∃x T H',e=.ref x∧s'.os=s.os∧AllBare s'.gens∧FlyS P w base outer H s.heap x T C .none H' s'.heap∧E (.ref C) none H'
section
variable {P:Program} {w:World} {K:PySem.W.Frag} {mg:Str→Option Value} {base:Heap} {N:List Str} {qual:Str} {scope:Scope} {f C:Addr} {cd:Value} {A:Around} {outer:List Env} {s:Shared} {H:Hp} {E:XK} {CX:CXT}
theorem Zl3 {pins:List (Addr×Obj)} {σ:St} {H1:Hp} {s1:Shared} {e:Addr} {vs:List Value} {h':Heap} {M:Model} {E':Value→Shared→Prop} (I:Inv (Zc4 CX P w K mg base N qual scope f cd A outer s H E) pins σ H1 s1) (hx:Heap.MadeExcOf s1.heap h' e (.ref C) vs) (hE:E (.ref C) none H1) :
    wpAny M (A.deeper (envOfC qual scope s.heap.objs.size f cd)) (leaving (envOfC qual scope s.heap.objs.size f cd) (.ref e)) (fun _ s''=>CX1 P w base C outer H s E (.ref e) s'') E' { s1 with heap:=h' }:=by
  obtain ⟨X,hX⟩:∃X,X=Zc4 CX P w K mg base N qual scope f cd A outer s H E:=⟨_,rfl⟩
  rw [←hX] at I
  have eb:X.base=base:=by rw [hX]; rfl
  have es:X.stack=envOfC qual scope s.heap.objs.size f cd::outer:=by rw [hX]; rfl
  have ef:X.fs=frs outer:=by rw [hX]; rfl
  have e0:X.s₀=s:=by rw [hX]; rfl
  have eH:X.H₀=H:=by rw [hX]; rfl
  have eX:X.ex=[]:=by rw [hX]; rfl
  have eP:X.prog=P:=by rw [hX]; rfl
  have ew:X.w=w:=by rw [hX]; rfl
  have eL:X.env.locals=s.heap.objs.size:=by rw [hX]; rfl
  have hfr:(A.deeper (envOfC qual scope s.heap.objs.size f cd)).frames=some (envOfC qual scope s.heap.objs.size f cd::outer):=by
    have:=I.ok.frames
    rw [es] at this
    rw [hX] at this
    exact this
  have stk:=I.stack
  rw [es,eb] at stk
  obtain ⟨L,hL⟩:∃q,q=s.heap.objs.size:=⟨_,rfl⟩
  have fl:frs (envOfC qual scope s.heap.objs.size f cd::outer)=s.heap.objs.size::frs outer:=rfl
  obtain ⟨B,hB⟩:∃B,B=hideAll s1.heap (frs (envOfC qual scope s.heap.objs.size f cd::outer)):=⟨_,rfl⟩
  have bk:=I.bk
  rw [eb] at bk
  have stB:base.StaysIn B:=fun b o q=>by
    rw [hB]
    refine hideAll_get _ (bk b o q) fun hm=>?_
    have:=(stk.mem hm).1
    rw [q] at this; cases this
  have fnB:s1.heap.FunFrames B (envOfC qual scope s.heap.objs.size f cd::outer):=by
    rw [hB]
    exact funFrames_hide stk fun env he b hb=>List.mem_filterMap.mpr ⟨env,he,hb⟩
  refine wpAny_leaves_madeW (base:=B) (h:=s1.heap) hfr rfl (fun b o q=>by rw [hB] at q; exact of_hideAll _ q) fnB hx fun hh t x1 x2 x3 x4=>?_
  obtain ⟨k1,k2,k3,oe,vs',T,oT,ts,h1,⟨h2,h3⟩,h4,h5,h6,h7,h8,h9,h10⟩:=x1
  have inB:∀b o,s1.heap.get? b=some o→b∉s.heap.objs.size::frs outer→hh.get? b=some o:=fun b o q n=>k1 b o (by rw [hB,fl]; exact hideAll_get _ q n)
  have nfr:∀b,b∈s.heap.objs.size::frs outer→s1.heap.get? b=none→False:=fun b hb q=>by
    obtain ⟨_,o,ho,_⟩:=stk.mem (b:=b) hb
    rw [q] at ho; cases ho
  have u:Un (frs outer) [] H H1 s.heap s1.heap:=by
    have:=I.base
    rw [ef,eX,e0,eH] at this
    exact this
  have nT:s1.heap.get? T=none:=by
    cases q:s1.heap.get? T with
    | none=>rfl
    | some o=>
      by_cases z:T∈s.heap.objs.size::frs outer
      · obtain ⟨_,o',ho',hn⟩:=stk.mem (b:=T) z
        obtain ⟨sl,y⟩:=x4 T o' (hx.keeps T o' ho') hn
        rw [h8] at y; cases y
        exact absurd h9 (hn ts)
      · have:B.get? T=some o:=by rw [hB,fl]; exact hideAll_get _ q z
        rw [this] at h6; cases h6
  have hok:HOk P w H1 s1.heap:=by
    have:=I.hok
    rw [eP,ew] at this
    exact this
  have fre:∀b∈s.heap.objs.size::frs outer,H1 b=none:=fun b hb=>by
    have:=I.stkFree b
    rw [es] at this
    exact this hb
  have ltL:∀b o,s.heap.get? b=some o→b≠s.heap.objs.size:=fun b o q=>Nat.ne_of_lt (Heap.lt_size q)
  have sl4:∀b o,b∈frs outer→s1.heap.get? b=some o→∃sl,hh.get? b=some { o with slots:=sl }:=fun b o hb q=>by
    obtain ⟨_,o',ho',hn⟩:=stk.mem (b:=b) (List.mem_cons_of_mem _ hb)
    rw [q] at ho'; cases ho'
    exact x4 b o (hx.keeps b o q) hn
  refine ⟨e,T,H1,rfl,?_,?_,⟨⟨fun b o q n hb _=>?_,fun b o q n hb _=>?_,fun b o q n _=>u.free b o q n (by simp),fun b o q _=>?_,u.tups,u.frzs,u.tbls⟩,?_,?_,?_,?_,?_,⟨?_,?_,fun b o q=>k1 b o (stB b o q),funFrames_base stB k3,oe,vs',oT,ts,.ref t,h1,h2,h3,h4,h5,h7,h8,h9,h10⟩⟩,hE⟩
  · have:=I.os
    rw [e0] at this
    exact this
  · exact I.bare
  · exact inB b o (u.keep b o q n hb (by simp)) (fun z=>(List.mem_cons.mp z).elim (ltL b o q) hb)
  · obtain ⟨sl,y⟩:=u.slot b o q n hb (by simp)
    obtain ⟨sl2,y2⟩:=sl4 b _ hb y
    exact ⟨sl2,y2⟩
  · obtain ⟨o',y⟩:=u.there b o q (by simp)
    by_cases z:b∈frs outer
    · obtain ⟨sl,y2⟩:=sl4 b o' z y
      exact ⟨_,y2⟩
    · exact ⟨o',inB b o' y (fun z'=>(List.mem_cons.mp z').elim (ltL b o q) z)⟩
  · refine Zfq hok fun b v o q y=>inB b v y (fun z=>by rw [fre b z] at q; cases q)
  · cases q:s.heap.get? e with
    | none=>rfl
    | some o=>obtain ⟨o',y⟩:=u.there e o q (by simp); rw [hx.new] at y; cases y
  · cases q:s.heap.get? T with
    | none=>rfl
    | some o=>obtain ⟨o',y⟩:=u.there T o q (by simp); rw [nT] at y; cases y
  · cases q:H1 e with
    | none=>rfl
    | some o=>obtain ⟨o',y⟩:=obj_there (hok e o q); rw [hx.new] at y; cases y
  · cases q:H1 T with
    | none=>rfl
    | some o=>obtain ⟨o',y⟩:=obj_there (hok T o q); rw [nT] at y; cases y
  · cases q:base.get? e with
    | none=>rfl
    | some o=>have:=stB e o q; rw [k2] at this; cases this
  · cases q:base.get? T with
    | none=>rfl
    | some o=>have:=stB T o q; rw [h6] at this; cases this
theorem ZpI {x txt:Str} {j np cpos pos tpos} {B Bn newId nid initId inN:String} {bm bmN:List Value} (O:OwnCls x C bm newId mg base) (Fn:ExcBaseFacts Bn newId inN bmN) (hBn:bm.contains (.type Bn)=true) (FB:ExcBaseFacts B nid initId bm)
    (hg:Gl (Zc4 (CX1 P w base C) P w K mg base N qual scope f cd A outer s H E) x:=by rfl) (hd:(x == ("__debug__":Str))=false:=by decide) :
    PS (Zc4 (CX1 P w base C) P w K mg base N qual scope f cd A outer s H E) (.Raise (some (.Call (.Name x np) [.Constant (.str txt) j tpos] [] cpos)) none pos) (fun _ _ H1=>E (.ref C) none H1):=by
  intro pins s1 σ H1 D I hE
  obtain ⟨tl,Nn,nm,q,bs,hdct,sn,sub,ab,col,dd,k0,k1,k2,k3,k5,mN,hC,hN,hni,T⟩:=O.obj
  refine wpAny_Raise_call_subU (C:=C) (nm:=nm) (q:=q) (N:=Nn) (bs:=bs) (bm:=tl) (hdct:=hdct) (sn:=sn) (sub:=sub) (ab:=ab) (col:=col) (dd:=dd) (k0:=k0) (k1:=k1) (k2:=k2) (k3:=k3) (k5:=k5)
    Fn hBn FB (mN:=mN) (T.hasType FB.hasBase) (I.ok.hd rfl) rfl hni (Zer I hg O.bound ⟨rfl,?_⟩ hd)
  have pa:PA (Zc4 (CX1 P w base C) P w K mg base N qual scope f cd A outer s H E) [.Constant (.str txt) j tpos] (Zmr (tC (.str txt)) Zpt):=ZbI Ztl ZdM
  have h:=pa cpos pins s1 σ H1 (fun vs H2=>vs.length≤1∧E (.ref C) none H2) I (by exact ⟨by simp,hE⟩)
  refine Calls.evalArgs_plain (wpAny_mono h (fun vs s2 h2=>?_) fun _ _ y=>y)
  obtain ⟨ws,H2,I2,r,hl,hE2⟩:=h2
  have b2:=I2.bk
  refine ⟨rfl,?_,b2 _ _ hC,hN.keeps b2,T.keeps b2,fun h' e hx=>Zl3 I2 hx hE2⟩
  have:=r.length
  show vs.length≤sizeLine
  have:vs.length≤1:=by omega
  refine Nat.le_trans this ?_
  decide
end
end L2.MM
namespace L2.MM
open PySem PySem.Spec PyProof.Rows PySem.W PySem.SeqAt
noncomputable section
def ZdA (c:Str) (np nn:Nat) (test:TMr) (fb:SM):GM:=fun ds θ=>if ds.length=np then (match test (ZaF nn ds) θ with
  | .ok true θ=>.ex c θ
  | .ok false θ=>(match fb (ZaF nn ds) θ with
    | .ok (.nx,_) θ=>.ok .non θ
    | .ok (.rt d,_) θ=>.ok d θ
    | _=>.bad)
  | _=>.bad)
  else .bad
def spX (X:Mo) (C:Addr) (f:GM):Sp:=fun vs H Q E=>∃B θ ds,B.os=[]∧Good X B θ H∧RepL B H ds vs∧(match f ds θ with
  | .ok d θ'=>∀B' H' v,ExtE B B' H H'→Good X B' θ' H'→RepV B' H' d v→Q v H'
  | .ex _ θ'=>∀B' H',ExtE B B' H H'→Good X B' θ' H'→E (.ref C) none H'
  | .bad=>False)
theorem ZtD {P:Program} {w:World} {K:PySem.W.Frag} {mg:Str→Option Value} {base:Heap} {x qual:Str} {st:Stmt} {N ps:List Str} {k:Nat} {test:TMr} {fb:SM} {f C:Addr} {fd:FuncData} {xc txt:Str} {j np' cp rp ip tp} {c:Expr} {rest:List Stmt} {Bb Bn newId nid initId inN:String} {bm bmN:List Value} (cn:Str)
    (F:Fun K x qual st f fd) (S:Zp N ps (Zg st)) (np nn:Nat) (hp:ps.length=np) (hn:N.length=nn)
    (hst:Zn st=.If c [.Raise (some (.Call (.Name xc np') [.Constant (.str txt) j tp] [] cp)) none rp] [] ip::rest)
    (O:OwnCls xc C bm newId mg base) (Fn:ExcBaseFacts Bn newId inN bmN) (hBn:bm.contains (.type Bn)=true) (FB:ExcBaseFacts Bb nid initId bm)
    (hg:(Zg st).names.lookup xc=some .globalImplicit) (hdb:(xc == ("__debug__":Str))=false)
    (hbody:∀(cdv:Value) (A:Around) (outer:List Env) (s:Shared) (H:Hp) (E:XK),Room k (A.deeper (envOfC qual (Zg st) s.heap.objs.size f cdv))→MT (Zc4 (CX1 P w base C) P w K mg base N qual (Zg st) f cdv A outer s H E).nox c test∧MSs (Zc4 (CX1 P w base C) P w K mg base N qual (Zg st) f cdv A outer s H E).nox rest fb) :
    FnOk P w K mg base (CX1 P w base C) (k+1) f fd ps (spX ⟨zc mg,K⟩ C (ZdA cn np nn test fb)):=by
  obtain ⟨oc,od,kV,doc,pm,an,cdv,ct,osl,rfl,lk,hcd⟩:=F.ex
  refine ZsC lk hcd S ?_ fun A outer s H vs Q E hr hsp=>?_
  · rintro vs H Q E ⟨B,θ,ds,_,_,r,q⟩
    unfold ZdA at q
    by_cases hl:ds.length=np
    · rw [r.len,hl,hp]
    · rw [if_neg hl] at q; exact q.elim
  · obtain ⟨B,θ,ds,hos,G,r,q⟩:=hsp
    obtain ⟨hT,hR⟩:=hbody cdv A outer s H E hr
    have pr:=ZpI (P:=P) (w:=w) (K:=K) (mg:=mg) (base:=base) (N:=N) (qual:=qual) (scope:=Zg st) (f:=f) (C:=C) (cd:=cdv) (A:=A) (outer:=outer) (s:=s) (H:=H) (E:=E) (x:=xc) (txt:=txt) (j:=j) (np:=np') (cpos:=cp) (pos:=rp) (tpos:=tp) O Fn hBn FB hg hdb
    refine ⟨_,by rw [hst]; exact Zk2 (Zsn (PT.nox hT) (ZiQ pr) Zmu) (PSs.nox hR),?_⟩
    refine ⟨B,θ,ZaF nn ds,ZfS G r hn,?_⟩
    unfold ZdA at q
    by_cases hl:ds.length=np
    · rw [if_pos hl] at q
      cases e:test (ZaF nn ds) θ with
      | bad=>rw [e] at q; exact q.elim
      | ex c θ'=>rw [e] at q; exact q.elim
      | ok b θ1=>
        rw [e] at q
        intro B1 H1 b' E1 G1 rb
        cases (show b=b' from rb)
        cases b with
        | true=>exact q B1 H1 E1 G1
        | false=>
          dsimp only at q
          have F1:=(ZfS (N:=N) G r hn).ext E1 G1
          refine ⟨B1,θ1,ZaF nn ds,F1,?_⟩
          cases e2:fb (ZaF nn ds) θ1 with
          | bad=>rw [e2] at q; exact q.elim
          | ex c θ'=>rw [e2] at q; exact q.elim
          | ok p θ'=>
            rw [e2] at q
            obtain ⟨fl,ρ'⟩:=p
            intro B' H' σ' E' F'
            have hos1:B1.os=[]:=by rw [E1.osE]; exact hos
            have hos':∀a,a∈B.os→False:=fun a ha=>by rw [hos] at ha; cases ha
            have E0:ExtS B B' H H':=E1.toExtS.trans E'
            let B2:Bx:={ B' with os:=[] }
            have E2:ExtE B B2 H H':=⟨⟨E0.n,E0.m,E0.fr,E0.keep,E0.sm,fun a ha=>(nomatch ha),E0.F,E0.ks⟩,hos.symm,fun a o ha=>(hos' a ha).elim⟩
            have E3:ExtS B' B2 H' H':=⟨Nat.le_refl _,fun _ _=>rfl,fun i h h'=>absurd h' (Nat.not_lt.mpr h),fun _ _ e _ _=>e,fun _ e=>e,fun b hb=>(nomatch hb),rfl,rfl⟩
            have G2:Good ⟨zc mg,K⟩ B2 θ' H':=⟨F'.good.len,F'.good.inj,fun j c e=>(F'.good.cel j c e).ext E3 fun _ q=>q,fun j hj=>⟨(F'.good.cF j hj).1,fun z=>nomatch z⟩,F'.good.Fs,fun b z=>(nomatch z),fun b z=>(nomatch z),F'.good.kc⟩
            cases fl with
            | nx=>exact q B2 H' .non E2 G2 rfl
            | rt d=>exact fun v rv=>q B2 H' v E2 G2 (rv.ext E3)
            | bk=>exact q.elim
            | ct=>exact q.elim
    · rw [if_neg hl] at q
      exact q.elim
end
end L2.MM
namespace L2.MM
open PySem PySem.Spec PyProof.Rows PySem.W PySem.Calls
section
variable {prog:Program} {w:World} {A:Around} {E:Value→Shared→Prop} {h:Heap} {g:Array GenState} {d:Drawn} {tk:Nat} {os:OsState}
variable {nm q:Str} {C N:Addr} {bs bm:List Value} {hdct:Bool} {sn:List Str} {sub:List Value} {ab:Bool} {col:Option Bool} {dd:Option Addr} {k0 k1 k2 k3 k5:Option Value} {newId:String}
theorem Zqn {x:Addr} {oe:Obj} {Q:Value→Shared→Prop} (he:h.get? x=some oe) (hcls:oe.cls=.ref C) (hq:Q (.bool true) ⟨h,g,d,tk,os⟩) :
    wpAny (model prog w) A (call (.builtin "isinstance") [.ref x,.ref C]) Q E ⟨h,g,d,tk,os⟩:=by
  refine call_isinstance_of ?_ (by intro e; cases e)
  unfold Builtin.«isinstance.nested»
  have hb:(Value.ref C == Value.ref C)=true:=by simp
  repeat (first | (with_reducible refine wpAny_loadPart_at he ?_; rw [hcls]) | wp_step)
  exact hq
theorem Zqm {x:Addr} {oe:Obj} {T:String} {Q:Value→Shared→Prop} (he:h.get? x=some oe) (hcls:oe.cls=.ref C) (hC:h.get? C=some (excClassObj nm q C N bs bm hdct sn sub ab col dd k0 k1 k2 k3 k5 newId)) (hty:typeOf (.type T)=pure (.type "type")) (hb:bm.contains (.type T)=true) (hq:Q (.bool true) ⟨h,g,d,tk,os⟩) :
    wpAny (model prog w) A (call (.builtin "isinstance") [.ref x,.type T]) Q E ⟨h,g,d,tk,os⟩:=by
  refine call_isinstance_of ?_ (by intro e; cases e)
  have hc:(Value.ref C::bm).contains (.type T)=true:=by rw [List.contains_cons,hb,Bool.or_true]
  have hne:(Value.ref C == Value.type T)=false:=by simp
  unfold Builtin.«isinstance.nested»
  repeat (first | (with_reducible refine wpAny_loadPart_at he ?_; rw [hcls]) | (with_reducible refine wpAny_isSubtype_exc hC ?_; rw [hc]) | (refine wpAny_bind (m:=typeOf (.type T)) (wpAny_of_eq hty ?_)) | wp_step)
  exact hq
variable {nm' q':Str} {W N':Addr} {bs' bm':List Value} {hdct':Bool} {sn':List Str} {sub':List Value} {ab':Bool} {col':Option Bool} {dd':Option Addr} {k0' k1' k2' k3' k5':Option Value} {newId':String}
theorem Zi5 {e:Addr} {oe:Obj} {Q:Bool→Shared→Prop} (hC:h.get? C=some (excClassObj nm q C N bs bm hdct sn sub ab col dd k0 k1 k2 k3 k5 newId)) (hW:h.get? W=some (excClassObj nm' q' W N' bs' bm' hdct' sn' sub' ab' col' dd' k0' k1' k2' k3' k5' newId'))
    (he:h.get? e=some oe) (hcls:oe.cls=.ref C) (hbase:bm'.contains (.type "BaseException")=true) (hin:bm.contains (.ref W)=true) (hq:Q true ⟨h,g,d,tk,os⟩):wpAny (model prog w) A (excMatches (.ref e) (.ref W)) Q E ⟨h,g,d,tk,os⟩:=by
  have hcB:(Value.ref W::bm').contains (.type "BaseException")=true:=by rw [List.contains_cons,hbase,Bool.or_true]
  have hcC:(Value.ref C::bm).contains (.ref W)=true:=by rw [List.contains_cons,hin,Bool.or_true]
  have f:=tc_notTuple
  unfold excMatches
  repeat (first | (with_reducible refine wpAny_loadPart_at he ?_; rw [hcls]) | with_reducible refine wpAny_loadPart_at hW ?_ | (with_reducible refine wpAny_isSubtype_exc hW ?_; rw [hcB]) | (with_reducible refine wpAny_isSubtype_exc hC ?_; rw [hcC]) | wp_step)
  exact hq
variable {s:Shared} {env:Env}
theorem Zll {e:Addr} {t:Expr} {n:Str} {b₀:Stmt} {suite:List Stmt} {pos:Pos} {rest:List ExceptHandler} {Q:Flow→Shared→Prop} (hbase:bm'.contains (.type "BaseException")=true) (hin:bm.contains (.ref W)=true)
    (h:wpAny (model prog w) (A.mark (some (.ref e))) (eval t env) (fun c s₁=>c=.ref W∧s₁.heap.get? C=some (excClassObj nm q C N bs bm hdct sn sub ab col dd k0 k1 k2 k3 k5 newId)∧s₁.heap.get? W=some (excClassObj nm' q' W N' bs' bm' hdct' sn' sub' ab' col' dd' k0' k1' k2' k3' k5' newId')∧(∃oe,s₁.heap.get? e=some oe∧oe.cls=.ref C)∧
      wpAny (model prog w) (A.mark (some (.ref e))) (setFlight (.ref e) none) (fun _ s₂=>
          wpAny (model prog w) (A.mark (some (.ref e))) (storeName env n (.ref e)) (fun _ s₃=>
            wpAny (model prog w) (A.mark (some (.ref e))) (execs (b₀::suite) env)
              (fun f s₄=>wpAny (model prog w) A (do bindName env n .none; unbindBehindTheSuite env n pos) (fun _ s₅=>Q f s₅) E s₄)
              (AsSuiteRaised (model prog w) (A.mark (some (.ref e))) env n pos (notedBy (model prog w) (A.mark (some (.ref e))) env (cameBackBy (model prog w) A env E))) s₃) (notedBy (model prog w) (A.mark (some (.ref e))) env (cameBackBy (model prog w) A env E)) s₂) (notedBy (model prog w) (A.mark (some (.ref e))) env (cameBackBy (model prog w) A env E)) s₁) (notedBy (model prog w) (A.mark (some (.ref e))) env (cameBackBy (model prog w) A env E)) s) :
    wpAny (model prog w) A (handleBy (.ref e) env (.ExceptHandler (some t) (some n) (b₀::suite) pos::rest)) Q E s:=by
  refine wpAny_handleBy_cons (codeAny_handlers_test (wpAny_mono h (fun c s₁ h₁=>?_) fun _ _ y=>y)) (by intro q; cases q)
  obtain ⟨rfl,hC,hW,⟨oe,he,hcls⟩,hk⟩:=h₁
  obtain ⟨hh,g,d,tk,os⟩:=s₁
  exact Zi5 hC hW he hcls hbase hin (codeAny_handlers_suite_as hk)
end
end L2.MM
namespace L2.MM
open PySem PySem.Spec PyProof.Rows PySem.W PySem.Calls
section
variable {X:Cx} {pins:List (Addr×Obj)} {σ:St} {H:Hp} {s:Shared}
theorem Zpi {M:Model} {A:Around} {E:Value→Shared→Prop} {i:Nat} {x:Str} {pos:Pos} {Q:Unit→Shared→Prop} (I:Inv X pins σ H s) (hN:X.N.Nodup) (hi:X.N[i]?=some x) (hk:X.env.scope.names.lookup x=some .local)
    (h:∀s',Inv X pins (σ.set i none) H s'→Q () s'):wpAny M A (do bindName X.env x .none; unbindBehindTheSuite X.env x pos) Q E s:=by
  obtain ⟨m,hn,hl⟩:=id I.loc
  have hcls:(X.env.scope.kind == .class || (X.env.scope.kind == .module && X.env.locals != X.env.globals))=false:=by rw [I.ok.kind]; rfl
  have hiσ:i < σ.length:=by rw [I.len]; exact (List.getElem?_eq_some_iff.mp hi).1
  have cne:=I.cne
  refine wpAny_nameGoes_keeps hk hn hcls fun h' v hn' hs=>?_
  obtain ⟨oL,_,_,hoL,_⟩:=id hn
  have ltb:∀b o,X.s₀.heap.get? b=some o→b≠X.env.locals:=fun b o e=>Nat.ne_of_lt (Nat.lt_of_lt_of_le (Heap.lt_size e) I.ok.above)
  refine h _ ⟨I.ok,I.os,I.bare,⟨fun b o e n hb hx=>(hs.2 b (ltb b o e)).trans (I.base.keep b o e n hb hx),fun b o e n hb hx=>?_,I.base.free,fun b o e hx=>?_,I.base.tups,I.base.frzs,I.base.tbls⟩,⟨_,hn',fun j y v' e1 e2 e3=>?_⟩,fun y c e=>?_,I.free,I.freeC,fun p hp=>?_,?_,by simpa using I.len⟩
  · obtain ⟨sl,e1⟩:=I.base.slot b o e n hb hx
    exact ⟨sl,(hs.2 b (ltb b o e)).trans e1⟩
  · obtain ⟨o',e1⟩:=I.base.there b o e hx
    exact ⟨o',(hs.2 b (ltb b o e)).trans e1⟩
  · by_cases hj:j=i
    · subst hj
      rw [List.getElem?_set_self hiσ] at e2
      cases e2
    · rw [List.getElem?_set_ne (Ne.symm hj)] at e2
      obtain ⟨u',r',q⟩:=hl j y v' e1 e2 e3
      refine ⟨u',r',?_⟩
      rcases q with ⟨k,e⟩ | ⟨k,c,e,z⟩
      · refine .inl ⟨k,?_⟩
        have:y≠x:=fun e=>hj (Zfd hN e1 (e ▸ hi))
        simp [this,e]
      · exact .inr ⟨k,c,e,z.sameBut hs (cne y c e)⟩
  · obtain ⟨w',z⟩:=I.cell y c e
    exact ⟨w',z.sameBut hs (cne y c e)⟩
  · obtain ⟨e,n,ne,nf,d⟩:=I.pin p hp
    exact ⟨(hs.2 p.1 ne).trans e,n,ne,nf,d⟩
  · exact Zfq I.hok fun b u o e q=>(hs.2 b (fun z=>by rw [z,I.free] at e; cases e)).trans q
theorem Zra {M:Model} {A:Around} {E:Value→Shared→Prop} {i:Nat} {x:Str} {v:V} {u:Value} {Q:Unit→Shared→Prop} (I:Inv X pins σ H s) (hN:X.N.Nodup) (hi:X.N[i]?=some x) (hk:X.env.scope.names.lookup x=some .local) (r:RelV v u)
    (h:∀s',Inv X pins (σ.set i (some v)) H s'→Heap.SameBut X.env.locals s.heap s'.heap→Q () s'):wpAny M A (storeName X.env x u) Q E s:=by
  obtain ⟨m,hn,hl⟩:=id I.loc
  have hcls:(X.env.scope.kind == .class || (X.env.scope.kind == .module && X.env.locals != X.env.globals))=false:=by rw [I.ok.kind]; rfl
  have hiσ:i < σ.length:=by rw [I.len]; exact (List.getElem?_eq_some_iff.mp hi).1
  have cne:=I.cne
  refine wpAny_storeName_local hk hn (fun h' hn' hs=>?_) hcls
  have ltb:∀b o,X.s₀.heap.get? b=some o→b≠X.env.locals:=fun b o e=>Nat.ne_of_lt (Nat.lt_of_lt_of_le (Heap.lt_size e) I.ok.above)
  refine h _ ⟨I.ok,I.os,I.bare,⟨fun b o e n hb hx=>(hs.2 b (ltb b o e)).trans (I.base.keep b o e n hb hx),fun b o e n hb hx=>?_,I.base.free,fun b o e hx=>?_,I.base.tups,I.base.frzs,I.base.tbls⟩,⟨_,hn',fun j y v' e1 e2 e3=>?_⟩,fun y c e=>?_,I.free,I.freeC,fun p hp=>?_,?_,by simpa using I.len⟩ hs
  · obtain ⟨sl,e1⟩:=I.base.slot b o e n hb hx
    exact ⟨sl,(hs.2 b (ltb b o e)).trans e1⟩
  · obtain ⟨o',e1⟩:=I.base.there b o e hx
    exact ⟨o',(hs.2 b (ltb b o e)).trans e1⟩
  · by_cases hj:j=i
    · subst hj
      rw [hi] at e1; cases e1
      rw [List.getElem?_set_self hiσ] at e2
      cases e2
      exact ⟨u,r,.inl ⟨hk,by simp⟩⟩
    · rw [List.getElem?_set_ne (Ne.symm hj)] at e2
      obtain ⟨u',r',q⟩:=hl j y v' e1 e2 e3
      refine ⟨u',r',?_⟩
      rcases q with ⟨k,e⟩ | ⟨k,c,e,z⟩
      · refine .inl ⟨k,?_⟩
        have:y≠x:=fun e=>hj (Zfd hN e1 (e ▸ hi))
        simp [this,e]
      · exact .inr ⟨k,c,e,z.sameBut hs (cne y c e)⟩
  · obtain ⟨w',z⟩:=I.cell y c e
    exact ⟨w',z.sameBut hs (cne y c e)⟩
  · obtain ⟨e,n,ne,nf,d⟩:=I.pin p hp
    exact ⟨(hs.2 p.1 ne).trans e,n,ne,nf,d⟩
  · exact Zfq I.hok fun b u o e q=>(hs.2 b (fun z=>by rw [z,I.free] at e; cases e)).trans q
def Zdn (X:Cx) (x:Addr) (oe:Obj):Cx:={ X with A:=X.A.mark (some (.ref x)),calm:=false,pn:=X.pn++[(x,oe)],xe:=fun _ _=>False }
theorem Zhm {x:Addr} {oe:Obj} (I:Inv X pins σ H s) (he:s.heap.get? x=some oe) (hu:H x=none) (hn:x≠X.env.locals) (hf:x∉X.fs) (hd:∀v,oe.data≠.cell v):Inv (Zdn X x oe) pins σ H s:=by
  refine ⟨⟨I.ok.mod,I.ok.kind,I.ok.glob,I.ok.blt,I.ok.above,I.ok.inj,I.ok.has,I.ok.cab,fun z=>absurd (show false=true from z) (by decide),I.ok.frames,I.ok.stk,I.ok.exf,I.ok.bs,I.ok.bsz,I.ok.noex,I.ok.exfs,I.ok.funs,I.ok.frf⟩,I.os,I.bare,I.base,I.loc,I.cell,I.free,I.freeC,fun p hp=>?_,I.hok,I.len⟩
  have hp:p∈(X.pn++[(x,oe)])++pins:=hp
  rcases List.mem_append.mp hp with hp | hp
  · rcases List.mem_append.mp hp with hp | hp
    · exact I.pin p (List.mem_append_left _ hp)
    · have:p=(x,oe):=by simpa using hp
      subst this
      exact ⟨he,hu,hn,hf,hd⟩
  · exact I.pin p (List.mem_append_right _ hp)
theorem ZlS {x:Addr} {oe:Obj} (ok:X.Ok) (I:Inv (Zdn X x oe) pins σ H s):Inv X pins σ H s:=by
  refine ⟨ok,I.os,I.bare,I.base,I.loc,I.cell,I.free,I.freeC,fun p hp=>?_,I.hok,I.len⟩
  have hp:p∈X.pn++pins:=hp
  refine I.pin p ?_
  show p∈(X.pn++[(x,oe)])++pins
  rcases List.mem_append.mp hp with hp | hp
  · exact List.mem_append_left _ (List.mem_append_left _ hp)
  · exact List.mem_append_right _ hp
end
section
variable {X:Cx} {x C Nn:Addr} {oe:Obj} {nm q:Str} {bs bm:List Value} {hdct:Bool} {sn:List Str} {sub:List Value} {ab:Bool} {col:Option Bool} {dd:Option Addr} {k0 k1 k2 k3 k5:Option Value} {newId:String}
theorem Zlt (hcls:oe.cls=.ref C) (hC:X.base.get? C=some (excClassObj nm q C Nn bs bm hdct sn sub ab col dd k0 k1 k2 k3 k5 newId)) (hb:bm.contains (.type "ValueError")=true) :
    CallR (Zdn X x oe) (.builtin "isinstance") (fun xs H Q=>(xs=[.ref x,.ref C]∨xs=[.ref x,.ty "ValueError"])∧Q (.bl true) H):=by
  intro pins s σ H xs us Q I r q
  obtain ⟨q1,q2⟩:=q
  have he:s.heap.get? x=some oe:=(I.pin (x,oe) (by show _∈(X.pn++[(x,oe)])++pins; simp)).1
  have hC':=I.bk C _ hC
  have fin:EP (Zdn X x oe) pins σ Q (.bool true) s:=⟨.bl true,H,I,rfl,q2⟩
  obtain ⟨h,g,d,tk,os⟩:=s
  rcases q1 with rfl | rfl
  · have e:us=[.ref x,.ref C]:=by
      cases r with
      | cons r1 r2=>
        cases r2 with
        | cons r3 r4=>
          cases r4
          cases (show _=Value.ref x from r1)
          cases (show _=Value.ref C from r3)
          rfl
    rw [e]
    exact Zqn he hcls fin
  · have e:us=[.ref x,.type "ValueError"]:=by
      cases r with
      | cons r1 r2=>
        cases r2 with
        | cons r3 r4=>
          cases r4
          cases (show _=Value.ref x from r1)
          cases (show _=Value.type "ValueError" from r3)
          rfl
    rw [e]
    exact Zqm he hcls hC' rfl hb fin
end
end L2.MM
namespace L2.MM
open PySem PySem.Spec PyProof.Rows PySem.W PySem.Calls
section
variable {X:Cx} {pins:List (Addr×Obj)} {σ:St} {H H':Hp} {s:Shared} {xx T C W:Addr} {l:List Env}
theorem FlyS.here {h h':Heap} {fl fl' a0:Value} (I:Inv X pins σ H s) (F:FlyS X.prog X.w X.base X.stack H s.heap xx T C fl H' h) (k1:(hid h X.stack xx T).StaysIn h') (k2:h'.FunFrames (hid h X.stack xx T) X.stack) (k3:h'.TracedAtW (hid h X.stack xx T) xx (.ref C) a0 fl') (k4:h.UpToSlots h') :
    ∃T',FlyS X.prog X.w X.base X.stack H s.heap xx T' C fl' H' h':=
  F.move I.stkFree (fun b hb=>.inl hb) k1 k2 k3 k4 (fun b hb=>hb) (fun b hb=>.inr hb) (fun b hb=>by
    obtain ⟨_,o,ho,_⟩:=I.stack.mem hb
    exact F.un.free b o ho (I.stkFree b hb) (by simp))
theorem FlyS.inv {s':Shared} {fl:Value} (I:Inv X pins σ H s) (ho:s'.os=s.os) (hb:AllBare s'.gens) (F:FlyS X.prog X.w X.base X.stack H s.heap xx T C fl H' s'.heap):Inv X pins σ H' s':=
  I.call' (ch:=[]) ho F.un F.hok hb (fun b z=>absurd z (by simp))
variable {nm q:Str} {Nn:Addr} {bs bm:List Value} {hdct:Bool} {sn:List Str} {sub:List Value} {ab:Bool} {col:Option Bool} {dd:Option Addr} {k0 k1 k2 k3 k5:Option Value} {newId:String}
variable {nm' q':Str} {N':Addr} {bs' bm':List Value} {hdct':Bool} {sn':List Str} {sub':List Value} {ab':Bool} {col':Option Bool} {dd':Option Addr} {k0' k1' k2' k3' k5':Option Value} {newId':String}
theorem ZqI {s':Shared} {E:Value→Shared→Prop} {n rn WE cn:Str} {ie ir:Nat} {D:ZcP} {np p1 p2 p3 p4 p5 p6 p7 p8 p9 p10 p11 hp:Pos} (I:Inv X pins σ H s) (ho:s'.os=s.os) (hb:AllBare s'.gens) (F:FlyS X.prog X.w X.base X.stack H s.heap xx T C .none H' s'.heap)
    (hstk:X.stack=X.env::X.outer) (hfrm:X.env.frame=some X.env.locals)
    (hC:X.base.get? C=some (excClassObj nm q C Nn bs bm hdct sn sub ab col dd k0 k1 k2 k3 k5 newId)) (hW:X.base.get? W=some (excClassObj nm' q' W N' bs' bm' hdct' sn' sub' ab' col' dd' k0' k1' k2' k3' k5' newId'))
    (hbase:bm'.contains (.type "BaseException")=true) (hin:bm.contains (.ref W)=true) (hV:bm.contains (.type "ValueError")=true)
    (hN:X.N.Nodup) (hie:X.N[ie]?=some n) (hir:X.N[ir]?=some rn) (hnl:X.env.scope.names.lookup n=some .local) (hrl:Loc X.env.scope rn) (hfn:X.fn rn=true)
    (gW:Gl X WE) (mW:X.mg WE=some (.ref W)) (gC:Gl X cn) (mC:X.mg cn=some (.ref C)) (gI:Gl X "isinstance") (mI:X.mg "isinstance"=none) (gV:Gl X "ValueError") (mV:X.mg "ValueError"=none)
    (d1:(WE == ("__debug__":Str))=false) (d2:(cn == ("__debug__":Str))=false) (d3:(n == ("__debug__":Str))=false) (d4:(n == ("__classdict__":Str))=false)
    (hsw:∀Y:Cx,Y.env=X.env→swapsWith (.BoolOp .And [.Call (.Name "isinstance" p2) [.Name n p3,.Name cn p4] [] p5,.Call (.Name "isinstance" p6) [.Name n p7,.Name "ValueError" p8] [] p9] p10) (some (.Name rn p1)) p11.line Y.env=pure false)
    (hD:D.nx (((σ.set ie (some (.ref xx))).set ir (some (.bl true))).set ie none) H') :
    wpAny (model X.prog X.w) X.A (noteFrame (.ref xx) X.env) (fun _ s₂=>wpAny (model X.prog X.w) X.A (setFlight (.ref xx) none) (fun _ s₃=>wpAny (model X.prog X.w) X.A (handleBy (.ref xx) X.env
      [.ExceptHandler (some (.Name WE np)) (some n) [.Assign [.Name rn p1] (.BoolOp .And [.Call (.Name "isinstance" p2) [.Name n p3,.Name cn p4] [] p5,.Call (.Name "isinstance" p6) [.Name n p7,.Name "ValueError" p8] [] p9] p10) p11] hp]) (SP X pins D) E s₃) E s₂) E s':=by
  have hfr:X.A.frames=some (X.env::X.outer):=by rw [←hstk]; exact I.ok.frames
  obtain ⟨a0,f1,f2,f3,f4⟩:=Zjc F.fly
  refine wpAny_looks_onW (base:=hid s'.heap X.stack xx T) hfr hfrm ⟨f1,f2,by rw [←hstk]; exact f3,f4⟩ fun h4 hh hu=>?_
  obtain ⟨g1,g2,g3,g4⟩:=hh
  rw [←hstk] at g3
  obtain ⟨T4,F4⟩:=F.here I g1 g3 g4 hu
  obtain ⟨a1,f1,f2,f3,f4⟩:=Zjc F4.fly
  refine wpAny_landsW (base:=hid h4 X.stack xx T4) (l:=X.stack) ⟨f1,f2,f3,f4⟩ fun h5 hh hu=>?_
  obtain ⟨g1,g2,g3,g4⟩:=hh
  obtain ⟨T5,F5⟩:=F4.here I g1 g3 g4.at hu
  obtain ⟨oe,vs,oT,ts,a2,e1,e2,e3,e4,e5,e6,e7,e8,e9⟩:=F5.fly.tr
  have I5:Inv X pins σ H' { s' with heap:=h5 }:=F5.inv (s':={ s' with heap:=h5 }) I ho hb
  have nfr:=F5.fly.nfr.1
  have nL:xx≠X.env.locals:=fun z=>nfr (by rw [z,hstk]; show _∈List.filterMap _ _; simp [hfrm])
  have nfs:xx∉X.fs:=fun z=>nfr (by rw [hstk]; show _∈List.filterMap _ _; rw [List.filterMap_cons,hfrm]; exact List.mem_cons_of_mem _ z)
  have J5:=Zhm I5 e1 F5.ux nL nfs (fun v z=>by rw [e4] at z; cases z)
  refine Zll (C:=C) (W:=W) (N:=Nn) (nm:=nm) (q:=q) (bs:=bs) (bm:=bm) (hdct:=hdct) (sn:=sn) (sub:=sub) (ab:=ab) (col:=col) (dd:=dd) (k0:=k0) (k1:=k1) (k2:=k2) (k3:=k3) (k5:=k5) (newId:=newId) (N':=N') (nm':=nm') (q':=q') (bs':=bs') (bm':=bm') (hdct':=hdct') (sn':=sn') (sub':=sub') (ab':=ab') (col':=col') (dd':=dd') (k0':=k0') (k1':=k1') (k2':=k2') (k3':=k3') (k5':=k5') (newId':=newId') hbase hin ?_
  refine Zer (X:=Zdn X xx oe) J5 gW mW ⟨rfl,I5.bk C _ hC,I5.bk W _ hW,⟨oe,e1,e2⟩,?_⟩ d1
  obtain ⟨a3,f1,f2,f3,f4⟩:=Zjc F5.fly
  refine lands_againW (base:=hid h5 X.stack xx T5) (l:=X.stack) ⟨f1,f2,f3,f4⟩ fun h6 hh hu=>?_
  obtain ⟨g1,g2,g3,g4⟩:=hh
  obtain ⟨T6,F6⟩:=F5.here I g1 g3 g4.at hu
  have I6:Inv X pins σ H' { s' with heap:=h6 }:=F6.inv (s':={ s' with heap:=h6 }) I ho hb
  obtain ⟨oe6,vs6,oT6,ts6,a6,e1,e2,e3,e4,e5,e6,e7,e8,e9⟩:=F6.fly.tr
  refine Zra (v:=.ref xx) I6 hN hie hnl rfl (fun s7 I7 hs7=>?_)
  have x7:s7.heap.get? xx=some oe6:=(hs7.2 xx nL).trans e1
  have J7:=Zhm I7 x7 F6.ux nL nfs (fun v z=>by rw [e4] at z; cases z)
  have hlen:ie < σ.length:=by rw [I.len]; exact (List.getElem?_eq_some_iff.mp hie).1
  have rule:PS (Zdn X xx oe6) (.Assign [.Name rn p1] (.BoolOp .And [.Call (.Name "isinstance" p2) [.Name n p3,.Name cn p4] [] p5,.Call (.Name "isinstance" p6) [.Name n p7,.Name "ValueError" p8] [] p9] p10) p11) _:=
    ZlM hN hir hrl (ZpX (Zg4 (Zlt e2 hC hV) gI mI PyProof.Rows.boot_isinstance (ZbI (ZiS hie (.inl hnl) d3 d4) (ZbI (ZiT (v:=.ref C) gC mC rfl d2) ZdM)))
      (ZpN (Zg4 (Zlt e2 hC hV) gI mI PyProof.Rows.boot_isinstance (ZbI (ZiS hie (.inl hnl) d3 d4) (ZbI (Zrw (v:=.ty "ValueError") gV mV (by decide +kernel) rfl) ZdM))))) (hsw (Zdn X xx oe6) rfl) (.inl hfn)
  have run:=ZiQ rule pins s7 (σ.set ie (some (.ref xx))) H' { nx:=fun σ8 H8=>σ8=(σ.set ie (some (.ref xx))).set ir (some (.bl true))∧H8=H',rt:=fun _ _=>False } J7
    (by
      have gs:(σ.set ie (some (V.ref xx)))[ie]?=some (some (.ref xx)):=List.getElem?_set_self hlen
      exact ⟨.ref xx,gs,.inl rfl,true,rfl,.ref xx,gs,.inr rfl,rfl,rfl⟩)
  refine wpAny_mono run (fun f s8 q=>?_) fun _ _ z=>z.elim
  cases f with
  | next=>
    obtain ⟨σ8,H8,J8,rfl,rfl⟩:=q
    have I8:=ZlS I.ok J8
    exact Zpi I8 hN hie hnl fun s9 I9=>⟨_,_,I9,hD⟩
  | brk=>obtain ⟨_,_,_,z⟩:=q; exact z.elim
  | cont=>obtain ⟨_,_,_,z⟩:=q; exact z.elim
  | ret u=>obtain ⟨_,_,_,_,_,z⟩:=q; exact z.elim
end
end L2.MM
namespace L2.MM
open PySem PySem.Spec PyProof.Rows PySem.W PySem.Calls PySem.SeqAt
noncomputable section
structure Zr8 (base:Heap) (mg:Str→Option Value) (C W:Addr) (cn WE:Str):Prop where
  ex:∃(nm q:Str) (Nn:Addr) (bs bm:List Value) (hdct:Bool) (sn:List Str) (sub:List Value) (ab:Bool) (col:Option Bool) (dd:Option Addr) (k0 k1 k2 k3 k5:Option Value) (newId:String) (nm' q':Str) (N':Addr) (bs' bm':List Value) (hdct':Bool) (sn':List Str) (sub':List Value) (ab':Bool) (col':Option Bool) (dd':Option Addr) (k0' k1' k2' k3' k5':Option Value) (newId':String),
    base.get? C=some (excClassObj nm q C Nn bs bm hdct sn sub ab col dd k0 k1 k2 k3 k5 newId)∧base.get? W=some (excClassObj nm' q' W N' bs' bm' hdct' sn' sub' ab' col' dd' k0' k1' k2' k3' k5' newId')∧
    bm'.contains (.type "BaseException")=true∧bm.contains (.ref W)=true∧bm.contains (.type "ValueError")=true
  mW:mg WE=some (.ref W)
  mC:mg cn=some (.ref C)
  mI:mg "isinstance"=none
  mV:mg "ValueError"=none
section
variable {X:Cx}
theorem Frm.no {B:Bx} {θ:Sto} {ρ:List Sl} {σ:St} {H:Hp} (F:Frm X.cl B θ ρ σ H) (i:Nat) (y:Option V):Frm X.cl B θ (ρ.set i .no) (σ.set i y) H:=by
  have oth:∀(j:Nat) (s:Sl),(ρ.set i Sl.no)[j]?=some s→s=.no∨(j≠i∧ρ[j]?=some s):=fun j s e=>by
    by_cases q:j=i
    · subst q
      have hl:j < ρ.length:=by
        have:=(List.getElem?_eq_some_iff.mp e).1
        simpa using this
      rw [List.getElem?_set_self hl] at e
      cases e; exact .inl rfl
    · rw [List.getElem?_set_ne (Ne.symm q)] at e
      exact .inr ⟨q,e⟩
  refine ⟨F.good,by simp [F.len],fun j d e=>?_,fun j xs e=>?_,fun j k xs ys a hjk e1 e2 e3=>?_⟩
  · rcases oth j _ e with z | ⟨n,z⟩
    · cases z
    · obtain ⟨v,h1,h2⟩:=F.val j d z
      exact ⟨v,by rw [List.getElem?_set_ne (Ne.symm n)]; exact h1,h2⟩
  · rcases oth j _ e with z | ⟨n,z⟩
    · cases z
    · obtain ⟨a,vs,h1,h2⟩:=F.own j xs z
      exact ⟨a,vs,by rw [List.getElem?_set_ne (Ne.symm n)]; exact h1,h2⟩
  · rcases oth j _ e1 with z | ⟨n,z⟩
    · cases z
    · rcases oth k _ e2 with z' | ⟨n',z'⟩
      · cases z'
      · rw [List.getElem?_set_ne (Ne.symm n)] at e3
        rw [List.getElem?_set_ne (Ne.symm n')]
        exact F.ne j k xs ys a hjk z z' e3
end
end
end L2.MM
namespace L2.MM
open PySem PySem.Spec PyProof.Rows PySem.W PySem.Calls PySem.SeqAt
abbrev Ziq:List Value:=[.type "ValueError",.type "Exception",.type "BaseException",.type "object"]
abbrev ZvA (W:Addr):List Value:=[.ref W,.type "ValueError",.type "Exception",.type "BaseException",.type "object"]
abbrev Zvz (C W:Addr):List Value:=[.ref C,.ref W,.type "ValueError",.type "Exception",.type "BaseException",.type "object"]
section
variable {K:PySem.W.Frag} {h:Heap} {mg:Str→Option Value} {C W:Addr} {bb:List Value} {n:String} {cn WE:Str}
theorem Zf7 (q:excIn K C bb n=true):∃(nm qn:Str) (bs tl:List Value) (ns:Addr) (hd:Bool) (sn:List Str) (sub:List Value) (ab:Bool) (col:Option Bool) (dd:Option Addr) (k0 k1 k2 k3 k5:Option Value),
    K.lookup C=some (excClassObj nm qn C ns bs tl hd sn sub ab col dd k0 k1 k2 k3 k5 n)∧tailIn K bb tl=true∧nsOkIn K ns=true∧nsIn K ns "__init__"=some none:=by
  unfold excIn at q
  split at q
  · next dd cd sl ho=>
    split at q
    · next C' tl k0 k1 k2 k3 n' k5 e1 e2=>
      have q':=q
      rw [Bool.and_eq_true,Bool.and_eq_true,Bool.and_eq_true,Bool.and_eq_true,Bool.and_eq_true] at q'
      obtain ⟨⟨⟨⟨⟨y1,y2⟩,y3⟩,y4⟩,y5⟩,y6⟩:=q'
      have z1:C'=C:=by simpa using y1
      have z2:n'=n:=by simpa using y2
      have z3:cd.hasDel=false:=by simpa using y3
      subst z1 z2
      cases cd
      simp only at e1 z3 y5 y6
      subst e1 z3
      cases sl
      simp only at e2
      subst e2
      exact ⟨_,_,_,tl,_,_,_,_,_,_,dd,k0,k1,k2,k3,k5,ho,y4,y5,by simpa using y6⟩
    · exact absurd q (by decide)
  · exact absurd q (by decide)
theorem ZrY (X:K.In h) (G:h.Ns mainGlobals mg) (a:nsIn K mainGlobals cn=some (some (.ref C))) (q:excIn K C bb n=true):OwnCls cn C bb n mg h:=by
  obtain ⟨nm,qn,bs,tl,ns,hd,sn,sub,ab,col,dd,k0,k1,k2,k3,k5,y1,y2,y3,y4⟩:=Zf7 q
  have g:=mg_of X G a
  have t:=tail_of_in X y2
  have i:=nsMap_none_of_in X y3 y4
  exact { bound:=g,obj:=⟨tl,ns,nm,qn,bs,hd,sn,sub,ab,col,dd,k0,k1,k2,k3,k5,h.nsMap ns,X C _ y1,.of_isNs (isNs_of_in X y3),i,t⟩ }
theorem ZrQ {dC dW:Option Addr} {cC cW:ClassData} {sC sW:Array (Option Value)} (X:K.In h) (G:h.Ns mainGlobals mg) (a:nsIn K mainGlobals cn=some (some (.ref C))) (q:excIn K C bb n=true) (l:K.lookup C=some ⟨.type "type",dC,.cls cC,sC⟩) (m:cC.mro=[.ref C,.ref W,.type "ValueError",.type "Exception",.type "BaseException",.type "object"])
    (a':nsIn K mainGlobals WE=some (some (.ref W))) (q':excIn K W bb n=true) (l':K.lookup W=some ⟨.type "type",dW,.cls cW,sW⟩) (m':cW.mro=[.ref W,.type "ValueError",.type "Exception",.type "BaseException",.type "object"])
    (zI:nsIn K mainGlobals "isinstance"=some none) (zV:nsIn K mainGlobals "ValueError"=some none):Zr8 h mg C W cn WE:=by
  obtain ⟨nm,qn,bs,tl,ns,hd,sn,sub,ab,col,dd,k0,k1,k2,k3,k5,y1,y2,y3,y4⟩:=Zf7 q
  obtain ⟨nm',qn',bs',tl',ns',hd',sn',sub',ab',col',dd',k0',k1',k2',k3',k5',w1,w2,w3,w4⟩:=Zf7 q'
  have e:tl=[.ref W,.type "ValueError",.type "Exception",.type "BaseException",.type "object"]:=by
    have z:=Option.some.inj (y1.symm.trans l)
    injection z with z1 z2 z3 z4
    injection z3 with z5
    rw [←z5] at m
    injection m
  have e':tl'=[.type "ValueError",.type "Exception",.type "BaseException",.type "object"]:=by
    have z:=Option.some.inj (w1.symm.trans l')
    injection z with z1 z2 z3 z4
    injection z3 with z5
    rw [←z5] at m'
    injection m'
  subst e e'
  refine ⟨⟨nm,qn,ns,bs,_,hd,sn,sub,ab,col,dd,k0,k1,k2,k3,k5,n,nm',qn',ns',bs',_,hd',sn',sub',ab',col',dd',k0',k1',k2',k3',k5',n,X _ _ y1,X _ _ w1,by decide,by simp,by simp⟩,mg_of X G a',mg_of X G a,mg_none_of X G zI,mg_none_of X G zV⟩
end
end L2.MM
namespace L2.MM
open PySem PySem.Spec PyProof.Rows PySem.W PySem.Calls PySem.SeqAt
noncomputable section
def Ze3 (P:Program) (w:World) (K:PySem.W.Frag) (mg:Str→Option Value) (base:Heap) (k:Nat) (C:Addr) (cn m:Str) (f:GM):Prop:=(∃fa fd ps,Meth K (zc mg cn) m fa∧FnOk P w K mg base (CX1 P w base C) k fa fd ps (spX ⟨zc mg,K⟩ C f)∧Binds K fd ps [])∧Cls K (zc mg cn)
def wpX (X:Cx) (σ:St) (B:Bx) (H:Hp) (ρ:List Sl) (r:R (Fl×List Sl)) (D:ZcP) (EQ:Hp→Prop):Prop:=match r with
  | .ok (fl,ρ') θ'=>∀B' H' σ',ExtS B B' H H'→Frm X.cl B' θ' ρ' σ' H'→Zqx D B' σ' H' fl
  | .ex _ θ'=>∀B' H',ExtS B B' H H'→Frm X.cl B' θ' ρ σ H'→EQ H'
  | .bad=>False
section
variable {X:Cx}
theorem wpX.trans {σ:St} {B B':Bx} {H H':Hp} {ρ:List Sl} {r:R (Fl×List Sl)} {D:ZcP} {EQ:Hp→Prop} (h:wpX X σ B H ρ r D EQ) (E:ExtS B B' H H'):wpX X σ B' H' ρ r D EQ:=by
  cases r with
  | ok a θ'=>exact fun B2 H2 σ2 e g=>h B2 H2 σ2 (E.trans e) g
  | ex c θ'=>exact fun B2 H2 e g=>h B2 H2 (E.trans e) g
  | bad=>exact h
def ZsF (X:Cx) (C:Addr) (pins:List (Addr×Obj)) (σ:St) (EQ:Hp→Prop) (Ex:Value→Shared→Prop):Prop:=
  ∀(s1:Shared) (H1:Hp) (s':Shared) (xx T:Addr) (H':Hp),Inv X pins σ H1 s1→s'.os=s1.os→AllBare s'.gens→FlyS X.prog X.w X.base X.stack H1 s1.heap xx T C .none H' s'.heap→EQ H'→Ex (.ref xx) s'
def MX (X:Cx) (C:Addr) (st:Stmt) (f:SM):Prop:=∀(pins:List (Addr×Obj)) (s:Shared) (σ:St) (H:Hp) (D:ZcP) (EQ:Hp→Prop) (Ex:Value→Shared→Prop),Inv X pins σ H s→ZsF X C pins σ EQ Ex→
  (∃B θ ρ,Frm X.cl B θ ρ σ H∧wpX X σ B H ρ (f ρ θ) D EQ)→wpAny (model X.prog X.w) X.A (exec st X.env) (SP X pins D) Ex s
def ZhV (t:TMr) (a b:SM):SM:=fun ρ θ=>match t ρ θ with
  | .ok true θ=>a ρ θ
  | .ok false θ=>b ρ θ
  | _=>.bad
def Zcm (cn m:Str) (f:GM) (fo:EM) (fs:AM):SM:=fun ρ θ=>match fo ρ θ with
  | .ok d θ1=>(match Zco θ1 d with
    | some (_,C',gs)=>if C'=cn∧gs.lookup m=none then (match fs ρ θ1 with
      | .ok ds θ2=>(match f (d::ds) θ2 with
        | .ok _ θ3=>.ok (.nx,ρ) θ3
        | .ex c θ3=>.ex c θ3
        | .bad=>.bad)
      | _=>.bad) else .bad
    | none=>.bad)
  | _=>.bad
theorem ZiZ {C:Addr} {st:Stmt} {f:SM} (h:MX X C st f) (pins:List (Addr×Obj)) (s:Shared) (σ:St) (H:Hp) (D:ZcP) (EQ:Hp→Prop) (Ex:Value→Shared→Prop) (I:Inv X pins σ H s) (R:ZsF X C pins σ EQ Ex)
    (q:∃B θ ρ,Frm X.cl B θ ρ σ H∧wpX X σ B H ρ (f ρ θ) D EQ):wpAny (model X.prog X.w) X.A (execs [st] X.env) (SP X pins D) Ex s:=by
  refine wpAny_execs_cons (thn (h pins s σ H D EQ Ex I R q) fun f s1 q=>?_)
  cases f with
  | next=>exact wpAny_execs_nil q
  | ret v=>exact q
  | brk=>exact q
  | cont=>exact q
theorem Zst {C:Addr} {c:Expr} {a b:Stmt} {t:TMr} {fa fb:SM} {pos:Pos} (hx0:X.xe=fun _ _=>False) (ht:MT X c t) (ha:MX X C a fa) (hb:MX X C b fb):MX X C (.If c [a] [b] pos) (ZhV t fa fb):=by
  intro pins s σ H D EQ Ex I R q
  obtain ⟨B,θ,ρ,F,w⟩:=q
  unfold ZhV at w
  refine wpAny_If ?_
  cases e:t ρ θ with
  | bad=>rw [e] at w; exact w.elim
  | ex c θ'=>rw [e] at w; exact w.elim
  | ok k θ1=>
    rw [e] at w
    have pt:=ht pins s σ H (fun k' H1=>k'=k∧∃B1,ExtE B B1 H H1∧Good X.cl B1 θ1 H1) I ⟨B,θ,ρ,F,by rw [e]; exact fun B1 H1 k' E1 G1 r=>⟨(show k=k' from r).symm,B1,E1,G1⟩⟩
    rw [hx0] at pt
    refine wpAny_mono pt (fun k' s1 z=>?_) fun _ _ z=>z.elim
    obtain ⟨H1,I1,rfl,B1,E1,G1⟩:=z
    cases k' with
    | true=>exact ZiZ ha pins s1 σ H1 D EQ Ex I1 R ⟨B1,θ1,ρ,F.ext E1 G1,wpX.trans w E1.toExtS⟩
    | false=>exact ZiZ hb pins s1 σ H1 D EQ Ex I1 R ⟨B1,θ1,ρ,F.ext E1 G1,wpX.trans w E1.toExtS⟩
theorem Zi0 {C:Addr} {k j:Nat} {cn m:Str} {f:GM} {apos pos epos:Pos} {o e:Expr} {es:List Expr} {fo:EM} {fs:AM} {pl:Sem Bool} (hx0:X.xe=fun _ _=>False) (M:Ze3 X.prog X.w X.K X.mg X.base k C cn m f) (hr:Room j X.A) (hj:k≤j) (ho:ME X o fo) (ha:MA X (e::es) fs)
    (hst:starEach (e::es) X.env=(false,eval e X.env)::starEach es X.env:=by rfl) (hpl:(backTo pos (starEach es X.env)).any (·.1)=false:=by rfl)
    (hs:swapsWith (.Call (.Attribute o m apos) (e::es) [] pos) none epos.line X.env=pure false:=by rfl)
    (ht:eval (.Call (.Attribute o m apos) (e::es) [] pos) X.env=(do
      let ov ←eval o X.env
      standAt apos.atName
      let (f,first) ←holding [ov] (getMethod ov m pl)
      callWith pos f first (backTo pos (starEach (e::es) X.env)) (backToKw pos (keywordEach [] X.env))):=by rfl) :
    MX X C (.Expr (.Call (.Attribute o m apos) (e::es) [] pos) epos) (Zcm cn m f fo fs):=by
  intro pins s σ H D EQ Ex I R q
  obtain ⟨B,θ,ρ,F,w⟩:=q
  obtain ⟨⟨fa,fd,ps,mt,FO,hb⟩,hcl⟩:=M
  unfold Zcm at w
  cases eo:fo ρ θ with
  | bad=>rw [eo] at w; exact w.elim
  | ex c θ'=>rw [eo] at w; exact w.elim
  | ok d θ1=>
    rw [eo] at w
    dsimp only at w
    cases ei:Zco θ1 d with
    | none=>rw [ei] at w; exact w.elim
    | some p=>
      obtain ⟨l,C',gs⟩:=p
      rw [ei] at w
      dsimp only at w
      by_cases hC:C'=cn∧gs.lookup m=none
      · rw [if_pos hC] at w
        cases ea:fs ρ θ1 with
        | bad=>rw [ea] at w; exact w.elim
        | ex c θ'=>rw [ea] at w; exact w.elim
        | ok ds θ2=>
          rw [ea] at w
          dsimp only at w
          refine wpAny_Expr_any (Q:=SP X pins D) ?_ I.quiet hs
          have po:=ho pins s σ H (fun v H1=>∃B1,ExtE B B1 H H1∧Good X.cl B1 θ1 H1∧RepV B1 H1 d v) I ⟨B,θ,ρ,F,by rw [eo]; exact fun B1 H1 v E1 G1 r=>⟨B1,E1,G1,r⟩⟩
          rw [hx0] at po
          refine PySem.W.methodCall_KW (pl:=pl) (wpAny_mono po (fun u s1 z=>?_) fun _ _ z=>z.elim) ht
          obtain ⟨v,H1,I1,rv,B1,E1,G1,rd⟩:=z
          have F1:=F.ext E1 G1
          obtain ⟨hl,ev,dx,us,h1,h2⟩:=Zfm F1.good rd ei
          rw [hC.1] at h1
          subst ev
          obtain rfl:u=Value.ref (B1.m l):=rv
          refine ZeU I1 h1 hcl mt (h2.none hC.2) ?_
          have pa:=ha pos pins s1 σ H1 (fun vs H2=>∃B2,ExtE B1 B2 H1 H2∧Good X.cl B2 θ2 H2∧RepL B2 H2 ds vs) I1 ⟨B1,θ1,ρ,F1,by rw [ea]; exact fun B2 H2 v E2 G2 r=>⟨B2,E2,G2,r⟩⟩
          rw [hx0] at pa
          refine PySem.W.callWith_K (first:=[.ref (B1.m l)]) (h₀:=X.base) I.ok.mod.kin mt.kp (wpAny_mono pa (fun us s2 q=>?_) fun _ _ z=>z.elim) hst hpl
          obtain ⟨vs,H2,I2,r,B2,E2,G2,rds⟩:=q
          refine ⟨I2.kIn,?_⟩
          have F2:=F1.ext E2 G2
          have w2:=wpX.trans (wpX.trans w E1.toExtS) E2.toExtS
          have rd2:RepL B2 H2 (d::ds) (V.ref (B1.m l)::vs):=⟨_,vs,rfl,rd.ext E2.toExtS,rds⟩
          obtain ⟨Qs,hQs⟩:∃Qs:VK,Qs=fun v H3=>D.nx σ H3:=⟨_,rfl⟩
          obtain ⟨Es,hEs⟩:∃Es:XK,Es=fun _ _ H3=>EQ H3:=⟨_,rfl⟩
          have hsp:spX X.cl C f ((V.ref (B1.m l)::vs)++[]) H2 Qs Es:=by
            rw [List.append_nil]
            refine ⟨B2.inC,θ2,d::ds,rfl,Zlm G2,RepL.same (B:=B2) (B':=B2.inC) rfl rfl rfl (fun a=>inC_ok.mpr) rd2,?_⟩
            cases ef:f (d::ds) θ2 with
            | bad=>rw [ef] at w2; exact w2
            | ok d3 θ3=>
              rw [ef] at w2
              intro B' H' v E' G' rv
              obtain ⟨y1,y2,y3⟩:=ZpZ G2 E' G'
              rw [hQs]
              exact w2 _ H' _ y1.toExtS (F2.ext y1 y2)
            | ex c θ3=>
              rw [ef] at w2
              intro B' H' E' G'
              obtain ⟨y1,y2,y3⟩:=ZpZ G2 E' G'
              rw [hEs]
              exact w2 _ H' y1.toExtS (F2.ext y1 y2)
          have r1:Vals (V.ref (B1.m l)::vs) (Value.ref (B1.m l)::us):=.cons rfl r
          have r2:Vals ((V.ref (B1.m l)::vs)++[]) ((Value.ref (B1.m l)::us)++[]):=r1.append .nil
          have hl:((Value.ref (B1.m l)::us)++[]).length=ps.length:=by rw [←r2.length]; exact FO.len _ _ _ _ hsp
          refine wpAny_call (codeAny_mono (FO.run X.A X.stack s2 H2 ⟨.ref (B1.m l)::us,[]⟩ ((.ref (B1.m l)::us)++[]) ((V.ref (B1.m l)::vs)++[]) Qs Es (hr.mono hj) I2.env0 (hb s2 (.ref (B1.m l)::us) I2.kIn hl) r2 hsp) fun rr s' hq=>?_)
          cases rr with
          | error e=>
            obtain ⟨xx,T,H3,rfl,hos,hbare,Fl,hE⟩:=hq
            rw [hEs] at hE
            exact R s2 H2 s' xx T H3 I2 hos hbare Fl hE
          | ok fl=>
            cases fl with
            | ret u=>
              obtain ⟨v,H3,I3,rv,qv⟩:=I2.after hq
              rw [hQs] at qv
              exact ⟨_,_,I3,qv⟩
            | next=>exact False.elim hq
            | brk=>exact False.elim hq
            | cont=>exact False.elim hq
      · rw [if_neg hC] at w; exact w.elim
def Zff (ie ir:Nat) (fb:SM):SM:=fun ρ θ=>match fb ρ θ with
  | .ok p θ'=>.ok p θ'
  | .ex _ θ'=>.ok (.nx,(ρ.set ie .no).set ir (.val (.bl true))) θ'
  | .bad=>.bad
theorem ZrC (ie ir:Nat) {j:Nat} {n rn WE cn:Str} {fb:SM} {C W:Addr} {st:Stmt} {np p1 p2 p3 p4 p5 p6 p7 p8 p9 p10 p11 hp tp:Pos} (hx0:X.xe=fun _ _=>False)
    (hb:MX X C st fb) (EK:Zr8 X.base X.mg C W cn WE) (hstk:X.stack=X.env::X.outer) (hfrm:X.env.frame=some X.env.locals)
    (hN:X.N.Nodup) (hne:ie≠ir) (hie:X.N[ie]?=some n:=by rfl) (hir:X.N[ir]?=some rn:=by rfl) (hnl:X.env.scope.names.lookup n=some .local:=by rfl) (hrl:Loc X.env.scope rn:=by first | exact Or.inl rfl | exact Or.inr rfl) (hfr:X.fn rn=true:=by rfl)
    (gW:Gl X WE:=by rfl) (gC:Gl X cn:=by rfl) (gI:Gl X "isinstance":=by rfl) (gV:Gl X "ValueError":=by rfl)
    (d1:(WE == ("__debug__":Str))=false:=by decide) (d2:(cn == ("__debug__":Str))=false:=by decide) (d3:(n == ("__debug__":Str))=false:=by decide) (d4:(n == ("__classdict__":Str))=false:=by decide)
    (hsw:∀Y:Cx,Y.env=X.env→swapsWith (.BoolOp .And [.Call (.Name "isinstance" p2) [.Name n p3,.Name cn p4] [] p5,.Call (.Name "isinstance" p6) [.Name n p7,.Name "ValueError" p8] [] p9] p10) (some (.Name rn p1)) p11.line Y.env=pure false:=by intro _ _; rfl) :
    MS X (.Try [st] [.ExceptHandler (some (.Name WE np)) (some n) [.Assign [.Name rn p1] (.BoolOp .And [.Call (.Name "isinstance" p2) [.Name n p3,.Name cn p4] [] p5,.Call (.Name "isinstance" p6) [.Name n p7,.Name "ValueError" p8] [] p9] p10) p11] hp] [] [] tp) (Zff ie ir fb):=by
  intro pins s σ H D I h
  obtain ⟨B,θ,ρ,F,w⟩:=h
  refine wpAny_Try_except ?_
  obtain ⟨nm,q,Nn,bs,bm,hdct,sn,sub,ab,col,dd,k0,k1,k2,k3,k5,newId,nm',q',N',bs',bm',hdct',sn',sub',ab',col',dd',k0',k1',k2',k3',k5',newId',hC,hW,hbase,hin,hV⟩:=EK.ex
  refine wpAny_mono (ZiZ hb pins s σ H D (fun H'=>D.nx ((σ.set ie none).set ir (some (.bl true))) H') _ I (fun s1 H1 s' xx T H' I1 hos hbare Fl hE=>ZqI I1 hos hbare Fl hstk hfrm hC hW hbase hin hV hN hie hir hnl hrl hfr gW EK.mW gC EK.mC gI EK.mI gV EK.mV d1 d2 d3 d4 hsw (by
      have e1:((σ.set ie (some (V.ref xx))).set ir (some (.bl true))).set ie none=(σ.set ie none).set ir (some (.bl true)):=by
        rw [List.set_comm _ _ (Ne.symm hne),List.set_set]
      rw [e1]
      exact hE)) ⟨B,θ,ρ,F,?_⟩) (fun f s1 q=>?_) fun _ _ z=>z
  · unfold Zff at w
    cases e:fb ρ θ with
    | bad=>rw [e] at w; exact w
    | ok p θ'=>rw [e] at w; exact w
    | ex c θ'=>
      rw [e] at w
      intro B' H' E' F'
      exact w B' H' _ E' ((F'.no ie none).set ir (v:=.bl true) rfl)
  · cases f with
    | next=>exact wpAny_execs_nil q
    | ret v=>exact q
    | brk=>exact q
    | cont=>exact q
end
end
end L2.MM
namespace L2
open PySem PySem.Spec PyProof.Rows
section
variable {X:Cx} {x:Str} {px:Pos} {iter elt tst:Expr} {scope:Scope} {pos:Pos} {N':List Str} {src:List Nat} {wi:TI} {te:TE} {tc:TT}
theorem Zjg {prog:Program} {w:World} {A:Around} {R:Result→Shared→Prop} {s:Shared} {elt target iter tst:Expr} {scope:Scope} {pos:Pos} {it acc:Value} {env:Env} (I:Nat→Shared→Prop)
    (turn:∀n s,I n s→wpAny (model prog w) A (pyNext it) (fun r s₁=>match r with
      | none=>R (.ok .next) s₁
      | some v=>wpAny (model prog w) A (letOwnedTupleGo target it v) (fun _ s₂=>wpAny (model prog w) A (assign target env v) (fun _ s₃=>wpAny (model prog w) A (isTrue tst env (eval tst env)) (fun ok s₃₅=>if ok=true then wpAny (model prog w) A (eval elt env) (fun x s₄=>
          wpAny (model prog w) A (call (.builtin "list.append") [acc,x]) (fun _ s₅=>∃m,m<n∧I m s₅) (notedBy (model prog w) A env fun e s'=>R (.error e) s') s₄) (notedBy (model prog w) A env fun e s'=>R (.error e) s') s₃₅ else ∃m,m<n∧I m s₃₅)
          (notedBy (model prog w) A env fun e s'=>R (.error e) s') s₃) (notedBy (model prog w) A env fun e s'=>R (.error e) s') s₂) (notedBy (model prog w) A env fun e s'=>R (.error e) s') s₁) (notedBy (model prog w) A env fun e s'=>R (.error e) s') s)
    (n:Nat) (h:I n s):codeAny (model prog w) A (.compLoop (.ListComp elt [⟨target,iter,[tst],0⟩] scope pos) 0 it acc env) R s:=by
  refine codeAny_loop rfl I (fun n s hI=>?_) n h
  show wpAny _ A ((compTurn (.ListComp elt [⟨target,iter,[tst],0⟩] scope pos) 0 it acc env).onRaise (fun x=>do noteFrame x env; theTreesLotGoes x)) _ _ s
  refine wpAny_noted ?_
  rw [compTurn_list]
  refine wpAny_bind (wpAny_standAt (wpAny_bind (thn (turn n s hI) fun r s₁ h₁=>?_)))
  cases r with
  | none=>exact wpAny_pure h₁
  | some v=>
    refine wpAny_bind (thn h₁ fun _ s₂ h₂=>wpAny_bind (thn h₂ fun _ s₃ h₃=>?_))
    refine wpAny_bind (thn (wpAny_tests_one h₃) fun ok s₄ h₄=>?_)
    cases ok with
    | false=>
      rw [if_neg (by decide)] at h₄
      exact wpAny_pure ⟨rfl,h₄⟩
    | true=>
      rw [if_pos rfl] at h₄
      exact wpAny_bind (wpAny_bind (thn h₄ fun x s₅ h₅=>wpAny_bind (thn h₅ fun _ s₆ h₆=>wpAny_pure (wpAny_pure ⟨rfl,h₆⟩))))
def Zyx (J:It) (src:List Nat) (σ:St) (tc:TT) (te:TE) (H1:Hp) (Q:VK):Prop:=∃(n:Nat) (Pv:Nat→List V→Hp→Prop),n≤sizeLine∧Pv 0 [] H1∧
  (∀i ys H,i<n→Pv i ys H→J.go i H∧∀y H',J.yld i H y H'→tc (inner src σ (some y)) H' fun b H1=>if b=true then te (inner src σ (some y)) H1 fun z H2=>Pv (i+1) (ys++[z]) H2 else Pv (i+1) ys H1)∧
  ∀ys H,Pv n ys H→J.stop n H∧∀p,H p=none→Q (.ref p) (upd H p (.lst ys))
def ZuL (wi:TI) (src:List Nat) (tc:TT) (te:TE):TE:=fun σ H Q=>wi σ H fun J H1=>Zyx J src σ tc te H1 Q
theorem ZrG {pins:List (Addr×Obj)} {σ:St} {H:Hp} {s:Shared} {cl:List (Str×Addr)} {it:Addr} {fp:List Addr} {tn:Nat→Heap→Prop} {J:It} {n:Nat} {Pv:Nat→List V→Hp→Prop} {RR:Value→Addr→Result→Shared→Prop} {E:Value→Shared→Prop}
    (I:Inv X pins σ H s) (hcm:X.calm=true) (S:ZaU scope X.env.scope x X.N N' src) (hcl:∀n c,(n,c)∈cl→X.env.cells.lookup n=some c) (hcl2:∀y∈scope.names,y.2=.free→∃c,(y.1,c)∈cl)
    (T:Zmi X.prog X.w X.K (.Name x px) J fp it tn) (t0:tn 0 s.heap) (hfp:∀b∈fp,Zgf X pins H b)
    (helt:∀(cl:List (Str×Addr)) (C:Addr) (s₀:Shared) (H₀:Hp) (fp:List Addr),PE (X.comp scope N' cl C s₀ H₀ fp) elt te)
    (htst:∀(cl:List (Str×Addr)) (C:Addr) (s₀:Shared) (H₀:Hp) (fp:List Addr),PT (X.comp scope N' cl C s₀ H₀ fp) tst tc)
    (hn:n≤sizeLine) (p0:Pv 0 [] H) (turn:∀i ys H,i<n→Pv i ys H→J.go i H∧∀y H',J.yld i H y H'→tc (inner src σ (some y)) H' fun b H1=>if b=true then te (inner src σ (some y)) H1 fun z H2=>Pv (i+1) (ys++[z]) H2 else Pv (i+1) ys H1) (stop:∀ys H,Pv n ys H→J.stop n H)
    (hR:∀(D C:Addr) (o:Obj) (ys:List V) (H':Hp) (s':Shared),Pv n ys H'→H' D=none→Inv X (pins++[(C,o)]) σ (upd H' D (.lst ys)) s'→(∃m,s'.heap.Ns C m)→Zgf X pins (upd H' D (.lst ys)) C→RR (.ref D) C (.ok .next) s') :
    wpAny (model X.prog X.w) X.A (newList []) (fun acc s₃=>wpAny (model X.prog X.w) X.A (newFunctionEnv scope X.env.globals cl [] X.env.qual none .none (some X.env)) (fun cenv s₄=>
      codeAny (model X.prog X.w) X.A (.compStart (.ListComp elt [⟨.Name x px,iter,[tst],0⟩] scope pos) 0 (.ref it) acc { cenv with scope:=relabel scope X.env }) (RR acc cenv.locals) s₄) E s₃) E s:=by
  refine wpAny_newObj_type (wpAny_newFunctionEnv S.cell (by intro y hy; simp at hy) (fun h₁ hns₁ hsb₁=>?_) S.kind)
  dsimp only at hns₁ hsb₁ ⊢
  generalize hH2:s.heap.push { cls:=.type "list",dict:=none,data:=.seq ([]:List Value).toArray }=H2 at hns₁ hsb₁ ⊢
  have hC:H2.objs.size=s.heap.objs.size+1:=by rw [←hH2,Heap.size_push]
  have hDC:s.heap.objs.size≠H2.objs.size:=by rw [hC]; exact Nat.ne_of_lt (Nat.lt_succ_self _)
  have hCle:s.heap.objs.size≤H2.objs.size:=by rw [hC]; exact Nat.le_succ _
  have below:∀b,b<s.heap.objs.size→b≠H2.objs.size∧b≠s.heap.objs.size:=fun b hb=>⟨by rw [hC]; exact Nat.ne_of_lt (Nat.lt_succ_of_lt hb),Nat.ne_of_lt hb⟩
  have old:∀b o,s.heap.get? b=some o→h₁.get? b=some o:=fun b o e=>hsb₁.extBut b o (below b (Heap.lt_size e)).1 (Heap.get?_push_of_some _ (hH2 ▸ Heap.get?_push_of_some _ e))
  have hacc:h₁.PlainList s.heap.objs.size #[]:=⟨_,hsb₁.extBut _ _ hDC (Heap.get?_push_of_some _ (hH2 ▸ Heap.get?_push_size _ rfl))⟩
  have hfl:∀b∈fp,b<s.heap.objs.size:=fun b hb=>by
    obtain ⟨o,e,_⟩:=T.obj 0 _ t0 b hb
    exact Heap.lt_size e
  have fresh:∀a,s.heap.objs.size≤a→s.heap.get? a=none:=fun a ha=>by
    cases e:s.heap.get? a with
    | none=>rfl
    | some o'=>exact absurd (Heap.lt_size e) (Nat.not_lt.mpr ha)
  generalize eD:s.heap.objs.size=D at hDC hacc hCle below fresh hfl hC ⊢
  generalize eC:H2.objs.size=C at hDC hCle below hC hns₁ hsb₁ ⊢
  have I1:Inv (X.comp scope N' cl C s H fp) [] (inner src σ none) H { s with heap:=h₁,toks:=s.toks+([]:List (Str×Value)).length }:=
    Zhs I S hcl hcl2 (by rw [eD]; exact hCle) hfp (by rw [eD]; exact hfl) ⟨_,hns₁⟩ old rfl rfl
  have stat:∀{H':Hp} {pl:List (Addr×Obj)},(∀p∈pl,p.1=D)→(∀b∈fp,H' b=none)→∀b∈fp,Zgf (X.comp scope N' cl C s H fp) pl H' b:=fun {H' pl} hp hn b hb=>
    ⟨hn b hb,(below b (hfl b hb)).1,fun z=>by
      rcases List.mem_cons.mp (I.stkSub b z) with q | q
      · exact (hfp b hb).2.1 q
      · exact (hfp b hb).2.2.1 q,.inl hb,fun y c e=>(hfp b hb).2.2.2.2.1 y c (hcl y c (PySem.mem_of_lookup e)),fun p hq=>by
      rw [hp p (by rcases List.mem_append.mp hq with z | z; exact absurd (show p∈([]:List (Addr×Obj)) from z) (by simp); exact z)]
      exact Ne.symm (below b (hfl b hb)).2⟩
  have nD:D∉frs X.stack:=fun z=>by
    rcases List.mem_cons.mp (I.stkSub D z) with q | q
    · have:=I.lt; rw [←q,eD] at this; exact Nat.lt_irrefl _ this
    · exact I.nofs (a:=D) (by rw [eD]; exact Nat.le_refl _) q
  have nC:C∉X.fs:=I.nofs (by rw [eD]; exact hCle)
  have cellD:∀y c,cl.lookup y=some c→c<D:=fun y c e=>by
    obtain ⟨v,q⟩:=I.cell y c (hcl y c (PySem.mem_of_lookup e))
    have:=q.lt
    rw [eD] at this
    exact this
  have loop:∀s₃:Shared,s₃={ s with heap:=h₁,toks:=s.toks+([]:List (Str×Value)).length }→
      codeAny (model X.prog X.w) X.A (.compLoop (.ListComp elt [⟨.Name x px,iter,[tst],0⟩] scope pos) 0 (.ref it) (.ref D) (compEnvC scope cl C X.env)) (RR (.ref D) C) s₃:=by
    rintro s₃ rfl
    refine Zjg (fun k s'=>∃(i:Nat) (ys:List V) (its:List Value) (H':Hp) (xo:Option V),Inv (X.comp scope N' cl C s H fp) [] (inner src σ xo) H' s'∧tn i s'.heap∧(∀b∈fp,H' b=none)∧s'.heap.PlainList D its.toArray∧Vals ys its∧H' D=none∧
      Pv i ys H'∧ys.length≤i∧i≤n∧k=n+1-i) ?_ (n+1) ⟨0,[],[],H,none,I1,T.keep _ _ _ t0 (fun b _ o e=>old b o e),fun b hb=>(hfp b hb).1,hacc,.nil,I.hok.fresh (by rw [eD]; exact Nat.le_refl _),p0,Nat.le_refl _,Nat.zero_le _,rfl⟩
    rintro k s' ⟨i,ys,its,H',xo,I3,t3,f3,l3,v3,d3,p3,e3,le3,rfl⟩
    by_cases hlt:i<n
    · obtain ⟨go,step⟩:=turn i ys H' hlt p3
      obtain ⟨nn,oD⟩:=id l3
      have I3p:Inv (X.comp scope N' cl C s H fp) [(D,{ cls:=.type "list",data:=.seq its.toArray nn })] (inner src σ xo) H' s':=
        I3.pins_of fun p hp=>by
          have ep:p=(D,{ cls:=.type "list",data:=.seq its.toArray nn }):=by simpa using hp
          subst ep
          exact ⟨oD,d3,hDC,nD,fun v z=>by cases z⟩
      refine thn (T.item (X.comp scope N' cl C s H fp) rfl rfl rfl hcm i _ s' _ H' _ I3p (stat (by simp) f3) t3 go) fun r s4 ⟨u,hr,h4⟩=>?_
      subst hr
      refine thn h4 fun _ s5 ⟨y,H5,I5,r5,y5,st5,fr5⟩=>?_
      have I5':=I5.pinned (stat (by simp) fr5) (T.obj _ _ st5)
      have hg:PG (X.comp scope N' cl C s H fp) (.Name x px) (Zin 0):=
        Zel S.nd (by show N'[0]?=some x; rw [S.names]; rfl) (.inl (lookup_relabel_local S.own)) (.inr (lookup_relabel_local S.own))
      refine wpAny_mono (hg _ s5 _ H5 y u (fun σ2 H2=>σ2=inner src σ (some y)∧H2=H5) I5' r5 ⟨rfl,rfl⟩) (fun _ s6 ⟨σ6,H6,I6,e6,e6'⟩=>?_) fun _ _ z=>False.elim z
      subst e6 e6'
      refine wpAny_mono (htst cl C s H fp _ s6 _ _ _ I6 (step y _ y5)) (fun b s65 ⟨H65,I65,q65⟩=>?_) fun _ _ z=>False.elim z
      have hys:its.toArray.size≤sizeLine:=by
        have:=v3.length
        rw [List.size_toArray]
        omega
      cases b with
      | true=>
        rw [if_pos rfl] at q65 ⊢
        refine wpAny_mono (helt cl C s H fp _ s65 _ _ _ I65 q65) (fun v s7 ⟨z,H7,I7,r7,q7⟩=>?_) fun _ _ z=>False.elim z
        have o7:=I7.pin (D,{ cls:=.type "list",data:=.seq its.toArray nn }) (by simp)
        refine wpAny_list_append_plain (hsz:=hys) (items:=its.toArray) (s:=s7) ⟨nn,o7.1⟩ fun h8 hl8 hs8=>?_
        refine ⟨n+1-(i+1),by omega,i+1,ys++[z],its++[v],H7,some y,?_,?_,?_,?_,v3.append (.cons r7 .nil),o7.2.1,q7,by rw [List.length_append]; exact Nat.succ_le_succ e3,hlt,rfl⟩
        · have I7':Inv (X.comp scope N' cl C s H fp) [] (inner src σ (some y)) H7 s7:=I7.pins_of fun p hp=>absurd hp (by simp)
          exact I7'.turned (t':=s7.toks) (it:=D) (fun b o hb e=>(hs8.2 b hb).trans e) o7.2.1 hDC (.inr (by show s.heap.objs.size≤D; rw [eD]; exact Nat.le_refl _)) (fun y c e=>Nat.ne_of_lt (cellD y c e)) fun p hp=>absurd (show p∈([]:List (Addr×Obj)) from hp) (by simp)
        · refine T.keep _ _ _ st5 fun b hb o e=>(hs8.2 b (below b (hfl b hb)).2).trans ?_
          exact (I7.pin (b,o) (List.mem_append_right _ (List.mem_append_right _ (ZaG hb e)))).1
        · intro b hb
          obtain ⟨o,e,_⟩:=T.obj _ _ st5 b hb
          exact (I7.pin (b,o) (List.mem_append_right _ (List.mem_append_right _ (ZaG hb e)))).2.1
        · have:(its++[v]).toArray=its.toArray.push v:=by simp
          rw [this]; exact hl8
      | false=>
        rw [if_neg (by decide)] at q65 ⊢
        have o7:=I65.pin (D,{ cls:=.type "list",data:=.seq its.toArray nn }) (by simp)
        refine ⟨n+1-(i+1),by omega,i+1,ys,its,H65,some y,I65.pins_of fun p hp=>absurd hp (by simp),?_,?_,⟨nn,o7.1⟩,v3,o7.2.1,q65,Nat.le_succ_of_le e3,hlt,rfl⟩
        · refine T.keep _ _ _ st5 fun b hb o e=>?_
          exact (I65.pin (b,o) (List.mem_append_right _ (List.mem_append_right _ (ZaG hb e)))).1
        · intro b hb
          obtain ⟨o,e,_⟩:=T.obj _ _ st5 b hb
          exact (I65.pin (b,o) (List.mem_append_right _ (List.mem_append_right _ (ZaG hb e)))).2.1
    · have ein:i=n:=by omega
      subst ein
      obtain ⟨nn,oD⟩:=id l3
      have I3p:Inv (X.comp scope N' cl C s H fp) [(D,{ cls:=.type "list",data:=.seq its.toArray nn })] (inner src σ xo) H' s':=
        I3.pins_of fun p hp=>by
          have ep:p=(D,{ cls:=.type "list",data:=.seq its.toArray nn }):=by simpa using hp
          subst ep
          exact ⟨oD,d3,hDC,nD,fun v z=>by cases z⟩
      refine thn (T.done (X.comp scope N' cl C s H fp) rfl rfl rfl hcm i _ s' _ H' _ I3p (stat (by simp) f3) t3 (stop ys H' p3)) fun r s4 ⟨hr,I4⟩=>?_
      subst hr
      have o4:=I4.pin (D,{ cls:=.type "list",data:=.seq its.toArray nn }) (by simp)
      have newI:Inv X pins σ (upd H' D (.lst ys)) s4:=I.call' (ch:=fp) I4.os (I4.base.lay d3 (fresh D (Nat.le_refl _))) (I4.hok.lay d3 ⟨by omega,its,nn,v3,o4.1⟩) I4.bare (fun b hb=>
        ⟨(hfp b hb).2.2.2.1,(hfp b hb).2.1,(hfp b hb).2.2.2.2.1,(hfp b hb).2.2.2.2.2⟩)
      obtain ⟨m,hm,_⟩:=I4.loc
      obtain ⟨o,es,ep,ho,hd,_⟩:=id hm
      refine hR D C o ys H' s4 p3 d3 (newI.pins_of fun p hp=>?_) ⟨m,hm⟩ (I.fpOk (by rw [eD]; exact hCle) (by rw [ZT (Ne.symm hDC)]; exact I4.free))
      rcases List.mem_append.mp hp with z | z
      · exact newI.pin p (List.mem_append_right _ z)
      · have ep:p=(C,o):=by simpa using z
        subst ep
        refine ⟨ho,by rw [ZT (Ne.symm hDC)]; exact I4.free,fun z=>?_,nC,fun v z=>?_⟩
        · have:=I.lt
          rw [eD,←z] at this
          exact absurd (Nat.lt_of_lt_of_le this hCle) (Nat.lt_irrefl _)
        · have z':o.data=.cell v:=z
          rw [hd] at z'; cases z'
  exact codeAny_compStart_list (loop _ rfl) (T.self _ 0 _ _ _ (T.keep _ _ _ t0 (fun b _ o e=>old b o e)) (loop _ rfl))
theorem Ztd {sc:Scope} {N:List Str} {i:Nat} {y:Str} {py spos:Pos} (hnd:X.N.Nodup) (hi':X.N[i]?=some y) (S:ZaU scope sc x N N' src) (hsc:X.env.scope=sc) (hN:X.N=N) (hi:PI X (.Name x px) iter wi)
    (helt:∀(cl:List (Str×Addr)) (C:Addr) (s₀:Shared) (H₀:Hp) (fp:List Addr),PE (X.comp scope N' cl C s₀ H₀ fp) elt te) (htst:∀(cl:List (Str×Addr)) (C:Addr) (s₀:Shared) (H₀:Hp) (fp:List Addr),PT (X.comp scope N' cl C s₀ H₀ fp) tst tc) (hsw:swapsWith (.ListComp elt [⟨.Name x px,iter,[tst],0⟩] scope pos) (some (.Name y py)) spos.line X.env=pure true:=by rfl)
    (hy:X.env.scope.names.lookup y=some .local:=by rfl) (hcm:X.calm=true:=by rfl) (hs:∀v,foldedSetIterable iter X.env v=pure v:=by intro _; rfl) :
    PS X (.Assign [.Name y py] (.ListComp elt [⟨.Name x px,iter,[tst],0⟩] scope pos) spos) (ZuP (ZuL wi src tc te) (Zin i)):=by
  subst hsc hN
  intro pins s σ H Dn I h
  obtain ⟨cl,hclos,hcl,hcl2⟩:=Zft (scope:=scope) (env:=X.env) fun y hy hf=>I.ok.has y.1 (.inl (S.free y hy hf))
  rw [exec_Assign_Name_used _ _ _ _ hsw]
  refine wpAny_bind (wpAny_standAt (wpAny_bind ?_))
  show wpAny _ X.A (do let _ ←comprehension (.ListComp elt [⟨.Name x px,iter,[tst],0⟩] scope pos) scope X.env _ (newList []) false (eval iter X.env) (some (assign (.Name y py) X.env))) _ _ s
  refine wpAny_bind (wpAny_mono (wpAny_comprehension_free (use:=some (assign (.Name y py) X.env)) (Q:=fun _ s'=>SP X pins Dn .next s') rfl hs hclos S.kind S.loc ?_) (fun _ s' hq=>wpAny_pure (wpAny_pure hq)) fun _ _ e=>e)
  refine thn (hi pins s σ H _ I h) fun v s1 h1=>thn h1 fun itv s2 h2=>?_
  obtain ⟨it,fp,tn,J,H2,e,I2,T,st2,f2,n,Pv,hn,p0,turn,done⟩:=h2
  subst e
  refine ZrG I2 hcm S hcl hcl2 T st2 f2 helt htst hn p0 turn (fun ys H p=>(done ys H p).1) fun D C o ys H' s' p d J' hm ho=>?_
  show wpAny _ X.A (assign (.Name y py) X.env (.ref D)) _ _ _
  obtain ⟨m,hm⟩:=hm
  have hg:PG X (.Name y py) (Zin i):=Zel hnd hi' (.inl hy) (.inr hy)
  refine thn (hg _ s' σ _ (.ref D) (.ref D) (fun σ2 H3=>σ2=σ.set i (some (.ref D))∧H3=upd H' D (.lst ys)) J' rfl ⟨rfl,rfl⟩) fun _ s6 ⟨σ6,H6,I6,e6,e7⟩=>?_
  subst e6 e7
  have pc:=I6.pin (C,o) (by simp)
  have pc':=J'.pin (C,o) (by simp)
  refine ⟨m,hm.at fun q e=>?_,fun h' hs'=>?_⟩
  · rw [pc'.1] at e; cases e; exact pc.1
  have J2:Inv X pins (σ.set i (some (.ref D))) (upd H' D (.lst ys)) s6:=I6.pins_of fun q hq=>I6.pin q (List.mem_append_right _ (List.mem_append_left _ hq))
  obtain ⟨f0,f1,f2,f3,f4,f5⟩:=ho
  exact ⟨_,_,J2.turned (t':=s6.toks) (it:=C) (fun b o hb e=>(hs'.2 b hb).trans e) f0 f1 f3 f4 f5,(done ys H' p).2 D d⟩
end
end L2
namespace L2.MM
open PySem PySem.Spec PyProof.Rows PySem.W PySem.SeqAt
noncomputable section
open Classical in
def ZeY (S:Src) (all:List D) (tst:D→Sto→R Bool) (elt:D→Sto→R D):List D→List D→Sto→R D
  | [],acc,θ=>if S.items θ=some all∧acc.length≤BIG then .ok (.lst acc) θ else .bad
  | x::r,acc,θ=>if S.items θ=some all then (tst x θ).bind fun b θ=>if b=true then (elt x θ).bind fun y θ=>ZeY S all tst elt r (acc++[y]) θ else ZeY S all tst elt r acc θ else .bad
def Zhg (fi:IM) (src:List Nat) (tst:TMr) (elt:EM):EM:=fun ρ θ=>(fi ρ θ).bind fun S θ=>match S.items θ with
  | some xs=>if xs.length≤BIG then ZeY S xs (fun x θ=>tst (Zc1 src ρ x) θ) (fun x θ=>elt (Zc1 src ρ x) θ) xs [] θ else .bad
  | none=>.bad
section
variable {X:Cx}
open Classical in
theorem Zpu {fi:IM} {src:List Nat} {tst:TMr} {elt:EM} (σ:St) (H:Hp) (Q:VK) (h:tM X (Zhg fi src tst elt) σ H Q):ZuL (tMI X fi) src (tMT X tst) (tM X elt) σ H Q:=by
  obtain ⟨B,θ,ρ,F,w⟩:=h
  refine ⟨B,θ,ρ,F,(wpR.bind (Rel:=SrcRep X.K) w).mono ?_⟩
  rintro J H1 ⟨B1,θ1,S,E1,G1,rJ,w1⟩
  split at w1
  · rename_i xs e1
    split at w1
    · rename_i hz
      refine ⟨xs.length,fun i ys H'=>∃B' θ' acc,ExtE B1 B' H1 H'∧Good X.cl B' θ' H'∧RepL B' H' acc ys∧wpR X σ RepV B' H' (ZeY S xs (fun x θ=>tst (Zc1 src ρ x) θ) (fun x θ=>elt (Zc1 src ρ x) θ) (xs.drop i) acc θ') Q,zt hz,?_,?_,?_⟩
      · exact ⟨B1,θ1,[],ExtE.refl _ _,G1,rfl,w1⟩
      · rintro i ys H' hi ⟨B2,θ2,acc,E2,G2,racc,w2⟩
        rw [List.drop_eq_getElem_cons hi] at w2
        unfold ZeY at w2
        split at w2
        · rename_i e2
          obtain ⟨g1,g2⟩:=(ZfT G2 (rJ.ext E2.toExtS) e2).1 i xs[i] (List.getElem?_eq_getElem hi)
          refine ⟨g1,fun y H3 hy=>?_⟩
          obtain ⟨rfl,ry⟩:=g2 y H3 hy
          have F2:=(F.ext (E1.trans E2) G2).inner src ry
          refine ⟨B2,θ2,_,F2,(wpR.bind (Rel:=EqB) w2).mono ?_⟩
          rintro b H4 ⟨B4,θ4,d,E4,G4,rd,w4⟩
          cases (show d=b from rd)
          cases b with
          | true=>
            rw [if_pos rfl] at w4 ⊢
            have F4:=F2.ext E4 G4
            refine ⟨B4,θ4,_,F4,(wpR.bind (Rel:=RepV) w4).mono ?_⟩
            rintro z H5 ⟨B5,θ5,d5,E5,G5,rd5,w5⟩
            exact ⟨B5,θ5,acc++[d5],(E2.trans E4).trans E5,G5,(racc.ext (E4.trans E5).toExtS).app ⟨z,[],rfl,rd5,rfl⟩,w5⟩
          | false=>
            rw [if_neg (by decide)] at w4 ⊢
            exact ⟨B4,θ4,acc,E2.trans E4,G4,racc.ext E4.toExtS,w4⟩
        · exact w2.elim
      · rintro ys H' ⟨B2,θ2,acc,E2,G2,racc,w2⟩
        rw [List.drop_length] at w2
        unfold ZeY at w2
        split at w2
        · rename_i e2
          exact ⟨(ZfT G2 (rJ.ext E2.toExtS) e2.1).2,ZdI G2 racc w2⟩
        · exact w2.elim
    · exact w1.elim
  · exact w1.elim
theorem Znu (i:Nat) {x y:Str} {px py pos spos:Pos} {iter elt tst:Expr} {scope:Scope} {N':List Str} {src:List Nat} {sc:Scope} {N:List Str} {fi:IM} {ft:TMr} {fe:EM} (hnd:X.N.Nodup) (S:ZaU scope sc x N N' src) (hsc:X.env.scope=sc) (hN:X.N=N) (hi:MI X (.Name x px) iter fi)
    (helt:∀(cl:List (Str×Addr)) (C:Addr) (s₀:Shared) (H₀:Hp) (fp:List Addr),MT (X.comp scope N' cl C s₀ H₀ fp) tst ft∧ME (X.comp scope N' cl C s₀ H₀ fp) elt fe) (hi':X.N[i]?=some y:=by rfl)
    (hsw:swapsWith (.ListComp elt [⟨.Name x px,iter,[tst],0⟩] scope pos) (some (.Name y py)) spos.line X.env=pure true:=by rfl)
    (hy:X.env.scope.names.lookup y=some .local:=by rfl) (hcm:X.calm=true:=by rfl) (hs:∀v,foldedSetIterable iter X.env v=pure v:=by intro _; rfl) :
    MS X (.Assign [.Name y py] (.ListComp elt [⟨.Name x px,iter,[tst],0⟩] scope pos) spos) (ZL i (Zhg fi src ft fe)):=
  PS.imp (Ztd (te:=tM X fe) (tc:=tMT X ft) hnd hi' S hsc hN hi (fun cl C s₀ H₀ fp=>(helt cl C s₀ H₀ fp).2) (fun cl C s₀ H₀ fp=>(helt cl C s₀ H₀ fp).1) hsw hy hcm hs) fun D σ H h=>by
  obtain ⟨B,θ,ρ,F,w⟩:=h
  refine Zpu σ H _ (ZO (ZcS F w) ?_)
  rintro v H1 ⟨B1,θ1,d,E1,F1,rd,w1⟩
  exact w1 B1 H1 _ (ExtS.refl _ _) (F1.set i rd)
end
end
end L2.MM
namespace L2.MM
open PySem PySem.Spec PyProof.Rows PySem.W PySem.SeqAt
noncomputable section
variable {X:Cx}
def Znw (fo fi:EM):EM:=fun ρ θ=>(fo ρ θ).bind fun d θ=>(fi ρ θ).bind fun y θ=>match keyD y,dkOf θ d with
  | some k,some (_,kvs)=>match valD kvs k with
    | some v=>.ok v θ
    | none=>.bad
  | _,_=>.bad
theorem Zqf {i o:Expr} {fi fo:EM} {pos:Pos} {k:Nat} (hr:Room k X.A) (ho:ME X o fo) (hi:ME X i fi) (hs:ZtY i:=by intro _ _; rfl):ME X (.Subscript o i pos) (Znw fo fi):=by
  refine PE.imp (Zrt (ZfQ hr) ho hi hs) fun σ H Q h=>?_
  obtain ⟨B,θ,ρ,F,w⟩:=h
  refine ZO (step F w) ?_
  rintro v H1 ⟨B1,θ1,d,E1,F1,rd,w1⟩
  refine ZO (step F1 w1) ?_
  rintro y H2 ⟨B2,θ2,dy,E2,F2,ry,w2⟩
  split at w2
  · rename_i k l kvs ek ed
    obtain ⟨hl,rfl,vs,h1,h2⟩:=ZcA F2.good (rd.ext E2.toExtS) ed
    cases keyD_rep ry ek
    split at w2
    · rename_i dv ev
      rcases h2.valD k with ⟨q1,q2⟩ | ⟨d',v',q1,q2,r⟩
      · rw [q1] at ev; cases ev
      · rw [q1] at ev; cases ev
        refine ⟨_,v',rfl,?_,ZS (Rel:=RepV) F2.good r w2⟩
        rw [←q2]
        exact DGet.k h1
    · exact w2.elim
  · exact w2.elim
theorem Zmd {fi fo:EM} (σ:St) (H:Hp) (Q:VK) (h:tM X (ZeH (Zgz fi fo)) σ H Q):Zmq (tM X fi) (tM X fo) σ H Q:=by
  obtain ⟨B,θ,ρ,F,w⟩:=h
  have w0:wpR X σ RepV B H ((fi ρ θ).bind fun y θ=>(fo ρ θ).bind fun d θ=>match keyD y,dkOf θ d with
    | some k,some (_,kvs)=>.ok (.bl (!(valD kvs k).isSome)) θ
    | _,_=>.bad) Q:=by
    have e:ZeH (Zgz fi fo) ρ θ=(fi ρ θ).bind fun y θ=>(fo ρ θ).bind fun d θ=>match keyD y,dkOf θ d with
      | some k,some (_,kvs)=>.ok (.bl (!(valD kvs k).isSome)) θ
      | _,_=>.bad:=by
      unfold ZeH Zgz
      cases fi ρ θ with
      | bad=>rfl
      | ex c θ'=>rfl
      | ok y θ1=>
        simp only [R.bind_ok]
        cases fo ρ θ1 with
        | bad=>rfl
        | ex c θ'=>rfl
        | ok d θ2=>
          simp only [R.bind_ok]
          cases keyD y with
          | none=>rfl
          | some k=>cases dkOf θ2 d with
            | none=>rfl
            | some p=>obtain ⟨l,kvs⟩:=p; rfl
    rw [←e]; exact w
  refine ZO (step F w0) ?_
  rintro y H1 ⟨B1,θ1,dy,E1,F1,ry,w1⟩
  refine ZO (step F1 w1) ?_
  rintro v H2 ⟨B2,θ2,d,E2,F2,rd,w2⟩
  split at w2
  · rename_i k l kvs ek ed
    obtain ⟨hl,rfl,vs,h1,h2⟩:=ZcA F2.good rd ed
    cases keyD_rep ry ek
    refine ⟨_,valV vs k,rfl,DGet.k h1,?_⟩
    have e:(valD kvs k).isSome=(valV vs k).isSome:=by
      rcases h2.valD k with ⟨q1,q2⟩ | ⟨d,v,q1,q2,_⟩<;>(rw [q1,q2]; rfl)
    rw [←e]
    exact ZS (Rel:=RepV) F2.good (show RepV B2 H2 (.bl (!(valD kvs k).isSome)) (.bl (!(valD kvs k).isSome)) from rfl) w2
  · exact w2.elim
theorem Zns {i o:Expr} {fi fo:EM} {pos:Pos} {k:Nat} (hr:Room k X.A) (hi:ME X i fi) (ho:ME X o fo) (hm:behindInMarks .NotIn o=false:=by rfl):MT X (.Compare i [.NotIn] [o] pos) (ZF (ZeH (Zgz fi fo))):=by
  refine PT.imp (ZpG (Znm (ZfQ hr) hi ho) hm) fun σ H Q h=>?_
  exact Zmd σ H _ (Zg0 σ H Q h)
end
end L2.MM
namespace PySem.W.Fast
def tw13412662753306397760:=0
def tw9141898953904195744:=0
def tw15452546450134344960:=0
def tw837620303535535392:=0
def tw10807486485323948384:=0
def tw14466019388629896640:=0
def tw8796758065437809152:=0
def tw14376025732341520896:=0
def tw8748834856244770368:=0
def tw6775034153628847744:=0
def tw2923752832901110400:=0
def tw1221174881296416384:=0
def tw16933523855029246624:=0
def tw4333682590548935392:=0
def tw9711649569224437504:=0
def tw14175936107263695648:=0
def tw4518621345136127776:=0
def tw16485705904623944576:=0
def tw2443960215480805248:=0
def tw13892368343978258368:=0
def tw3864510057499632641:=0
def tw10107825067728578561:=0
def tw4065171143067939841:=0
def tw14023263309955659809:=0
def tw17912539714660916321:=0
def tw17878274886140851329:=0
def tw11560094173982360801:=0
def tw2024541978292428033:=0
def tw6159625098333558049:=0
def tw4127155455113705761:=0
def tw15176362467999709505:=0
def tw17070984203909862753:=0
def tw5223014854188417377:=0
def tw165120956707655009:=0
def tw16355639350525063521:=0
def tw9761102985337394561:=0
def tw2148268765905124737:=0
def tw3127636599756632641:=0
def tw2928740567040565889:=0
def tw7528520905669267105:=0
def tw1656060333497287361:=0
def tw9262912417040761537:=0
def tw6153134981127589569:=0
def tw14895729639475668705:=0
def tw2698026519697399553:=0
def tw17058340766813332225:=0
def tw3274429182449897217:=0
def tw8530408251299093249:=0
def tw1098750508281406305:=0
def tw8860008415766516705:=0
def tw8267890281283773442:=0
def tw3028937198109741090:=0
def tw4685783620511434850:=0
def tw6568907356308650082:=0
def tw1680214376662811874:=0
def tw16125345784232046850:=0
def tw16273675921214166306:=0
def tw8121685960727556386:=0
def tw18130220969592101250:=0
def tw6826667282529365378:=0
def tw3285403069427135906:=0
def tw10462543211555294690:=0
def tw14383915835484573218:=0
def tw6363362075382989346:=0
def tw1298948141802755650:=0
def tw6418436679575601762:=0
def tw17619306556648798850:=0
def tw8306523221738905218:=0
def tw15199899999059846818:=0
def tw8281106835231338210:=0
def tw10055879142893646594:=0
def tw16243515021409801026:=0
def tw6369358631159161666:=0
def tw4656776501650554722:=0
def tw3389480417085607842:=0
def tw7266943194723886050:=0
def tw16597677037295812578:=0
def tw9437325976369162210:=0
def tw1455214768211137539:=0
def tw104020050665875459:=0
def tw8910266794497698819:=0
def tw6673381324763605123:=0
def tw8038798526808487075:=0
def tw1495900280147929283:=0
def tw159782854088715459:=0
def tw7872510320494165251:=0
def tw1857805252555001091:=0
def tw8713630985351829795:=0
def tw11257410345003665699:=0
def tw12892805597966094691:=0
def tw5038260159120286083:=0
def tw15887551023726441923:=0
def tw1871423133997395395:=0
def tw5815223477992624611:=0
def tw6757963727177106915:=0
def tw11021095648359983619:=0
def tw16993989510023806467:=0
def tw916835131622692387:=0
def tw7163902442840986179:=0
def tw17663637525862392451:=0
def tw15415785136972153507:=0
def tw2061122914895647395:=0
def tw14824067787450613411:=0
def tw13700211656505172675:=0
def tw8707738961493700291:=0
def tw6125991877145708451:=0
def tw1633763046462358467:=0
def tw16991516746206492708:=0
def tw15121521196079654980:=0
def tw18281495552146803844:=0
def tw5561973604541029508:=0
def tw9624098838783362308:=0
def tw3026127769869654308:=0
def tw15261948548415822116:=0
def tw8780112305513288996:=0
def tw15117837257551288740:=0
def tw1107860079797488036:=0
def tw17212496104439069124:=0
def tw5506469170546339300:=0
def tw15855535926090919396:=0
def tw7773983485100499492:=0
def tw6627567514573890084:=0
def tw9987855290395447876:=0
def tw524428146983681668:=0
def tw15376336689678721700:=0
def tw11337832873323063972:=0
def tw15214504210198374116:=0
def tw15593394980867538660:=0
def tw14226383386531734276:=0
def tw5619728042505517828:=0
def tw5615751228601039620:=0
def tw15399168151713480548:=0
def tw1910215497188107172:=0
def tw3169186179798260676:=0
def tw12338504394982957061:=0
def tw9740036268457927685:=0
def tw9573116377163790341:=0
def tw4944133533782725701:=0
def tw18313004163570115685:=0
def tw8013439336456401029:=0
def tw15640706731410483333:=0
def tw14646767354539473029:=0
def tw8301391729080424613:=0
def tw13396012095496174789:=0
def tw2518770843994371301:=0
def tw13487381334425987493:=0
def tw4461113517684646341:=0
def tw17103099749221014021:=0
def tw11813407988863721989:=0
def tw4088296254245231205:=0
def tw15365877770356058725:=0
def tw9218377701486898821:=0
def tw15079049112706360069:=0
def tw8749842087779350309:=0
def tw14893815296894456613:=0
def tw10900691708722388837:=0
def tw6945772340972172133:=0
def tw13995762501841502085:=0
def tw11006929993928077221:=0
def tw10198126971068728454:=0
def tw2850339477422553286:=0
def tw3099860390326027462:=0
def tw15442898472412065062:=0
def tw1633154318249624902:=0
def tw2422108645822010694:=0
def tw6859564257233549638:=0
def tw15153922226420301158:=0
def tw6698111179560616358:=0
def tw17966049643315025318:=0
def tw18059882357093086726:=0
def tw1506380611160880678:=0
def tw2283961280282785350:=0
def tw13294971947427859046:=0
def tw11481245231317616326:=0
def tw15323743366311296710:=0
def tw796162372240653062:=0
def tw13217280490361313030:=0
def tw3090285433920554790:=0
def tw10922238110744948518:=0
def tw6986502825180958566:=0
def tw8342888309332328294:=0
def tw15798006233443515334:=0
def tw12936791287998861286:=0
def tw8682369480693714951:=0
def tw12475482464138513479:=0
def tw14494528906604355719:=0
def tw17712671126008705191:=0
def tw18307362728342069447:=0
def tw16660979629430986983:=0
def tw9532351456598105319:=0
def tw6396545970387372327:=0
def tw10555676157371598183:=0
def tw14431261977246694983:=0
def tw15503623412270460583:=0
def tw12856528108596884135:=0
def tw3431539766365519527:=0
def tw3066083578988933831:=0
def tw10145839365763273479:=0
def tw16940888470173454119:=0
def tw8110601517944948519:=0
def tw15349624198860440391:=0
def tw16113741185488589671:=0
def tw2074277496716100487:=0
def tw5950056148080101287:=0
def tw8092323849785026503:=0
def tw9412350258569240519:=0
def tw6220348168168982503:=0
def tw17136225718693377032:=0
def tw6942074039423277128:=0
def tw16447291570352541832:=0
def tw8217157697549414632:=0
def tw17399374262356196584:=0
def tw10883933729711514856:=0
def tw13248979760781437192:=0
def tw15429278346834756872:=0
def tw1810484570998690088:=0
def tw12055001777024877896:=0
def tw15672392119467950472:=0
def tw6745020685664730536:=0
def tw18081161863293105576:=0
def tw12037355359046171112:=0
def tw16786639494263503368:=0
def tw17189133524919572040:=0
def tw6418386828894495304:=0
def tw15481622176874409576:=0
def tw9581089650458569352:=0
def tw15773807587561417384:=0
def tw5936103327590981352:=0
def tw17084913942433791720:=0
def tw749138373190932264:=0
def tw13338632180070376232:=0
def tw10128868097941410664:=0
def tw12460301782257869672:=0
def tw3350602160624291688:=0
def tw14882709658232979465:=0
def tw8077482900531170345:=0
def tw14326358449623942281:=0
def tw14518296477497582729:=0
def tw2832682968601047209:=0
def tw8880375512735560873:=0
def tw13571583875925440713:=0
def tw2730875137745568009:=0
def tw17081691807329095049:=0
def tw16988157544988033417:=0
def tw743306541889110441:=0
def tw12633371538246529449:=0
def tw2236811381815419401:=0
def tw3263157994410161673:=0
def tw9590315804003969577:=0
def tw13773465891621451401:=0
def tw4539029872723283593:=0
def tw8523698115016923849:=0
def tw864669637746125545:=0
def tw14220098920553477865:=0
def tw10905556887570694921:=0
def tw3343028676286269257:=0
def tw3421654954293031946:=0
def tw17200358320471076970:=0
def tw9210050088322948234:=0
def tw10774831562710555946:=0
def tw17066490945312910634:=0
def tw14444321367436688714:=0
def tw15851920520124753290:=0
def tw6175681972859901354:=0
def tw13933939726360042:=0
def tw13459288955887247850:=0
def tw4121178084821031498:=0
def tw5081455830199896682:=0
def tw954642716237884010:=0
def tw17416154323643268714:=0
def tw11492146125746757354:=0
def tw14642539234776439594:=0
def tw17423049443774323498:=0
def tw9576517997580789578:=0
def tw210000285635698538:=0
def tw15220615976598612874:=0
def tw1195430741867796491:=0
def tw3322007077037441067:=0
def tw9323639910548010059:=0
def tw16115569876297775179:=0
def tw1590365857358789739:=0
def tw1278502523754294411:=0
def tw1098397624194873483:=0
def tw91724093326549131:=0
def tw15658031079546062091:=0
def tw8141881476158582027:=0
def tw18243035425473528107:=0
def tw4448907905262363947:=0
def tw9427184390087586091:=0
def tw11385343521102264619:=0
def tw10377168461366790475:=0
def tw4714924681104627019:=0
def tw2443763314544560459:=0
def tw11116945590027017547:=0
def tw16156162578182135147:=0
def tw4986326949976237451:=0
def tw946537931638966699:=0
def tw16060588239644233163:=0
def tw1049774689709082187:=0
def tw13514767077480345291:=0
def tw16827688416056090379:=0
def tw16309699277664054027:=0
def tw9317490136871501611:=0
def tw13858374512296508267:=0
def tw7655757679991546731:=0
def tw9577246127077160875:=0
def tw2154412895576125419:=0
def tw14648151772124817420:=0
def tw6460783759083141132:=0
def tw5827082776577344588:=0
def tw14601312293533187148:=0
def tw4192543346962242668:=0
def tw1049206801923883116:=0
def tw11280785372031167724:=0
def tw10017650903275027692:=0
def tw13839892792337158412:=0
def tw2041290158856345068:=0
def tw10062639212649682412:=0
def tw2675654671376783852:=0
def tw1735334371230834188:=0
def tw13872523474884973132:=0
def tw11389825846713015980:=0
def tw17902416552354143948:=0
def tw12604126164310311692:=0
def tw17996475582510887692:=0
def tw13352460580002125644:=0
def tw17424771206445048716:=0
def tw4839847170952142764:=0
def tw1721979764943112108:=0
def tw7521421198774286316:=0
def tw15555943633450512397:=0
def tw3328399204451957773:=0
def tw7246361549067292717:=0
def tw7672063285133274189:=0
def tw11886429618996585645:=0
def tw3589781589832362189:=0
def tw7247615271492102381:=0
def tw4800731458797697293:=0
def tw7757998379312345485:=0
def tw4464136281408371085:=0
def tw5069258814319832525:=0
def tw13382049913465676269:=0
def tw13866762039623493101:=0
def tw17271711394482918957:=0
def tw1064109888788957805:=0
def tw8024551141252307597:=0
def tw1718228599282676365:=0
def tw9728920686486519469:=0
def tw12264351504762947277:=0
def tw3327143804721019661:=0
def tw6310911192758060877:=0
def tw596640119214468941:=0
def tw7171543678492661613:=0
def tw14194471592833708973:=0
def tw4489763246692179917:=0
def tw14626559724898198509:=0
def tw3479136213391793133:=0
def tw17830948146316060718:=0
def tw17486657987408080942:=0
def tw14009666902856261742:=0
def tw3466951885170417806:=0
def tw16396709081003959470:=0
def tw11871721759493916942:=0
def tw2494459667527923982:=0
def tw16698937614561045806:=0
def tw9203298114273380718:=0
def tw5129349301928527246:=0
def tw16695212081934868910:=0
def tw9101558551662141870:=0
def tw1114287267924258254:=0
def tw10601541713577050638:=0
def tw10176270286493417998:=0
def tw9220277237293205038:=0
def tw16538594856108710446:=0
def tw11506619159321330254:=0
def tw11168106492441562766:=0
def tw9842925472448066190:=0
def tw4277249591948260014:=0
def tw16091204655536400046:=0
def tw3376866219908860622:=0
def tw6382868214580209390:=0
def tw3548041759425815374:=0
def tw3489954326887028590:=0
def tw14260760047570789294:=0
def tw8034905796018208686:=0
def tw69306320835574734:=0
def tw14977917541461173230:=0
def tw1866897323780569070:=0
def tw6834669047672738863:=0
def tw582324276784311375:=0
def tw4086910169007766607:=0
def tw7575796766271988815:=0
def tw2287158219338468527:=0
def tw6302707385823019215:=0
def tw10439316598650638575:=0
def tw9256390662350618927:=0
def tw16283670321172309327:=0
def tw8167444305090762127:=0
def tw13541548891639332271:=0
def tw7482997440567793135:=0
def tw628495535072036367:=0
def tw3982975263445668367:=0
def tw1881576300672365135:=0
def tw11505438514752365167:=0
def tw8516584871614095:=0
def tw17401542252025813679:=0
def tw10163916916092774063:=0
def tw13668803963926356751:=0
def tw16551463803564478223:=0
def tw17253607137403367215:=0
def tw9742834436276830063:=0
def tw8021475311841538927:=0
def tw17267812672618781583:=0
def tw14630584596185691055:=0
def tw10068289994522258383:=0
def tw16899424541579123760:=0
def tw10421060426207889488:=0
def tw15017291430571324560:=0
def tw5995016754091060368:=0
def tw11513247608997958832:=0
def tw3127189956315370672:=0
def tw3814609340916953296:=0
def tw1024070339682588912:=0
def tw12220735545219847440:=0
def tw9454071986671676688:=0
def tw1823877119703607600:=0
def tw10646208587409071440:=0
def tw5466255350603107664:=0
def tw15420646087402057072:=0
def tw15609448733185254800:=0
def tw16991260127361971632:=0
def tw5484050191739664816:=0
def tw7791347346459851376:=0
def tw2771312261197802256:=0
def tw15166296335456703344:=0
def tw12163709798897396624:=0
def tw11718643498690814928:=0
def tw14608164790125901776:=0
def tw1486205164284104656:=0
def tw11627632430802294736:=0
def tw12210575591471603696:=0
def tw1858038387994552337:=0
def tw16027460772836979793:=0
def tw14860243568041623665:=0
def tw5295726567158019185:=0
def tw14370073815730619537:=0
def tw12051855473105446033:=0
def tw4514127272843788497:=0
def tw4863275393755728145:=0
def tw4141794179984108849:=0
def tw13833344054000703793:=0
def tw8154001740035468625:=0
def tw18419897422888186193:=0
def tw9679444137908709809:=0
def tw3153070536794717617:=0
def tw11343720424231393713:=0
def tw9053814436693408177:=0
def tw16350979818678934001:=0
def tw3466987775641714193:=0
def tw3039841837534793265:=0
def tw13082051908010187377:=0
def tw12528458095342414449:=0
def tw13649646212158187153:=0
def tw8351869796511513233:=0
def tw3925223178011206385:=0
def tw15747566602543388433:=0
def tw12995911346790130449:=0
def tw2241985389368665873:=0
def tw15704109209271858961:=0
def tw18089431756241705777:=0
def tw10667378465906768721:=0
def tw3366488139677131729:=0
def tw9800742155088756689:=0
def tw5820404530553335793:=0
def tw16507089080592254961:=0
def tw12450482714231324690:=0
def tw17602181070707495986:=0
def tw9258651135353061490:=0
def tw10774442219126227090:=0
def tw9451178098617877714:=0
def tw5010963566991242450:=0
def tw11114640564747935986:=0
def tw3486809492993476946:=0
def tw10768640101079952722:=0
def tw7451280000679231858:=0
def tw12918056824119190898:=0
def tw2085894873384292754:=0
def tw16586128230544637330:=0
def tw17304825535576472978:=0
def tw5171779362954292658:=0
def tw8599652258133215730:=0
def tw15858292432286785042:=0
def tw11416433173066198546:=0
def tw757277700589220402:=0
def tw3734371062031449682:=0
def tw1173978710936878674:=0
def tw2454492534985956018:=0
def tw8202673097619288754:=0
def tw8099033447062617938:=0
def tw12249565713522451282:=0
def tw12909197145246787410:=0
def tw1161829548160781170:=0
def tw12158488636181947314:=0
def tw11332148673547660242:=0
def tw8681910951279674419:=0
def tw15385479915867331699:=0
def tw13322543465510302835:=0
def tw18005716662029421747:=0
def tw310318679575744755:=0
def tw4533182804854224147:=0
def tw17039315899597110611:=0
def tw14448528536579041619:=0
def tw8430207978672815443:=0
def tw16277238626055124339:=0
def tw15969456784284120627:=0
def tw14779611039973423699:=0
def tw17343257139219534451:=0
def tw7353519261787145843:=0
def tw6077476057743555187:=0
def tw794141825604034291:=0
def tw3312356679162667763:=0
def tw10727095685073003251:=0
def tw7111169372932881171:=0
def tw4460125036663565075:=0
def tw5695226950006633235:=0
def tw8596550002298371891:=0
def tw16847338684788290387:=0
def tw8866911716922814291:=0
def tw18399854735105577939:=0
def tw3421859966185467859:=0
def tw9904030092854996979:=0
def tw13222793073352104947:=0
def tw7721125423820138483:=0
def tw272879773323389939:=0
def tw12337262080824423444:=0
def tw6979151094628875380:=0
def tw17175184506637247636:=0
def tw5925716637819659444:=0
def tw1701577564493062356:=0
def tw5684489385393064180:=0
def tw12396749922048998644:=0
def tw7409610833985800468:=0
def tw1262511252533147924:=0
def tw16229114653718722868:=0
def tw10577455316792696244:=0
def tw17658041294082620884:=0
def tw902801105943976404:=0
def tw783956548632633844:=0
def tw56169518520584724:=0
def tw9836378214171138580:=0
def tw819236130195829300:=0
def tw3499162734887419508:=0
def tw16658567769814366868:=0
def tw14063863470133129908:=0
def tw13358636431771641556:=0
def tw16215775396353027860:=0
def tw14765115649757128500:=0
def tw8332848862069287732:=0
def tw17142444805674802004:=0
def tw10584242525409734580:=0
def tw7052652678004936725:=0
def tw4088335722793317397:=0
def tw3321240484927744053:=0
def tw1862804343786487893:=0
def tw4774864872437723285:=0
def tw5275663851643962613:=0
def tw234289658507015509:=0
def tw13013359311202612661:=0
def tw1993027452655245845:=0
def tw10754402924579060245:=0
def tw1570272186980268597:=0
def tw2138038160217334357:=0
def tw9391965238263265909:=0
def tw18389849404978383509:=0
def tw14841559052526683829:=0
def tw11186497489907437237:=0
def tw17117313915197095637:=0
def tw5090117716647964437:=0
def tw354258799814250293:=0
def tw12881169589176976213:=0
def tw15499303017786443669:=0
def tw6923804630451809173:=0
def tw2692363496024135605:=0
def tw2709247011641829333:=0
def tw8120592031545840629:=0
def tw7811523511914396661:=0
def tw299241219328584726:=0
def tw16975648938298294294:=0
def tw3982980971641899062:=0
def tw529433860594825270:=0
def tw2699964923755110486:=0
def tw13248407167234688118:=0
def tw4750392824942378134:=0
def tw11094703062122261654:=0
def tw1327431596426889430:=0
def tw17656972721421849846:=0
def tw7728899894777651574:=0
def tw15175155673205225878:=0
def tw14973217830000745878:=0
def tw10516591085728522710:=0
def tw14563045102307200534:=0
def tw1740213508536303158:=0
def tw7067384677273873014:=0
def tw15793175310847093590:=0
def tw12655447150095606646:=0
def tw1139756174499358646:=0
def tw9999197325327801302:=0
def tw3130120693883738135:=0
def tw11201670069926349847:=0
def tw3155777049909001239:=0
def tw4272355416030155831:=0
def tw8403008933617966199:=0
def tw5188214714837123191:=0
def tw7950074287834554583:=0
def tw4030410148251180279:=0
def tw13022185045333776663:=0
def tw12671554568897466743:=0
def tw17697974134940509655:=0
def tw16435078835826152951:=0
def tw14608213370980652567:=0
def tw15811309568919762455:=0
def tw15758561480777502263:=0
def tw12791724182226797207:=0
def tw15164634706469327575:=0
def tw8129040785745351383:=0
def tw4545462352694134519:=0
def tw12784830945313511159:=0
def tw16293244425939756823:=0
def tw8423618172939671351:=0
def tw5930608217441579863:=0
def tw13775418071405668215:=0
def tw8355730840309302199:=0
def tw2579994186962353143:=0
def tw17616567023734671351:=0
def tw1205203453444215896:=0
def tw18156517554681590904:=0
def tw5021198077087764600:=0
def tw10491946755297546488:=0
def tw4441428498055962904:=0
def tw9459136502014667160:=0
def tw3095089003114091960:=0
def tw799072197916974584:=0
def tw10484763975658945016:=0
def tw9879955715098895896:=0
def tw3749788798630685240:=0
def tw9806924150772875896:=0
def tw17018371863954126488:=0
def tw10061741848538085048:=0
def tw7903919333908358104:=0
def tw13936257314243535864:=0
def tw17492107491197189112:=0
def tw7377103701200906329:=0
def tw5114979735547931737:=0
def tw16791460102688132217:=0
def tw6677248175222530233:=0
def tw7852289471302890713:=0
def tw11892920014663914745:=0
def tw199881384579826969:=0
def tw7750960882921966009:=0
def tw237594669923128761:=0
def tw3120728481241114105:=0
def tw2688633099852536345:=0
def tw6054972543921499833:=0
def tw16781364780347392761:=0
def tw5748734326459688697:=0
def tw13304913108567120665:=0
def tw8567673443494419289:=0
def tw14651787897012052825:=0
def tw456246514409065401:=0
def tw12834176264134516697:=0
def tw4681239516096025593:=0
def tw16543890926386385946:=0
def tw4996556179101998106:=0
def tw729436055451396186:=0
def tw5123816887964446842:=0
def tw5561248905176563834:=0
def tw9106014217952503962:=0
def tw14907857705136245978:=0
def tw1632678024069857530:=0
def tw16902847339104164090:=0
def tw1576511832759100826:=0
def tw2438755208285028794:=0
def tw11781814390066728378:=0
def tw1726368503937623610:=0
def tw5454372988440924762:=0
def tw3760945078398919290:=0
def tw5503354353945955962:=0
def tw16965994561878607514:=0
def tw2914564101644898042:=0
def tw1479312147174872826:=0
def tw7783600122299023098:=0
def tw2277696598633783098:=0
def tw15672913158414117690:=0
def tw8715839356412282778:=0
def tw3331593361752569786:=0
def tw4304516194923443130:=0
def tw6222892557269023867:=0
def tw10147484942130315483:=0
def tw14893217152760657115:=0
def tw10444203624996740475:=0
def tw3992085334328328667:=0
def tw13099519067658328571:=0
def tw14299163492945346075:=0
def tw17126900630676262427:=0
def tw11728370145888337531:=0
def tw7513172506166237915:=0
def tw3868090508461522651:=0
def tw16396955000441180923:=0
def tw12691911462551274235:=0
def tw1053379174300795835:=0
def tw7808203329481661371:=0
def tw2574934407828525084:=0
def tw2884623898007936124:=0
def tw11954472579175333020:=0
def tw2415341467376870556:=0
def tw2247989736150081756:=0
def tw9979644067732857052:=0
def tw569995285601924316:=0
def tw13429159328841517276:=0
def tw3121499482947358972:=0
def tw9527966695435619580:=0
def tw11663803290016569596:=0
def tw16587794489482960124:=0
def tw7346944724282804572:=0
def tw14147152863849120124:=0
def tw17162480802146001276:=0
def tw13200586711217892732:=0
def tw7610332416883092860:=0
def tw2857036634675616220:=0
def tw8318265706617037308:=0
def tw12457316537727053308:=0
def tw18040607588144685596:=0
def tw10909662408950496796:=0
def tw16561145804466661948:=0
def tw11250059248121134716:=0
def tw17445174684574306940:=0
def tw1003083623303690972:=0
def tw12533854324107956028:=0
def tw7670156835904927612:=0
def tw14067851602209937308:=0
def tw5721075236400740252:=0
def tw5940626718860282812:=0
def tw641543364327092156:=0
def tw3387454031580483516:=0
def tw282659574583419836:=0
def tw17580484028337043420:=0
def tw4812215912076821500:=0
def tw7158727095755820028:=0
def tw12813337961646018556:=0
def tw16305283267468212253:=0
def tw13647462795537035325:=0
def tw17929309360725701693:=0
def tw4842458801214324893:=0
def tw13652987927978442909:=0
def tw16742649632618554525:=0
def tw8040814056967757981:=0
def tw16146340562871389373:=0
def tw17307086288169111741:=0
def tw5902015167027915965:=0
def tw15586636315677301021:=0
def tw15188909441219001693:=0
def tw13233291009349748125:=0
def tw1493860342182729117:=0
def tw9362427106343686589:=0
def tw11348263692826461629:=0
def tw9044428181089271293:=0
def tw7448907249314455037:=0
def tw5436977634020049469:=0
def tw6738013176922476125:=0
def tw2683960652566581885:=0
def tw264803783215852189:=0
def tw11699562252849435293:=0
def tw12461003107157053149:=0
def tw1745453900974638941:=0
def tw2499692348695139165:=0
def tw17762194220783345533:=0
def tw7277512947809571741:=0
def tw6499030028236178365:=0
def tw10903685382449865725:=0
def tw2448648149028651102:=0
def tw6653054441367775422:=0
def tw9034154330419516638:=0
def tw8998713228693643518:=0
def tw10384761048852420894:=0
def tw463901593526151550:=0
def tw12135748147482570110:=0
def tw1150936052574178718:=0
def tw12800410547757205950:=0
def tw11749856459609136606:=0
def tw2386739053329379806:=0
def tw12078852337225758174:=0
def tw1851369144179100158:=0
def tw1059142690406578686:=0
def tw13934862072189619806:=0
def tw7353926518203048542:=0
def tw14443635603530138238:=0
def tw16028009063225052798:=0
def tw2920680413430927998:=0
def tw1890813949949153054:=0
def tw7001884323861890046:=0
def tw16592646908976395295:=0
def tw1441491119006865567:=0
def tw2903404569807024319:=0
def tw11916661519994418367:=0
def tw478748040000931263:=0
def tw12815612901661684191:=0
def tw8146660503657541087:=0
def tw6546861272386474591:=0
def tw4448762445028360895:=0
def tw18060383888276588287:=0
def tw8021732336281368319:=0
def tw7757494581167827775:=0
def tw69769041255122815:=0
def tw2076376524590034847:=0
def tw5076530407194681279:=0
def tw13088322703252030463:=0
def tw3744373213348460793:=0
end PySem.W.Fast
namespace My
open PySem L2 L2.MM
noncomputable section
def ZeL:SM:=(Zo (ZC ["Host"] "coming_first" (Zd 0) (Zd 1))
  (Zo (ZC ["Host"] "ends" (Zd 0) (Zle Zk))
  (Zo (ZC ["Host"] "latest" (Zd 0) Zi7)
  (Zo (ZC ["Host"] "untaken" (Zd 0) Zi8)
  (Zo (ZC ["Host"] "owed_reset" (Zd 0) (mC .non))
  (ZC ["Host"] "turn" (Zd 0) (mC (.int 0))))))))
def z0:GM:=ZU 2 2 ZeL
def Zcq:SM:=(mIf (ZF (Zgz (Zd 1) (ZE ["Host"] "untaken" (Zd 0)))) Zlg ZP)
def Zda:SM:=(Zo Zcq
  (ZmN (ZE ["Host"] "untaken" (Zd 0)) (Zd 1) (Zle Zk)))
def zd:GM:=ZU 2 2 Zda
def Zds:SM:=(Zo (ZL 3 (Zl2 (ZE ["Host"] "latest" (Zd 0)) (Zar (Zc (Zd 1) (Zc (Zd 2) Zk)))))
  (ZQ (ZeT (mOr (ZF (mOp isM (Zd 3) (mC .non))) (ZF (mOp eqM (ZE ["End"] "state" (Zd 3)) (mC (.str "closed"))))) (mC .non) (Zd 3))))
def zM:GM:=ZU 3 4 Zds
def Zfv:SM:=(Zo (ZL 4 (mCB ZdP (Zc (Zd 1) (Zc (Zd 2) (Zc (ZE ["Host"] "coming_first" (Zd 0)) (Zc (Zd 3) Zk))))))
  (Zo (ZC ["Host"] "coming_first" (Zd 0) (mCB zn (Zc (ZE ["Host"] "coming_first" (Zd 0)) (Zc (mC (.int 64000)) Zk))))
  (Zo (ze (ZmO (ZE ["Host"] "ends" (Zd 0)) (Zd 4)))
  (Zo (Zl1 (ZE ["Host"] "latest" (Zd 0)) (Zar (Zc (Zd 1) (Zc (Zd 2) Zk))) (Zd 4))
  (ZQ (Zd 4))))))
def Zaq:GM:=ZU 4 5 Zfv
def Zdb:SM:=(mIf (ZF (mOp Zcn (mCB zM (Zc (Zd 0) (Zc (Zd 1) (Zc (Zd 2) Zk)))) (mC .non))) Zlg ZP)
def Zeg:SM:=(Zo Zdb
  (ZQ (mCB Zaq (Zc (Zd 0) (Zc (Zd 1) (Zc (Zd 2) (Zc (mC (.bl true)) Zk)))))))
def ZaO:GM:=ZU 3 3 Zeg
def Zgq:SM:=(ZQ (Zbd (mCB ZX (Zc (Zd 0) (Zc (mC (.int 2)) Zk))) (Zbd (ZeH (mCB ZX (Zc (Zd 0) (Zc (mC (.int 16)) Zk)))) (ZeH (mCB ZX (Zc (Zd 0) (Zc (mC (.int 4)) Zk)))))))
def ZcX:GM:=ZU 1 1 Zgq
def ZbK:SM:=(mIf (Zfi (ZF (mOp isM (Zd 2) (mC .non))) (Zfi (ZF (Zgz (mOp ixM (Zd 1) (mC (.int 1))) (ZE ["Host"] "untaken" (Zd 0)))) (zC (mCB ZcX (Zc (Zd 1) Zk))))) (Zo (ZL 2 (mCB Zaq (Zc (Zd 0) (Zc (mOp ixM (Zd 1) (mC (.int 1))) (Zc (mOp ixM (Zd 1) (mC (.int 0))) (Zc (mC (.bl false)) Zk))))))
    (ze (ZmO (Znw (ZE ["Host"] "untaken" (Zd 0)) (mOp ixM (Zd 1) (mC (.int 1)))) (Zd 2)))) ZP)
def ZcC:SM:=(Zo (ZL 2 (mCB zM (Zc (Zd 0) (Zc (mOp ixM (Zd 1) (mC (.int 1))) (Zc (mOp ixM (Zd 1) (mC (.int 0))) Zk)))))
  (Zo ZbK
  (ZQ (Zd 2))))
def Zbb:GM:=ZU 2 3 ZcC
def Zat:SM:=(mIf (ZcZ (zC (mCB zy (Zc (Zd 1) Zk)))) (ZQ (mC (.bl false))) ZP)
def Zcr:SM:=(mIf (ZcZ (zC (mCB ZX (Zc (Zd 3) (Zc (mC (.int 4)) Zk))))) (ZC ["Host"] "owed_reset" (Zd 0) (mCB Zam (Zc (Zd 3) Zk))) ZP)
def Zba:SM:=(mIf (ZF (mOp Zcn (Zd 4) (mC .non))) (ze (mCB ZdS (Zc (Zd 4) (Zc (Zd 1) (Zc (Zd 2) Zk))))) Zcr)
def ZaT:SM:=(Zo Zat
  (Zo (ZL 3 (mCB Zgh (Zc (Zd 1) Zk)))
  (Zo (ZL 4 (mCB Zbb (Zc (Zd 0) (Zc (Zd 3) Zk))))
  (Zo Zba
  (ZQ (mC (.bl true)))))))
def p_Host_arrives:GM:=ZU 3 5 ZaT
def Zal:SM:=(mIf (ZF (mOp Zcn (ZE ["Host"] "owed_reset" (Zd 0)) (mC .non))) (Zo (ZL 2 (mCB Zg6 (Zc (ZE ["Host"] "owed_reset" (Zd 0)) Zk)))
    (Zo (ZC ["Host"] "owed_reset" (Zd 0) (mC .non))
    (ZQ (Zd 2)))) ZP)
def ZbF:SM:=(mIf (ZF (mOp gtM (mCB Zbm (Zc (Zd 2) Zk)) (mC (.int 0)))) (Zo (ZC ["Host"] "turn" (Zd 0) (mOp ZM (Zd 5) (mC (.int 1))))
      (ZQ (Zd 2))) ZP)
def ZaS:SM:=(Zgy (Zgj (Zc (Zd 3) Zk)) (gNm 4) (Zo (ZL 5 (mOp zk (mOp ZM (ZE ["Host"] "turn" (Zd 0)) (Zd 4)) (Zd 3)))
    (Zo (ZL 2 (mCB ZeM (Zc (mOp ixM (ZE ["Host"] "ends" (Zd 0)) (Zd 5)) (Zc (Zd 1) Zk))))
    ZbF)))
def ZaJ:SM:=(Zo Zal
  (Zo (ZL 3 (mCB Zbm (Zc (ZE ["Host"] "ends" (Zd 0)) Zk)))
  (Zo ZaS
  (ZQ (ZaB Zk)))))
def ZJ:GM:=ZU 2 6 ZaJ
def ZbU:TMr:=(ZF (mOp Zcn (mCB zM (Zc (Zd 0) (Zc (Zd 1) (Zc (Zd 2) Zk)))) (mC .non)))
def ZdG:SM:=(ZQ (mCB Zaq (Zc (Zd 0) (Zc (Zd 1) (Zc (Zd 2) (Zc (mC (.bl true)) Zk))))))
def Zac:GM:=ZdA "NoPort" 3 3 ZbU ZdG
def Zbj:TMr:=(ZF (Zgz (Zd 1) (ZE ["Host"] "untaken" (Zd 0))))
def ZcF:SM:=(ZmN (ZE ["Host"] "untaken" (Zd 0)) (Zd 1) (Zle Zk))
def zN:GM:=ZdA "NoPort" 2 2 Zbj ZcF
def Zbs:SM:=(mIf (ZF (mOp eqM (mCB Zbm (Zc (Zd 2) Zk)) (mC (.int 0)))) (ZQ (mC .non)) ZP)
def ZaV:TMr:=(ZF (ZeH (Zgz (Zd 1) (ZE ["Host"] "untaken" (Zd 0)))))
def Zb2:SM:=(Zo (ZL 2 (Zhg (mIn (Znw (ZE ["Host"] "untaken" (Zd 0)) (Zd 1))) [] (ZF (mOp ZiW (ZE ["End"] "state" (Zd 0)) (Zar (Zc (mC (.str "listen")) (Zc (mC (.str "syn come")) (Zc (mC (.str "closed")) Zk)))))) (Zd 0)))
  (Zo Zbs
  Zlg))
def zp:GM:=ZdA "NoPort" 2 3 ZaV Zb2
def ZaK:SM:=(Zo (ZL 4 (mC (.bl false)))
  (Zo (Zff 5 4 (ZhV (ZF (mOp eqM (Zd 1) (mC (.int 0)))) (Zcm "Host" "listens" zN (Zd 0) (Zc (Zd 2) Zk)) (ZhV (ZF (mOp eqM (Zd 1) (mC (.int 1)))) (Zcm "Host" "calls" Zac (Zd 0) (Zc (Zd 2) (Zc (Zd 3) Zk))) (Zcm "Host" "taken_end" zp (Zd 0) (Zc (Zd 2) Zk)))))
  (ZQ (Zd 4))))
def Z8:GM:=ZU 4 6 ZaK
def Zbi:SM:=(mIf (zC (Zd 5)) (ze (Zbl "Host" "listens" zd (Zd 2) (Zc (Zd 3) Zk))) ZP)
def ZbG:SM:=(mIf (mOr (ZF (mOp neM (mCB Z8 (Zc (Zd 2) (Zc (mC (.int 0)) (Zc (Zd 3) (Zc (mC (.int 0)) Zk))))) (Zd 5))) (ZcZ (zC (mCB Z8 (Zc (Zd 2) (Zc (mC (.int 0)) (Zc (Zd 3) (Zc (mC (.int 0)) Zk)))))))) (ZQ (mC (.bl false))) ZP)
def b_l_law_3:SM:=(mIf (mOr (zC (mCB Z8 (Zc (Zd 2) (Zc (mC (.int 2)) (Zc (Zd 3) (Zc (mC (.int 0)) Zk)))))) (ZcZ (zC (mCB Z8 (Zc (Zd 2) (Zc (mC (.int 2)) (Zc (mOp ZM (Zd 3) (mC (.int 1))) (Zc (mC (.int 0)) Zk)))))))) (ZQ (mC (.bl false))) ZP)
def Zde:SM:=(mIf (zC (Zd 6)) (Zo (ze (Zbl "Host" "calls" ZaO (Zd 2) (Zc (mOp ZM (Zd 3) (mC (.int 2))) (Zc (Zd 4) Zk))))
    (ze (Zbl "Host" "sends" ZJ (Zd 2) (Zc (mC (.int 1)) Zk)))) ZP)
def Zdd:SM:=(mIf (ZF (mOp neM (mCB Z8 (Zc (Zd 2) (Zc (mC (.int 1)) (Zc (mOp ZM (Zd 3) (mC (.int 2))) (Zc (Zd 4) Zk))))) (Zd 6))) (ZQ (mC (.bl false))) ZP)
def b_l_law_6:SM:=(mIf (mOr (ZF (mOp Zcn (Zbl "Host" "arrives" p_Host_arrives (Zd 2) (Zc (Zd 10) (Zc (mC (.int 1)) Zk))) (mC (.bl false)))) (mOr (ZF (mOp neM (Zbl "Host" "sends" ZJ (Zd 2) (Zc (mC (.int 1)) Zk)) (ZaB Zk))) (ZF (mOp Zcn (Zbl "Host" "arrives" p_Host_arrives (Zd 2) (Zc (Zd 8) (Zc (mC (.int 2)) Zk))) (mC (.bl true)))))) (ZQ (mC (.bl false))) ZP)
def Zew:SM:=(mIf (Zfi (ZF (mOp eqM (Zd 7) (Zd 3))) (ZF (mOp eqM (mOp zk (mOp Zcs (Zd 11) (mC (.int 2))) (mC (.int 2))) (mC (.int 1))))) (ZL 13 (mCB ZaQ (Zc (Zar (Zc (Zd 7) (Zc (Zd 4) (Zc (mCB zv (Zc (Zd 0) (Zc (mC (.int 40)) Zk))) (Zc (mOp zk (mOp ZM (mOp ixM (Zd 1) (mC (.int 2))) (mC (.int 1))) (mC (.int 4294967296))) (Zc (mC (.int 18)) (Zc (mC (.int 64)) (Zc (mC (.int 16)) (Zc (Zar Zk) Zk))))))))) Zk))) (ZL 13 (mCB ZaQ (Zc (Zar (Zc (Zd 7) (Zc (Zd 4) (Zc (mC (.int 0)) (Zc (mOp zk (mOp ZM (mOp ixM (Zd 1) (mC (.int 2))) (Zd 12)) (mC (.int 4294967296))) (Zc (mC (.int 20)) (Zc (mC (.int 0)) (Zc (mC (.int 0)) (Zc (Zar Zk) Zk))))))))) Zk))))
def Zdc:SM:=(mIf (ZF (mOp eqM (mOp zk (mOp Zcs (Zd 11) (mC (.int 16))) (mC (.int 2))) (mC (.int 1)))) (ZL 13 (mCB ZaQ (Zc (Zar (Zc (Zd 7) (Zc (Zd 4) (Zc (mOp ixM (Zd 1) (mC (.int 3))) (Zc (mC (.int 0)) (Zc (mC (.int 4)) (Zc (mC (.int 0)) (Zc (mC (.int 0)) (Zc (Zar Zk) Zk))))))))) Zk))) Zew)
def Zbh:SM:=(mIf (ZF (mOp eqM (mOp zk (mOp Zcs (Zd 11) (mC (.int 4))) (mC (.int 2))) (mC (.int 0)))) Zdc ZP)
def Zjs:SM:=(Zo (ZL 1 (mCB Zij (Zc (Zd 0) (Zc (mC (.int 0)) Zk))))
  (Zo (ZL 2 (mCB (mkG "Host" z0) (Zc (mCB zv (Zc (Zd 0) (Zc (mC (.int 40)) Zk))) Zk)))
  (Zo (ZL 3 (mOp zk (mCB zv (Zc (Zd 0) (Zc (mC (.int 41)) Zk))) (mC (.int 60000))))
  (Zo (ZL 4 (mOp ixM (Zd 1) (mC (.int 0))))
  (Zo (ZL 5 (mOp eqM (mOp zk (mCB zv (Zc (Zd 0) (Zc (mC (.int 42)) Zk))) (mC (.int 2))) (mC (.int 0))))
  (Zo Zbi
  (Zo ZbG
  (Zo b_l_law_3
  (Zo (ZL 6 (mOp eqM (mOp zk (mCB zv (Zc (Zd 0) (Zc (mC (.int 43)) Zk))) (mC (.int 2))) (mC (.int 0))))
  (Zo Zde
  (Zo Zdd
  (Zo (ZL 2 (mCB (mkG "Host" z0) (Zc (mCB zv (Zc (Zd 0) (Zc (mC (.int 40)) Zk))) Zk)))
  (Zo (ze (Zbl "Host" "listens" zd (Zd 2) (Zc (Zd 3) Zk)))
  (Zo (ZL 7 (mOp ZM (Zd 3) (mOp zk (mCB zv (Zc (Zd 0) (Zc (mC (.int 44)) Zk))) (mC (.int 3)))))
  (Zo (ZL 8 (mCB ZaQ (Zc (mOp ZM (Zar (Zc (Zd 4) (Zc (Zd 7) Zk))) (mSl (Zd 1) (Zai (mC (.int 2))) zq)) Zk)))
  (Zo (ZL 9 (mOp zk (mCB zv (Zc (Zd 0) (Zc (mC (.int 45)) Zk))) (mCB Zbm (Zc (Zd 8) Zk))))
  (Zo (ZL 10 (mOp ZM (mOp ZM (mSl (Zd 8) zq (Zai (Zd 9))) (ZaB (Zc (mOp zk (mOp ZM (mOp ixM (Zd 8) (Zd 9)) (mC (.int 1))) (mC (.int 256))) Zk))) (mSl (Zd 8) (Zai (mOp ZM (Zd 9) (mC (.int 1)))) zq)))
  (Zo b_l_law_6
  (Zo (ZL 11 (mOp ixM (Zd 1) (mC (.int 4))))
  (Zo (ZL 12 (mOp ZM (mOp ZM (mCB Zbm (Zc (mOp ixM (Zd 1) (mC (.int 7))) Zk)) (mOp zk (mOp Zcs (Zd 11) (mC (.int 2))) (mC (.int 2)))) (mOp zk (Zd 11) (mC (.int 2)))))
  (Zo (ZL 13 (ZaB Zk))
  (Zo Zbh
  (ZQ (Zbd (mOp eqM (Zbl "Host" "sends" ZJ (Zd 2) (Zc (mC (.int 2)) Zk)) (Zd 13)) (Zi6 (mOp eqM (Zd 13) (ZaB Zk)) (mOp eqM (Zbl "Host" "sends" ZJ (Zd 2) (Zc (mC (.int 2)) Zk)) (ZaB Zk)))))))))))))))))))))))))))
def ZmQ:GM:=ZU 1 14 Zjs
theorem ZkN:∀(a:List Int) (k:Nat) (v:Int),k<a.length→Z7 (a.set k v)=Z7 a+(v-gt a k)*(if k % 2=0 then 256 else 1)
  | [],k,v,h=>by simp at h
  | [x],k,v,h=>by
    have:k=0:=by simp at h; omega
    subst this
    simp [Z7,gt]
    omega
  | x::y::r,0,v,h=>by
    simp [Z7,gt]
    omega
  | x::y::r,1,v,h=>by
    simp [Z7,gt]
    omega
  | x::y::r,k+2,v,h=>by
    have ih:=ZkN r k v (by simpa using h)
    have e:gt (x::y::r) (k+2)=gt r k:=by simp [gt]
    have e2:(k+2) % 2=k % 2:=by omega
    rw [e,e2]
    simp only [List.set_cons_succ,Z7]
    rw [ih]
    omega
theorem Znf {a:List Int} {k:Nat} {v:Int} (h:Byt a) (hf:Zae (Z7 a)=65535) (hk:k<a.length) (hv:0≤v∧v≤255) (hne:v≠gt a k):Byt (a.set k v)∧Zas (a.set k v)=false:=by
  have b:Byt (a.set k v):=by
    refine ⟨fun z hz=>?_,by simpa using h.2⟩
    rcases List.mem_or_eq_of_mem_set hz with hz | rfl
    · exact h.1 z hz
    · exact hv
  refine ⟨b,?_⟩
  have e:=ZkN a k v hk
  have f1:=ZgQ h.sum.1
  have f2:=ZgQ b.sum.1
  have gb:0≤gt a k∧gt a k≤255:=by
    unfold gt
    rw [List.getD_eq_getElem?_getD,List.getElem?_eq_getElem hk]
    exact h.1 a[k] (List.getElem_mem hk)
  have ne:Zae (Z7 (a.set k v))≠65535:=by
    intro q
    rw [q] at f2
    rw [hf] at f1
    rw [e] at f2
    split at f2<;>omega
  unfold Zas
  simp [ne]
def hfL (L:Nat) (cf turn:Int) (r:Option Seg):List (Str×D):=[("coming_first",.int cf),("ends",.ref (L+1)),("latest",.ref (L+2)),("untaken",.ref (L+3)),("owed_reset",ZaD r),("turn",.int turn)]
def hst (P:Sto) (cf turn:Int) (r:Option Seg) (rs:List D) (kv:List (List Key×D)) (un:List (Key×D)) (X:Sto):Sto:=P++.ins "Host" (hfL P.length cf turn r)::.lst rs::.dT kv::.dK un::X
theorem Zdg (P r:Sto) (i:Nat):(P++r)[P.length+i]?=r[i]?:=by
  rw [List.getElem?_append_right (by omega)]
  congr 1
  omega
theorem Zcf (P r:Sto) (i:Nat) (c:Cell):(P++r).set (P.length+i) c=P++r.set i c:=by
  rw [List.set_append_right _ _ (by omega)]
  congr 2
  omega
section
variable {P:Sto} {cf turn:Int} {r:Option Seg} {rs:List D} {kv:List (List Key×D)} {un:List (Key×D)} {X:Sto}
theorem Zfo:(hst P cf turn r rs kv un X).length=P.length+4+X.length:=by simp [hst]; omega
theorem Zfp (Y:Sto):hst P cf turn r rs kv un X++Y=hst P cf turn r rs kv un (X++Y):=by simp [hst]
theorem ZyL:(hst P cf turn r rs kv un X)[P.length]?=some (.ins "Host" (hfL P.length cf turn r)):=Zdg P _ 0
theorem ZtN:(hst P cf turn r rs kv un X)[P.length+1]?=some (.lst rs):=Zdg P _ 1
theorem ZyK:(hst P cf turn r rs kv un X)[P.length+2]?=some (.dT kv):=Zdg P _ 2
theorem ZyJ:(hst P cf turn r rs kv un X)[P.length+3]?=some (.dK un):=Zdg P _ 3
theorem ZyI (j:Nat):(hst P cf turn r rs kv un X)[P.length+4+j]?=X[j]?:=by
  have:=Zdg P (.ins "Host" (hfL P.length cf turn r)::.lst rs::.dT kv::.dK un::X) (4+j)
  rw [←Nat.add_assoc] at this
  have e:(Cell.ins "Host" (hfL P.length cf turn r)::.lst rs::.dT kv::.dK un::X)[4+j]?=X[j]?:=by
    rw [Nat.add_comm]; rfl
  rw [e] at this
  exact this
theorem Zfr:Zco (hst P cf turn r rs kv un X) (.ref P.length)=some (P.length,("Host":Str),hfL P.length cf turn r):=by
  simp only [Zco,ZyL]
theorem Zip {f:Str} {d:D} (h:(hfL P.length cf turn r).lookup f=some d):zH ["Host"] f (.ref P.length) (hst P cf turn r rs kv un X)=.ok d (hst P cf turn r rs kv un X):=by
  unfold zH
  rw [Zfr]
  simp [h]
theorem Zyr:zH ["Host"] "coming_first" (.ref P.length) (hst P cf turn r rs kv un X)=.ok (.int cf) (hst P cf turn r rs kv un X):=Zip rfl
theorem ZiN:zH ["Host"] "ends" (.ref P.length) (hst P cf turn r rs kv un X)=.ok (.ref (P.length+1)) (hst P cf turn r rs kv un X):=Zip rfl
theorem Zg3:zH ["Host"] "latest" (.ref P.length) (hst P cf turn r rs kv un X)=.ok (.ref (P.length+2)) (hst P cf turn r rs kv un X):=Zip rfl
theorem ZaL:zH ["Host"] "untaken" (.ref P.length) (hst P cf turn r rs kv un X)=.ok (.ref (P.length+3)) (hst P cf turn r rs kv un X):=Zip rfl
theorem ZiM:zH ["Host"] "owed_reset" (.ref P.length) (hst P cf turn r rs kv un X)=.ok (ZaD r) (hst P cf turn r rs kv un X):=Zip rfl
theorem ZpD:zH ["Host"] "turn" (.ref P.length) (hst P cf turn r rs kv un X)=.ok (.int turn) (hst P cf turn r rs kv un X):=Zip rfl
theorem ZlH {f:Str} {d:D} {cf' turn':Int} {r':Option Seg} (h:Zau f d (hfL P.length cf turn r)=hfL P.length cf' turn' r'):Z1 ["Host"] f d (.ref P.length) (hst P cf turn r rs kv un X)=some (hst P cf' turn' r' rs kv un X):=by
  unfold Z1
  rw [Zfr]
  have s:=Zcf P (.ins "Host" (hfL P.length cf turn r)::.lst rs::.dT kv::.dK un::X) 0 (.ins "Host" (Zau f d (hfL P.length cf turn r)))
  have c:[("Host":Str)].contains ("Host":Str)=true∧(hfL P.length cf turn r).length<1000:=⟨by decide +kernel,by simp [hfL]⟩
  simp only [if_pos c]
  congr 1
  rw [h] at s ⊢
  exact s
theorem Zx5 (n:Int):Z1 ["Host"] "coming_first" (.int n) (.ref P.length) (hst P cf turn r rs kv un X)=some (hst P n turn r rs kv un X):=ZlH rfl
theorem ZsN (n:Int):Z1 ["Host"] "turn" (.int n) (.ref P.length) (hst P cf turn r rs kv un X)=some (hst P cf n r rs kv un X):=ZlH rfl
theorem Zpg (r':Option Seg):Z1 ["Host"] "owed_reset" (ZaD r') (.ref P.length) (hst P cf turn r rs kv un X)=some (hst P cf turn r' rs kv un X):=ZlH rfl
theorem Zq0:Z1 ["Host"] "owed_reset" .non (.ref P.length) (hst P cf turn r rs kv un X)=some (hst P cf turn none rs kv un X):=Zpg none
theorem Zyz:ZhW (hst P cf turn r rs kv un X) (.ref (P.length+1))=some (P.length+1,rs):=by simp only [ZhW,ZtN]
theorem ZtK:ZhX (hst P cf turn r rs kv un X) (.ref (P.length+2))=some (P.length+2,kv):=by simp only [ZhX,ZyK]
theorem Zja:dkOf (hst P cf turn r rs kv un X) (.ref (P.length+3))=some (P.length+3,un):=by simp only [dkOf,ZyJ]
theorem z_1 (ys:List D):(hst P cf turn r rs kv un X).set (P.length+1) (.lst ys)=hst P cf turn r ys kv un X:=Zcf P _ 1 _
theorem z_2 (ys:List (List Key×D)):(hst P cf turn r rs kv un X).set (P.length+2) (.dT ys)=hst P cf turn r rs ys un X:=Zcf P _ 2 _
theorem z_3 (ys:List (Key×D)):(hst P cf turn r rs kv un X).set (P.length+3) (.dK ys)=hst P cf turn r rs kv ys X:=Zcf P _ 3 _
theorem z_4 (j:Nat) (c:Cell):(hst P cf turn r rs kv un X).set (P.length+4+j) c=hst P cf turn r rs kv un (X.set j c):=by
  have:=Zcf P (.ins "Host" (hfL P.length cf turn r)::.lst rs::.dT kv::.dK un::X) (4+j) c
  rw [←Nat.add_assoc] at this
  have e:(Cell.ins "Host" (hfL P.length cf turn r)::.lst rs::.dT kv::.dK un::X).set (4+j) c=.ins "Host" (hfL P.length cf turn r)::.lst rs::.dT kv::.dK un::X.set j c:=by
    rw [Nat.add_comm]; rfl
  rw [e] at this
  exact this
theorem Zql:Zbm [.ref (P.length+1)] (hst P cf turn r rs kv un X)=.ok (.int rs.length) (hst P cf turn r rs kv un X):=by
  have:Zak (hst P cf turn r rs kv un X) (.ref (P.length+1))=some rs:=by simp only [Zak,ZtN]
  simp [Zbm,seqOf,this]
theorem Zsy {d:D}:ixM (.ref (P.length+1)) (.int 0) (hst P cf turn r [d] kv un X)=.ok d (hst P cf turn r [d] kv un X):=by
  have:Zak (hst P cf turn r [d] kv un X) (.ref (P.length+1))=some [d]:=by simp only [Zak,ZtN]
  have e:atI [d] 0=some d:=rfl
  simp [ixM,ixD,seqOf,this,e]
end
theorem ZnG:[("Host":Str)].contains ("Host":Str)=true:=by decide +kernel
theorem Zyv (θ r:Sto) (y:D):Z1 ["Host"] "coming_first" y (.ref θ.length) (θ++.ins "Host" []::r)=some (θ++.ins "Host" [("coming_first",y)]::r):=ZV θ r ZnG (by simp only [List.map_cons,List.map_nil]; decide +kernel) (by simp only [List.length_cons,List.length_nil]; decide)
theorem ZtC (θ r:Sto) (x0 y:D):Z1 ["Host"] "ends" y (.ref θ.length) (θ++.ins "Host" [("coming_first",x0)]::r)=some (θ++.ins "Host" [("coming_first",x0),("ends",y)]::r):=ZV θ r ZnG (by simp only [List.map_cons,List.map_nil]; decide +kernel) (by simp only [List.length_cons,List.length_nil]; decide)
theorem Zp9 (θ r:Sto) (x0 x1 y:D):Z1 ["Host"] "latest" y (.ref θ.length) (θ++.ins "Host" [("coming_first",x0),("ends",x1)]::r)=some (θ++.ins "Host" [("coming_first",x0),("ends",x1),("latest",y)]::r):=ZV θ r ZnG (by simp only [List.map_cons,List.map_nil]; decide +kernel) (by simp only [List.length_cons,List.length_nil]; decide)
theorem Znr (θ r:Sto) (x0 x1 x2 y:D):Z1 ["Host"] "untaken" y (.ref θ.length) (θ++.ins "Host" [("coming_first",x0),("ends",x1),("latest",x2)]::r)=some (θ++.ins "Host" [("coming_first",x0),("ends",x1),("latest",x2),("untaken",y)]::r):=ZV θ r ZnG (by simp only [List.map_cons,List.map_nil]; decide +kernel) (by simp only [List.length_cons,List.length_nil]; decide)
theorem ZtB (θ r:Sto) (x0 x1 x2 x3 y:D):Z1 ["Host"] "owed_reset" y (.ref θ.length) (θ++.ins "Host" [("coming_first",x0),("ends",x1),("latest",x2),("untaken",x3)]::r)=some (θ++.ins "Host" [("coming_first",x0),("ends",x1),("latest",x2),("untaken",x3),("owed_reset",y)]::r):=ZV θ r ZnG (by simp only [List.map_cons,List.map_nil]; decide +kernel) (by simp only [List.length_cons,List.length_nil]; decide)
theorem ZtA (θ r:Sto) (x0 x1 x2 x3 x4 y:D):Z1 ["Host"] "turn" y (.ref θ.length) (θ++.ins "Host" [("coming_first",x0),("ends",x1),("latest",x2),("untaken",x3),("owed_reset",x4)]::r)=some (θ++.ins "Host" [("coming_first",x0),("ends",x1),("latest",x2),("untaken",x3),("owed_reset",x4),("turn",y)]::r):=ZV θ r ZnG (by simp only [List.map_cons,List.map_nil]; decide +kernel) (by simp only [List.length_cons,List.length_nil]; decide)
theorem Zmn {cf:Int} (P:Sto):mkG "Host" z0 [.int cf] P=.ok (.ref P.length) (hst P cf 0 none [] [] [] []):=by
  simp [mkG,z0,ZeL,Zyv,ZtC,Zp9,Znr,ZtB,ZtA]
  rfl
section
variable {P:Sto} {cf turn p q a b now:Int} {r:Option Seg} {rs:List D} {kv:List (List Key×D)} {un:List (Key×D)} {X:Sto} {d:D}
theorem ZgZ:zd [.ref P.length,.int p] (hst P cf turn r rs kv [] X)=.ok .non (hst P cf turn r rs kv [(.inl p,.ref (P.length+4+X.length))] (X++[.lst []])):=by
  have v:valD [] (.inl p)=none:=rfl
  have u:∀d,putD [] (.inl p) d=[(.inl p,d)]:=fun _=>rfl
  simp [zd,Zda,Zcq,ZaL,Zja,keyD,v,u,Zfo,Zfp,z_3]
theorem lk1 (L:Nat):(hfL L cf turn r).lookup ("listens":Str)=none:=rfl
theorem lk2 (L:Nat):(hfL L cf turn r).lookup ("calls":Str)=none:=rfl
theorem lk3 (L:Nat):(hfL L cf turn r).lookup ("taken_end":Str)=none:=rfl
theorem ZhT (h:valD un (.inl p)=some d):Z8 [.ref P.length,.int 0,.int p,.int q] (hst P cf turn r rs kv un X)=.ok (.bl true) (hst P cf turn r rs kv un X):=by
  have e:zN [.ref P.length,.int p] (hst P cf turn r rs kv un X)=.ex "NoPort" (hst P cf turn r rs kv un X):=by
    simp [zN,ZdA,Zbj,ZaL,Zja,keyD,h]
  simp [Z8,ZaK,Zff,ZhV,Zcm,Zfr,lk1,e]
theorem ZiJ:Z8 [.ref P.length,.int 0,.int p,.int q] (hst P cf turn r rs kv [] X)=.ok (.bl false) (hst P cf turn r rs kv [(.inl p,.ref (P.length+4+X.length))] (X++[.lst []])):=by
  have v:valD [] (.inl p)=none:=rfl
  have u:∀d,putD [] (.inl p) d=[(.inl p,d)]:=fun _=>rfl
  have e:zN [.ref P.length,.int p] (hst P cf turn r rs kv [] X)=.ok .non (hst P cf turn r rs kv [(.inl p,.ref (P.length+4+X.length))] (X++[.lst []])):=by
    simp [zN,ZdA,Zbj,ZcF,ZaL,Zja,keyD,v,u,Zfo,Zfp,z_3]
  simp [Z8,ZaK,Zff,ZhV,Zcm,Zfr,lk1,e]
theorem ZlJ (h:valD un (.inl p)=none):Z8 [.ref P.length,.int 2,.int p,.int q] (hst P cf turn r rs kv un X)=.ok (.bl true) (hst P cf turn r rs kv un X):=by
  have e:zp [.ref P.length,.int p] (hst P cf turn r rs kv un X)=.ex "NoPort" (hst P cf turn r rs kv un X):=by
    simp [zp,ZdA,ZaV,ZaL,Zja,keyD,h]
  simp [Z8,ZaK,Zff,ZhV,Zcm,Zfr,lk3,e]
theorem Zrd {k:Nat} (h:valD un (.inl p)=some (.ref k)) (hk:Zak (hst P cf turn r rs kv un X) (.ref k)=some []):Z8 [.ref P.length,.int 2,.int p,.int q] (hst P cf turn r rs kv un X)=.ok (.bl false) (hst P cf turn r rs kv un X):=by
  have it:∀(tst:TMr) (elt:EM) (y:Sl),Zhg (mIn (Znw (ZE ["Host"] "untaken" (Zd 0)) (Zd 1))) [] tst elt [.val (.ref P.length),.val (.int p),y] (hst P cf turn r rs kv un X)=.ok (.lst []) (hst P cf turn r rs kv un X):=by
    intro tst elt y
    simp [Zhg,Znw,ZaL,Zja,keyD,h,mIn,seqOf,hk,Src.items,ZeY]
  have e:zp [.ref P.length,.int p] (hst P cf turn r rs kv un X)=.ok .non (hst P cf turn r rs kv un X):=by
    have ln:Zbm [.lst []] (hst P cf turn r rs kv un X)=.ok (.int 0) (hst P cf turn r rs kv un X):=rfl
    simp [zp,ZdA,ZaV,Zb2,Zbs,ZaL,Zja,keyD,h,it,ln]
  simp [Z8,ZaK,Zff,ZhV,Zcm,Zfr,lk3,e]
theorem Zeq (h:valT kv [.inl a,.inl b]=none):zM [.ref P.length,.int a,.int b] (hst P cf turn r rs kv un X)=.ok .non (hst P cf turn r rs kv un X):=by
  simp [zM,Zds,Zg3,ZtK,kt2,h,zZ]
theorem ZlA {act:Bool}:Zaq [.ref P.length,.int a,.int b,.bl act] (hst P cf turn r [] [] un X)=.ok (.ref (P.length+4+X.length)) (hst P (zY cf 64000) turn r [.ref (P.length+4+X.length)] [([.inl a,.inl b],.ref (P.length+4+X.length))] un (X++cells (P.length+4+X.length) (newEnd a b cf act))):=by
  have op:=Zpm (a:=a) (b:=b) (c:=cf) (act:=act) (hst P cf turn r [] [] un X)
  rw [Zfo,Zfp] at op
  have pt:∀d,putT [] [.inl a,.inl b] d=[([.inl a,.inl b],d)]:=fun _=>rfl
  simp [Zaq,Zfv,Zyr,op,Zx5,ZiN,Zyz,z_1,Zg3,ZtK,kt2,pt,z_2]
theorem ZlK:Z8 [.ref P.length,.int 1,.int a,.int b] (hst P cf turn r [] [] un X)=.ok (.bl false) (hst P (zY cf 64000) turn r [.ref (P.length+4+X.length)] [([.inl a,.inl b],.ref (P.length+4+X.length))] un (X++cells (P.length+4+X.length) (newEnd a b cf true))):=by
  have e:Zac [.ref P.length,.int a,.int b] (hst P cf turn r [] [] un X)=.ok (.ref (P.length+4+X.length)) (hst P (zY cf 64000) turn r [.ref (P.length+4+X.length)] [([.inl a,.inl b],.ref (P.length+4+X.length))] un (X++cells (P.length+4+X.length) (newEnd a b cf true))):=by
    simp [Zac,ZdA,ZbU,ZdG,Zeq (kv:=[]) rfl,zZ,ZlA]
  simp [Z8,ZaK,Zff,ZhV,Zcm,Zfr,lk2,e]
theorem ZkZ {k:Nat} (h:zM [.ref P.length,.int a,.int b] (hst P cf turn r rs kv un X)=.ok (.ref k) (hst P cf turn r rs kv un X)):Z8 [.ref P.length,.int 1,.int a,.int b] (hst P cf turn r rs kv un X)=.ok (.bl true) (hst P cf turn r rs kv un X):=by
  have e:Zac [.ref P.length,.int a,.int b] (hst P cf turn r rs kv un X)=.ex "NoPort" (hst P cf turn r rs kv un X):=by
    simp [Zac,ZdA,ZbU,h,zZ]
  simp [Z8,ZaK,Zff,ZhV,Zcm,Zfr,lk2,e]
theorem Zpr:ZaO [.ref P.length,.int a,.int b] (hst P cf turn r [] [] un X)=.ok (.ref (P.length+4+X.length)) (hst P (zY cf 64000) turn r [.ref (P.length+4+X.length)] [([.inl a,.inl b],.ref (P.length+4+X.length))] un (X++cells (P.length+4+X.length) (newEnd a b cf true))):=by
  simp [ZaO,Zeg,Zdb,Zeq (kv:=[]) rfl,zZ,ZlA]
theorem Zhn (e e':ZN):upE (hst P cf turn r rs kv un (X++cells (P.length+4+X.length) e)) (P.length+4+X.length) e'=hst P cf turn r rs kv un (X++cells (P.length+4+X.length) e'):=by
  have:=ZqH (hst P cf turn r rs kv un X) e e'
  rw [Zfo,Zfp,Zfp] at this
  exact this
theorem Zl7 (e:ZN):P.length+4+X.length+3<(hst P cf turn r rs kv un (X++cells (P.length+4+X.length) e)).length:=by
  rw [Zfo]; simp [cells]; omega
theorem ZnA {e:ZN} (h:valT kv [.inl a,.inl b]=some (.ref (P.length+4+X.length))) (hs:e.state≠.closed):zM [.ref P.length,.int a,.int b] (hst P cf turn r rs kv un (X++cells (P.length+4+X.length) e))=.ok (.ref (P.length+4+X.length)) (hst P cf turn r rs kv un (X++cells (P.length+4+X.length) e)):=by
  have g:=ZrN (Zl7 (P:=P) (cf:=cf) (turn:=turn) (r:=r) (rs:=rs) (kv:=kv) (un:=un) (X:=X) e) e
  rw [Zhn] at g
  simp [zM,Zds,Zg3,ZtK,kt2,h,zZ,g,hs]
theorem Zrc {s:Seg} (hp:s.Put):ZJ [.ref P.length,.int now] (hst P cf turn (some s) rs kv un X)=.ok (il (putL s)) (hst P cf turn none rs kv un X):=by
  have tp:=Zse hp (hst P cf turn (some s) rs kv un X)
  have nn:zZ s.d=false:=rfl
  simp [ZJ,ZaJ,Zal,ZiM,tp,Zq0,nn]
theorem ZiI:ZJ [.ref P.length,.int now] (hst P cf turn none [] kv un X)=.ok (il []) (hst P cf turn none [] kv un X):=by
  simp [ZJ,ZaJ,Zal,ZaS,ZiM,zZ,ZiN,Zql,Zgy,ZeB,ZcT,ZcL]
theorem ZlI {o:Option Seg} {e e':ZN} (g:ZbR e now=(o,e')) (hp:∀s,o=some s→s.Put):ZJ [.ref P.length,.int now] (hst P cf turn none [.ref (P.length+4+X.length)] kv un (X++cells (P.length+4+X.length) e))=.ok (il (ZbM o)) (hst P cf (if o.isSome=true then 1 else turn) none [.ref (P.length+4+X.length)] kv un (X++cells (P.length+4+X.length) e')):=by
  have sd:=Zrb (Zl7 (P:=P) (cf:=cf) (turn:=turn) (r:=none) (rs:=[.ref (P.length+4+X.length)]) (kv:=kv) (un:=un) (X:=X) e) g hp
  rw [Zhn,Zhn] at sd
  have md:turn % 1=0:=by omega
  cases o with
  | none=>
    simp only [ZbM] at sd
    simp [ZJ,ZaJ,Zal,ZaS,ZbF,ZiM,zZ,ZiN,Zql,Zgy,ZeB,ZcT,ZcL,ZpD,md,Zsy,sd,ZbM]
  | some s=>
    simp only [ZbM] at sd
    have pl:0<(putL s).length:=by
      cases h:putL s with
      | nil=>exact absurd h (Zta _)
      | cons _ _=>simp
    simp [ZJ,ZaJ,Zal,ZaS,ZbF,ZiM,zZ,ZiN,Zql,Zgy,ZeB,ZcT,ZcL,ZpD,md,Zsy,sd,ZbM,pl,ZsN]
end
section
variable {P:Sto} {cf turn a b now:Int} {r:Option Seg} {rs:List D} {kv:List (List Key×D)} {un:List (Key×D)} {X:Sto} {s:Seg}
def ZbA (s:Seg):Bool:=bears s 2 && (!bears s 16 && !bears s 4)
theorem Zh2 (θ:Sto):ZcX [s.d] θ=.ok (.bl (ZbA s)) θ:=by
  unfold ZbA
  cases h1:bears s 2<;>cases h2:bears s 16<;>cases h3:bears s 4<;>simp [ZcX,Zgq,h1,h2,h3]
theorem ZvI {row:List Int} (hb:Byt row) (hr:Zas row=false):p_Host_arrives [.ref P.length,il row,.int now] (hst P cf turn r rs kv un X)=.ok (.bl false) (hst P cf turn r rs kv un X):=by
  have ir:=Zcd hb (hst P cf turn r rs kv un X)
  rw [hr] at ir
  simp [p_Host_arrives,ZaT,Zat,ir]
theorem ZrU (hk:valT kv [.inl s.goal,.inl s.src]=none) (h:((valD un (.inl s.goal)).isSome && ZbA s)=false):Zbb [.ref P.length,s.d] (hst P cf turn r rs kv un X)=.ok .non (hst P cf turn r rs kv un X):=by
  have lv:=Zeq (P:=P) (cf:=cf) (turn:=turn) (r:=r) (rs:=rs) (un:=un) (X:=X) hk
  have ic:=Zh2 (s:=s) (hst P cf turn r rs kv un X)
  cases c1:(valD un (.inl s.goal)).isSome with
  | false=>simp [Zbb,ZcC,ZbK,lv,zZ,ZaL,Zja,keyD,c1]
  | true=>
    rw [c1,Bool.true_and] at h
    rw [h] at ic
    simp [Zbb,ZcC,ZbK,lv,zZ,ZaL,Zja,keyD,c1,ic]
theorem Zr4 (so:s.Ok) (hk:valT kv [.inl s.goal,.inl s.src]=none) (h:((valD un (.inl s.goal)).isSome && ZbA s)=false):p_Host_arrives [.ref P.length,il (putL s),.int now] (hst P cf turn r rs kv un X)=.ok (.bl true) (hst P cf turn (if bears s 4=true then r else some (ZbN s)) rs kv un X):=by
  have ef:=ZrU (P:=P) (cf:=cf) (turn:=turn) (r:=r) (rs:=rs) (X:=X) hk h
  have pb:=ZiP so.put
  have pr:=ZfX so
  have ir:=Zcd pb (hst P cf turn r rs kv un X)
  rw [pr] at ir
  have gt:=Zpq pb pr (hst P cf turn r rs kv un X)
  rw [ZgP so] at gt
  have wo:=Zpg (P:=P) (cf:=cf) (turn:=turn) (r:=r) (rs:=rs) (kv:=kv) (un:=un) (X:=X) (some (ZbN s))
  rw [Znh] at wo
  cases c:bears s 4<;>simp [p_Host_arrives,ZaT,Zat,Zcr,Zba,ir,gt,ef,zZ,c,wo]
theorem ZrV (hc:ZbA s=true):Zbb [.ref P.length,s.d] (hst P cf turn r [] [] [(.inl s.goal,.ref (P.length+4))] [.lst []])=.ok (.ref (P.length+4+1)) (hst P (zY cf 64000) turn r [.ref (P.length+4+1)] [([.inl s.goal,.inl s.src],.ref (P.length+4+1))] [(.inl s.goal,.ref (P.length+4))] ([.lst [.ref (P.length+4+1)]]++cells (P.length+4+1) (newEnd s.goal s.src cf false))):=by
  have lv:=Zeq (P:=P) (cf:=cf) (turn:=turn) (r:=r) (rs:=[]) (kv:=[]) (un:=[(.inl s.goal,.ref (P.length+4))]) (X:=[.lst []]) (a:=s.goal) (b:=s.src) rfl
  have ic:=Zh2 (s:=s) (hst P cf turn r [] [] [(.inl s.goal,.ref (P.length+4))] [.lst []])
  rw [hc] at ic
  have md:=ZlA (P:=P) (cf:=cf) (turn:=turn) (r:=r) (un:=[(.inl s.goal,.ref (P.length+4))]) (X:=[.lst []]) (a:=s.goal) (b:=s.src) (act:=false)
  simp only [List.length_cons,List.length_nil,Nat.zero_add] at md
  have vd:∀d,valD [(.inl s.goal,d)] (.inl s.goal)=some d:=fun d=>by simp [valD]
  have lc:ZhW (hst P (zY cf 64000) turn r [.ref (P.length+4+1)] [([.inl s.goal,.inl s.src],.ref (P.length+4+1))] [(.inl s.goal,.ref (P.length+4))] ([.lst []]++cells (P.length+4+1) (newEnd s.goal s.src cf false))) (.ref (P.length+4))=some (P.length+4,[]):=by
    have:=ZyI (P:=P) (cf:=zY cf 64000) (turn:=turn) (r:=r) (rs:=[.ref (P.length+4+1)]) (kv:=[([.inl s.goal,.inl s.src],.ref (P.length+4+1))]) (un:=[(.inl s.goal,.ref (P.length+4))]) (X:=[.lst []]++cells (P.length+4+1) (newEnd s.goal s.src cf false)) 0
    rw [Nat.add_zero] at this
    simp only [ZhW,this]
    rfl
  have z4:=z_4 (P:=P) (cf:=zY cf 64000) (turn:=turn) (r:=r) (rs:=[.ref (P.length+4+1)]) (kv:=[([.inl s.goal,.inl s.src],.ref (P.length+4+1))]) (un:=[(.inl s.goal,.ref (P.length+4))]) (X:=[.lst []]++cells (P.length+4+1) (newEnd s.goal s.src cf false)) 0 (.lst [.ref (P.length+4+1)])
  rw [Nat.add_zero] at z4
  have z5:([Cell.lst []]++cells (P.length+4+1) (newEnd s.goal s.src cf false)).set 0 (.lst [.ref (P.length+4+1)])=[.lst [.ref (P.length+4+1)]]++cells (P.length+4+1) (newEnd s.goal s.src cf false):=rfl
  rw [z5] at z4
  obtain ⟨Y,hY⟩:∃Y,Y=[Cell.lst []]++cells (P.length+4+1) (newEnd s.goal s.src cf false):=⟨_,rfl⟩
  rw [←hY] at md lc z4
  simp [Zbb,ZcC,ZbK,lv,zZ,ZaL,Zja,keyD,vd,ic,md,Znw,lc,z4]
theorem Zr5 (so:s.Ok) (hc:ZbA s=true):p_Host_arrives [.ref P.length,il (putL s),.int now] (hst P cf turn r [] [] [(.inl s.goal,.ref (P.length+4))] [.lst []])=.ok (.bl true) (hst P (zY cf 64000) turn r [.ref (P.length+4+1)] [([.inl s.goal,.inl s.src],.ref (P.length+4+1))] [(.inl s.goal,.ref (P.length+4))] ([.lst [.ref (P.length+4+1)]]++cells (P.length+4+1) (synE s.goal s.src cf s.num s.win s.most))):=by
  have ef:=ZrV (P:=P) (cf:=cf) (turn:=turn) (r:=r) hc
  have pb:=ZiP so.put
  have pr:=ZfX so
  have ir:=Zcd pb (hst P cf turn r [] [] [(.inl s.goal,.ref (P.length+4))] [.lst []])
  rw [pr] at ir
  have gt:=Zpq pb pr (hst P cf turn r [] [] [(.inl s.goal,.ref (P.length+4))] [.lst []])
  rw [ZgP so] at gt
  obtain ⟨b2,b16,b4⟩:bears s 2=true∧bears s 16=false∧bears s 4=false:=by
    unfold ZbA at hc
    simpa using hc
  have ar:=Zgw (now:=now) (Zl7 (P:=P) (cf:=zY cf 64000) (turn:=turn) (r:=r) (rs:=[.ref (P.length+4+1)]) (kv:=[([.inl s.goal,.inl s.src],.ref (P.length+4+1))]) (un:=[(.inl s.goal,.ref (P.length+4))]) (X:=[.lst [.ref (P.length+4+1)]]) (newEnd s.goal s.src cf false)) (e:=newEnd s.goal s.src cf false) pb pr (by rw [ZgP so]; simp [ZmT,newEnd]) rfl
  rw [Zhn,Zhn,ZgP so] at ar
  have cl:ZaI (newEnd s.goal s.src cf false) s=synE s.goal s.src cf s.num s.win s.most:=by
    simp [ZaI,b2,b16,b4,ZgO,synE,newEnd]
  rw [cl] at ar
  simp only [List.length_cons,List.length_nil,Nat.zero_add] at ar
  obtain ⟨Y,hY⟩:∃Y,Y=[Cell.lst [.ref (P.length+4+1)]]++cells (P.length+4+1) (newEnd s.goal s.src cf false):=⟨_,rfl⟩
  obtain ⟨Z,hZ⟩:∃Z,Z=[Cell.lst [.ref (P.length+4+1)]]++cells (P.length+4+1) (synE s.goal s.src cf s.num s.win s.most):=⟨_,rfl⟩
  rw [←hY] at ef ar
  rw [←hZ] at ar ⊢
  simp [p_Host_arrives,ZaT,Zat,Zba,ir,gt,ef,zZ,ar]
end
def Zg2 (a b f t:Int):ZN:={ newEnd a b f true with nxt:=zY f 1,since:=t,wait:=1000,tries:=0 }
theorem ZrL {a b f t:Int}:ZbR (newEnd a b f true) t=(some ⟨a,b,f,0,2,64,16,[]⟩,Zg2 a b f t):=by
  simp [Zg2,ZbR,ZbJ,zA,ZdW,newEnd,Zem,zL]
theorem mth {P:Sto} {cf turn:Int} {r:Option Seg} {rs:List D} {kv:List (List Key×D)} {un:List (Key×D)} {X:Sto} {m:Str} {f:GM} {fs:AM} {ρ:List Sl} (h2:ρ[2]?=some (Sl.val (.ref P.length))) (hl:(hfL P.length cf turn r).lookup m=none) :
    Zbl "Host" m f (Zd 2) fs ρ (hst P cf turn r rs kv un X)=(fs ρ (hst P cf turn r rs kv un X)).bind fun vs θ=>f (.ref P.length::vs) θ:=ZrE (by simp [h2]) Zfr hl
theorem Zu8 {ns:List Int} {s:Seg} {port m:Int} {y6:Sl} {li ca:Bool} (rp:0≤port∧port≤59999) (rm:0≤m∧m≤4294967295) (so:s.Ok) (hca:ca=decide (mix ns 43 % 2=0)) (tl:SM) :
    ∃P,thenS (Zbi [.val (.scr ns),.val s.d,.val (.ref 0),.val (.int port),.val (.int s.src),.val (.bl li),.no,.no,.no,.no,.no,.no,.no,.no] (hst [] m 0 none [] [] [] [])) (Zo ZbG (Zo b_l_law_3 (Zo (ZL 6 (mOp eqM (mOp zk (mCB zv (Zc (Zd 0) (Zc (mC (.int 43)) Zk))) (mC (.int 2))) (mC (.int 0)))) (Zo Zde (Zo Zdd tl))))) =
      tl [.val (.scr ns),.val s.d,.val (.ref 0),.val (.int port),.val (.int s.src),.val (.bl li),.val (.bl ca),.no,.no,.no,.no,.no,.no,.no] P:=by
  have vd:∀d,valD [(.inl port,d)] (.inl port)=some d:=fun d=>by simp [valD]
  have vn:∀d,valD [(.inl port,d)] (.inl (port+1))=none:=fun d=>by simp [valD]; omega
  obtain ⟨T,hT⟩:∃T,T=hst [] m 0 none [] [] [(.inl port,.ref 4)] [.lst []]:=⟨_,rfl⟩
  have L0:([]:Sto).length=0:=rfl
  have ls:=ZgZ (P:=[]) (cf:=m) (turn:=0) (r:=none) (rs:=[]) (kv:=[]) (X:=[]) (p:=port)
  have rn:=ZiJ (P:=[]) (cf:=m) (turn:=0) (r:=none) (rs:=[]) (kv:=[]) (X:=[]) (p:=port) (q:=0)
  have ry:=ZhT (P:=[]) (cf:=m) (turn:=0) (r:=none) (rs:=[]) (kv:=[]) (un:=[(.inl port,.ref 4)]) (X:=[.lst []]) (p:=port) (q:=0) (vd _)
  have tn:=ZlJ (P:=[]) (cf:=m) (turn:=0) (r:=none) (rs:=[]) (kv:=[]) (un:=[(.inl port,.ref 4)]) (X:=[.lst []]) (p:=port+1) (q:=0) (vn _)
  have ty:=Zrd (P:=[]) (cf:=m) (turn:=0) (r:=none) (rs:=[]) (kv:=[]) (un:=[(.inl port,.ref 4)]) (X:=[.lst []]) (p:=port) (q:=0) (k:=4) (vd _) rfl
  simp only [L0,Nat.zero_add,List.length_nil,List.nil_append,Nat.add_zero] at ls rn ry tn ty
  rw [←hT] at ls rn ry tn ty
  have s1:∀x6,thenS (Zbi [.val (.scr ns),.val s.d,.val (.ref 0),.val (.int port),.val (.int s.src),.val (.bl li),x6,.no,.no,.no,.no,.no,.no,.no] (hst [] m 0 none [] [] [] [])) ZbG=.ok (.nx,[.val (.scr ns),.val s.d,.val (.ref 0),.val (.int port),.val (.int s.src),.val (.bl li),x6,.no,.no,.no,.no,.no,.no,.no]) T:=by
    intro x6
    have mm:=mth (P:=[]) (cf:=m) (turn:=0) (r:=none) (rs:=[]) (kv:=[]) (un:=[]) (X:=[]) (m:="listens") (f:=zd) (fs:=Zc (Zd 3) Zk) (ρ:=[.val (.scr ns),.val s.d,.val (.ref 0),.val (.int port),.val (.int s.src),.val (.bl true),x6,.no,.no,.no,.no,.no,.no,.no]) rfl rfl
    simp only [L0] at mm
    cases li with
    | true=>simp [Zbi,ZbG,mm,ls,ry]
    | false=>simp [Zbi,ZbG,rn,ry]
  have s3:∀x6,b_l_law_3 [.val (.scr ns),.val s.d,.val (.ref 0),.val (.int port),.val (.int s.src),.val (.bl li),x6,.no,.no,.no,.no,.no,.no,.no] T=.ok (.nx,[.val (.scr ns),.val s.d,.val (.ref 0),.val (.int port),.val (.int s.src),.val (.bl li),x6,.no,.no,.no,.no,.no,.no,.no]) T:=by
    intro x6
    simp [b_l_law_3,ty,tn]
  obtain ⟨ρ0,hρ0⟩:∃ρ,ρ=([.val (.scr ns),.val s.d,.val (.ref 0),.val (.int port),.val (.int s.src),.val (.bl li),.no,.no,.no,.no,.no,.no,.no,.no]:List Sl):=⟨_,rfl⟩
  have e1:∀g:SM,thenS (Zbi ρ0 (hst [] m 0 none [] [] [] [])) (Zo ZbG g)=g ρ0 T:=by
    intro g
    have:=s1 .no
    rw [←hρ0] at this
    cases q:Zbi ρ0 (hst [] m 0 none [] [] [] []) with
    | bad=>rw [q] at this; cases this
    | ex c θ=>rw [q] at this; cases this
    | ok p θ=>
      rw [q] at this
      obtain ⟨fl,ρ'⟩:=p
      cases fl with
      | nx=>
        rw [zx] at this ⊢
        rw [Zcc,this,zx]
      | _=>cases this
  rw [←hρ0,e1,Zcc]
  have s3':=s3 .no
  rw [←hρ0] at s3'
  rw [s3',zx,Zcc]
  have s6:ZL 6 (mOp eqM (mOp zk (mCB zv (Zc (Zd 0) (Zc (mC (.int 43)) Zk))) (mC (.int 2))) (mC (.int 0))) ρ0 T=.ok (.nx,[.val (.scr ns),.val s.d,.val (.ref 0),.val (.int port),.val (.int s.src),.val (.bl li),.val (.bl ca),.no,.no,.no,.no,.no,.no,.no]) T:=by
    rw [hρ0]
    simp [hca]
  rw [s6,zx,Zcc]
  cases ca with
  | true=>
    have cl:=Zpr (P:=[]) (cf:=m) (turn:=0) (r:=none) (un:=[(.inl port,.ref 4)]) (X:=[.lst []]) (a:=port+2) (b:=s.src)
    have gn:=ZrL (a:=port+2) (b:=s.src) (f:=m) (t:=1)
    have sd:=ZlI (P:=[]) (cf:=zY m 64000) (turn:=0) (kv:=[([.inl (port+2),.inl s.src],.ref 5)]) (un:=[(.inl port,.ref 4)]) (X:=[.lst []]) gn (by
      intro q hq
      cases hq
      exact ⟨⟨by simp,by simp⟩,by simp,by simp⟩)
    have lv:=ZnA (P:=[]) (cf:=zY m 64000) (turn:=1) (r:=none) (rs:=[.ref 5]) (kv:=[([.inl (port+2),.inl s.src],.ref 5)]) (un:=[(.inl port,.ref 4)]) (X:=[.lst []]) (a:=port+2) (b:=s.src) (e:=Zg2 (port+2) s.src m 1) (by simp [valT]) (by simp [Zg2,newEnd])
    have ry2:=ZkZ lv
    simp only [L0,Nat.zero_add,List.length_nil,List.length_cons,Option.isSome_some,if_true] at cl sd ry2
    obtain ⟨T1,hT1⟩:∃T1,T1=[Cell.lst []]++cells (4+1) (newEnd (port+2) s.src m true):=⟨_,rfl⟩
    obtain ⟨T2,hT2⟩:∃T2,T2=[Cell.lst []]++cells (4+1) (Zg2 (port+2) s.src m 1):=⟨_,rfl⟩
    rw [←hT,←hT1] at cl
    rw [←hT1,←hT2] at sd
    rw [←hT2] at ry2
    refine ⟨hst [] (zY m 64000) 1 none [.ref 5] [([.inl (port+2),.inl s.src],.ref 5)] [(.inl port,.ref 4)] T2,?_⟩
    have m1:=mth (P:=[]) (cf:=m) (turn:=0) (r:=none) (rs:=[]) (kv:=[]) (un:=[(.inl port,.ref 4)]) (X:=[.lst []]) (m:="calls") (f:=ZaO) (fs:=Zc (mOp ZM (Zd 3) (mC (.int 2))) (Zc (Zd 4) Zk)) (ρ:=[.val (.scr ns),.val s.d,.val (.ref 0),.val (.int port),.val (.int s.src),.val (.bl li),.val (.bl true),.no,.no,.no,.no,.no,.no,.no]) rfl rfl
    have m2:=mth (P:=[]) (cf:=zY m 64000) (turn:=0) (r:=none) (rs:=[.ref 5]) (kv:=[([.inl (port+2),.inl s.src],.ref 5)]) (un:=[(.inl port,.ref 4)]) (X:=T1) (m:="sends") (f:=ZJ) (fs:=Zc (mC (.int 1)) Zk) (ρ:=[.val (.scr ns),.val s.d,.val (.ref 0),.val (.int port),.val (.int s.src),.val (.bl li),.val (.bl true),.no,.no,.no,.no,.no,.no,.no]) rfl rfl
    simp only [L0] at m1 m2
    rw [←hT] at m1
    simp [Zde,Zdd,m1,cl,m2,sd,ry2]
  | false=>
    have rn2:=ZlK (P:=[]) (cf:=m) (turn:=0) (r:=none) (un:=[(.inl port,.ref 4)]) (X:=[.lst []]) (a:=port+2) (b:=s.src)
    simp only [L0,Nat.zero_add,List.length_nil,List.length_cons] at rn2
    rw [←hT] at rn2
    obtain ⟨T3,hT3⟩:∃T3,T3=hst [] (zY m 64000) 0 none [.ref (4+1)] [([.inl (port+2),.inl s.src],.ref (4+1))] [(.inl port,.ref 4)] ([.lst []]++cells (4+1) (newEnd (port+2) s.src m true)):=⟨_,rfl⟩
    rw [←hT3] at rn2
    refine ⟨T3,?_⟩
    simp [Zde,Zdd,rn2]
def Zcz (s:Seg) (port m goal:Int):Option Seg:=
  if bears s 4=true then none
  else if bears s 16=true then some ⟨goal,s.src,s.ans,0,4,0,0,[]⟩
  else if goal=port∧bears s 2=true then some ⟨goal,s.src,m,zY s.num 1,18,64,16,[]⟩
  else some ⟨goal,s.src,0,zY s.num (ZdH s),20,0,0,[]⟩
def ZR (ns:List Int) (s:Seg) (L:Nat) (port:Int) (li ca:Bool) (x7 x8 x9 x10 x11 x12 x13:Sl):List Sl:=[.val (.scr ns),.val s.d,.val (.ref L),.val (.int port),.val (.int s.src),.val (.bl li),.val (.bl ca),x7,x8,x9,x10,x11,x12,x13]
theorem Zmc {s:Seg} {port m goal:Int} (so:s.Ok) (rg:0≤goal∧goal≤65535) (rm:0≤m∧m≤4294967295) {q:Seg} (h:Zcz s port m goal=some q):q.Ok:=by
  unfold Zcz at h
  have e1:=so.src
  have e2:=so.ans
  have e3:=so.num
  have pl:∀k,0≤zY s.num k∧zY s.num k≤4294967295:=fun k=>by unfold zY; omega
  split at h
  · cases h
  · split at h
    · cases h
      exact Zp1 rg e1 e2 (by omega) (by omega) (by omega) (.inl rfl) ZiX
    · split at h
      · cases h
        exact Zp1 rg e1 rm (pl 1) (by omega) (by omega) (.inr ⟨by omega,by omega,by decide⟩) ZiX
      · cases h
        exact Zp1 rg e1 (by omega) (pl _) (by omega) (by omega) (.inl rfl) ZiX
theorem ZqA {ns:List Int} {s:Seg} {port m goal:Int} {L:Nat} {li ca:Bool} {x8 x9 x10:Sl} (so:s.Ok) (hm:m=mix ns 40) (rg:0≤goal∧goal≤65535) (rm:0≤m∧m≤4294967295) (θ:Sto) :
    Zbh (ZR ns s L port li ca (.val (.int goal)) x8 x9 x10 (.val (.int s.flags)) (.val (.int (ZdH s))) (.val (il []))) θ=.ok (.nx,ZR ns s L port li ca (.val (.int goal)) x8 x9 x10 (.val (.int s.flags)) (.val (.int (ZdH s))) (.val (il (ZbM (Zcz s port m goal))))) θ:=by
  obtain ⟨b1,b2,b4,b8,b16⟩:=ZtT so.flags
  have B4:bears s 4=decide (s.flags/4 % 2=1):=by unfold bears; rw [b4]
  have B16:bears s 16=decide (s.flags/16 % 2=1):=by unfold bears; rw [b16]
  have B2:bears s 2=decide (s.flags/2 % 2=1):=by unfold bears; rw [b2]
  have lb:∀q:Seg,Zcz s port m goal=some q→ZaQ [q.d] θ=.ok (il (putL q)) θ:=fun q hq=>ZkR (Zmc so rg rm hq) θ
  have fl:=so.flags
  unfold Zcz at lb ⊢
  rw [B4,B16,B2] at lb ⊢
  unfold ZR
  by_cases c4:s.flags/4 % 2=1
  · have c4':¬s.flags/4 % 2=0:=by omega
    simp [Zbh,c4,ZbM]
  · have c4':s.flags/4 % 2=0:=by omega
    simp only [c4,decide_false,Bool.false_eq_true,if_false] at lb ⊢
    by_cases c16:s.flags/16 % 2=1
    · have lb':=lb ⟨goal,s.src,s.ans,0,4,0,0,[]⟩ (by simp [c16])
      rw [←ZfV] at lb'
      simp [Zbh,Zdc,c4',c16,ZbM,lb']
    · simp only [c16,decide_false,Bool.false_eq_true,if_false] at lb ⊢
      by_cases c2:goal=port∧s.flags/2 % 2=1
      · have lb':=lb ⟨goal,s.src,m,zY s.num 1,18,64,16,[]⟩ (by simp [c2.1,c2.2])
        rw [←ZfV] at lb'
        have pe:(s.num+1) % 4294967296=zY s.num 1:=rfl
        obtain ⟨c21,c22⟩:=c2
        subst c21
        simp [Zbh,Zdc,Zew,c4',c16,c22,ZbM,lb',←hm,pe]
      · have lb':=lb ⟨goal,s.src,0,zY s.num (ZdH s),20,0,0,[]⟩ (by simp [c2])
        rw [←ZfV] at lb'
        have pe:(s.num+ZdH s) % 4294967296=zY s.num (ZdH s):=rfl
        by_cases cg:goal=port
        · have c22:¬s.flags/2 % 2=1:=fun z=>c2 ⟨cg,z⟩
          subst cg
          simp [Zbh,Zdc,Zew,c4',c16,c22,ZbM,lb',pe]
        · simp [Zbh,Zdc,Zew,c4',c16,cg,ZbM,lb',pe]
theorem ZvC {P:Sto} {cf turn cf' turn':Int} {r r':Option Seg} {rs rs':List D} {kv kv':List (List Key×D)} {un un':List (Key×D)} {X X' Θ:Sto} {x:List Int} {ρ:List Sl} (h2:ρ[2]?=some (Sl.val (.ref P.length))) (h13:ρ[13]?=some (Sl.val (il x)))
    (e1:ZJ [.ref P.length,.int 2] (hst P cf turn r rs kv un X)=.ok (il x) (hst P cf' turn' r' rs' kv' un' X')) (e2:ZJ [.ref P.length,.int 2] (hst P cf' turn' r' rs' kv' un' X')=.ok (il []) Θ) :
    ∃θ,ZQ (Zbd (mOp eqM (Zbl "Host" "sends" ZJ (Zd 2) (Zc (mC (.int 2)) Zk)) (Zd 13)) (Zi6 (mOp eqM (Zd 13) (ZaB Zk)) (mOp eqM (Zbl "Host" "sends" ZJ (Zd 2) (Zc (mC (.int 2)) Zk)) (ZaB Zk)))) ρ (hst P cf turn r rs kv un X)=.ok (.rt (.bl true),ρ) θ:=by
  have m1:=mth (P:=P) (cf:=cf) (turn:=turn) (r:=r) (rs:=rs) (kv:=kv) (un:=un) (X:=X) (m:="sends") (f:=ZJ) (fs:=Zc (mC (.int 2)) Zk) h2 rfl
  have m2:=mth (P:=P) (cf:=cf') (turn:=turn') (r:=r') (rs:=rs') (kv:=kv') (un:=un') (X:=X') (m:="sends") (f:=ZJ) (fs:=Zc (mC (.int 2)) Zk) h2 rfl
  have n0:∀θ,ZaB Zk ρ θ=.ok (il []) θ:=fun θ=>rfl
  by_cases c:x=[]
  · refine ⟨hst P cf' turn' r' rs' kv' un' X',?_⟩
    simp [m1,e1,h13,n0,c] at *
    simp [m1,e1,h13,n0]
  · refine ⟨Θ,?_⟩
    have eqx:∀θ,eqM (il x) (.lst []) θ=.ok (.bl false) θ:=fun θ=>(Zsz (a:=x) (b:=[]) (θ:=θ)).trans (by simp [c])
    have eqn:∀θ,eqM (.lst []) (.lst []) θ=.ok (.bl true) θ:=fun θ=>(Zsz (a:=[]) (b:=[]) (θ:=θ)).trans (by simp)
    simp [m1,m2,e1,e2,h13,n0,eqx,eqn,ZcL,c]
theorem law_true (ns:List Int) (hn:ns.length≤63):∃θ',ZmQ [.scr ns] []=.ok (.bl true) θ':=by
  obtain ⟨s,hs⟩:∃x,x=Zej ns 0:=⟨_,rfl⟩
  have ta:=ZuF ns 0 []
  have so:s.Ok:=by rw [hs]; exact ZtV ns 0
  rw [←hs] at ta
  obtain ⟨m,hm⟩:∃x,x=mix ns 40:=⟨_,rfl⟩
  have mi:=ZlX ns 40
  rw [←hm] at mi
  have rm:0≤m∧m≤4294967295:=by omega
  obtain ⟨port,hp⟩:∃x,x=mix ns 41 % 60000:=⟨_,rfl⟩
  have rp:0≤port∧port≤59999:=by omega
  obtain ⟨li,hli⟩:∃x,x=decide (mix ns 42 % 2=0):=⟨_,rfl⟩
  obtain ⟨ca,hca⟩:∃x,x=decide (mix ns 43 % 2=0):=⟨_,rfl⟩
  obtain ⟨goal,hg⟩:∃x,x=port+mix ns 44 % 3:=⟨_,rfl⟩
  have rg:0≤goal∧goal≤65535:=by omega
  obtain ⟨q,hq⟩:∃x:Seg,x=Seg.mk s.src goal s.num s.ans s.flags s.win s.most s.data:=⟨_,rfl⟩
  have qo:q.Ok:=by rw [hq]; exact ⟨so.src,rg,so.num,so.ans,so.flags,so.win,so.most,so.data⟩
  have pb:=ZiP qo.put
  have pf:=Zk1 qo.put
  have pr:=ZfX qo
  have l20:=(Zgm pr).1
  obtain ⟨row,hrow⟩:∃x,x=putL q:=⟨_,rfl⟩
  have rl:row.length≤200:=by rw [hrow,ZiO]; have:=qo.data.2; split<;>omega
  rw [←hrow] at pb pf pr l20
  obtain ⟨k,hk⟩:∃x:Nat,(x:Int)=mix ns 45 % (row.length:Int):=⟨(mix ns 45 % (row.length:Int)).toNat,by have:=Int.emod_nonneg (mix ns 45) (show (row.length:Int)≠0 by omega); omega⟩
  have hlt:k<row.length:=by have:=Int.emod_lt_of_pos (mix ns 45) (show 0<(row.length:Int) by omega); omega
  have gb:0≤gt row k∧gt row k≤255:=by
    unfold gt
    rw [List.getD_eq_getElem?_getD,List.getElem?_eq_getElem hlt]
    exact pb.1 row[k] (List.getElem_mem hlt)
  obtain ⟨v,hv⟩:∃x:Int,x=(gt row k+1) % 256:=⟨_,rfl⟩
  obtain ⟨wb,wr⟩:=Znf (v:=v) pb pf hlt (by omega) (by omega)
  have wset:row.take k++[v]++row.drop (k+1)=row.set k v:=by
    rw [List.set_eq_take_append_cons_drop,if_pos hlt]
    simp
  obtain ⟨t2,ht2⟩:∃t:SM,Zjs=Zo (ZL 1 (mCB Zij (Zc (Zd 0) (Zc (mC (.int 0)) Zk)))) (Zo (ZL 2 (mCB (mkG "Host" z0) (Zc (mCB zv (Zc (Zd 0) (Zc (mC (.int 40)) Zk))) Zk))) (Zo (ZL 3 (mOp zk (mCB zv (Zc (Zd 0) (Zc (mC (.int 41)) Zk))) (mC (.int 60000)))) (Zo (ZL 4 (mOp ixM (Zd 1) (mC (.int 0)))) (Zo (ZL 5 (mOp eqM (mOp zk (mCB zv (Zc (Zd 0) (Zc (mC (.int 42)) Zk))) (mC (.int 2))) (mC (.int 0)))) (Zo Zbi (Zo ZbG (Zo b_l_law_3 (Zo (ZL 6 (mOp eqM (mOp zk (mCB zv (Zc (Zd 0) (Zc (mC (.int 43)) Zk))) (mC (.int 2))) (mC (.int 0)))) (Zo Zde (Zo Zdd t))))))))))∧t=Zo (ZL 2 (mCB (mkG "Host" z0) (Zc (mCB zv (Zc (Zd 0) (Zc (mC (.int 40)) Zk))) Zk))) (Zo (ze (Zbl "Host" "listens" zd (Zd 2) (Zc (Zd 3) Zk))) (Zo (ZL 7 (mOp ZM (Zd 3) (mOp zk (mCB zv (Zc (Zd 0) (Zc (mC (.int 44)) Zk))) (mC (.int 3))))) (Zo (ZL 8 (mCB ZaQ (Zc (mOp ZM (Zar (Zc (Zd 4) (Zc (Zd 7) Zk))) (mSl (Zd 1) (Zai (mC (.int 2))) zq)) Zk))) (Zo (ZL 9 (mOp zk (mCB zv (Zc (Zd 0) (Zc (mC (.int 45)) Zk))) (mCB Zbm (Zc (Zd 8) Zk)))) (Zo (ZL 10 (mOp ZM (mOp ZM (mSl (Zd 8) zq (Zai (Zd 9))) (ZaB (Zc (mOp zk (mOp ZM (mOp ixM (Zd 8) (Zd 9)) (mC (.int 1))) (mC (.int 256))) Zk))) (mSl (Zd 8) (Zai (mOp ZM (Zd 9) (mC (.int 1)))) zq))) (Zo b_l_law_6 (Zo (ZL 11 (mOp ixM (Zd 1) (mC (.int 4)))) (Zo (ZL 12 (mOp ZM (mOp ZM (mCB Zbm (Zc (mOp ixM (Zd 1) (mC (.int 7))) Zk)) (mOp zk (mOp Zcs (Zd 11) (mC (.int 2))) (mC (.int 2)))) (mOp zk (Zd 11) (mC (.int 2))))) (Zo (ZL 13 (ZaB Zk)) (Zo Zbh (ZQ (Zbd (mOp eqM (Zbl "Host" "sends" ZJ (Zd 2) (Zc (mC (.int 2)) Zk)) (Zd 13)) (Zi6 (mOp eqM (Zd 13) (ZaB Zk)) (mOp eqM (Zbl "Host" "sends" ZJ (Zd 2) (Zc (mC (.int 2)) Zk)) (ZaB Zk))))))))))))))) :=⟨_,rfl,rfl⟩
  obtain ⟨P,eP⟩:=Zu8 (ns:=ns) (li:=li) (y6:=.no) rp rm so hca t2
  have hi0:=Zmn (cf:=m) []
  have hd:Zjs (ZaF 14 [.scr ns]) []=t2 (ZR ns s 0 port li ca .no .no .no .no .no .no .no) P:=by
    rw [ht2.1]
    unfold ZR
    rw [←eP]
    simp [ta,←hm,hi0,←hp,←hli,ZaF]
  have hi:=Zmn (cf:=m) P
  have ls:=ZgZ (P:=P) (cf:=m) (turn:=0) (r:=none) (rs:=[]) (kv:=[]) (X:=[]) (p:=port)
  simp only [List.length_nil,Nat.add_zero,List.nil_append] at ls
  obtain ⟨U,hU⟩:∃U:List (Key×D),U=[(.inl port,.ref (P.length+4))]:=⟨_,rfl⟩
  rw [←hU] at ls
  have lb:∀θ,ZaQ [.tup [.int s.src,.int goal,.int s.num,.int s.ans,.int s.flags,.int s.win,.int s.most,itp s.data]] θ=.ok (il row) θ:=fun θ=>by
    have:=ZkR qo θ
    rw [←hrow] at this
    rw [hq] at this
    exact this
  have sl2:∀θ,ZdK θ s.d (some 2) none=some (.tup [.int s.num,.int s.ans,.int s.flags,.int s.win,.int s.most,itp s.data]):=fun θ=>rfl
  have ad2:∀θ,ZM (.tup [.int s.src,.int goal]) (.tup [.int s.num,.int s.ans,.int s.flags,.int s.win,.int s.most,itp s.data]) θ=.ok (.tup [.int s.src,.int goal,.int s.num,.int s.ans,.int s.flags,.int s.win,.int s.most,itp s.data]) θ:=fun θ=>rfl
  have k1:Zct row none (some (k:Int))=row.take k:=ZqE _ (by omega)
  have k2:Zct row (some ((k:Int)+1)) none=row.drop (k+1):=by
    have:=Zhr row (k:=(k:Int)+1) (by omega)
    rw [this]
    congr 1
  have ix:∀θ,ixM (il row) (.int (k:Int)) θ=.ok (.int (gt row k)) θ:=fun θ=>by
    have:=Zbn (a:=row) (θ:=θ) (i:=(k:Int)) (by omega) (by omega)
    simpa using this
  have f1:∀θ,ZM (il (row.take k)) (il [v]) θ=.ok (il (row.take k++[v])) θ:=fun θ=>Zfn (by simp; omega)
  have f2:∀θ,ZM (il (row.take k++[v])) (il (row.drop (k+1))) θ=.ok (il (row.set k v)) θ:=fun θ=>by
    rw [←wset]
    exact Zfn (by simp; omega)
  have m1:=mth (P:=P) (cf:=m) (turn:=0) (r:=none) (rs:=[]) (kv:=[]) (un:=[]) (X:=[]) (m:="listens") (f:=zd) (fs:=Zc (Zd 3) Zk) (ρ:=ZR ns s P.length port li ca .no .no .no .no .no .no .no) rfl rfl
  have arn:=ZvI (P:=P) (cf:=m) (turn:=0) (r:=none) (rs:=[]) (kv:=[]) (un:=U) (X:=[.lst []]) (now:=1) wb wr
  have sdn:=ZiI (P:=P) (cf:=m) (turn:=0) (kv:=[]) (un:=U) (X:=[.lst []]) (now:=1)
  have bq:∀f,bears q f=bears s f:=fun f=>by rw [hq]; rfl
  have lq:ZdH q=ZdH s:=by rw [hq]; rfl
  obtain ⟨cf',turn',r',rs',kv',un',X',cf'',turn'',r'',rs'',kv'',un'',X'',ary,sd1,sd2⟩:∃cf' turn' r' rs' kv' un' X' cf'' turn'' r'' rs'' kv'' un'' X'',p_Host_arrives [.ref P.length,il row,.int 2] (hst P m 0 none [] [] U [.lst []])=.ok (.bl true) (hst P cf' turn' r' rs' kv' un' X')∧ZJ [.ref P.length,.int 2] (hst P cf' turn' r' rs' kv' un' X')=.ok (il (ZbM (Zcz s port m goal))) (hst P cf'' turn'' r'' rs'' kv'' un'' X'')∧
      ZJ [.ref P.length,.int 2] (hst P cf'' turn'' r'' rs'' kv'' un'' X'')=.ok (il []) (hst P cf'' turn'' r'' rs'' kv'' un'' X''):=by
    by_cases call:goal=port∧ZbA q=true
    · obtain ⟨cg,cc⟩:=call
      have qg:q.goal=port:=by rw [hq]; exact cg
      have qs:q.src=s.src:=by rw [hq]
      have ac:=Zr5 (P:=P) (cf:=m) (turn:=0) (r:=none) (now:=2) qo cc
      rw [←hrow,qg,←hU] at ac
      obtain ⟨b2,b16,b4⟩:bears s 2=true∧bears s 16=false∧bears s 4=false:=by
        unfold ZbA at cc
        rw [bq,bq,bq] at cc
        simpa using cc
      have de:Zcz s port m goal=some ⟨port,s.src,m,zY q.num 1,18,64,16,[]⟩:=by
        unfold Zcz
        have:q.num=s.num:=by rw [hq]
        simp [b2,b16,b4,cg,this]
      have dok:=Zmc so rg rm de
      have g1:=Zva (a:=port) (b:=q.src) (f:=m) (g:=q.num) (W:=q.win) (m:=q.most) (t:=2)
      have g2:=Zu9 (a:=port) (b:=q.src) (f:=m) (g:=q.num) (W:=q.win) (m:=q.most) (t:=2) (t':=2) (by omega)
      have s1:=ZlI (P:=P) (cf:=zY m 64000) (turn:=0) (kv:=[([.inl port,.inl q.src],.ref (P.length+4+1))]) (un:=U) (X:=[.lst [.ref (P.length+4+1)]]) g1 (by
        intro z hz
        cases hz
        rw [qs]
        exact dok.put)
      have s2:=ZlI (P:=P) (cf:=zY m 64000) (turn:=1) (kv:=[([.inl port,.inl q.src],.ref (P.length+4+1))]) (un:=U) (X:=[.lst [.ref (P.length+4+1)]]) g2 (by intro z hz; cases hz)
      simp only [List.length_cons,List.length_nil,Nat.zero_add,Option.isSome_some,Option.isSome_none,if_true,Bool.false_eq_true,if_false] at s1 s2
      rw [de]
      rw [qs] at ac s1 s2
      exact ⟨_,_,_,_,_,_,_,_,_,_,_,_,_,_,ac,s1,s2⟩
    · have hno:((valD U (.inl q.goal)).isSome && ZbA q)=false:=by
        have qg:q.goal=goal:=by rw [hq]
        rw [qg,hU]
        by_cases cg:goal=port
        · have:ZbA q=false:=by
            cases c:ZbA q with
            | false=>rfl
            | true=>exact absurd ⟨cg,c⟩ call
          rw [this,Bool.and_false]
        · have:valD [(.inl port,D.ref (P.length+4))] (.inl goal)=none:=by simp [valD]; omega
          rw [this]
          rfl
      have an:=Zr4 (P:=P) (cf:=m) (turn:=0) (r:=none) (rs:=[]) (kv:=[]) (un:=U) (X:=[.lst []]) (now:=2) qo rfl hno
      rw [←hrow,bq] at an
      cases c4:bears s 4 with
      | true=>
        rw [c4,if_pos rfl] at an
        have de:Zcz s port m goal=none:=by simp [Zcz,c4]
        have z:=ZiI (P:=P) (cf:=m) (turn:=0) (kv:=[]) (un:=U) (X:=[.lst []]) (now:=2)
        rw [de]
        exact ⟨_,_,_,_,_,_,_,_,_,_,_,_,_,_,an,z,z⟩
      | false=>
        rw [c4,if_neg (by decide)] at an
        have de:Zcz s port m goal=some (ZbN q):=by
          unfold Zcz ZbN
          rw [c4,if_neg (by decide),bq,lq]
          have e1:q.goal=goal∧q.src=s.src∧q.ans=s.ans∧q.num=s.num:=by rw [hq]; exact ⟨rfl,rfl,rfl,rfl⟩
          rw [e1.1,e1.2.1,e1.2.2.1,e1.2.2.2]
          cases c16:bears s 16 with
          | true=>simp
          | false=>
            have:¬(goal=port∧bears s 2=true):=fun z=>call ⟨z.1,by unfold ZbA; rw [bq,bq,bq,c16,c4,z.2]; rfl⟩
            simp [this]
        have dok:=Zmc so rg rm de
        have z1:=Zrc (P:=P) (cf:=m) (turn:=0) (rs:=[]) (kv:=[]) (un:=U) (X:=[.lst []]) (now:=2) dok.put
        have z2:=ZiI (P:=P) (cf:=m) (turn:=0) (kv:=[]) (un:=U) (X:=[.lst []]) (now:=2)
        rw [de]
        exact ⟨_,_,_,_,_,_,_,_,_,_,_,_,_,_,an,z1,z2⟩
  have np:0<row.length:=by omega
  have st1:ZL 2 (mCB (mkG "Host" z0) (Zc (mCB zv (Zc (Zd 0) (Zc (mC (.int 40)) Zk))) Zk)) (ZR ns s 0 port li ca .no .no .no .no .no .no .no) P=.ok (.nx,ZR ns s P.length port li ca .no .no .no .no .no .no .no) (hst P m 0 none [] [] [] []):=by
    unfold ZR
    simp [←hm,hi]
  have st2:ze (Zbl "Host" "listens" zd (Zd 2) (Zc (Zd 3) Zk)) (ZR ns s P.length port li ca .no .no .no .no .no .no .no) (hst P m 0 none [] [] [] [])=.ok (.nx,ZR ns s P.length port li ca .no .no .no .no .no .no .no) (hst P m 0 none [] [] U [.lst []]):=by
    rw [ZsM,m1]
    unfold ZR
    simp [ls]
  obtain ⟨Θ,hΘ⟩:∃Θ,Θ=hst P m 0 none [] [] U [.lst []]:=⟨_,rfl⟩
  have st3:ZL 7 (mOp ZM (Zd 3) (mOp zk (mCB zv (Zc (Zd 0) (Zc (mC (.int 44)) Zk))) (mC (.int 3)))) (ZR ns s P.length port li ca .no .no .no .no .no .no .no) Θ=.ok (.nx,ZR ns s P.length port li ca (.val (.int goal)) .no .no .no .no .no .no) Θ:=by
    unfold ZR
    simp [hg]
  have st4:ZL 8 (mCB ZaQ (Zc (mOp ZM (Zar (Zc (Zd 4) (Zc (Zd 7) Zk))) (mSl (Zd 1) (Zai (mC (.int 2))) zq)) Zk)) (ZR ns s P.length port li ca (.val (.int goal)) .no .no .no .no .no .no) Θ=.ok (.nx,ZR ns s P.length port li ca (.val (.int goal)) (.val (il row)) .no .no .no .no .no) Θ:=by
    unfold ZR
    simp [sl2,ad2,lb]
  have st5:ZL 9 (mOp zk (mCB zv (Zc (Zd 0) (Zc (mC (.int 45)) Zk))) (mCB Zbm (Zc (Zd 8) Zk))) (ZR ns s P.length port li ca (.val (.int goal)) (.val (il row)) .no .no .no .no .no) Θ=.ok (.nx,ZR ns s P.length port li ca (.val (.int goal)) (.val (il row)) (.val (.int (k:Int))) .no .no .no .no) Θ:=by
    unfold ZR
    simp [np,←hk]
  have st6:ZL 10 (mOp ZM (mOp ZM (mSl (Zd 8) zq (Zai (Zd 9))) (ZaB (Zc (mOp zk (mOp ZM (mOp ixM (Zd 8) (Zd 9)) (mC (.int 1))) (mC (.int 256))) Zk))) (mSl (Zd 8) (Zai (mOp ZM (Zd 9) (mC (.int 1)))) zq)) (ZR ns s P.length port li ca (.val (.int goal)) (.val (il row)) (.val (.int (k:Int))) .no .no .no .no) Θ=.ok (.nx,ZR ns s P.length port li ca (.val (.int goal)) (.val (il row)) (.val (.int (k:Int))) (.val (il (row.set k v))) .no .no .no) Θ:=by
    unfold ZR
    have l1:∀z:Int,D.lst [.int z]=il [z]:=fun z=>rfl
    simp only [Zr9,ZsI,Zup,Zpa,ZkM,Zpd,x_c,Zsa,Zlx,Zpe,R.bind_ok,List.getElem?_cons_succ,List.getElem?_cons_zero,Zlk,k1,ix,ZiV,if_true,List.set_cons_succ,List.set_cons_zero]
    simp [k1,k2,ix,←hv,l1,f1,f2,-Zl6]
  have st7:∀x11 x12 x13,b_l_law_6 (ZR ns s P.length port li ca (.val (.int goal)) (.val (il row)) (.val (.int (k:Int))) (.val (il (row.set k v))) x11 x12 x13) Θ=.ok (.nx,ZR ns s P.length port li ca (.val (.int goal)) (.val (il row)) (.val (.int (k:Int))) (.val (il (row.set k v))) x11 x12 x13) (hst P cf' turn' r' rs' kv' un' X'):=by
    intro x11 x12 x13
    have a1:=mth (P:=P) (cf:=m) (turn:=0) (r:=none) (rs:=[]) (kv:=[]) (un:=U) (X:=[.lst []]) (m:="arrives") (f:=p_Host_arrives) (fs:=Zc (Zd 10) (Zc (mC (.int 1)) Zk)) (ρ:=ZR ns s P.length port li ca (.val (.int goal)) (.val (il row)) (.val (.int (k:Int))) (.val (il (row.set k v))) x11 x12 x13) rfl rfl
    have a2:=mth (P:=P) (cf:=m) (turn:=0) (r:=none) (rs:=[]) (kv:=[]) (un:=U) (X:=[.lst []]) (m:="sends") (f:=ZJ) (fs:=Zc (mC (.int 1)) Zk) (ρ:=ZR ns s P.length port li ca (.val (.int goal)) (.val (il row)) (.val (.int (k:Int))) (.val (il (row.set k v))) x11 x12 x13) rfl rfl
    have a3:=mth (P:=P) (cf:=m) (turn:=0) (r:=none) (rs:=[]) (kv:=[]) (un:=U) (X:=[.lst []]) (m:="arrives") (f:=p_Host_arrives) (fs:=Zc (Zd 8) (Zc (mC (.int 2)) Zk)) (ρ:=ZR ns s P.length port li ca (.val (.int goal)) (.val (il row)) (.val (.int (k:Int))) (.val (il (row.set k v))) x11 x12 x13) rfl rfl
    rw [←hΘ] at a1 a2 a3 arn sdn ary
    have nen:∀θ,neM (.lst []) (.lst []) θ=.ok (.bl false) θ:=fun θ=>(Zvo (a:=[]) (b:=[]) (θ:=θ)).trans (by simp)
    unfold ZR at a1 a2 a3 ⊢
    simp [b_l_law_6,a1,a2,a3,arn,sdn,ary,nen,ZcL]
  obtain ⟨b1,b2,b4,b8,b16⟩:=ZtT so.flags
  have ls2:(s.data.length:Int)+s.flags/2 % 2+s.flags % 2=ZdH s:=by unfold ZdH; rw [b1,b2]
  obtain ⟨Ψ,hΨ⟩:∃Ψ,Ψ=hst P cf' turn' r' rs' kv' un' X':=⟨_,rfl⟩
  have st8:ZL 11 (mOp ixM (Zd 1) (mC (.int 4))) (ZR ns s P.length port li ca (.val (.int goal)) (.val (il row)) (.val (.int (k:Int))) (.val (il (row.set k v))) .no .no .no) Ψ=.ok (.nx,ZR ns s P.length port li ca (.val (.int goal)) (.val (il row)) (.val (.int (k:Int))) (.val (il (row.set k v))) (.val (.int s.flags)) .no .no) Ψ:=by
    unfold ZR
    simp
  have st9:ZL 12 (mOp ZM (mOp ZM (mCB Zbm (Zc (mOp ixM (Zd 1) (mC (.int 7))) Zk)) (mOp zk (mOp Zcs (Zd 11) (mC (.int 2))) (mC (.int 2)))) (mOp zk (Zd 11) (mC (.int 2)))) (ZR ns s P.length port li ca (.val (.int goal)) (.val (il row)) (.val (.int (k:Int))) (.val (il (row.set k v))) (.val (.int s.flags)) .no .no) Ψ=.ok (.nx,ZR ns s P.length port li ca (.val (.int goal)) (.val (il row)) (.val (.int (k:Int))) (.val (il (row.set k v))) (.val (.int s.flags)) (.val (.int (ZdH s))) .no) Ψ:=by
    unfold ZR
    simp [ls2]
  have st10:ZL 13 (ZaB Zk) (ZR ns s P.length port li ca (.val (.int goal)) (.val (il row)) (.val (.int (k:Int))) (.val (il (row.set k v))) (.val (.int s.flags)) (.val (.int (ZdH s))) .no) Ψ=.ok (.nx,ZR ns s P.length port li ca (.val (.int goal)) (.val (il row)) (.val (.int (k:Int))) (.val (il (row.set k v))) (.val (.int s.flags)) (.val (.int (ZdH s))) (.val (il []))) Ψ:=rfl
  have st11:=ZqA (ns:=ns) (s:=s) (port:=port) (goal:=goal) (L:=P.length) (li:=li) (ca:=ca) (x8:=.val (il row)) (x9:=.val (.int (k:Int))) (x10:=.val (il (row.set k v))) so hm rg rm Ψ
  obtain ⟨θf,fin⟩:=ZvC (ρ:=ZR ns s P.length port li ca (.val (.int goal)) (.val (il row)) (.val (.int (k:Int))) (.val (il (row.set k v))) (.val (.int s.flags)) (.val (.int (ZdH s))) (.val (il (ZbM (Zcz s port m goal))))) rfl rfl sd1 sd2
  rw [←hΨ] at st7 fin
  rw [←hΘ] at st2
  refine ⟨θf,?_⟩
  have all:t2 (ZR ns s 0 port li ca .no .no .no .no .no .no .no) P=.ok (.rt (.bl true),ZR ns s P.length port li ca (.val (.int goal)) (.val (il row)) (.val (.int (k:Int))) (.val (il (row.set k v))) (.val (.int s.flags)) (.val (.int (ZdH s))) (.val (il (ZbM (Zcz s port m goal))))) θf:=by
    rw [ht2.2]
    rw [Zcc,st1,zx,Zcc,st2,zx,Zcc,st3,zx,Zcc,st4,zx,Zcc,st5,zx,Zcc,st6,zx,Zcc,st7,zx,Zcc,st8,zx,Zcc,st9,zx,Zcc,st10,zx,Zcc,st11,zx]
    exact fin
  unfold ZmQ
  rw [Zuw,if_pos (show [D.scr ns].length=1 from rfl),hd,all,R.bind_ok]
end
def top (i:Nat):Stmt:=PySem.Challenge.pw_wirestream_k41_ports_refused.main.body.getD i (.Pass ⟨0,0,0,0⟩)
abbrev zs0:Stmt:=Zcx (top 2) 0
abbrev zs1:Stmt:=top 3
abbrev zs2:Stmt:=top 4
abbrev zs3:Stmt:=top 5
abbrev zs4:Stmt:=top 9
abbrev zs5:Stmt:=top 10
abbrev zs6:Stmt:=top 11
abbrev zs7:Stmt:=Zcx (top 30) 0
abbrev zs8:Stmt:=top 31
abbrev zs9:Stmt:=top 32
abbrev ZkK:Stmt:=top 33
abbrev ZkJ:Stmt:=top 41
abbrev ZkI:Stmt:=top 42
abbrev ZkH:Stmt:=top 63
abbrev ZkG:Stmt:=top 64
abbrev ZkF:Stmt:=top 65
abbrev ZkE:Stmt:=top 66
abbrev ZkD:Stmt:=top 67
abbrev ZkC:Stmt:=top 68
abbrev ZkB:Stmt:=top 69
abbrev ZkA:Stmt:=top 70
abbrev Zkz:Stmt:=top 71
abbrev Zky:Stmt:=top 72
abbrev Zkx:Stmt:=top 73
abbrev Zkw:Stmt:=top 74
abbrev Zkv:Stmt:=top 75
abbrev Zku:Stmt:=top 76
abbrev Zkt:Stmt:=top 77
abbrev Zks:Stmt:=top 79
abbrev Zkr:Stmt:=top 80
abbrev Zkq:Stmt:=top 81
abbrev Zkp:Stmt:=top 82
abbrev Zko:Stmt:=top 83
abbrev Zkn:Stmt:=top 84
abbrev Zkm:Stmt:=top 85
abbrev Zkl:Stmt:=top 86
abbrev Zkk:Stmt:=top 87
abbrev Zkj:Stmt:=top 89
abbrev Zki:Stmt:=top 90
abbrev Zkh:Stmt:=top 91
abbrev Zkg:Stmt:=top 92
abbrev Zkf:Stmt:=top 93
abbrev Zke:Stmt:=top 94
abbrev Zkd:Stmt:=top 95
abbrev Zkc:Stmt:=top 96
abbrev Zkb:Stmt:=top 97
abbrev Zka:Stmt:=top 98
abbrev Zj9:Stmt:=top 99
abbrev Zj8:Stmt:=top 100
abbrev Zj7:Stmt:=top 101
abbrev Zj6:Stmt:=top 102
abbrev Zj5:Stmt:=top 103
abbrev Zj4:Stmt:=top 104
abbrev Zj3:Stmt:=top 105
abbrev Zj2:Stmt:=top 106
abbrev Zj1:Stmt:=top 108
abbrev Zj0:Stmt:=top 113
abbrev ZjZ:Stmt:=top 114
abbrev ZjY:Stmt:=top 115
abbrev ZjX:Stmt:=top 116
abbrev ZjW:Stmt:=top 117
abbrev ZjV:Stmt:=top 118
abbrev ZjU:Stmt:=top 119
abbrev ZjT:Stmt:=top 120
abbrev ZjS:Stmt:=top 121
abbrev ZjR:Stmt:=top 122
abbrev ZjQ:Stmt:=top 123
abbrev ZjP:Stmt:=top 124
abbrev ZjO:Stmt:=top 125
abbrev ZjN:Stmt:=top 126
abbrev ZjM:Stmt:=top 127
abbrev ZjL:Stmt:=top 128
abbrev ZjK:Stmt:=top 129
abbrev ZjJ:Stmt:=top 130
abbrev ZjI:Stmt:=top 131
abbrev ZjH:Stmt:=Zcx (top 134) 0
abbrev ZiD:Stmt:=Zcx (top 134) 1
abbrev ZiC:Stmt:=Zcx (top 134) 2
abbrev ZjG:Stmt:=Zcx (top 134) 3
abbrev ZjF:Stmt:=Zcx (top 134) 4
abbrev ZjE:Stmt:=top 135
abbrev ZjD:Stmt:=top 136
abbrev ZjC:Stmt:=top 137
abbrev ZjB:Stmt:=top 138
abbrev ZjA:Stmt:=top 140
abbrev Zjz:Stmt:=top 141
abbrev Zjy:Stmt:=top 144
abbrev Zjx:Stmt:=top 145
abbrev Zjw:Stmt:=top 146
abbrev ZiB:Stmt:=top 149
abbrev Zjv:Stmt:=top 150
abbrev ZgR:Stmt:=top 151
abbrev ZiA:Stmt:=Zcx (top 134) 5
abbrev zP0:List Str:=["self"]
theorem zc0:Zp ["self"] zP0 (Zg zs0):=⟨rfl,rfl,rfl,by decide +kernel,rfl,by decide +kernel,by decide +kernel⟩
abbrev zP1:List Str:=["pile"]
theorem zc1:Zp ["pile"] zP1 (Zg zs1):=⟨rfl,rfl,rfl,by decide +kernel,rfl,by decide +kernel,by decide +kernel⟩
abbrev zP2:List Str:=["pile","row"]
theorem zc2:Zp ["pile","row","laid"] zP2 (Zg zs2):=⟨rfl,rfl,rfl,by decide +kernel,rfl,by decide +kernel,by decide +kernel⟩
abbrev zP3:List Str:=["pile","many"]
theorem zc3:Zp ["pile","many","size","taken"] zP3 (Zg zs3):=⟨rfl,rfl,rfl,by decide +kernel,rfl,by decide +kernel,by decide +kernel⟩
abbrev zP4:List Str:=["number","step"]
theorem zc4:Zp ["number","step"] zP4 (Zg zs4):=⟨rfl,rfl,rfl,by decide +kernel,rfl,by decide +kernel,by decide +kernel⟩
abbrev zP5:List Str:=["number","base"]
theorem zc5:Zp ["number","base"] zP5 (Zg zs5):=⟨rfl,rfl,rfl,by decide +kernel,rfl,by decide +kernel,by decide +kernel⟩
abbrev zP6:List Str:=["number","base"]
theorem zc6:Zp ["number","base"] zP6 (Zg zs6):=⟨rfl,rfl,rfl,by decide +kernel,rfl,by decide +kernel,by decide +kernel⟩
abbrev zP7:List Str:=["self","ours","theirs","first","active"]
theorem zc7:Zp ["self","ours","theirs","first","active"] zP7 (Zg zs7):=⟨rfl,rfl,rfl,by decide +kernel,rfl,by decide +kernel,by decide +kernel⟩
abbrev zP8:List Str:=["end","now"]
theorem zc8:Zp ["end","now"] zP8 (Zg zs8):=⟨rfl,rfl,rfl,by decide +kernel,rfl,by decide +kernel,by decide +kernel⟩
abbrev zP9:List Str:=["end"]
theorem zc9:Zp ["end"] zP9 (Zg zs9):=⟨rfl,rfl,rfl,by decide +kernel,rfl,by decide +kernel,by decide +kernel⟩
abbrev Zo9:List Str:=["end"]
theorem zc10:Zp ["end"] Zo9 (Zg ZkK):=⟨rfl,rfl,rfl,by decide +kernel,rfl,by decide +kernel,by decide +kernel⟩
abbrev Zo8:List Str:=["row"]
theorem zc11:Zp ["row","total"] Zo8 (Zg ZkJ):=⟨rfl,rfl,rfl,by decide +kernel,rfl,by decide +kernel,by decide +kernel⟩
abbrev Zo7:List Str:=["row"]
theorem zc12:Zp ["row"] Zo7 (Zg ZkI):=⟨rfl,rfl,rfl,by decide +kernel,rfl,by decide +kernel,by decide +kernel⟩
abbrev Zo6:List Str:=["segment"]
theorem zc13:Zp ["segment","flags"] Zo6 (Zg ZkH):=⟨rfl,rfl,rfl,by decide +kernel,rfl,by decide +kernel,by decide +kernel⟩
abbrev Zo5:List Str:=["flags","flag"]
theorem zc14:Zp ["flags","flag"] Zo5 (Zg ZkG):=⟨rfl,rfl,rfl,by decide +kernel,rfl,by decide +kernel,by decide +kernel⟩
abbrev Zo4:List Str:=["segment","flag"]
theorem zc15:Zp ["segment","flag"] Zo4 (Zg ZkF):=⟨rfl,rfl,rfl,by decide +kernel,rfl,by decide +kernel,by decide +kernel⟩
abbrev Zo3:List Str:=["segment"]
theorem zc16:Zp ["segment","ahead","behind"] Zo3 (Zg ZkE):=⟨rfl,rfl,rfl,by decide +kernel,rfl,by decide +kernel,by decide +kernel⟩
abbrev Zo2:List Str:=["segment"]
theorem zc17:Zp ["segment","ports","numbers","head"] Zo2 (Zg ZkD):=⟨rfl,rfl,rfl,by decide +kernel,rfl,by decide +kernel,by decide +kernel⟩
abbrev Zo1:List Str:=["head"]
theorem zc18:Zp ["head"] Zo1 (Zg ZkC):=⟨rfl,rfl,rfl,by decide +kernel,rfl,by decide +kernel,by decide +kernel⟩
abbrev Zo0:List Str:=["most"]
theorem zc19:Zp ["most"] Zo0 (Zg ZkB):=⟨rfl,rfl,rfl,by decide +kernel,rfl,by decide +kernel,by decide +kernel⟩
abbrev ZoZ:List Str:=["number"]
theorem zc20:Zp ["number"] ZoZ (Zg ZkA):=⟨rfl,rfl,rfl,by decide +kernel,rfl,by decide +kernel,by decide +kernel⟩
abbrev ZoY:List Str:=["number"]
theorem zc21:Zp ["number"] ZoY (Zg Zkz):=⟨rfl,rfl,rfl,by decide +kernel,rfl,by decide +kernel,by decide +kernel⟩
abbrev ZoX:List Str:=["row"]
theorem zc22:Zp ["row"] ZoX (Zg Zky):=⟨rfl,rfl,rfl,by decide +kernel,rfl,by decide +kernel,by decide +kernel⟩
abbrev ZoW:List Str:=["row"]
theorem zc23:Zp ["row"] ZoW (Zg Zkx):=⟨rfl,rfl,rfl,by decide +kernel,rfl,by decide +kernel,by decide +kernel⟩
abbrev ZoV:List Str:=["row"]
theorem zc24:Zp ["row"] ZoV (Zg Zkw):=⟨rfl,rfl,rfl,by decide +kernel,rfl,by decide +kernel,by decide +kernel⟩
abbrev ZoU:List Str:=["row"]
theorem zc25:Zp ["row","head","most","ports","numbers"] ZoU (Zg Zkv):=⟨rfl,rfl,rfl,by decide +kernel,rfl,by decide +kernel,by decide +kernel⟩
abbrev ZoT:List Str:=["row","place"]
theorem zc26:Zp ["row","place"] ZoT (Zg Zku):=⟨rfl,rfl,rfl,by decide +kernel,rfl,by decide +kernel,by decide +kernel⟩
abbrev ZoS:List Str:=["row","place"]
theorem zc27:Zp ["row","place"] ZoS (Zg Zkt):=⟨rfl,rfl,rfl,by decide +kernel,rfl,by decide +kernel,by decide +kernel⟩
abbrev ZoR:List Str:=["segment"]
theorem zc28:Zp ["segment","ports"] ZoR (Zg Zks):=⟨rfl,rfl,rfl,by decide +kernel,rfl,by decide +kernel,by decide +kernel⟩
abbrev ZoQ:List Str:=["end","segment"]
theorem zc29:Zp ["end","segment"] ZoQ (Zg Zkr):=⟨rfl,rfl,rfl,by decide +kernel,rfl,by decide +kernel,by decide +kernel⟩
abbrev ZoP:List Str:=["end","segment"]
theorem zc30:Zp ["end","segment"] ZoP (Zg Zkq):=⟨rfl,rfl,rfl,by decide +kernel,rfl,by decide +kernel,by decide +kernel⟩
abbrev ZoO:List Str:=["end","segment"]
theorem zc31:Zp ["end","segment"] ZoO (Zg Zkp):=⟨rfl,rfl,rfl,by decide +kernel,rfl,by decide +kernel,by decide +kernel⟩
abbrev ZoN:List Str:=["end","segment"]
theorem zc32:Zp ["end","segment"] ZoN (Zg Zko):=⟨rfl,rfl,rfl,by decide +kernel,rfl,by decide +kernel,by decide +kernel⟩
abbrev ZoM:List Str:=["end","segment","now"]
theorem zc33:Zp ["end","segment","now"] ZoM (Zg Zkn):=⟨rfl,rfl,rfl,by decide +kernel,rfl,by decide +kernel,by decide +kernel⟩
abbrev ZoL:List Str:=["end","segment"]
theorem zc34:Zp ["end","segment"] ZoL (Zg Zkm):=⟨rfl,rfl,rfl,by decide +kernel,rfl,by decide +kernel,by decide +kernel⟩
abbrev ZoK:List Str:=["end","segment"]
theorem zc35:Zp ["end","segment"] ZoK (Zg Zkl):=⟨rfl,rfl,rfl,by decide +kernel,rfl,by decide +kernel,by decide +kernel⟩
abbrev ZoJ:List Str:=["end","segment","now"]
theorem zc36:Zp ["end","segment","now"] ZoJ (Zg Zkk):=⟨rfl,rfl,rfl,by decide +kernel,rfl,by decide +kernel,by decide +kernel⟩
abbrev ZoI:List Str:=["end","row","now"]
theorem zc37:Zp ["end","row","now","segment"] ZoI (Zg Zkj):=⟨rfl,rfl,rfl,by decide +kernel,rfl,by decide +kernel,by decide +kernel⟩
abbrev ZoH:List Str:=["end","segment"]
theorem zc38:Zp ["end","segment"] ZoH (Zg Zki):=⟨rfl,rfl,rfl,by decide +kernel,rfl,by decide +kernel,by decide +kernel⟩
abbrev ZoG:List Str:=["end","segment","now"]
theorem zc39:Zp ["end","segment","now"] ZoG (Zg Zkh):=⟨rfl,rfl,rfl,by decide +kernel,rfl,by decide +kernel,by decide +kernel⟩
abbrev ZoF:List Str:=["end","segment"]
theorem zc40:Zp ["end","segment","size","last"] ZoF (Zg Zkg):=⟨rfl,rfl,rfl,by decide +kernel,rfl,by decide +kernel,by decide +kernel⟩
abbrev ZoE:List Str:=["end","number"]
theorem zc41:Zp ["end","number"] ZoE (Zg Zkf):=⟨rfl,rfl,rfl,by decide +kernel,rfl,by decide +kernel,by decide +kernel⟩
abbrev ZoD:List Str:=["end","segment","now"]
theorem zc42:Zp ["end","segment","now"] ZoD (Zg Zke):=⟨rfl,rfl,rfl,by decide +kernel,rfl,by decide +kernel,by decide +kernel⟩
abbrev ZoC:List Str:=["end","segment"]
theorem zc43:Zp ["end","segment"] ZoC (Zg Zkd):=⟨rfl,rfl,rfl,by decide +kernel,rfl,by decide +kernel,by decide +kernel⟩
abbrev ZoB:List Str:=["end","segment","now"]
theorem zc44:Zp ["end","segment","now"] ZoB (Zg Zkc):=⟨rfl,rfl,rfl,by decide +kernel,rfl,by decide +kernel,by decide +kernel⟩
abbrev ZoA:List Str:=["end","segment"]
theorem ZxN:Zp ["end","segment"] ZoA (Zg Zkb):=⟨rfl,rfl,rfl,by decide +kernel,rfl,by decide +kernel,by decide +kernel⟩
abbrev Zoz:List Str:=["end","segment"]
theorem ZxM:Zp ["end","segment"] Zoz (Zg Zka):=⟨rfl,rfl,rfl,by decide +kernel,rfl,by decide +kernel,by decide +kernel⟩
abbrev Zoy:List Str:=["end","segment","now"]
theorem zc47:Zp ["end","segment","now","answer","has_gone_on","was_shut"] Zoy (Zg Zj9):=⟨rfl,rfl,rfl,by decide +kernel,rfl,by decide +kernel,by decide +kernel⟩
abbrev Zox:List Str:=["end","segment"]
theorem ZxL:Zp ["end","segment"] Zox (Zg Zj8):=⟨rfl,rfl,rfl,by decide +kernel,rfl,by decide +kernel,by decide +kernel⟩
abbrev Zow:List Str:=["end","now"]
theorem ZxK:Zp ["end","now"] Zow (Zg Zj7):=⟨rfl,rfl,rfl,by decide +kernel,rfl,by decide +kernel,by decide +kernel⟩
abbrev Zov:List Str:=["end","segment","now"]
theorem ZxJ:Zp ["end","segment","now"] Zov (Zg Zj6):=⟨rfl,rfl,rfl,by decide +kernel,rfl,by decide +kernel,by decide +kernel⟩
abbrev Zou:List Str:=["end","segment"]
theorem zc51:Zp ["end","segment","place","byte","number"] Zou (Zg Zj5):=⟨rfl,rfl,rfl,by decide +kernel,rfl,by decide +kernel,by decide +kernel⟩
abbrev Zot:List Str:=["end","segment"]
theorem zc52:Zp ["end","segment","number"] Zot (Zg Zj4):=⟨rfl,rfl,rfl,by decide +kernel,rfl,by decide +kernel,by decide +kernel⟩
abbrev Zos:List Str:=["end"]
theorem zc53:Zp ["end","row"] Zos (Zg Zj3):=⟨rfl,rfl,rfl,by decide +kernel,rfl,by decide +kernel,by decide +kernel⟩
abbrev Zor:List Str:=["end","now"]
theorem ZxI:Zp ["end","now"] Zor (Zg Zj2):=⟨rfl,rfl,rfl,by decide +kernel,rfl,by decide +kernel,by decide +kernel⟩
abbrev Zoq:List Str:=["ours","theirs","first","active"]
theorem ZxH:Zp ["ours","theirs","first","active"] Zoq (Zg Zj1):=⟨rfl,rfl,rfl,by decide +kernel,rfl,by decide +kernel,by decide +kernel⟩
abbrev Zop:List Str:=["end","now"]
theorem zc56:Zp ["end","now","segment"] Zop (Zg Zj0):=⟨rfl,rfl,rfl,by decide +kernel,rfl,by decide +kernel,by decide +kernel⟩
abbrev Zoo:List Str:=["end","now"]
theorem zc57:Zp ["end","now","segment"] Zoo (Zg ZjZ):=⟨rfl,rfl,rfl,by decide +kernel,rfl,by decide +kernel,by decide +kernel⟩
abbrev Zon:List Str:=["end"]
theorem zc58:Zp ["end","segment"] Zon (Zg ZjY):=⟨rfl,rfl,rfl,by decide +kernel,rfl,by decide +kernel,by decide +kernel⟩
abbrev Zom:List Str:=["end","now"]
theorem ZxG:Zp ["end","now"] Zom (Zg ZjX):=⟨rfl,rfl,rfl,by decide +kernel,rfl,by decide +kernel,by decide +kernel⟩
abbrev Zol:List Str:=["end","now"]
theorem zc60:Zp ["end","now","data"] Zol (Zg ZjW):=⟨rfl,rfl,rfl,by decide +kernel,rfl,by decide +kernel,by decide +kernel⟩
abbrev Zok:List Str:=["end"]
theorem ZxF:Zp ["end"] Zok (Zg ZjV):=⟨rfl,rfl,rfl,by decide +kernel,rfl,by decide +kernel,by decide +kernel⟩
abbrev Zoj:List Str:=["end"]
theorem ZxE:Zp ["end"] Zoj (Zg ZjU):=⟨rfl,rfl,rfl,by decide +kernel,rfl,by decide +kernel,by decide +kernel⟩
abbrev Zoi:List Str:=["end","number","flags","data"]
theorem ZxD:Zp ["end","number","flags","data"] Zoi (Zg ZjT):=⟨rfl,rfl,rfl,by decide +kernel,rfl,by decide +kernel,by decide +kernel⟩
abbrev Zoh:List Str:=["end","now"]
theorem zc64:Zp ["end","now","room"] Zoh (Zg ZjS):=⟨rfl,rfl,rfl,by decide +kernel,rfl,by decide +kernel,by decide +kernel⟩
abbrev Zog:List Str:=["end","now"]
theorem ZxC:Zp ["end","now"] Zog (Zg ZjR):=⟨rfl,rfl,rfl,by decide +kernel,rfl,by decide +kernel,by decide +kernel⟩
abbrev Zof:List Str:=["end"]
theorem ZxB:Zp ["end"] Zof (Zg ZjQ):=⟨rfl,rfl,rfl,by decide +kernel,rfl,by decide +kernel,by decide +kernel⟩
abbrev Zoe:List Str:=["end"]
theorem ZxA:Zp ["end"] Zoe (Zg ZjP):=⟨rfl,rfl,rfl,by decide +kernel,rfl,by decide +kernel,by decide +kernel⟩
abbrev Zod:List Str:=["end"]
theorem Zxz:Zp ["end"] Zod (Zg ZjO):=⟨rfl,rfl,rfl,by decide +kernel,rfl,by decide +kernel,by decide +kernel⟩
abbrev Zoc:List Str:=["end"]
theorem Zxy:Zp ["end"] Zoc (Zg ZjN):=⟨rfl,rfl,rfl,by decide +kernel,rfl,by decide +kernel,by decide +kernel⟩
abbrev Zob:List Str:=["end","room"]
theorem Zxx:Zp ["end","room"] Zob (Zg ZjM):=⟨rfl,rfl,rfl,by decide +kernel,rfl,by decide +kernel,by decide +kernel⟩
abbrev Zoa:List Str:=["end","room"]
theorem zc71:Zp ["end","room","number","many","place"] Zoa (Zg ZjL):=⟨rfl,rfl,rfl,by decide +kernel,rfl,by decide +kernel,by decide +kernel⟩
abbrev Zn9:List Str:=["end"]
theorem zc72:Zp ["end","number"] Zn9 (Zg ZjK):=⟨rfl,rfl,rfl,by decide +kernel,rfl,by decide +kernel,by decide +kernel⟩
abbrev Zn8:List Str:=["end","now"]
theorem Zxw:Zp ["end","now"] Zn8 (Zg ZjJ):=⟨rfl,rfl,rfl,by decide +kernel,rfl,by decide +kernel,by decide +kernel⟩
abbrev Zn7:List Str:=["end"]
theorem Zxv:Zp ["end"] Zn7 (Zg ZjI):=⟨rfl,rfl,rfl,by decide +kernel,rfl,by decide +kernel,by decide +kernel⟩
abbrev Zn6:List Str:=["self","first"]
theorem Zxu:Zp ["self","first"] Zn6 (Zg ZjH):=⟨rfl,rfl,rfl,by decide +kernel,rfl,by decide +kernel,by decide +kernel⟩
abbrev Zm6:List Str:=["self","port"]
theorem Zun:Zp ["self","port"] Zm6 (Zg ZiD):=⟨rfl,rfl,rfl,by decide +kernel,rfl,by decide +kernel,by decide +kernel⟩
abbrev Zm5:List Str:=["self","ours","theirs"]
theorem Zum:Zp ["self","ours","theirs"] Zm5 (Zg ZiC):=⟨rfl,rfl,rfl,by decide +kernel,rfl,by decide +kernel,by decide +kernel⟩
abbrev Zn5:List Str:=["self","row","now"]
theorem zc78:Zp ["self","row","now","segment","end"] Zn5 (Zg ZjG):=⟨rfl,rfl,rfl,by decide +kernel,rfl,by decide +kernel,by decide +kernel⟩
abbrev Zn4:List Str:=["self","now"]
theorem zc79:Zp ["self","now","row","many","step","place"] Zn4 (Zg ZjF):=⟨rfl,rfl,rfl,by decide +kernel,rfl,by decide +kernel,by decide +kernel⟩
abbrev Zn3:List Str:=["host","ours","theirs"]
theorem zc80:Zp ["host","ours","theirs","end"] Zn3 (Zg ZjE):=⟨rfl,rfl,rfl,by decide +kernel,rfl,by decide +kernel,by decide +kernel⟩
abbrev Zn2:List Str:=["host","ours","theirs","active"]
theorem zc81:Zp ["host","ours","theirs","active","end"] Zn2 (Zg ZjD):=⟨rfl,rfl,rfl,by decide +kernel,rfl,by decide +kernel,by decide +kernel⟩
abbrev Zn1:List Str:=["host","segment"]
theorem zc82:Zp ["host","segment","end"] Zn1 (Zg ZjC):=⟨rfl,rfl,rfl,by decide +kernel,rfl,by decide +kernel,by decide +kernel⟩
abbrev Zn0:List Str:=["segment"]
theorem Zxt:Zp ["segment"] Zn0 (Zg ZjB):=⟨rfl,rfl,rfl,by decide +kernel,rfl,by decide +kernel,by decide +kernel⟩
abbrev ZnZ:List Str:=["_law_script","_law_k"]
theorem Zxs:Zp ["_law_script","_law_k"] ZnZ (Zg ZjA):=⟨rfl,rfl,rfl,by decide +kernel,rfl,by decide +kernel,by decide +kernel⟩
abbrev ZnY:List Str:=["_law_script","_law_k"]
theorem zc85:Zp ["_law_script","_law_k","_law_number"] ZnY (Zg Zjz):=⟨rfl,rfl,rfl,by decide +kernel,rfl,by decide +kernel,by decide +kernel⟩
abbrev ZnX:List Str:=["_law_number"]
theorem Zxr:Zp ["_law_number"] ZnX (Zg Zjy):=⟨rfl,rfl,rfl,by decide +kernel,rfl,by decide +kernel,by decide +kernel⟩
abbrev ZnW:List Str:=["_law_row"]
theorem zc87:Zp ["_law_row","_law_total","_law_k"] ZnW (Zg Zjx):=⟨rfl,rfl,rfl,by decide +kernel,rfl,by decide +kernel,by decide +kernel⟩
abbrev ZnV:List Str:=["_law_segment"]
theorem zc88:Zp ["_law_segment","_law_row","_law_number"] ZnV (Zg Zjw):=⟨rfl,rfl,rfl,by decide +kernel,rfl,by decide +kernel,by decide +kernel⟩
abbrev ZnU:List Str:=["_law_script","_law_base"]
theorem zc89:Zp ["_law_script","_law_base","_law_flags","_law_most","_law_numbers","_law_k","_law_number","_law_ports","_law_size","_law_data","_law_window"] ZnU (Zg ZiB):=⟨rfl,rfl,rfl,by decide +kernel,rfl,by decide +kernel,by decide +kernel⟩
abbrev ZnT:List Str:=["_law_host","_law_way","_law_one","_law_other"]
theorem zc90:Zp ["_law_host","_law_way","_law_one","_law_other","_law_refused_here","e"] ZnT (Zg Zjv):=⟨rfl,rfl,rfl,by decide +kernel,rfl,by decide +kernel,by decide +kernel⟩
abbrev ZnS:List Str:=["_law_script"]
theorem zc91:Zp ["_law_script","_law_some","_law_host","_law_port","_law_source","_law_listens","_law_calls","_law_goal","_law_row","_law_at","_law_wrong","_law_flags","_law_size","_law_due"] ZnS (Zg ZgR):=⟨rfl,rfl,rfl,by decide +kernel,rfl,by decide +kernel,by decide +kernel⟩
abbrev ZnR:List Str:=["self","port"]
theorem zc92:Zp ["self","port","ready"] ZnR (Zg ZiA):=⟨rfl,rfl,rfl,by decide +kernel,rfl,by decide +kernel,by decide +kernel⟩
structure Glb (K:PySem.W.Frag) (mg:Str→Option Value):Prop where
  zc0:∃t,mg "ACK"=some (.int 16 t)
  zc1:∃t,mg "ANSWER"=some (.int 3 t)
  zc2:∃t,mg "CLOSED"=some (.str "closed" t)
  zc3:∃t,mg "CLOSE_WAIT"=some (.str "close wait" t)
  zc4:∃t,mg "CLOSING"=some (.str "closing" t)
  zc5:∃t,mg "DATA"=some (.int 7 t)
  zc6:∃t,mg "FIN"=some (.int 1 t)
  zc7:∃t,mg "FIRST_WAIT"=some (.int 1000 t)
  zc8:∃t,mg "FLAGS"=some (.int 4 t)
  zc9:∃t,mg "GOAL"=some (.int 1 t)
  zc10:∃t,mg "GREATEST_DATA"=some (.int 16 t)
  zc11:∃t,mg "GREATEST_FLAGS"=some (.int 31 t)
  zc12:∃t,mg "GREATEST_WORD"=some (.int 65535 t)
  zc13:∃t,mg "HALF_ROUND"=some (.int 2147483648 t)
  zc14:∃t,mg "LAST_ACK"=some (.str "last ack" t)
  zc15:∃t,mg "LAST_WAIT"=some (.int 120000 t)
  zc16:∃t,mg "LEAST_MOST"=some (.int 4 t)
  zc17:∃t,mg "LISTEN"=some (.str "listen" t)
  zc18:∃t,mg "LONGEST_WAIT"=some (.int 16000 t)
  zc19:∃t,mg "LONG_HEAD"=some (.int 24 t)
  zc20:∃t,mg "MOST"=some (.int 6 t)
  zc21:∃t,mg "MOST_TRIES"=some (.int 6 t)
  zc22:∃t,mg "MOST_UNTOLD"=some (.int 12 t)
  zc23:∃t,mg "NO_ERROR"=some (.str "" t)
  zc24:∃t,mg "NUMBER"=some (.int 2 t)
  zc25:∃t,mg "OPEN"=some (.str "open" t)
  zc26:∃t,mg "PSH"=some (.int 8 t)
  zc27:∃t,mg "REFUSED"=some (.str "refused" t)
  zc28:∃t,mg "RESET"=some (.str "reset" t)
  zc29:∃t,mg "RIGHT_SUM"=some (.int 65535 t)
  zc30:∃t,mg "ROOM"=some (.int 64 t)
  zc31:∃t,mg "ROUND"=some (.int 4294967296 t)
  zc32:∃t,mg "RST"=some (.int 4 t)
  zc33:∃t,mg "SHORT_HEAD"=some (.int 20 t)
  zc34:∃t,mg "SOURCE"=some (.int 0 t)
  zc35:∃t,mg "STEP_OF_FIRSTS"=some (.int 64000 t)
  zc36:∃t,mg "SYN"=some (.int 2 t)
  zc37:∃t,mg "SYN_COME"=some (.str "syn come" t)
  zc38:∃t,mg "SYN_SENT"=some (.str "syn sent" t)
  zc39:∃t,mg "TIME"=some (.str "time" t)
  zc40:∃t,mg "TIME_WAIT"=some (.str "time wait" t)
  zc41:∃t,mg "WAIT_ONE"=some (.str "wait one" t)
  zc42:∃t,mg "WAIT_TWO"=some (.str "wait two" t)
  zc43:∃t,mg "WINDOW"=some (.int 5 t)
  zc44:∃t,mg "WORDS"=some (.int 65536 t)
  b_enumerate:mg "enumerate"=none
  b_int:mg "int"=none
  b_isinstance:mg "isinstance"=none
  b_len:mg "len"=none
  b_list:mg "list"=none
  b_max:mg "max"=none
  b_min:mg "min"=none
  b_range:mg "range"=none
  b_sum:mg "sum"=none
  b_tuple:mg "tuple"=none
  k_End:Cls K (zc mg "End")
  k_Host:Cls K (zc mg "Host")
  k_Pile:Cls K (zc mg "Pile")
  zn0:NoAttr K (zc mg "End") "behind"
  zn1:NoAttr K (zc mg "End") "come"
  zn2:NoAttr K (zc mg "End") "early"
  zn3:NoAttr K (zc mg "End") "early_fin"
  zn4:NoAttr K (zc mg "End") "error"
  zn5:NoAttr K (zc mg "End") "first"
  zn6:NoAttr K (zc mg "End") "has_closed"
  zn7:NoAttr K (zc mg "End") "most"
  zn8:NoAttr K (zc mg "End") "nxt"
  zn9:NoAttr K (zc mg "End") "ours"
  zn10:NoAttr K (zc mg "End") "owed_reset"
  zn11:NoAttr K (zc mg "End") "owes_answer"
  zn12:NoAttr K (zc mg "End") "owes_syn"
  zn13:NoAttr K (zc mg "End") "probes"
  zn14:NoAttr K (zc mg "End") "rcv"
  zn15:NoAttr K (zc mg "End") "since"
  zn16:NoAttr K (zc mg "End") "state"
  zn17:NoAttr K (zc mg "End") "theirs"
  zn18:NoAttr K (zc mg "End") "told"
  zn19:NoAttr K (zc mg "End") "told_by"
  zn20:NoAttr K (zc mg "End") "tries"
  zn21:NoAttr K (zc mg "End") "una"
  zn22:NoAttr K (zc mg "End") "wait"
  zn23:NoAttr K (zc mg "End") "wnd"
  zn24:NoAttr K (zc mg "End") "written"
  zn25:NoAttr K (zc mg "Host") "coming_first"
  zn26:NoAttr K (zc mg "Host") "ends"
  zn27:NoAttr K (zc mg "Host") "latest"
  zn28:NoAttr K (zc mg "Host") "owed_reset"
  zn29:NoAttr K (zc mg "Host") "turn"
  zn30:NoAttr K (zc mg "Host") "untaken"
  zn31:NoAttr K (zc mg "Pile") "row"
section
variable {P:Program} {w:World} {K:PySem.W.Frag} {mg:Str→Option Value} {base:Heap}
theorem zo0 (D:Mk0 K mg "Pile" "Pile.__init__" zs0 zP0) (g:Glb K mg) :MMk P w K mg base 1 "Pile" Zbc:=
  mk0 D zc0 1 1 rfl rfl fun f cdv A outer s H E hr=>(Zj (Zv (Zt ⟨g.k_Pile,g.zn31⟩) (Za 0) (zP Zf)))
theorem zo1 (D:Zq K mg "room" zs1 zP1) (g:Glb K mg) :Zr P w K mg base 1 "room" ZeN:=
  ZY D zc1 1 1 rfl rfl fun f cdv A outer s H E hr=>(Zj (Zw (Zu ZeE (Zl g.zc30) (Z9 Zcp g.b_len PySem.boot_len (Zb (Zm (Zt ⟨g.k_Pile,g.zn31⟩) (Za 0)) Zf)))))
theorem zo2 (D:Zq K mg "lay" zs2 zP2) (g:Glb K mg) (zd1:Zr P w K mg base 1 "room" ZeN):Zr P w K mg base 2 "lay" ZpY:=
  ZY D zc2 2 3 rfl rfl fun f cdv A outer s H E hr=>(Ze (Zz 2 zc2.nd (Zaw (Za 1) ZaP (z6 (Zh zd1 hr (by decide) (Zb (Za 0) Zf)))))
  (Ze (Zv (Zt ⟨g.k_Pile,g.zn31⟩) (Za 0) (Zu ZK (Zm (Zt ⟨g.k_Pile,g.zn31⟩) (Za 0)) (Za 2)))
  (Zj (Zw (Z9 Zcp g.b_len PySem.boot_len (Zb (Za 2) Zf))))))
theorem zo3 (D:Zq K mg "take" zs3 zP3) (g:Glb K mg) :Zr P w K mg base 1 "take" ZlQ:=
  ZY D zc3 2 4 rfl rfl fun f cdv A outer s H E hr=>(Ze (Zz 2 zc3.nd (Z9 ZvF g.b_max PyProof.Rows.boot_max (Zb (Za 1) (Zb Zi Zf))))
  (Ze (Zz 3 zc3.nd (Zaw (Zm (Zt ⟨g.k_Pile,g.zn31⟩) (Za 0)) ZaP (z6 (Za 2))))
  (Ze (Zv (Zt ⟨g.k_Pile,g.zn31⟩) (Za 0) (Zaw (Zm (Zt ⟨g.k_Pile,g.zn31⟩) (Za 0)) (z6 (Za 2)) ZaP))
  (Zj (Zw (Za 3))))))
theorem zo4 (D:Zq K mg "plus" zs4 zP4) (g:Glb K mg) :Zr P w K mg base 1 "plus" zn:=
  ZY D zc4 2 2 rfl rfl fun f cdv A outer s H E hr=>(Zj (Zw (Zu zj (Zu ZK (Za 0) (Za 1)) (Zl g.zc31))))
theorem zo5 (D:Zq K mg "offset" zs5 zP5) (g:Glb K mg) :Zr P w K mg base 1 "offset" zo:=
  ZY D zc5 2 2 rfl rfl fun f cdv A outer s H E hr=>(Zj (Zw (Zu ZeE (Zu zj (Zu ZK (Zu ZeE (Za 0) (Za 1)) (Zl g.zc13)) (Zl g.zc31)) (Zl g.zc13))))
theorem zo6 (D:Zq K mg "past" zs6 zP6) (g:Glb K mg) (zd5:Zr P w K mg base 1 "offset" zo):Zr P w K mg base 2 "past" Zci:=
  ZY D zc6 2 2 rfl rfl fun f cdv A outer s H E hr=>(Zj (Zw (zl ZhU (Zh zd5 hr (by decide) (Zb (Za 0) (Zb (Za 1) Zf))) Zi)))
theorem zo7 (D:Mk0 K mg "End" "End.__init__" zs7 zP7) (g:Glb K mg) (zd0:MMk P w K mg base 1 "Pile" Zbc) (zd4:Zr P w K mg base 1 "plus" zn):MMk P w K mg base 3 "End" Zbw:=
  mk0 D zc7 5 5 rfl rfl fun f cdv A outer s H E hr=>(Ze (Zv (Zt ⟨g.k_End,g.zn9⟩) (Za 0) (Za 1))
  (Ze (Zv (Zt ⟨g.k_End,g.zn17⟩) (Za 0) (Za 2))
  (Ze (Zv (Zt ⟨g.k_End,g.zn16⟩) (Za 0) (Zbz (ZB (Za 4)) (ZD g.zc38) (ZD g.zc17)))
  (Ze (Zv (Zt ⟨g.k_End,g.zn4⟩) (Za 0) (ZD g.zc23))
  (Ze (Zv (Zt ⟨g.k_End,g.zn5⟩) (Za 0) (Za 3))
  (Ze (Zv (Zt ⟨g.k_End,g.zn21⟩) (Za 0) (Za 3))
  (Ze (Zv (Zt ⟨g.k_End,g.zn8⟩) (Za 0) (Za 3))
  (Ze (Zv (Zt ⟨g.k_End,g.zn14⟩) (Za 0) Zi)
  (Ze (Zv (Zt ⟨g.k_End,g.zn23⟩) (Za 0) Zi)
  (Ze (Zv (Zt ⟨g.k_End,g.zn18⟩) (Za 0) Zi)
  (Ze (Zv (Zt ⟨g.k_End,g.zn19⟩) (Za 0) Zi)
  (Ze (Zv (Zt ⟨g.k_End,g.zn7⟩) (Za 0) (Zl g.zc22))
  (Ze (Zv (Zt ⟨g.k_End,g.zn24⟩) (Za 0) (Zlc zd0 hr (by decide)))
  (Ze (Zv (Zt ⟨g.k_End,g.zn1⟩) (Za 0) (Zlc zd0 hr (by decide)))
  (Ze (Zv (Zt ⟨g.k_End,g.zn2⟩) (Za 0) Zld)
  (Ze (Zv (Zt ⟨g.k_End,g.zn3⟩) (Za 0) zO)
  (Ze (Zv (Zt ⟨g.k_End,g.zn6⟩) (Za 0) zw)
  (Ze (Zv (Zt ⟨g.k_End,g.zn0⟩) (Za 0) (Zh zd4 hr (by decide) (Zb (Za 3) (Zb Zi Zf))))
  (Ze (Zv (Zt ⟨g.k_End,g.zn10⟩) (Za 0) zO)
  (Ze (Zv (Zt ⟨g.k_End,g.zn12⟩) (Za 0) zw)
  (Ze (Zv (Zt ⟨g.k_End,g.zn11⟩) (Za 0) zw)
  (Ze (Zv (Zt ⟨g.k_End,g.zn13⟩) (Za 0) zw)
  (Ze (Zv (Zt ⟨g.k_End,g.zn15⟩) (Za 0) Zi)
  (Ze (Zv (Zt ⟨g.k_End,g.zn22⟩) (Za 0) (Zl g.zc7))
  (Zj (Zv (Zt ⟨g.k_End,g.zn20⟩) (Za 0) Zi))))))))))))))))))))))))))
theorem zo8 (D:Zq K mg "start_timer" zs8 zP8) (g:Glb K mg) :Zr P w K mg base 1 "start_timer" Z2:=
  ZY D zc8 2 2 rfl rfl fun f cdv A outer s H E hr=>(Ze (Zv (Zt ⟨g.k_End,g.zn15⟩) (Za 0) (Za 1))
  (Ze (Zv (Zt ⟨g.k_End,g.zn22⟩) (Za 0) (Zl g.zc7))
  (Zj (Zv (Zt ⟨g.k_End,g.zn20⟩) (Za 0) Zi))))
theorem zo9 (D:Zq K mg "our_window" zs9 zP9) (g:Glb K mg) (zd1:Zr P w K mg base 1 "room" ZeN):Zr P w K mg base 2 "our_window" Zap:=
  ZY D zc9 1 1 rfl rfl fun f cdv A outer s H E hr=>(Zj (Zw (Zh zd1 hr (by decide) (Zb (Zm (Zt ⟨g.k_End,g.zn1⟩) (Za 0)) Zf))))
theorem Zxq (D:Zq K mg "has_sent_fin" ZkK Zo9) (g:Glb K mg) (zd6:Zr P w K mg base 2 "past" Zci):Zr P w K mg base 3 "has_sent_fin" Zck:=
  ZY D zc10 1 1 rfl rfl fun f cdv A outer s H E hr=>(Zj (Zw (Zh zd6 hr (by decide) (Zb (Zm (Zt ⟨g.k_End,g.zn8⟩) (Za 0)) (Zb (Zm (Zt ⟨g.k_End,g.zn0⟩) (Za 0)) Zf)))))
theorem Zxp (D:Zq K mg "folded" ZkJ Zo8) (g:Glb K mg) :Zr P w K mg base 1 "folded" Zcl:=
  ZY D zc11 1 2 rfl rfl fun f cdv A outer s H E hr=>(Ze (Zz 1 zc11.nd (Zu ZK (Zu ZdV Zi (Z9 ZsE g.b_sum PyProof.Rows.boot_sum (Zb (Zih (Za 0) ZaP ZaP (z6 Zi)) Zf))) (Z9 ZsE g.b_sum PyProof.Rows.boot_sum (Zb (Zih (Za 0) (z6 Zi) ZaP (z6 Zi)) Zf))))
  (Ze (Zhb 200 PassesOwn.never (ZA ZhU (Za 1) (Zl g.zc12)) (Zj (Zz 1 zc11.nd (Zu ZK (Zu zj (Za 1) (Zl g.zc44)) (Zu Zb0 (Za 1) (Zl g.zc44))))))
  (Zj (Zw (Za 1)))))
theorem Zxo (D:Zq K mg "sum_of" ZkI Zo7) (g:Glb K mg) (zd11:Zr P w K mg base 1 "folded" Zcl):Zr P w K mg base 2 "sum_of" ZdO:=
  ZY D zc12 1 1 rfl rfl fun f cdv A outer s H E hr=>(Zj (Zw (Zu ZeE (Zl g.zc12) (Zh zd11 hr (by decide) (Zb (Za 0) Zf)))))
theorem Zxm (D:Zq K mg "has" ZkG Zo5) (g:Glb K mg) :Zr P w K mg base 1 "has" ZeD:=
  ZY D zc14 2 2 rfl rfl fun f cdv A outer s H E hr=>(Zj (Zw (Zbz (ZA (Zfa hr.units) (Zu Zvf (Za 0) (Za 1)) Zi) Zi Zi)))
theorem Zxn (D:Zq K mg "length" ZkH Zo6) (g:Glb K mg) (zd14:Zr P w K mg base 1 "has" ZeD):Zr P w K mg base 2 "length" ZbP:=
  ZY D zc13 1 2 rfl rfl fun f cdv A outer s H E hr=>(Ze (Zz 1 zc13.nd (ZH ZI (Za 0) (Zl g.zc8)))
  (Zj (Zw (Zu ZK (Zu ZK (Z9 Zcp g.b_len PySem.boot_len (Zb (ZH ZI (Za 0) (Zl g.zc5)) Zf)) (Zh zd14 hr (by decide) (Zb (Za 1) (Zb (Zl g.zc36) Zf)))) (Zh zd14 hr (by decide) (Zb (Za 1) (Zb (Zl g.zc6) Zf)))))))
theorem Zxl (D:Zq K mg "bears" ZkF Zo4) (g:Glb K mg) (zd14:Zr P w K mg base 1 "has" ZeD):Zr P w K mg base 2 "bears" ZX:=
  ZY D zc15 2 2 rfl rfl fun f cdv A outer s H E hr=>(Zj (Zw (zl (zu hr.units) (Zh zd14 hr (by decide) (Zb (ZH ZI (Za 0) (Zl g.zc8)) (Zb (Za 1) Zf))) Zi)))
theorem Zxi (D:Zq K mg "byte_of_head" ZkC Zo1) (g:Glb K mg) :Zr P w K mg base 1 "byte_of_head" zG:=
  ZY D zc18 1 1 rfl rfl fun f cdv A outer s H E hr=>(Zj (Zw (Zu ZdV Zi (Zu Zb0 (Za 0) Zi))))
theorem Zxg (D:Zq K mg "two_bytes" ZkA ZoZ) (g:Glb K mg) :Zr P w K mg base 1 "two_bytes" zb:=
  ZY D zc20 1 1 rfl rfl fun f cdv A outer s H E hr=>(Zj (Zw (zP (Zb (Zu zj (Zu Zb0 (Za 0) Zi) Zi) (Zb (Zu zj (Za 0) Zi) Zf)))))
theorem Zxf (D:Zq K mg "four_bytes" Zkz ZoY) (g:Glb K mg) (zd20:Zr P w K mg base 1 "two_bytes" zb):Zr P w K mg base 2 "four_bytes" ZaN:=
  ZY D zc21 1 1 rfl rfl fun f cdv A outer s H E hr=>(Zj (Zw (Zu ZK (Zh zd20 hr (by decide) (Zb (Zu Zb0 (Za 0) Zi) Zf)) (Zh zd20 hr (by decide) (Zb (Za 0) Zf)))))
theorem Zxj (D:Zq K mg "bytes_ahead_of_sum" ZkD Zo2) (g:Glb K mg) (zd18:Zr P w K mg base 1 "byte_of_head" zG) (zd21:Zr P w K mg base 2 "four_bytes" ZaN) (zd20:Zr P w K mg base 1 "two_bytes" zb):Zr P w K mg base 3 "bytes_ahead_of_sum" zF:=
  ZY D zc17 1 4 rfl rfl fun f cdv A outer s H E hr=>(Ze (Zz 1 zc17.nd (Zu ZK (Zh zd20 hr (by decide) (Zb (ZH ZI (Za 0) (Zl g.zc34)) Zf)) (Zh zd20 hr (by decide) (Zb (ZH ZI (Za 0) (Zl g.zc9)) Zf))))
  (Ze (Zz 2 zc17.nd (Zu ZK (Zh zd21 hr (by decide) (Zb (ZH ZI (Za 0) (Zl g.zc24)) Zf)) (Zh zd21 hr (by decide) (Zb (ZH ZI (Za 0) (Zl g.zc1)) Zf))))
  (Ze (Zz 3 zc17.nd (Zbz (ZA (zu hr.units) (ZH ZI (Za 0) (Zl g.zc20)) Zi) (Zl g.zc33) (Zl g.zc19)))
  (Zj (Zw (Zu ZK (Zu ZK (Zu ZK (Za 1) (Za 2)) (zP (Zb (Zh zd18 hr (by decide) (Zb (Za 3) Zf)) (Zb (ZH ZI (Za 0) (Zl g.zc8)) Zf)))) (Zh zd20 hr (by decide) (Zb (ZH ZI (Za 0) (Zl g.zc43)) Zf))))))))
theorem Zxh (D:Zq K mg "bytes_of_most" ZkB Zo0) (g:Glb K mg) (zd20:Zr P w K mg base 1 "two_bytes" zb):Zr P w K mg base 2 "bytes_of_most" Zav:=
  ZY D zc19 1 1 rfl rfl fun f cdv A outer s H E hr=>(Zj (Zw (Zbz (ZA (zu hr.units) (Za 0) Zi) (zP Zf) (Zu ZK (zP (Zb Zi (Zb Zi Zf))) (Zh zd20 hr (by decide) (Zb (Za 0) Zf))))))
theorem Zxk (D:Zq K mg "put" ZkE Zo3) (g:Glb K mg) (zd17:Zr P w K mg base 3 "bytes_ahead_of_sum" zF) (zd19:Zr P w K mg base 2 "bytes_of_most" Zav) (zd12:Zr P w K mg base 2 "sum_of" ZdO) (zd20:Zr P w K mg base 1 "two_bytes" zb):Zr P w K mg base 4 "put" Zg6:=
  ZY D zc16 1 3 rfl rfl fun f cdv A outer s H E hr=>(Ze (Zz 1 zc16.nd (Zh zd17 hr (by decide) (Zb (Za 0) Zf)))
  (Ze (Zz 2 zc16.nd (Zu ZK (Zu ZK (zP (Zb Zi (Zb Zi Zf))) (Zh zd19 hr (by decide) (Zb (ZH ZI (Za 0) (Zl g.zc20)) Zf))) (Zca ZqL g.b_list PyProof.Rows.boot_list (Zb (ZH ZI (Za 0) (Zl g.zc5)) Zf))))
  (Zj (Zw (Zu ZK (Zu ZK (Za 1) (Zh zd20 hr (by decide) (Zb (Zh zd12 hr (by decide) (Zb (Zu ZK (Zu ZK (Za 1) (zP (Zb Zi (Zb Zi Zf)))) (Za 2)) Zf)) Zf))) (Za 2))))))
theorem Zxd (D:Zq K mg "head_of" Zkx ZoW) (g:Glb K mg) :Zr P w K mg base 1 "head_of" ZaM:=
  ZY D zc23 1 1 rfl rfl fun f cdv A outer s H E hr=>(Zj (Zw (Zu ZdV (Zu Zb0 (ZH ZI (Za 0) Zi) Zi) Zi)))
theorem Zxa (D:Zq K mg "two_at" Zku ZoT) (g:Glb K mg) :Zr P w K mg base 1 "two_at" zR:=
  ZY D zc26 2 2 rfl rfl fun f cdv A outer s H E hr=>(Zj (Zw (Zu ZK (Zu ZdV Zi (ZH ZI (Za 0) (Za 1))) (ZH ZI (Za 0) (Zu ZK (Za 1) Zi)))))
theorem Zxc (D:Zq K mg "is_right_long_head" Zkw ZoV) (g:Glb K mg) (zd14:Zr P w K mg base 1 "has" ZeD) (zd26:Zr P w K mg base 1 "two_at" zR):Zr P w K mg base 2 "is_right_long_head" zD:=
  ZY D zc24 1 1 rfl rfl fun f cdv A outer s H E hr=>(Zj (Zw (ZaW (zl (zu hr.units) (Zh zd14 hr (by decide) (Zb (ZH ZI (Za 0) Zi) (Zb (Zl g.zc36) Zf))) Zi) (ZaW (zl (zu hr.units) (ZH ZI (Za 0) Zi) Zi) (ZaW (zl (zu hr.units) (ZH ZI (Za 0) Zi) Zi) (Zby (zl ZrA (Zh zd26 hr (by decide) (Zb (Za 0) (Zb Zi Zf))) (Zl g.zc16))))))))
theorem Zxe (D:Zq K mg "is_right" Zky ZoX) (g:Glb K mg) (zd18:Zr P w K mg base 1 "byte_of_head" zG) (zd11:Zr P w K mg base 1 "folded" Zcl) (zd23:Zr P w K mg base 1 "head_of" ZaM) (zd24:Zr P w K mg base 2 "is_right_long_head" zD) (zd26:Zr P w K mg base 1 "two_at" zR):Zr P w K mg base 3 "is_right" zy:=
  ZY D zc22 1 1 rfl rfl fun f cdv A outer s H E hr=>(Zj (Zw (ZaW (zl ZrA (Z9 Zcp g.b_len PySem.boot_len (Zb (Za 0) Zf)) (Zl g.zc33)) (ZaW (zl ZlU (ZH ZI (Za 0) Zi) (Z5 (Zb (Zh zd18 hr (by decide) (Zb (Zl g.zc33) Zf)) (Zb (Zh zd18 hr (by decide) (Zb (Zl g.zc19) Zf)) Zf))) (by with_unfolding_all rfl)) (ZaW (zl ZlT (ZH ZI (Za 0) Zi) (Zl g.zc11)) (ZaW (Zhe ZlT ZlT Zi (Zu ZeE (Z9 Zcp g.b_len PySem.boot_len (Zb (Za 0) Zf)) (Zh zd23 hr (by decide) (Zb (Za 0) Zf))) (Zl g.zc10)) (ZaW (zl (zu hr.units) (Zh zd26 hr (by decide) (Zb (Za 0) (Zb Zi Zf))) Zi) (ZaW (Zlb (zl (zu hr.units) (Zh zd23 hr (by decide) (Zb (Za 0) Zf)) (Zl g.zc33)) (Zby (Zh zd24 hr (by decide) (Zb (Za 0) Zf)))) (Zby (zl (zu hr.units) (Zh zd11 hr (by decide) (Zb (Za 0) Zf)) (Zl g.zc29)))))))))))
theorem Zw9 (D:Zq K mg "four_at" Zkt ZoS) (g:Glb K mg) (zd26:Zr P w K mg base 1 "two_at" zR):Zr P w K mg base 2 "four_at" Zb9:=
  ZY D zc27 2 2 rfl rfl fun f cdv A outer s H E hr=>(Zj (Zw (Zu ZK (Zu ZdV Zi (Zh zd26 hr (by decide) (Zb (Za 0) (Zb (Za 1) Zf)))) (Zh zd26 hr (by decide) (Zb (Za 0) (Zb (Zu ZK (Za 1) Zi) Zf))))))
theorem Zxb (D:Zq K mg "get" Zkv ZoU) (g:Glb K mg) (zd27:Zr P w K mg base 2 "four_at" Zb9) (zd23:Zr P w K mg base 1 "head_of" ZaM) (zd22:Zr P w K mg base 3 "is_right" zy) (zd26:Zr P w K mg base 1 "two_at" zR):Zr P w K mg base 4 "get" Zgh:=
  ZY D zc25 1 5 rfl rfl fun f cdv A outer s H E hr=>(Ze (ZG (ZaA (ZB (Zh zd22 hr (by decide) (Zb (Za 0) Zf)))) (Zj Zhc) Zy)
  (Ze (Zz 1 zc25.nd (Zh zd23 hr (by decide) (Zb (Za 0) Zf)))
  (Ze (Zz 2 zc25.nd (Zbz (ZA (zu hr.units) (Za 1) (Zl g.zc19)) (Zh zd26 hr (by decide) (Zb (Za 0) (Zb Zi Zf))) Zi))
  (Ze (Zz 3 zc25.nd (Z5 (Zb (Zh zd26 hr (by decide) (Zb (Za 0) (Zb Zi Zf))) (Zb (Zh zd26 hr (by decide) (Zb (Za 0) (Zb Zi Zf))) Zf))))
  (Ze (Zz 4 zc25.nd (Z5 (Zb (Zh zd27 hr (by decide) (Zb (Za 0) (Zb Zi Zf))) (Zb (Zh zd27 hr (by decide) (Zb (Za 0) (Zb Zi Zf))) Zf))))
  (Zj (Zw (Zu ZK (Zu ZK (Za 3) (Za 4)) (Z5 (Zb (ZH ZI (Za 0) Zi) (Zb (Zh zd26 hr (by decide) (Zb (Za 0) (Zb Zi Zf))) (Zb (Za 2) (Zb (Zca Zjl g.b_tuple PyProof.Rows.boot_tuple (Zb (Zaw (Za 0) (z6 (Za 1)) ZaP) Zf)) Zf)))))))))))))
theorem Zw8 (D:Zq K mg "reset_for" Zks ZoR) (g:Glb K mg) (zd15:Zr P w K mg base 2 "bears" ZX) (zd13:Zr P w K mg base 2 "length" ZbP) (zd4:Zr P w K mg base 1 "plus" zn):Zr P w K mg base 3 "reset_for" Zam:=
  ZY D zc28 1 2 rfl rfl fun f cdv A outer s H E hr=>(Ze (Zz 1 zc28.nd (Z5 (Zb (ZH ZI (Za 0) (Zl g.zc9)) (Zb (ZH ZI (Za 0) (Zl g.zc34)) Zf))))
  (Ze (ZG (ZB (Zh zd15 hr (by decide) (Zb (Za 0) (Zb (Zl g.zc0) Zf)))) (Zj (Zw (Zu ZK (Za 1) (Z5 (Zb (ZH ZI (Za 0) (Zl g.zc1)) (Zb Zi (Zb (Zl g.zc32) (Zb Zi (Zb Zi (Zb (Z5 Zf) Zf)))))))))) Zy)
  (Zj (Zw (Zu ZK (Za 1) (Z5 (Zb Zi (Zb (Zh zd4 hr (by decide) (Zb (ZH ZI (Za 0) (Zl g.zc24)) (Zb (Zh zd13 hr (by decide) (Zb (Za 0) Zf)) Zf))) (Zb (Zu ZK (Zl g.zc32) (Zl g.zc0)) (Zb Zi (Zb Zi (Zb (Z5 Zf) Zf))))))))))))
theorem Zw7 (D:Zq K mg "owe_reset_for" Zkr ZoQ) (g:Glb K mg) (zd15:Zr P w K mg base 2 "bears" ZX) (zd28:Zr P w K mg base 3 "reset_for" Zam):Zr P w K mg base 4 "owe_reset_for" ZZ:=
  ZY D zc29 2 2 rfl rfl fun f cdv A outer s H E hr=>(Zj (ZG (ZaA (ZB (Zh zd15 hr (by decide) (Zb (Za 1) (Zb (Zl g.zc32) Zf))))) (Zj (Zv (Zt ⟨g.k_End,g.zn10⟩) (Za 0) (Zh zd28 hr (by decide) (Zb (Za 1) Zf)))) Zy))
theorem Zw6 (D:Zq K mg "come_to_closed" Zkq ZoP) (g:Glb K mg) (zd29:Zr P w K mg base 4 "owe_reset_for" ZZ):Zr P w K mg base 5 "come_to_closed" Zbv:=
  ZY D zc30 2 2 rfl rfl fun f cdv A outer s H E hr=>(Zj (ZW (Zh zd29 hr (by decide) (Zb (Za 0) (Zb (Za 1) Zf)))))
theorem Zw4 (D:Zq K mg "hear_syn" Zko ZoN) (g:Glb K mg) (zd15:Zr P w K mg base 2 "bears" ZX) (zd4:Zr P w K mg base 1 "plus" zn):Zr P w K mg base 3 "hear_syn" Za4:=
  ZY D zc32 2 2 rfl rfl fun f cdv A outer s H E hr=>(Ze (Zv (Zt ⟨g.k_End,g.zn14⟩) (Za 0) (Zh zd4 hr (by decide) (Zb (ZH ZI (Za 1) (Zl g.zc24)) (Zb Zi Zf))))
  (Ze (Zv (Zt ⟨g.k_End,g.zn23⟩) (Za 0) (ZH ZI (Za 1) (Zl g.zc43)))
  (Ze (Zv (Zt ⟨g.k_End,g.zn18⟩) (Za 0) (ZH ZI (Za 1) (Zl g.zc24)))
  (Ze (Zv (Zt ⟨g.k_End,g.zn19⟩) (Za 0) (Zbz (ZB (Zh zd15 hr (by decide) (Zb (Za 1) (Zb (Zl g.zc0) Zf)))) (ZH ZI (Za 1) (Zl g.zc1)) Zi))
  (Zj (ZG (ZA (Zfa hr.units) (ZH ZI (Za 1) (Zl g.zc20)) Zi) (Zj (Zv (Zt ⟨g.k_End,g.zn7⟩) (Za 0) (ZH ZI (Za 1) (Zl g.zc20)))) Zy))))))
theorem Zw5 (D:Zq K mg "come_to_listen" Zkp ZoO) (g:Glb K mg) (zd15:Zr P w K mg base 2 "bears" ZX) (zd32:Zr P w K mg base 3 "hear_syn" Za4) (zd29:Zr P w K mg base 4 "owe_reset_for" ZZ):Zr P w K mg base 5 "come_to_listen" zi:=
  ZY D zc31 2 2 rfl rfl fun f cdv A outer s H E hr=>(Ze (ZG (ZB (Zh zd15 hr (by decide) (Zb (Za 1) (Zb (Zl g.zc32) Zf)))) (Zj Zdm) Zy)
  (Zj (ZG (ZB (Zh zd15 hr (by decide) (Zb (Za 1) (Zb (Zl g.zc0) Zf)))) (Zj (ZW (Zh zd29 hr (by decide) (Zb (Za 0) (Zb (Za 1) Zf))))) (Zj (ZG (ZB (Zh zd15 hr (by decide) (Zb (Za 1) (Zb (Zl g.zc36) Zf)))) (Ze (Zv (Zt ⟨g.k_End,g.zn17⟩) (Za 0) (ZH ZI (Za 1) (Zl g.zc34)))
      (Ze (ZW (Zh zd32 hr (by decide) (Zb (Za 0) (Zb (Za 1) Zf))))
      (Zj (Zv (Zt ⟨g.k_End,g.zn16⟩) (Za 0) (ZD g.zc37))))) Zy)))))
theorem Zw2 (D:Zq K mg "answers_syn" Zkm ZoL) (g:Glb K mg) (zd4:Zr P w K mg base 1 "plus" zn):Zr P w K mg base 2 "answers_syn" ZcK:=
  ZY D zc34 2 2 rfl rfl fun f cdv A outer s H E hr=>(Zj (Zw (ZaW (zl (Zfa hr.units) (Zm (Zt ⟨g.k_End,g.zn8⟩) (Za 0)) (Zm (Zt ⟨g.k_End,g.zn5⟩) (Za 0))) (Zby (zl (zu hr.units) (ZH ZI (Za 1) (Zl g.zc1)) (Zh zd4 hr (by decide) (Zb (Zm (Zt ⟨g.k_End,g.zn5⟩) (Za 0)) (Zb Zi Zf))))))))
theorem Zw0 (D:Zq K mg "go_on_from_syn_sent" Zkk ZoJ) (g:Glb K mg) (zd15:Zr P w K mg base 2 "bears" ZX) (zd8:Zr P w K mg base 1 "start_timer" Z2):Zr P w K mg base 3 "go_on_from_syn_sent" Zaz:=
  ZY D zc36 3 3 rfl rfl fun f cdv A outer s H E hr=>(Zj (ZG (ZB (Zh zd15 hr (by decide) (Zb (Za 1) (Zb (Zl g.zc0) Zf)))) (Ze (Zv (Zt ⟨g.k_End,g.zn21⟩) (Za 0) (ZH ZI (Za 1) (Zl g.zc1)))
    (Ze (Zv (Zt ⟨g.k_End,g.zn16⟩) (Za 0) (ZD g.zc25))
    (Zj (Zv (Zt ⟨g.k_End,g.zn11⟩) (Za 0) zw)))) (Ze (Zv (Zt ⟨g.k_End,g.zn16⟩) (Za 0) (ZD g.zc37))
    (Ze (ZW (Zh zd8 hr (by decide) (Zb (Za 0) (Zb (Za 2) Zf))))
    (Zj (Zv (Zt ⟨g.k_End,g.zn12⟩) (Za 0) zw))))))
theorem Zw1 (D:Zq K mg "refuse" Zkl ZoK) (g:Glb K mg) (zd15:Zr P w K mg base 2 "bears" ZX):Zr P w K mg base 3 "refuse" Zg5:=
  ZY D zc35 2 2 rfl rfl fun f cdv A outer s H E hr=>(Zj (ZG (ZB (Zh zd15 hr (by decide) (Zb (Za 1) (Zb (Zl g.zc0) Zf)))) (Ze (Zv (Zt ⟨g.k_End,g.zn16⟩) (Za 0) (ZD g.zc2))
    (Zj (Zv (Zt ⟨g.k_End,g.zn4⟩) (Za 0) (ZD g.zc27)))) Zy))
theorem Zw3 (D:Zq K mg "come_to_syn_sent" Zkn ZoM) (g:Glb K mg) (zd34:Zr P w K mg base 2 "answers_syn" ZcK) (zd15:Zr P w K mg base 2 "bears" ZX) (zd36:Zr P w K mg base 3 "go_on_from_syn_sent" Zaz) (zd32:Zr P w K mg base 3 "hear_syn" Za4) (zd29:Zr P w K mg base 4 "owe_reset_for" ZZ) (zd35:Zr P w K mg base 3 "refuse" Zg5):Zr P w K mg base 5 "come_to_syn_sent" Za7:=
  ZY D zc33 3 3 rfl rfl fun f cdv A outer s H E hr=>(Zj (ZG (MW.mt (ZbX (ZB (Zh zd15 hr (by decide) (Zb (Za 1) (Zb (Zl g.zc0) Zf)))) (Zad (ZaA (ZB (Zh zd34 hr (by decide) (Zb (Za 0) (Zb (Za 1) Zf)))))))) (Zj (ZW (Zh zd29 hr (by decide) (Zb (Za 0) (Zb (Za 1) Zf))))) (Zj (ZG (ZB (Zh zd15 hr (by decide) (Zb (Za 1) (Zb (Zl g.zc32) Zf)))) (Zj (ZW (Zh zd35 hr (by decide) (Zb (Za 0) (Zb (Za 1) Zf))))) (Zj (ZG (ZB (Zh zd15 hr (by decide) (Zb (Za 1) (Zb (Zl g.zc36) Zf)))) (Ze (ZW (Zh zd32 hr (by decide) (Zb (Za 0) (Zb (Za 1) Zf))))
        (Zj (ZW (Zh zd36 hr (by decide) (Zb (Za 0) (Zb (Za 1) (Zb (Za 2) Zf))))))) Zy))))))
theorem ZwV (D:Zq K mg "is_in_window" Zkf ZoE) (g:Glb K mg) (zd5:Zr P w K mg base 1 "offset" zo) (zd9:Zr P w K mg base 2 "our_window" Zap):Zr P w K mg base 3 "is_in_window" zE:=
  ZY D zc41 2 2 rfl rfl fun f cdv A outer s H E hr=>(Zj (Zw (Zhe ZlT Zyt Zi (Zh zd5 hr (by decide) (Zb (Za 1) (Zb (Zm (Zt ⟨g.k_End,g.zn14⟩) (Za 0)) Zf))) (Zh zd9 hr (by decide) (Zb (Za 0) Zf)))))
theorem ZwW (D:Zq K mg "fits" Zkg ZoF) (g:Glb K mg) (zd41:Zr P w K mg base 3 "is_in_window" zE) (zd13:Zr P w K mg base 2 "length" ZbP) (zd5:Zr P w K mg base 1 "offset" zo) (zd4:Zr P w K mg base 1 "plus" zn):Zr P w K mg base 4 "fits" ZlR:=
  ZY D zc40 2 4 rfl rfl fun f cdv A outer s H E hr=>(Ze (Zz 2 zc40.nd (Zh zd13 hr (by decide) (Zb (Za 1) Zf)))
  (Ze (ZG (ZA (zu hr.units) (Za 2) Zi) (Zj (Zw (Zhe ZlT ZlT Zi (Zh zd5 hr (by decide) (Zb (ZH ZI (Za 1) (Zl g.zc24)) (Zb (Zm (Zt ⟨g.k_End,g.zn14⟩) (Za 0)) Zf))) (Zl g.zc30)))) Zy)
  (Ze (Zz 3 zc40.nd (Zh zd4 hr (by decide) (Zb (ZH ZI (Za 1) (Zl g.zc24)) (Zb (Zu ZeE (Za 2) Zi) Zf))))
  (Zj (Zw (Zlb (Zh zd41 hr (by decide) (Zb (Za 0) (Zb (ZH ZI (Za 1) (Zl g.zc24)) Zf))) (Zby (Zh zd41 hr (by decide) (Zb (Za 0) (Zb (Za 3) Zf))))))))))
theorem ZwN (D:Zq K mg "end_what_is_acknowledged" Zj7 Zow) (g:Glb K mg) (zd10:Zr P w K mg base 3 "has_sent_fin" Zck):Zr P w K mg base 4 "end_what_is_acknowledged" zU:=
  ZY D ZxK 2 2 rfl rfl fun f cdv A outer s H E hr=>(Ze (ZG (MW.mt (ZcY (ZaA (ZB (Zh zd10 hr (by decide) (Zb (Za 0) Zf)))) (Zah (ZA (Zfa hr.units) (Zm (Zt ⟨g.k_End,g.zn21⟩) (Za 0)) (Zm (Zt ⟨g.k_End,g.zn8⟩) (Za 0)))))) (Zj Zdm) Zy)
  (Zj (ZG (ZA (zu hr.units) (Zm (Zt ⟨g.k_End,g.zn16⟩) (Za 0)) (ZD g.zc41)) (Zj (Zv (Zt ⟨g.k_End,g.zn16⟩) (Za 0) (ZD g.zc42))) (Zj (ZG (ZA (zu hr.units) (Zm (Zt ⟨g.k_End,g.zn16⟩) (Za 0)) (ZD g.zc4)) (Ze (Zv (Zt ⟨g.k_End,g.zn16⟩) (Za 0) (ZD g.zc40))
      (Zj (Zv (Zt ⟨g.k_End,g.zn15⟩) (Za 0) (Za 1)))) (Zj (ZG (ZA (zu hr.units) (Zm (Zt ⟨g.k_End,g.zn16⟩) (Za 0)) (ZD g.zc14)) (Zj (Zv (Zt ⟨g.k_End,g.zn16⟩) (Za 0) (ZD g.zc2))) Zy)))))))
theorem ZwQ (D:Zq K mg "take_window" Zka Zoz) (g:Glb K mg) :Zr P w K mg base 1 "take_window" Za0:=
  ZY D ZxM 2 2 rfl rfl fun f cdv A outer s H E hr=>(Ze (Zv (Zt ⟨g.k_End,g.zn23⟩) (Za 0) (ZH ZI (Za 1) (Zl g.zc43)))
  (Ze (Zv (Zt ⟨g.k_End,g.zn18⟩) (Za 0) (ZH ZI (Za 1) (Zl g.zc24)))
  (Zj (Zv (Zt ⟨g.k_End,g.zn19⟩) (Za 0) (ZH ZI (Za 1) (Zl g.zc1))))))
theorem ZwR (D:Zq K mg "has_answered_syn" Zkb ZoA) (g:Glb K mg) (zd29:Zr P w K mg base 4 "owe_reset_for" ZZ) (zd46:Zr P w K mg base 1 "take_window" Za0):Zr P w K mg base 5 "has_answered_syn" Za6:=
  ZY D ZxN 2 2 rfl rfl fun f cdv A outer s H E hr=>(Ze (ZG (MW.mt (ZcY (ZA (zu hr.units) (Zm (Zt ⟨g.k_End,g.zn8⟩) (Za 0)) (Zm (Zt ⟨g.k_End,g.zn5⟩) (Za 0))) (Zah (ZA (Zfa hr.units) (ZH ZI (Za 1) (Zl g.zc1)) (Zm (Zt ⟨g.k_End,g.zn8⟩) (Za 0)))))) (Ze (ZW (Zh zd29 hr (by decide) (Zb (Za 0) (Zb (Za 1) Zf))))
    (Zj (Zw zw))) Zy)
  (Ze (Zv (Zt ⟨g.k_End,g.zn21⟩) (Za 0) (ZH ZI (Za 1) (Zl g.zc1)))
  (Ze (Zv (Zt ⟨g.k_End,g.zn16⟩) (Za 0) (Zbz (ZB (Zm (Zt ⟨g.k_End,g.zn6⟩) (Za 0))) (ZD g.zc41) (ZD g.zc25)))
  (Ze (ZW (Zh zd46 hr (by decide) (Zb (Za 0) (Zb (Za 1) Zf))))
  (Zj (Zw zw))))))
theorem ZwO (D:Zq K mg "is_newer" Zj8 Zox) (g:Glb K mg) (zd6:Zr P w K mg base 2 "past" Zci):Zr P w K mg base 3 "is_newer" ZeP:=
  ZY D ZxL 2 2 rfl rfl fun f cdv A outer s H E hr=>(Ze (ZG (ZA (zu hr.units) (ZH ZI (Za 1) (Zl g.zc24)) (Zm (Zt ⟨g.k_End,g.zn18⟩) (Za 0))) (Zj (Zw (ZlY (Zh zd6 hr (by decide) (Zb (Zm (Zt ⟨g.k_End,g.zn19⟩) (Za 0)) (Zb (ZH ZI (Za 1) (Zl g.zc1)) Zf)))))) Zy)
  (Zj (Zw (Zh zd6 hr (by decide) (Zb (ZH ZI (Za 1) (Zl g.zc24)) (Zb (Zm (Zt ⟨g.k_End,g.zn18⟩) (Za 0)) Zf))))))
theorem ZwP (D:Zq K mg "hear_answer" Zj9 Zoy) (g:Glb K mg) (zd48:Zr P w K mg base 3 "is_newer" ZeP) (zd5:Zr P w K mg base 1 "offset" zo) (zd6:Zr P w K mg base 2 "past" Zci) (zd8:Zr P w K mg base 1 "start_timer" Z2) (zd3:Zr P w K mg base 1 "take" ZlQ) (zd46:Zr P w K mg base 1 "take_window" Za0):Zr P w K mg base 4 "hear_answer" ZcJ:=
  ZY D zc47 3 6 rfl rfl fun f cdv A outer s H E hr=>(Ze (Zz 3 zc47.nd (ZH ZI (Za 1) (Zl g.zc1)))
  (Ze (Zz 4 zc47.nd (Zh zd6 hr (by decide) (Zb (Za 3) (Zb (Zm (Zt ⟨g.k_End,g.zn21⟩) (Za 0)) Zf))))
  (Ze (ZG (ZB (Za 4)) (Ze (ZW (Zh zd3 hr (by decide) (Zb (Zm (Zt ⟨g.k_End,g.zn24⟩) (Za 0)) (Zb (Zh zd5 hr (by decide) (Zb (Za 3) (Zb (Zm (Zt ⟨g.k_End,g.zn21⟩) (Za 0)) Zf))) Zf))))
    (Ze (Zv (Zt ⟨g.k_End,g.zn21⟩) (Za 0) (Za 3))
    (Zj (ZG (ZA (Zfa hr.units) (Zm (Zt ⟨g.k_End,g.zn21⟩) (Za 0)) (Zm (Zt ⟨g.k_End,g.zn8⟩) (Za 0))) (Zj (ZW (Zh zd8 hr (by decide) (Zb (Za 0) (Zb (Za 2) Zf))))) Zy)))) Zy)
  (Ze (ZG (ZB (Zh zd6 hr (by decide) (Zb (Zm (Zt ⟨g.k_End,g.zn21⟩) (Za 0)) (Zb (Za 3) Zf)))) (Zj Zdm) Zy)
  (Ze (Zz 5 zc47.nd (zl (zu hr.units) (Zm (Zt ⟨g.k_End,g.zn23⟩) (Za 0)) Zi))
  (Ze (ZG (MW.mt (ZcY (ZB (Za 4)) (Zah (ZB (Zh zd48 hr (by decide) (Zb (Za 0) (Zb (Za 1) Zf))))))) (Zj (ZW (Zh zd46 hr (by decide) (Zb (Za 0) (Zb (Za 1) Zf))))) Zy)
  (Zj (ZG (MW.mt (ZcY (ZB (Za 5)) (Zah (ZA (zu hr.units) (Zm (Zt ⟨g.k_End,g.zn23⟩) (Za 0)) Zi)))) (Zj (Zv (Zt ⟨g.k_End,g.zn20⟩) (Za 0) Zi)) Zy))))))))
theorem ZwS (D:Zq K mg "goes_on_behind_answer" Zkc ZoB) (g:Glb K mg) (zd49:Zr P w K mg base 4 "end_what_is_acknowledged" zU) (zd45:Zr P w K mg base 5 "has_answered_syn" Za6) (zd47:Zr P w K mg base 4 "hear_answer" ZcJ) (zd6:Zr P w K mg base 2 "past" Zci):Zr P w K mg base 6 "goes_on_behind_answer" Zag:=
  ZY D zc44 3 3 rfl rfl fun f cdv A outer s H E hr=>(Ze (ZG (ZA (zu hr.units) (Zm (Zt ⟨g.k_End,g.zn16⟩) (Za 0)) (ZD g.zc37)) (Zj (Zw (Zh zd45 hr (by decide) (Zb (Za 0) (Zb (Za 1) Zf))))) Zy)
  (Ze (ZG (ZB (Zh zd6 hr (by decide) (Zb (ZH ZI (Za 1) (Zl g.zc1)) (Zb (Zm (Zt ⟨g.k_End,g.zn8⟩) (Za 0)) Zf)))) (Ze (Zv (Zt ⟨g.k_End,g.zn11⟩) (Za 0) zw)
    (Zj (Zw zw))) Zy)
  (Ze (ZW (Zh zd47 hr (by decide) (Zb (Za 0) (Zb (Za 1) (Zb (Za 2) Zf)))))
  (Ze (ZW (Zh zd49 hr (by decide) (Zb (Za 0) (Zb (Za 2) Zf))))
  (Zj (Zw (zl (Zfa hr.units) (Zm (Zt ⟨g.k_End,g.zn16⟩) (Za 0)) (ZD g.zc2))))))))
theorem ZwT (D:Zq K mg "hear_reset" Zkd ZoC) (g:Glb K mg) :Zr P w K mg base 1 "hear_reset" Zdj:=
  ZY D zc43 2 2 rfl rfl fun f cdv A outer s H E hr=>(Ze (ZG (ZA (zu hr.units) (Zm (Zt ⟨g.k_End,g.zn16⟩) (Za 0)) (ZD g.zc40)) (Zj Zdm) Zy)
  (Zj (ZG (ZA (zu hr.units) (ZH ZI (Za 1) (Zl g.zc24)) (Zm (Zt ⟨g.k_End,g.zn14⟩) (Za 0))) (Ze (Zv (Zt ⟨g.k_End,g.zn16⟩) (Za 0) (ZD g.zc2))
    (Zj (Zv (Zt ⟨g.k_End,g.zn4⟩) (Za 0) (ZD g.zc28)))) (Zj (Zv (Zt ⟨g.k_End,g.zn11⟩) (Za 0) zw)))))
theorem ZwJ (D:Zq K mg "draw_in_order" Zj3 Zos) (g:Glb K mg) (zd2:Zr P w K mg base 2 "lay" ZpY) (zd4:Zr P w K mg base 1 "plus" zn):Zr P w K mg base 3 "draw_in_order" ZbW:=
  ZY D zc53 1 2 rfl rfl fun f cdv A outer s H E hr=>(Ze (Zid 1 zc53.nd Zf)
  (Ze (Zhb 200 PassesOwn.never (MW.mt (ZbX (ZA (Zfa hr.units) (Zm (Zt ⟨g.k_End,g.zn14⟩) (Za 0)) (Zm (Zt ⟨g.k_End,g.zn3⟩) (Za 0))) (Zad (Zi1 hr (Zm (Zt ⟨g.k_End,g.zn14⟩) (Za 0)) (Zm (Zt ⟨g.k_End,g.zn2⟩) (Za 0)))))) (Ze (Zif 1 (ZmL (Zm (Zt ⟨g.k_End,g.zn2⟩) (Za 0)) (Zm (Zt ⟨g.k_End,g.zn14⟩) (Za 0)) ⟨rfl,rfl,rfl,rfl⟩) (hpe:=fun h=>Zmy PySem.F.plainAttrs_list PySem.F.slot_list_append PySem.F.type_list_append Zen h (ZbI (ZmL (Zm (Zt ⟨g.k_End,g.zn2⟩) (Za 0)) (Zm (Zt ⟨g.k_End,g.zn14⟩) (Za 0)) ⟨rfl,rfl,rfl,rfl⟩) ZdM)))
    (Zj (Zv (Zt ⟨g.k_End,g.zn14⟩) (Za 0) (Zh zd4 hr (by decide) (Zb (Zm (Zt ⟨g.k_End,g.zn14⟩) (Za 0)) (Zb Zi Zf)))))))
  (Zj (Zie 1 (ZW (Zh zd2 hr (by decide) (Zb (Zm (Zt ⟨g.k_End,g.zn1⟩) (Za 0)) (Zb (Za 1) Zf))))))))
theorem ZwI (D:Zq K mg "hear_fin" Zj2 Zor) (g:Glb K mg) (zd4:Zr P w K mg base 1 "plus" zn):Zr P w K mg base 2 "hear_fin" ZeQ:=
  ZY D ZxI 2 2 rfl rfl fun f cdv A outer s H E hr=>(Ze (Zv (Zt ⟨g.k_End,g.zn14⟩) (Za 0) (Zh zd4 hr (by decide) (Zb (Zm (Zt ⟨g.k_End,g.zn14⟩) (Za 0)) (Zb Zi Zf))))
  (Zj (ZG (ZA (zu hr.units) (Zm (Zt ⟨g.k_End,g.zn16⟩) (Za 0)) (ZD g.zc25)) (Zj (Zv (Zt ⟨g.k_End,g.zn16⟩) (Za 0) (ZD g.zc3))) (Zj (ZG (ZA (zu hr.units) (Zm (Zt ⟨g.k_End,g.zn16⟩) (Za 0)) (ZD g.zc41)) (Zj (Zv (Zt ⟨g.k_End,g.zn16⟩) (Za 0) (ZD g.zc4))) (Ze (Zv (Zt ⟨g.k_End,g.zn16⟩) (Za 0) (ZD g.zc40))
      (Zj (Zv (Zt ⟨g.k_End,g.zn15⟩) (Za 0) (Za 1)))))))))
theorem ZwL (D:Zq K mg "keep_data" Zj5 Zou) (g:Glb K mg) (zd41:Zr P w K mg base 3 "is_in_window" zE) (zd4:Zr P w K mg base 1 "plus" zn):Zr P w K mg base 4 "keep_data" ZdQ:=
  ZY D zc51 2 5 rfl rfl fun f cdv A outer s H E hr=>(Ze (ZrD 2 3 zc51.nd PassesOwn.never g.b_enumerate (Zb (ZH ZI (Za 1) (Zl g.zc5)) Zf) (Ze (Zz 4 zc51.nd (Zh zd4 hr (by decide) (Zb (ZH ZI (Za 1) (Zl g.zc24)) (Zb (Za 2) Zf))))
    (Zj (ZG (ZB (Zh zd41 hr (by decide) (Zb (Za 0) (Zb (Za 4) Zf)))) (Zj (ZW (Zqe (Zm (Zt ⟨g.k_End,g.zn2⟩) (Za 0)) (Za 4) (Za 3) ⟨rfl,rfl,rfl,rfl⟩))) Zy))))
  (Zj (ZG (ZA ZhU (Z9 Zcp g.b_len PySem.boot_len (Zb (ZH ZI (Za 1) (Zl g.zc5)) Zf)) Zi) (Zj (Zv (Zt ⟨g.k_End,g.zn11⟩) (Za 0) zw)) Zy)))
theorem ZwK (D:Zq K mg "keep_fin" Zj4 Zot) (g:Glb K mg) (zd15:Zr P w K mg base 2 "bears" ZX) (zd41:Zr P w K mg base 3 "is_in_window" zE) (zd4:Zr P w K mg base 1 "plus" zn):Zr P w K mg base 4 "keep_fin" ZeO:=
  ZY D zc52 2 3 rfl rfl fun f cdv A outer s H E hr=>(Ze (ZG (ZaA (ZB (Zh zd15 hr (by decide) (Zb (Za 1) (Zb (Zl g.zc6) Zf))))) (Zj Zdm) Zy)
  (Ze (Zv (Zt ⟨g.k_End,g.zn11⟩) (Za 0) zw)
  (Ze (Zz 2 zc52.nd (Zh zd4 hr (by decide) (Zb (ZH ZI (Za 1) (Zl g.zc24)) (Zb (Z9 Zcp g.b_len PySem.boot_len (Zb (ZH ZI (Za 1) (Zl g.zc5)) Zf)) Zf))))
  (Zj (ZG (MW.mt (ZbX (ZA Znp (Zm (Zt ⟨g.k_End,g.zn3⟩) (Za 0)) zO) (Zad (ZB (Zh zd41 hr (by decide) (Zb (Za 0) (Zb (Za 2) Zf))))))) (Zj (Zv (Zt ⟨g.k_End,g.zn3⟩) (Za 0) (Za 2))) Zy)))))
theorem ZwM (D:Zq K mg "hear_stream" Zj6 Zov) (g:Glb K mg) (zd53:Zr P w K mg base 3 "draw_in_order" ZbW) (zd54:Zr P w K mg base 2 "hear_fin" ZeQ) (zd51:Zr P w K mg base 4 "keep_data" ZdQ) (zd52:Zr P w K mg base 4 "keep_fin" ZeO):Zr P w K mg base 5 "hear_stream" ZcI:=
  ZY D ZxJ 3 3 rfl rfl fun f cdv A outer s H E hr=>(Ze (ZG (ZA ZmE (Zm (Zt ⟨g.k_End,g.zn16⟩) (Za 0)) (Z5 (Zb (ZD g.zc25) (Zb (ZD g.zc41) (Zb (ZD g.zc42) Zf)))) (by with_unfolding_all rfl)) (Zj Zdm) Zy)
  (Ze (ZW (Zh zd51 hr (by decide) (Zb (Za 0) (Zb (Za 1) Zf))))
  (Ze (ZW (Zh zd52 hr (by decide) (Zb (Za 0) (Zb (Za 1) Zf))))
  (Ze (ZW (Zh zd53 hr (by decide) (Zb (Za 0) Zf)))
  (Zj (ZG (ZA (zu hr.units) (Zm (Zt ⟨g.k_End,g.zn14⟩) (Za 0)) (Zm (Zt ⟨g.k_End,g.zn3⟩) (Za 0))) (Zj (ZW (Zh zd54 hr (by decide) (Zb (Za 0) (Zb (Za 2) Zf))))) Zy))))))
theorem ZwU (D:Zq K mg "turn_away" Zke ZoD) (g:Glb K mg) (zd15:Zr P w K mg base 2 "bears" ZX):Zr P w K mg base 3 "turn_away" ZdN:=
  ZY D zc42 3 3 rfl rfl fun f cdv A outer s H E hr=>(Ze (ZG (ZB (Zh zd15 hr (by decide) (Zb (Za 1) (Zb (Zl g.zc32) Zf)))) (Zj Zdm) Zy)
  (Ze (ZG (MW.mt (ZbX (ZA (zu hr.units) (Zm (Zt ⟨g.k_End,g.zn16⟩) (Za 0)) (ZD g.zc37)) (ZbX (ZB (Zh zd15 hr (by decide) (Zb (Za 1) (Zb (Zl g.zc36) Zf)))) (Zad (ZaA (ZB (Zh zd15 hr (by decide) (Zb (Za 1) (Zb (Zl g.zc0) Zf))))))))) (Zj (Zv (Zt ⟨g.k_End,g.zn12⟩) (Za 0) zw)) (Zj (Zv (Zt ⟨g.k_End,g.zn11⟩) (Za 0) zw)))
  (Zj (ZG (ZA (zu hr.units) (Zm (Zt ⟨g.k_End,g.zn16⟩) (Za 0)) (ZD g.zc40)) (Zj (Zv (Zt ⟨g.k_End,g.zn15⟩) (Za 0) (Za 2))) Zy))))
theorem ZwX (D:Zq K mg "come_to_stream" Zkh ZoG) (g:Glb K mg) (zd15:Zr P w K mg base 2 "bears" ZX) (zd40:Zr P w K mg base 4 "fits" ZlR) (zd44:Zr P w K mg base 6 "goes_on_behind_answer" Zag) (zd43:Zr P w K mg base 1 "hear_reset" Zdj) (zd50:Zr P w K mg base 5 "hear_stream" ZcI) (zd42:Zr P w K mg base 3 "turn_away" ZdN):Zr P w K mg base 7 "come_to_stream" Zbu:=
  ZY D zc39 3 3 rfl rfl fun f cdv A outer s H E hr=>(Zj (ZG (ZaA (ZB (Zh zd40 hr (by decide) (Zb (Za 0) (Zb (Za 1) Zf))))) (Zj (ZW (Zh zd42 hr (by decide) (Zb (Za 0) (Zb (Za 1) (Zb (Za 2) Zf)))))) (Zj (ZG (ZB (Zh zd15 hr (by decide) (Zb (Za 1) (Zb (Zl g.zc32) Zf)))) (Zj (ZW (Zh zd43 hr (by decide) (Zb (Za 0) (Zb (Za 1) Zf))))) (Zj (ZG (ZB (Zh zd15 hr (by decide) (Zb (Za 1) (Zb (Zl g.zc36) Zf)))) (Zj (Zv (Zt ⟨g.k_End,g.zn11⟩) (Za 0) zw)) (Zj (ZG (MW.mt (ZbX (ZB (Zh zd15 hr (by decide) (Zb (Za 1) (Zb (Zl g.zc0) Zf)))) (Zad (ZB (Zh zd44 hr (by decide) (Zb (Za 0) (Zb (Za 1) (Zb (Za 2) Zf)))))))) (Zj (ZW (Zh zd50 hr (by decide) (Zb (Za 0) (Zb (Za 1) (Zb (Za 2) Zf)))))) Zy))))))))
theorem ZwY (D:Zq K mg "is_for" Zki ZoH) (g:Glb K mg) :Zr P w K mg base 1 "is_for" ZdR:=
  ZY D zc38 2 2 rfl rfl fun f cdv A outer s H E hr=>(Zj (Zw (ZaW (zl (zu hr.units) (ZH ZI (Za 1) (Zl g.zc9)) (Zm (Zt ⟨g.k_End,g.zn9⟩) (Za 0))) (Zby (Zlb (zl ZlU (Zm (Zt ⟨g.k_End,g.zn16⟩) (Za 0)) (Z5 (Zb (ZD g.zc2) (Zb (ZD g.zc17) Zf))) (by with_unfolding_all rfl)) (Zby (zl (zu hr.units) (ZH ZI (Za 1) (Zl g.zc34)) (Zm (Zt ⟨g.k_End,g.zn17⟩) (Za 0)))))))))
theorem ZwZ (D:Zq K mg "arrive" Zkj ZoI) (g:Glb K mg) (zd30:Zr P w K mg base 5 "come_to_closed" Zbv) (zd31:Zr P w K mg base 5 "come_to_listen" zi) (zd39:Zr P w K mg base 7 "come_to_stream" Zbu) (zd33:Zr P w K mg base 5 "come_to_syn_sent" Za7) (zd25:Zr P w K mg base 4 "get" Zgh) (zd38:Zr P w K mg base 1 "is_for" ZdR) (zd22:Zr P w K mg base 3 "is_right" zy):Zr P w K mg base 8 "arrive" ZdS:=
  ZY D zc37 3 4 rfl rfl fun f cdv A outer s H E hr=>(Ze (ZG (ZaA (ZB (Zh zd22 hr (by decide) (Zb (Za 1) Zf)))) (Zj (Zw zw)) Zy)
  (Ze (Zz 3 zc37.nd (Zh zd25 hr (by decide) (Zb (Za 1) Zf)))
  (Ze (ZG (ZaA (ZB (Zh zd38 hr (by decide) (Zb (Za 0) (Zb (Za 3) Zf))))) (Zj (Zw zw)) Zy)
  (Ze (ZG (ZA (zu hr.units) (Zm (Zt ⟨g.k_End,g.zn16⟩) (Za 0)) (ZD g.zc2)) (Zj (ZW (Zh zd30 hr (by decide) (Zb (Za 0) (Zb (Za 3) Zf))))) (Zj (ZG (ZA (zu hr.units) (Zm (Zt ⟨g.k_End,g.zn16⟩) (Za 0)) (ZD g.zc17)) (Zj (ZW (Zh zd31 hr (by decide) (Zb (Za 0) (Zb (Za 3) Zf))))) (Zj (ZG (ZA (zu hr.units) (Zm (Zt ⟨g.k_End,g.zn16⟩) (Za 0)) (ZD g.zc38)) (Zj (ZW (Zh zd33 hr (by decide) (Zb (Za 0) (Zb (Za 3) (Zb (Za 2) Zf)))))) (Zj (ZW (Zh zd39 hr (by decide) (Zb (Za 0) (Zb (Za 3) (Zb (Za 2) Zf)))))))))))
  (Zj (Zw zw))))))
theorem ZwH (D:Zq K mg "opened" Zj1 Zoq) (g:Glb K mg) (zd7:MMk P w K mg base 3 "End" Zbw):Zr P w K mg base 5 "opened" ZdP:=
  ZY D ZxH 4 4 rfl rfl fun f cdv A outer s H E hr=>(Zj (Zw (Zi3 zd7 hr (by decide) (Zb (Za 0) (Zb (Za 1) (Zb (Za 2) (Zb (Za 3) Zf)))))))
theorem ZwB (D:Zq K mg "most_at_once" ZjV Zok) (g:Glb K mg) :Zr P w K mg base 1 "most_at_once" zS:=
  ZY D ZxF 1 1 rfl rfl fun f cdv A outer s H E hr=>(Zj (Zw (Z9 ZmX g.b_min PyProof.Rows.boot_min (Zb (Zm (Zt ⟨g.k_End,g.zn7⟩) (Za 0)) (Zb (Zl g.zc10) Zf)))))
theorem ZwA (D:Zq K mg "paid_syn" ZjU Zoj) (g:Glb K mg) :Zr P w K mg base 1 "paid_syn" Za3:=
  ZY D ZxE 1 1 rfl rfl fun f cdv A outer s H E hr=>(Ze (Zv (Zt ⟨g.k_End,g.zn12⟩) (Za 0) zw)
  (Ze (ZG (ZA (zu hr.units) (Zm (Zt ⟨g.k_End,g.zn16⟩) (Za 0)) (ZD g.zc38)) (Zj (Zw (Z5 (Zb (Zm (Zt ⟨g.k_End,g.zn9⟩) (Za 0)) (Zb (Zm (Zt ⟨g.k_End,g.zn17⟩) (Za 0)) (Zb (Zm (Zt ⟨g.k_End,g.zn5⟩) (Za 0)) (Zb Zi (Zb (Zl g.zc36) (Zb (Zl g.zc30) (Zb (Zl g.zc10) (Zb (Z5 Zf) Zf))))))))))) Zy)
  (Zj (Zw (Z5 (Zb (Zm (Zt ⟨g.k_End,g.zn9⟩) (Za 0)) (Zb (Zm (Zt ⟨g.k_End,g.zn17⟩) (Za 0)) (Zb (Zm (Zt ⟨g.k_End,g.zn5⟩) (Za 0)) (Zb (Zm (Zt ⟨g.k_End,g.zn14⟩) (Za 0)) (Zb (Zu ZK (Zl g.zc36) (Zl g.zc0)) (Zb (Zl g.zc30) (Zb (Zl g.zc10) (Zb (Z5 Zf) Zf)))))))))))))
theorem Zwz (D:Zq K mg "segment_of" ZjT Zoi) (g:Glb K mg) (zd9:Zr P w K mg base 2 "our_window" Zap):Zr P w K mg base 3 "segment_of" zm:=
  ZY D ZxD 4 4 rfl rfl fun f cdv A outer s H E hr=>(Zj (Zw (Z5 (Zb (Zm (Zt ⟨g.k_End,g.zn9⟩) (Za 0)) (Zb (Zm (Zt ⟨g.k_End,g.zn17⟩) (Za 0)) (Zb (Za 1) (Zb (Zm (Zt ⟨g.k_End,g.zn14⟩) (Za 0)) (Zb (Zu ZK (Za 2) (Zl g.zc0)) (Zb (Zh zd9 hr (by decide) (Zb (Za 0) Zf)) (Zb Zi (Zb (Zca Zjl g.b_tuple PyProof.Rows.boot_tuple (Zb (Za 3) Zf)) Zf)))))))))))
theorem ZwC (D:Zq K mg "again" ZjW Zol) (g:Glb K mg) (zd61:Zr P w K mg base 1 "most_at_once" zS) (zd5:Zr P w K mg base 1 "offset" zo) (zd62:Zr P w K mg base 1 "paid_syn" Za3) (zd63:Zr P w K mg base 3 "segment_of" zm):Zr P w K mg base 4 "again" Zcw:=
  ZY D zc60 2 3 rfl rfl fun f cdv A outer s H E hr=>(Ze (ZG (ZA (zu hr.units) (Zm (Zt ⟨g.k_End,g.zn20⟩) (Za 0)) (Zl g.zc21)) (Ze (Zv (Zt ⟨g.k_End,g.zn16⟩) (Za 0) (ZD g.zc2))
    (Ze (Zv (Zt ⟨g.k_End,g.zn4⟩) (Za 0) (ZD g.zc39))
    (Zj (Zw zO)))) Zy)
  (Ze (Zv (Zt ⟨g.k_End,g.zn20⟩) (Za 0) (Zu ZK (Zm (Zt ⟨g.k_End,g.zn20⟩) (Za 0)) Zi))
  (Ze (Zv (Zt ⟨g.k_End,g.zn22⟩) (Za 0) (Z9 ZmX g.b_min PyProof.Rows.boot_min (Zb (Zu ZdV Zi (Zm (Zt ⟨g.k_End,g.zn22⟩) (Za 0))) (Zb (Zl g.zc18) Zf))))
  (Ze (Zv (Zt ⟨g.k_End,g.zn15⟩) (Za 0) (Za 1))
  (Ze (ZG (ZA ZlU (Zm (Zt ⟨g.k_End,g.zn16⟩) (Za 0)) (Z5 (Zb (ZD g.zc38) (Zb (ZD g.zc37) Zf))) (by with_unfolding_all rfl)) (Zj (Zw (Zh zd62 hr (by decide) (Zb (Za 0) Zf)))) Zy)
  (Ze (Zz 2 zc60.nd (Zaw (Zm (Zt ⟨g.k_Pile,g.zn31⟩) (Zm (Zt ⟨g.k_End,g.zn24⟩) (Za 0))) ZaP (z6 (Z9 ZmX g.b_min PyProof.Rows.boot_min (Zb (Zh zd5 hr (by decide) (Zb (Zm (Zt ⟨g.k_End,g.zn8⟩) (Za 0)) (Zb (Zm (Zt ⟨g.k_End,g.zn21⟩) (Za 0)) Zf))) (Zb (Zh zd61 hr (by decide) (Zb (Za 0) Zf)) Zf))))))
  (Zj (Zw (Zh zd63 hr (by decide) (Zb (Za 0) (Zb (Zm (Zt ⟨g.k_End,g.zn21⟩) (Za 0)) (Zb (Zbz (ZA ZhU (Z9 Zcp g.b_len PySem.boot_len (Zb (Za 2) Zf)) Zi) Zi (Zl g.zc6)) (Zb (Za 2) Zf)))))))))))))
theorem Zwo (D:Zq K mg "going_as_answer" ZjI Zn7) (g:Glb K mg) (zd63:Zr P w K mg base 3 "segment_of" zm):Zr P w K mg base 4 "going_as_answer" zK:=
  ZY D Zxv 1 1 rfl rfl fun f cdv A outer s H E hr=>(Ze (ZG (ZaA (ZB (Zm (Zt ⟨g.k_End,g.zn11⟩) (Za 0)))) (Zj (Zw zO)) Zy)
  (Ze (Zv (Zt ⟨g.k_End,g.zn11⟩) (Za 0) zw)
  (Zj (Zw (Zh zd63 hr (by decide) (Zb (Za 0) (Zb (Zm (Zt ⟨g.k_End,g.zn8⟩) (Za 0)) (Zb Zi (Zb (zP Zf) Zf)))))))))
theorem Zwu (D:Zq K mg "unsent" ZjO Zod) (g:Glb K mg) (zd5:Zr P w K mg base 1 "offset" zo):Zr P w K mg base 2 "unsent" ZaZ:=
  ZY D Zxz 1 1 rfl rfl fun f cdv A outer s H E hr=>(Zj (Zw (Zh zd5 hr (by decide) (Zb (Zm (Zt ⟨g.k_End,g.zn0⟩) (Za 0)) (Zb (Zm (Zt ⟨g.k_End,g.zn8⟩) (Za 0)) Zf)))))
theorem Zwv (D:Zq K mg "has_new_data" ZjP Zoe) (g:Glb K mg) (zd68:Zr P w K mg base 2 "unsent" ZaZ):Zr P w K mg base 3 "has_new_data" zT:=
  ZY D ZxA 1 1 rfl rfl fun f cdv A outer s H E hr=>(Zj (Zw (ZaW (zl ZlU (Zm (Zt ⟨g.k_End,g.zn16⟩) (Za 0)) (Z5 (Zb (ZD g.zc25) (Zb (ZD g.zc41) (Zb (ZD g.zc3) (Zb (ZD g.zc4) (Zb (ZD g.zc14) Zf)))))) (by with_unfolding_all rfl)) (Zby (zl ZhU (Zh zd68 hr (by decide) (Zb (Za 0) Zf)) Zi)))))
theorem Zwt (D:Zq K mg "has_new_fin" ZjN Zoc) (g:Glb K mg) (zd68:Zr P w K mg base 2 "unsent" ZaZ):Zr P w K mg base 3 "has_new_fin" Za1:=
  ZY D Zxy 1 1 rfl rfl fun f cdv A outer s H E hr=>(Zj (Zw (ZaW (zl ZlU (Zm (Zt ⟨g.k_End,g.zn16⟩) (Za 0)) (Z5 (Zb (ZD g.zc41) (Zb (ZD g.zc4) (Zb (ZD g.zc14) Zf)))) (by with_unfolding_all rfl)) (Zby (zl (zu hr.units) (Zh zd68 hr (by decide) (Zb (Za 0) Zf)) Zi)))))
theorem Zww (D:Zq K mg "has_more" ZjQ Zof) (g:Glb K mg) (zd67:Zr P w K mg base 3 "has_new_data" zT) (zd69:Zr P w K mg base 3 "has_new_fin" Za1):Zr P w K mg base 4 "has_more" Za5:=
  ZY D ZxB 1 1 rfl rfl fun f cdv A outer s H E hr=>(Zj (Zw (Zlb (Zh zd67 hr (by decide) (Zb (Za 0) Zf)) (Zby (Zh zd69 hr (by decide) (Zb (Za 0) Zf))))))
theorem Zwr (D:Zq K mg "new_data" ZjL Zoa) (g:Glb K mg) (zd61:Zr P w K mg base 1 "most_at_once" zS) (zd5:Zr P w K mg base 1 "offset" zo) (zd4:Zr P w K mg base 1 "plus" zn) (zd63:Zr P w K mg base 3 "segment_of" zm) (zd68:Zr P w K mg base 2 "unsent" ZaZ):Zr P w K mg base 4 "new_data" Zbt:=
  ZY D zc71 2 5 rfl rfl fun f cdv A outer s H E hr=>(Ze (Zz 2 zc71.nd (Zm (Zt ⟨g.k_End,g.zn8⟩) (Za 0)))
  (Ze (Zz 3 zc71.nd (Z9 ZmX g.b_min PyProof.Rows.boot_min (Zb (Zh zd61 hr (by decide) (Zb (Za 0) Zf)) (Zb (Zh zd68 hr (by decide) (Zb (Za 0) Zf)) (Zb (Za 1) Zf)))))
  (Ze (Zz 4 zc71.nd (Zh zd5 hr (by decide) (Zb (Za 2) (Zb (Zm (Zt ⟨g.k_End,g.zn21⟩) (Za 0)) Zf))))
  (Ze (Zv (Zt ⟨g.k_End,g.zn8⟩) (Za 0) (Zh zd4 hr (by decide) (Zb (Za 2) (Zb (Za 3) Zf))))
  (Zj (Zw (Zh zd63 hr (by decide) (Zb (Za 0) (Zb (Za 2) (Zb (Zbz (ZA (zu hr.units) (Zh zd68 hr (by decide) (Zb (Za 0) Zf)) Zi) (Zl g.zc26) Zi) (Zb (Zaw (Zm (Zt ⟨g.k_Pile,g.zn31⟩) (Zm (Zt ⟨g.k_End,g.zn24⟩) (Za 0))) (z6 (Za 4)) (z6 (Zu ZK (Za 4) (Za 3)))) Zf)))))))))))
theorem Zwq (D:Zq K mg "new_fin" ZjK Zn9) (g:Glb K mg) (zd4:Zr P w K mg base 1 "plus" zn) (zd63:Zr P w K mg base 3 "segment_of" zm):Zr P w K mg base 4 "new_fin" ZcW:=
  ZY D zc72 1 2 rfl rfl fun f cdv A outer s H E hr=>(Ze (Zz 1 zc72.nd (Zm (Zt ⟨g.k_End,g.zn8⟩) (Za 0)))
  (Ze (Zv (Zt ⟨g.k_End,g.zn8⟩) (Za 0) (Zh zd4 hr (by decide) (Zb (Za 1) (Zb Zi Zf))))
  (Zj (Zw (Zh zd63 hr (by decide) (Zb (Za 0) (Zb (Za 1) (Zb (Zl g.zc6) (Zb (zP Zf) Zf)))))))))
theorem Zws (D:Zq K mg "new_piece" ZjM Zob) (g:Glb K mg) (zd67:Zr P w K mg base 3 "has_new_data" zT) (zd71:Zr P w K mg base 4 "new_data" Zbt) (zd72:Zr P w K mg base 4 "new_fin" ZcW):Zr P w K mg base 5 "new_piece" Zan:=
  ZY D Zxx 2 2 rfl rfl fun f cdv A outer s H E hr=>(Ze (Zv (Zt ⟨g.k_End,g.zn13⟩) (Za 0) zw)
  (Zj (Zw (Zbz (ZB (Zh zd67 hr (by decide) (Zb (Za 0) Zf))) (Zh zd71 hr (by decide) (Zb (Za 0) (Zb (Za 1) Zf))) (Zh zd72 hr (by decide) (Zb (Za 0) Zf))))))
theorem Zwx (D:Zq K mg "new_syn" ZjR Zog) (g:Glb K mg) (zd62:Zr P w K mg base 1 "paid_syn" Za3) (zd4:Zr P w K mg base 1 "plus" zn) (zd8:Zr P w K mg base 1 "start_timer" Z2):Zr P w K mg base 2 "new_syn" Zb8:=
  ZY D ZxC 2 2 rfl rfl fun f cdv A outer s H E hr=>(Ze (ZG (ZA (zu hr.units) (Zm (Zt ⟨g.k_End,g.zn8⟩) (Za 0)) (Zm (Zt ⟨g.k_End,g.zn21⟩) (Za 0))) (Zj (ZW (Zh zd8 hr (by decide) (Zb (Za 0) (Zb (Za 1) Zf))))) Zy)
  (Ze (Zv (Zt ⟨g.k_End,g.zn8⟩) (Za 0) (Zh zd4 hr (by decide) (Zb (Zm (Zt ⟨g.k_End,g.zn5⟩) (Za 0)) (Zb Zi Zf))))
  (Zj (Zw (Zh zd62 hr (by decide) (Zb (Za 0) Zf))))))
theorem Zwy (D:Zq K mg "going_as_new" ZjS Zoh) (g:Glb K mg) (zd66:Zr P w K mg base 4 "has_more" Za5) (zd70:Zr P w K mg base 5 "new_piece" Zan) (zd65:Zr P w K mg base 2 "new_syn" Zb8) (zd5:Zr P w K mg base 1 "offset" zo) (zd8:Zr P w K mg base 1 "start_timer" Z2):Zr P w K mg base 6 "going_as_new" Z0:=
  ZY D zc64 2 3 rfl rfl fun f cdv A outer s H E hr=>(Ze (ZG (ZA ZlU (Zm (Zt ⟨g.k_End,g.zn16⟩) (Za 0)) (Z5 (Zb (ZD g.zc38) (Zb (ZD g.zc37) Zf))) (by with_unfolding_all rfl)) (Zj (Zw (Zbz (MW.mt (ZcY (ZA (zu hr.units) (Zm (Zt ⟨g.k_End,g.zn8⟩) (Za 0)) (Zm (Zt ⟨g.k_End,g.zn5⟩) (Za 0))) (Zah (ZB (Zm (Zt ⟨g.k_End,g.zn12⟩) (Za 0)))))) (Zh zd65 hr (by decide) (Zb (Za 0) (Zb (Za 1) Zf))) zO))) Zy)
  (Ze (Zz 2 zc64.nd (Zu ZeE (Zm (Zt ⟨g.k_End,g.zn23⟩) (Za 0)) (Zh zd5 hr (by decide) (Zb (Zm (Zt ⟨g.k_End,g.zn8⟩) (Za 0)) (Zb (Zm (Zt ⟨g.k_End,g.zn21⟩) (Za 0)) Zf)))))
  (Ze (ZG (MW.mt (ZcY (ZA ZlT (Za 2) Zi) (Zah (ZaA (ZB (Zh zd66 hr (by decide) (Zb (Za 0) Zf))))))) (Zj (Zw zO)) Zy)
  (Ze (ZG (ZA (zu hr.units) (Zm (Zt ⟨g.k_End,g.zn8⟩) (Za 0)) (Zm (Zt ⟨g.k_End,g.zn21⟩) (Za 0))) (Zj (ZW (Zh zd8 hr (by decide) (Zb (Za 0) (Zb (Za 1) Zf))))) Zy)
  (Ze (Zv (Zt ⟨g.k_End,g.zn11⟩) (Za 0) zw)
  (Zj (Zw (Zh zd70 hr (by decide) (Zb (Za 0) (Zb (Za 2) Zf))))))))))
theorem ZwD (D:Zq K mg "is_due" ZjX Zom) (g:Glb K mg) :Zr P w K mg base 1 "is_due" Zcj:=
  ZY D ZxG 2 2 rfl rfl fun f cdv A outer s H E hr=>(Zj (Zw (zl ZrA (Zu ZeE (Za 1) (Zm (Zt ⟨g.k_End,g.zn15⟩) (Za 0))) (Zm (Zt ⟨g.k_End,g.zn22⟩) (Za 0)))))
theorem Zwp (D:Zq K mg "going_as_probe" ZjJ Zn8) (g:Glb K mg) (zd66:Zr P w K mg base 4 "has_more" Za5) (zd59:Zr P w K mg base 1 "is_due" Zcj) (zd70:Zr P w K mg base 5 "new_piece" Zan) (zd8:Zr P w K mg base 1 "start_timer" Z2):Zr P w K mg base 6 "going_as_probe" Z3:=
  ZY D Zxw 2 2 rfl rfl fun f cdv A outer s H E hr=>(Ze (ZG (MW.mt (ZcY (ZA (Zfa hr.units) (Zm (Zt ⟨g.k_End,g.zn8⟩) (Za 0)) (Zm (Zt ⟨g.k_End,g.zn21⟩) (Za 0))) (ZcY (ZA (Zfa hr.units) (Zm (Zt ⟨g.k_End,g.zn23⟩) (Za 0)) Zi) (Zah (ZaA (ZB (Zh zd66 hr (by decide) (Zb (Za 0) Zf)))))))) (Ze (Zv (Zt ⟨g.k_End,g.zn13⟩) (Za 0) zw)
    (Zj (Zw zO))) Zy)
  (Ze (ZG (ZaA (ZB (Zm (Zt ⟨g.k_End,g.zn13⟩) (Za 0)))) (Ze (Zv (Zt ⟨g.k_End,g.zn13⟩) (Za 0) zw)
    (Zj (ZW (Zh zd8 hr (by decide) (Zb (Za 0) (Zb (Za 1) Zf)))))) Zy)
  (Ze (ZG (ZaA (ZB (Zh zd59 hr (by decide) (Zb (Za 0) (Zb (Za 1) Zf))))) (Zj (Zw zO)) Zy)
  (Ze (Zv (Zt ⟨g.k_End,g.zn15⟩) (Za 0) (Za 1))
  (Zj (Zw (Zh zd70 hr (by decide) (Zb (Za 0) (Zb Zi Zf)))))))))
theorem ZwE (D:Zq K mg "paid_reset" ZjY Zon) (g:Glb K mg) :Zr P w K mg base 1 "paid_reset" Zb3:=
  ZY D zc58 1 2 rfl rfl fun f cdv A outer s H E hr=>(Ze (Zz 1 zc58.nd (Zm (Zt ⟨g.k_End,g.zn10⟩) (Za 0)))
  (Ze (Zv (Zt ⟨g.k_End,g.zn10⟩) (Za 0) zO)
  (Zj (Zw (Za 1)))))
theorem ZwF (D:Zq K mg "going" ZjZ Zoo) (g:Glb K mg) (zd60:Zr P w K mg base 4 "again" Zcw) (zd74:Zr P w K mg base 4 "going_as_answer" zK) (zd64:Zr P w K mg base 6 "going_as_new" Z0) (zd73:Zr P w K mg base 6 "going_as_probe" Z3) (zd59:Zr P w K mg base 1 "is_due" Zcj) (zd58:Zr P w K mg base 1 "paid_reset" Zb3):Zr P w K mg base 7 "going" Zdk:=
  ZY D zc57 2 3 rfl rfl fun f cdv A outer s H E hr=>(Ze (ZG (ZA Zdl (Zm (Zt ⟨g.k_End,g.zn10⟩) (Za 0)) zO) (Zj (Zw (Zh zd58 hr (by decide) (Zb (Za 0) Zf)))) Zy)
  (Ze (ZG (MW.mt (ZbX (ZA (zu hr.units) (Zm (Zt ⟨g.k_End,g.zn16⟩) (Za 0)) (ZD g.zc40)) (Zad (ZA ZrA (Zu ZeE (Za 1) (Zm (Zt ⟨g.k_End,g.zn15⟩) (Za 0))) (Zl g.zc15))))) (Zj (Zv (Zt ⟨g.k_End,g.zn16⟩) (Za 0) (ZD g.zc2))) Zy)
  (Ze (ZG (ZA ZlU (Zm (Zt ⟨g.k_End,g.zn16⟩) (Za 0)) (Z5 (Zb (ZD g.zc2) (Zb (ZD g.zc17) Zf))) (by with_unfolding_all rfl)) (Zj (Zw zO)) Zy)
  (Ze (ZG (MW.mt (ZbX (ZA (Zfa hr.units) (Zm (Zt ⟨g.k_End,g.zn8⟩) (Za 0)) (Zm (Zt ⟨g.k_End,g.zn21⟩) (Za 0))) (Zad (ZB (Zh zd59 hr (by decide) (Zb (Za 0) (Zb (Za 1) Zf))))))) (Zj (Zw (Zh zd60 hr (by decide) (Zb (Za 0) (Zb (Za 1) Zf))))) Zy)
  (Ze (Zz 2 zc57.nd (Zh zd64 hr (by decide) (Zb (Za 0) (Zb (Za 1) Zf))))
  (Ze (ZG (ZA Znp (Za 2) zO) (Zj (Zz 2 zc57.nd (Zh zd73 hr (by decide) (Zb (Za 0) (Zb (Za 1) Zf))))) Zy)
  (Ze (ZG (ZA Znp (Za 2) zO) (Zj (Zz 2 zc57.nd (Zh zd74 hr (by decide) (Zb (Za 0) Zf)))) Zy)
  (Zj (Zw (Za 2))))))))))
theorem ZwG (D:Zq K mg "send" Zj0 Zop) (g:Glb K mg) (zd57:Zr P w K mg base 7 "going" Zdk) (zd16:Zr P w K mg base 4 "put" Zg6):Zr P w K mg base 8 "send" ZeM:=
  ZY D zc56 2 3 rfl rfl fun f cdv A outer s H E hr=>(Ze (Zz 2 zc56.nd (Zh zd57 hr (by decide) (Zb (Za 0) (Zb (Za 1) Zf))))
  (Zj (Zw (Zbz (ZA Znp (Za 2) zO) (zP Zf) (Zh zd16 hr (by decide) (Zb (Za 2) Zf))))))
theorem Zwn (D:Mk0 K mg "Host" "Host.__init__" ZjH Zn6) (g:Glb K mg) :MMk P w K mg base 1 "Host" z0:=
  mk0 D Zxu 2 2 rfl rfl fun f cdv A outer s H E hr=>(Ze (Zv (Zt ⟨g.k_Host,g.zn25⟩) (Za 0) (Za 1))
  (Ze (Zv (Zt ⟨g.k_Host,g.zn26⟩) (Za 0) (Zi4 Zf))
  (Ze (Zv (Zt ⟨g.k_Host,g.zn27⟩) (Za 0) Znv)
  (Ze (Zv (Zt ⟨g.k_Host,g.zn30⟩) (Za 0) Zld)
  (Ze (Zv (Zt ⟨g.k_Host,g.zn28⟩) (Za 0) zO)
  (Zj (Zv (Zt ⟨g.k_Host,g.zn29⟩) (Za 0) Zi)))))))
theorem Zwm (D:Me0 K mg "Host" "listens" "Host.listens" ZiD Zm6) (g:Glb K mg) :Zek P w K mg base 1 "Host" "listens" zd:=
  me0 D g.k_Host Zun 2 2 rfl rfl fun f cdv A outer s H E hr=>(Ze (ZG (Zi1 hr (Za 1) (Zm (Zt ⟨g.k_Host,g.zn30⟩) (Za 0))) (Zj Zhc) Zy)
  (Zj (ZmJ hr (Zm (Zt ⟨g.k_Host,g.zn30⟩) (Za 0)) (Za 1) (Zi4 Zf))))
theorem Zwi (D:Zq K mg "live_end" ZjE Zn3) (g:Glb K mg) :Zr P w K mg base 1 "live_end" zM:=
  ZY D zc80 3 4 rfl rfl fun f cdv A outer s H E hr=>(Ze (Zz 3 zc80.nd (Zqg hr (Zm (Zt ⟨g.k_Host,g.zn27⟩) (Za 0)) (Z5 (Zb (Za 1) (Zb (Za 2) Zf))) ⟨rfl,rfl,rfl,rfl⟩))
  (Zj (Zw (Zbz (MW.mt (ZcY (ZA Znp (Za 3) zO) (Zah (ZA (zu hr.units) (Zm (Zt ⟨g.k_End,g.zn16⟩) (Za 3)) (ZD g.zc2))))) zO (Za 3)))))
theorem Zwh (D:Zq K mg "made_end" ZjD Zn2) (g:Glb K mg) (zd55:Zr P w K mg base 5 "opened" ZdP) (zd4:Zr P w K mg base 1 "plus" zn):Zr P w K mg base 6 "made_end" Zaq:=
  ZY D zc81 4 5 rfl rfl fun f cdv A outer s H E hr=>(Ze (Zz 4 zc81.nd (Zh zd55 hr (by decide) (Zb (Za 1) (Zb (Za 2) (Zb (Zm (Zt ⟨g.k_Host,g.zn25⟩) (Za 0)) (Zb (Za 3) Zf))))))
  (Ze (Zv (Zt ⟨g.k_Host,g.zn25⟩) (Za 0) (Zh zd4 hr (by decide) (Zb (Zm (Zt ⟨g.k_Host,g.zn25⟩) (Za 0)) (Zb (Zl g.zc35) Zf))))
  (Ze (ZW (ZmM (Zmy PySem.F.plainAttrs_list PySem.F.slot_list_append PySem.F.type_list_append Zen (Zm (Zt ⟨g.k_Host,g.zn26⟩) (Za 0)) (ZbI (Za 4) ZdM))))
  (Ze (Zqc hr (Zm (Zt ⟨g.k_Host,g.zn27⟩) (Za 0)) (Z5 (Zb (Za 1) (Zb (Za 2) Zf))) (Za 4))
  (Zj (Zw (Za 4)))))))
theorem Zwl (D:Me0 K mg "Host" "calls" "Host.calls" ZiC Zm5) (g:Glb K mg) (zd80:Zr P w K mg base 1 "live_end" zM) (zd81:Zr P w K mg base 6 "made_end" Zaq):Zek P w K mg base 7 "Host" "calls" ZaO:=
  me0 D g.k_Host Zum 3 3 rfl rfl fun f cdv A outer s H E hr=>(Ze (ZG (ZA Zdl (Zh zd80 hr (by decide) (Zb (Za 0) (Zb (Za 1) (Zb (Za 2) Zf)))) zO) (Zj Zhc) Zy)
  (Zj (Zw (Zh zd81 hr (by decide) (Zb (Za 0) (Zb (Za 1) (Zb (Za 2) (Zb zw Zf))))))))
theorem Zwf (D:Zq K mg "is_call" ZjB Zn0) (g:Glb K mg) (zd15:Zr P w K mg base 2 "bears" ZX):Zr P w K mg base 3 "is_call" ZcX:=
  ZY D Zxt 1 1 rfl rfl fun f cdv A outer s H E hr=>(Zj (Zw (ZaW (Zh zd15 hr (by decide) (Zb (Za 0) (Zb (Zl g.zc36) Zf))) (ZaW (ZlY (Zh zd15 hr (by decide) (Zb (Za 0) (Zb (Zl g.zc0) Zf)))) (Zby (ZlY (Zh zd15 hr (by decide) (Zb (Za 0) (Zb (Zl g.zc32) Zf)))))))))
theorem Zwg (D:Zq K mg "end_for" ZjC Zn1) (g:Glb K mg) (zd83:Zr P w K mg base 3 "is_call" ZcX) (zd80:Zr P w K mg base 1 "live_end" zM) (zd81:Zr P w K mg base 6 "made_end" Zaq):Zr P w K mg base 7 "end_for" Zbb:=
  ZY D zc82 2 3 rfl rfl fun f cdv A outer s H E hr=>(Ze (Zz 2 zc82.nd (Zh zd80 hr (by decide) (Zb (Za 0) (Zb (ZH ZI (Za 1) (Zl g.zc9)) (Zb (ZH ZI (Za 1) (Zl g.zc34)) Zf)))))
  (Ze (ZG (MW.mt (ZbX (ZA Znp (Za 2) zO) (ZbX (Zi1 hr (ZH ZI (Za 1) (Zl g.zc9)) (Zm (Zt ⟨g.k_Host,g.zn30⟩) (Za 0))) (Zad (ZB (Zh zd83 hr (by decide) (Zb (Za 1) Zf))))))) (Ze (Zz 2 zc82.nd (Zh zd81 hr (by decide) (Zb (Za 0) (Zb (ZH ZI (Za 1) (Zl g.zc9)) (Zb (ZH ZI (Za 1) (Zl g.zc34)) (Zb zw Zf))))))
    (Zj (ZW (ZmM (Zmy PySem.F.plainAttrs_list PySem.F.slot_list_append PySem.F.type_list_append Zen (Zqf hr (Zm (Zt ⟨g.k_Host,g.zn30⟩) (Za 0)) (ZH ZI (Za 1) (Zl g.zc9)) (fun _ _=>rfl)) (ZbI (Za 2) ZdM)))))) Zy)
  (Zj (Zw (Za 2)))))
theorem Zwk (D:Me0 K mg "Host" "arrives" "Host.arrives" ZjG Zn5) (g:Glb K mg) (zd37:Zr P w K mg base 8 "arrive" ZdS) (zd15:Zr P w K mg base 2 "bears" ZX) (zd82:Zr P w K mg base 7 "end_for" Zbb) (zd25:Zr P w K mg base 4 "get" Zgh) (zd22:Zr P w K mg base 3 "is_right" zy) (zd28:Zr P w K mg base 3 "reset_for" Zam):Zek P w K mg base 9 "Host" "arrives" p_Host_arrives:=
  me0 D g.k_Host zc78 3 5 rfl rfl fun f cdv A outer s H E hr=>(Ze (ZG (ZaA (ZB (Zh zd22 hr (by decide) (Zb (Za 1) Zf)))) (Zj (Zw zw)) Zy)
  (Ze (Zz 3 zc78.nd (Zh zd25 hr (by decide) (Zb (Za 1) Zf)))
  (Ze (Zz 4 zc78.nd (Zh zd82 hr (by decide) (Zb (Za 0) (Zb (Za 3) Zf))))
  (Ze (ZG (ZA Zdl (Za 4) zO) (Zj (ZW (Zh zd37 hr (by decide) (Zb (Za 4) (Zb (Za 1) (Zb (Za 2) Zf)))))) (Zj (ZG (ZaA (ZB (Zh zd15 hr (by decide) (Zb (Za 3) (Zb (Zl g.zc32) Zf))))) (Zj (Zv (Zt ⟨g.k_Host,g.zn28⟩) (Za 0) (Zh zd28 hr (by decide) (Zb (Za 3) Zf)))) Zy)))
  (Zj (Zw zw))))))
theorem Zwj (D:Me0 K mg "Host" "sends" "Host.sends" ZjF Zn4) (g:Glb K mg) (zd16:Zr P w K mg base 4 "put" Zg6) (zd56:Zr P w K mg base 8 "send" ZeM):Zek P w K mg base 9 "Host" "sends" ZJ:=
  me0 D g.k_Host zc79 2 6 rfl rfl fun f cdv A outer s H E hr=>(Ze (ZG (ZA Zdl (Zm (Zt ⟨g.k_Host,g.zn28⟩) (Za 0)) zO) (Ze (Zz 2 zc79.nd (Zh zd16 hr (by decide) (Zb (Zm (Zt ⟨g.k_Host,g.zn28⟩) (Za 0)) Zf)))
    (Ze (Zv (Zt ⟨g.k_Host,g.zn28⟩) (Za 0) zO)
    (Zj (Zw (Za 2))))) Zy)
  (Ze (Zz 3 zc79.nd (Z9 Zcp g.b_len PySem.boot_len (Zb (Zm (Zt ⟨g.k_Host,g.zn26⟩) (Za 0)) Zf)))
  (Ze (Zi2 PassesOwn.never (Zeo g.b_range (Zb (Za 3) Zf)) (ZgM 4 zc79.nd) (Ze (Zz 5 zc79.nd (Zu zj (Zu ZK (Zm (Zt ⟨g.k_Host,g.zn29⟩) (Za 0)) (Za 4)) (Za 3)))
    (Ze (Zz 2 zc79.nd (Zh zd56 hr (by decide) (Zb (ZH ZI (Zm (Zt ⟨g.k_Host,g.zn26⟩) (Za 0)) (Za 5)) (Zb (Za 1) Zf))))
    (Zj (ZG (ZA ZhU (Z9 Zcp g.b_len PySem.boot_len (Zb (Za 2) Zf)) Zi) (Ze (Zv (Zt ⟨g.k_Host,g.zn29⟩) (Za 0) (Zu ZK (Za 5) Zi))
      (Zj (Zw (Za 2)))) Zy)))))
  (Zj (Zw (zP Zf))))))
theorem Zwe (D:Zq K mg "_law_cell" ZjA ZnZ) (g:Glb K mg) :Zr P w K mg base 1 "_law_cell" Zf3:=
  ZY D Zxs 2 2 rfl rfl fun f cdv A outer s H E hr=>(Ze (ZG (ZB (Za 0)) (Zj (Zw (ZH ZI (Za 0) (Zu zj (Za 1) (Z9 Zcp g.b_len PySem.boot_len (Zb (Za 0) Zf)))))) Zy)
  (Zj (Zw Zi)))
theorem Zwd (D:Zq K mg "_law_mix" Zjz ZnY) (g:Glb K mg) (zd84:Zr P w K mg base 1 "_law_cell" Zf3):Zr P w K mg base 2 "_law_mix" zv:=
  ZY D zc85 2 3 rfl rfl fun f cdv A outer s H E hr=>(Ze (Zz 2 zc85.nd (Zu zj (Zu ZK (Zh zd84 hr (by decide) (Zb (Za 0) (Zb (Za 1) Zf))) (Zu ZdV Zi (Zu ZK (Za 1) Zi))) Zi))
  (Ze (Zz 2 zc85.nd (Zu zj (Zu ZdV (Za 2) Zi) Zi))
  (Zj (Zw (Zu zj (Zu ZK (Zu ZdV (Zu Zb0 (Za 2) Zi) Zi) (Za 2)) Zi)))))
theorem Zwc (D:Zq K mg "_law_two" Zjy ZnX) (g:Glb K mg) :Zr P w K mg base 1 "_law_two" ZdB:=
  ZY D Zxr 1 1 rfl rfl fun f cdv A outer s H E hr=>(Zj (Zw (zP (Zb (Zu Zb0 (Za 0) Zi) (Zb (Zu zj (Za 0) Zi) Zf)))))
theorem Zwb (D:Zq K mg "_law_folded" Zjx ZnW) (g:Glb K mg) :Zr P w K mg base 1 "_law_folded" Zc0:=
  ZY D zc87 1 3 rfl rfl fun f cdv A outer s H E hr=>(Ze (Zz 1 zc87.nd Zi)
  (Ze (Zi2 PassesOwn.never (Zeo g.b_range (Zb (Z9 Zcp g.b_len PySem.boot_len (Zb (Za 0) Zf)) Zf)) (ZgM 2 zc87.nd) (Zj (Zz 1 zc87.nd (Zu ZK (Za 1) (Zu ZdV (ZH ZI (Za 0) (Za 2)) (ZH ZI (zP (Zb Zi (Zb Zi Zf))) (Zu zj (Za 2) Zi)))))))
  (Ze (Zhb 200 PassesOwn.never (ZA ZhU (Za 1) Zi) (Zj (Zz 1 zc87.nd (Zu ZK (Zu zj (Za 1) Zi) (Zu Zb0 (Za 1) Zi)))))
  (Zj (Zw (Za 1))))))
theorem Zwa (D:Zq K mg "_law_bytes" Zjw ZnV) (g:Glb K mg) (zd87:Zr P w K mg base 1 "_law_folded" Zc0) (zd86:Zr P w K mg base 1 "_law_two" ZdB):Zr P w K mg base 2 "_law_bytes" ZaQ:=
  ZY D zc88 1 3 rfl rfl fun f cdv A outer s H E hr=>(Ze (Zz 1 zc88.nd (Zu ZK (Zh zd86 hr (by decide) (Zb (ZH ZI (Za 0) Zi) Zf)) (Zh zd86 hr (by decide) (Zb (ZH ZI (Za 0) Zi) Zf))))
  (Ze (Zi2 PassesOwn.never (Zqd (Zaw (Za 0) (z6 Zi) (z6 Zi))) (ZgM 2 zc88.nd) (Zj (Zz 1 zc88.nd (Zu ZK (Zu ZK (Za 1) (Zh zd86 hr (by decide) (Zb (Zu Zb0 (Za 2) Zi) Zf))) (Zh zd86 hr (by decide) (Zb (Zu zj (Za 2) Zi) Zf))))))
  (Ze (Zz 1 zc88.nd (Zu ZK (Zu ZK (Zu ZK (Za 1) (zP (Zb (ZH ZI (zP (Zb Zi (Zb Zi Zf))) (Zca ZvG g.b_int PyProof.Rows.boot_int (Zb (zl ZhU (ZH ZI (Za 0) Zi) Zi) Zf))) (Zb (ZH ZI (Za 0) Zi) Zf)))) (Zh zd86 hr (by decide) (Zb (ZH ZI (Za 0) Zi) Zf))) (zP (Zb Zi (Zb Zi (Zb Zi (Zb Zi Zf)))))))
  (Ze (ZG (ZA ZhU (ZH ZI (Za 0) Zi) Zi) (Zj (Zz 1 zc88.nd (Zu ZK (Zu ZK (Za 1) (zP (Zb Zi (Zb Zi Zf)))) (Zh zd86 hr (by decide) (Zb (ZH ZI (Za 0) Zi) Zf))))) Zy)
  (Ze (Zz 1 zc88.nd (Zu ZK (Za 1) (Zca ZqL g.b_list PyProof.Rows.boot_list (Zb (ZH ZI (Za 0) Zi) Zf))))
  (Zj (Zw (Zu ZK (Zu ZK (Zaw (Za 1) ZaP (z6 Zi)) (Zh zd86 hr (by decide) (Zb (Zu ZeE Zi (Zh zd87 hr (by decide) (Zb (Za 1) Zf))) Zf))) (Zaw (Za 1) (z6 Zi) ZaP)))))))))
theorem Zv9 (D:Zq K mg "_law_any" ZiB ZnU) (g:Glb K mg) (zd85:Zr P w K mg base 2 "_law_mix" zv):Zr P w K mg base 3 "_law_any" Zij:=
  ZY D zc89 2 11 rfl rfl fun f cdv A outer s H E hr=>(Ze (Zz 2 zc89.nd (Zu zj (Zh zd85 hr (by decide) (Zb (Za 0) (Zb (Za 1) Zf))) Zi))
  (Ze (Zz 3 zc89.nd Zi)
  (Ze (ZG (MW.mt (ZbX (ZA (zu hr.units) (Zu zj (Zu Zb0 (Za 2) Zi) Zi) Zi) (Zad (ZA ZhU (Zu zj (Zh zd85 hr (by decide) (Zb (Za 0) (Zb (Zu ZK (Za 1) Zi) Zf))) Zi) Zi)))) (Ze (Zz 3 zc89.nd (ZH ZI (zP (Zb Zi (Zb Zi (Zb Zi (Zb Zi (Zb Zi (Zb Zi Zf))))))) (Zu zj (Zh zd85 hr (by decide) (Zb (Za 0) (Zb (Zu ZK (Za 1) Zi) Zf))) Zi)))
    (Zj (ZG (ZA (zu hr.units) (Za 3) Zi) (Zj (Zz 3 zc89.nd (Zu ZK Zi (Zu zj (Zh zd85 hr (by decide) (Zb (Za 0) (Zb (Zu ZK (Za 1) Zi) Zf))) Zi)))) Zy))) Zy)
  (Ze (Zid 4 zc89.nd Zf)
  (Ze (Zi2 PassesOwn.never (Zeo g.b_range (Zb Zi Zf)) (ZgM 5 zc89.nd) (Ze (Zz 6 zc89.nd (Zh zd85 hr (by decide) (Zb (Za 0) (Zb (Zu ZK (Zu ZK (Za 1) Zi) (Za 5)) Zf))))
    (Ze (ZG (ZA (zu hr.units) (Zu zj (Za 6) Zi) Zi) (Zj (Zz 6 zc89.nd (ZH ZI (zP (Zb Zi (Zb Zi (Zb Zi (Zb Zi (Zb Zi (Zb Zi (Zb Zi Zf)))))))) (Zu zj (Zu Zb0 (Za 6) Zi) Zi)))) Zy)
    (Zj (Zif 4 (Za 6) (hpe:=fun h=>Zmy PySem.F.plainAttrs_list PySem.F.slot_list_append PySem.F.type_list_append Zen h (ZbI (Za 6) ZdM)))))))
  (Ze (Zz 7 zc89.nd (Z5 (Zb (Zu zj (Zh zd85 hr (by decide) (Zb (Za 0) (Zb (Zu ZK (Za 1) Zi) Zf))) Zi) Zf)))
  (Ze (Zz 7 zc89.nd (Zu ZK (Za 7) (Z5 (Zb (Zu zj (Zh zd85 hr (by decide) (Zb (Za 0) (Zb (Zu ZK (Za 1) Zi) Zf))) Zi) Zf))))
  (Ze (Zz 8 zc89.nd (ZH ZI (zP (Zb Zi (Zb Zi (Zb Zi (Zb Zi (Zb Zi Zf)))))) (Zu zj (Zh zd85 hr (by decide) (Zb (Za 0) (Zb (Zu ZK (Za 1) Zi) Zf))) Zi)))
  (Ze (ZG (ZA (zu hr.units) (Za 8) Zi) (Zj (Zz 8 zc89.nd (Zu zj (Zh zd85 hr (by decide) (Zb (Za 0) (Zb (Zu ZK (Za 1) Zi) Zf))) Zi))) Zy)
  (Ze (Zz 9 zc89.nd (Zca Zjl g.b_tuple PyProof.Rows.boot_tuple (Zb (Zvi (show ZaU _ (Zg ZiB) "_law_k" ["_law_script","_law_base","_law_flags","_law_most","_law_numbers","_law_k","_law_number","_law_ports","_law_size","_law_data","_law_window"] ["_law_k","_law_script","_law_base"] [0,1] from ⟨rfl,by decide +kernel,by decide +kernel,by decide +kernel,by decide +kernel,by decide +kernel,rfl,by decide,by decide +kernel⟩) rfl rfl (Zeo g.b_range (Zb (Za 8) Zf)) (fun _ _ _ _ _=>(Zu zj (Zu Zb0 (Zh zd85 hr (by decide) (Zb (Za 1) (Zb (Zu ZK (Zu ZK (Za 2) Zi) (Za 0)) Zf))) Zi) Zi))) Zf)))
  (Ze (ZG (ZA (zu hr.units) (Zu zj (Zh zd85 hr (by decide) (Zb (Za 0) (Zb (Zu ZK (Za 1) Zi) Zf))) Zi) Zi) (Zj (Zz 9 zc89.nd (Zu ZdV (Z5 (Zb Zi Zf)) (Za 8)))) Zy)
  (Ze (Zz 10 zc89.nd (Zu zj (Zh zd85 hr (by decide) (Zb (Za 0) (Zb (Zu ZK (Za 1) Zi) Zf))) Zi))
  (Zj (Zie 4 (Zw (Zu ZK (Za 7) (Z5 (Zb (ZH ZI (Za 4) Zi) (Zb (ZH ZI (Za 4) Zi) (Zb (Za 2) (Zb (Za 10) (Zb (Za 3) (Zb (Za 9) Zf)))))))))))))))))))))))
theorem ZfZ {CC:Addr} (D:Me0 K mg "Host" "calls" "Host.calls" ZiC Zm5) (O:PyProof.Rows.OwnCls "NoPort" CC Ziq "ValueError.__new__" mg base) (g:Glb K mg) (zd80:Zr P w K mg base 1 "live_end" zM) (zd81:Zr P w K mg base 6 "made_end" Zaq):Ze3 P w K mg base 7 CC "Host" "calls" Zac:=by
  obtain ⟨f,fd,F,b,mt⟩:=D
  exact ⟨⟨f,fd,_,mt,ZtD "NoPort" F Zum 3 3 rfl rfl rfl O PySem.F.excBase_ValueError (by decide) PySem.F.excBase_ValueError rfl (by decide) (fun cdv A outer s H E hr=>⟨(ZA Zdl (Zh zd80 hr (by decide) (Zb (Za 0) (Zb (Za 1) (Zb (Za 2) Zf)))) zO),(Zj (Zw (Zh zd81 hr (by decide) (Zb (Za 0) (Zb (Za 1) (Zb (Za 2) (Zb zw Zf)))))))⟩),b⟩,g.k_Host⟩
theorem ZeR {CC:Addr} (D:Me0 K mg "Host" "listens" "Host.listens" ZiD Zm6) (O:PyProof.Rows.OwnCls "NoPort" CC Ziq "ValueError.__new__" mg base) (g:Glb K mg) :Ze3 P w K mg base 1 CC "Host" "listens" zN:=by
  obtain ⟨f,fd,F,b,mt⟩:=D
  exact ⟨⟨f,fd,_,mt,ZtD "NoPort" F Zun 2 2 rfl rfl rfl O PySem.F.excBase_ValueError (by decide) PySem.F.excBase_ValueError rfl (by decide) (fun cdv A outer s H E hr=>⟨(Zi1 hr (Za 1) (Zm (Zt ⟨g.k_Host,g.zn30⟩) (Za 0))),(Zj (ZmJ hr (Zm (Zt ⟨g.k_Host,g.zn30⟩) (Za 0)) (Za 1) (Zi4 Zf)))⟩),b⟩,g.k_Host⟩
theorem ZdU {CC:Addr} (D:Me0 K mg "Host" "taken_end" "Host.taken_end" ZiA ZnR) (O:PyProof.Rows.OwnCls "NoPort" CC Ziq "ValueError.__new__" mg base) (g:Glb K mg) :Ze3 P w K mg base 1 CC "Host" "taken_end" zp:=by
  obtain ⟨f,fd,F,b,mt⟩:=D
  exact ⟨⟨f,fd,_,mt,ZtD "NoPort" F zc92 2 3 rfl rfl rfl O PySem.F.excBase_ValueError (by decide) PySem.F.excBase_ValueError rfl (by decide) (fun cdv A outer s H E hr=>⟨(Zns hr (Za 1) (Zm (Zt ⟨g.k_Host,g.zn30⟩) (Za 0))),(Ze (Znu 2 zc92.nd (show ZaU _ (Zg ZiA) "end" ["self","port","ready"] ["end"] [] from ⟨rfl,by decide +kernel,by decide +kernel,by decide +kernel,by decide +kernel,by decide +kernel,rfl,by decide,by decide +kernel⟩) rfl rfl (Zqd (Zqf hr (Zm (Zt ⟨g.k_Host,g.zn30⟩) (Za 0)) (Za 1) (fun _ _=>rfl))) (fun _ _ _ _ _=>⟨(ZA ZmE (Zm (Zt ⟨g.k_End,g.zn16⟩) (Za 0)) (Z5 (Zb (ZD g.zc17) (Zb (ZD g.zc37) (Zb (ZD g.zc2) Zf)))) (by with_unfolding_all rfl)),(Za 0)⟩))
  (Ze (ZG (ZA (zu hr.units) (Z9 Zcp g.b_len PySem.boot_len (Zb (Za 2) Zf)) Zi) (Zj (Zw zO)) Zy)
  Znt))⟩),b⟩,g.k_Host⟩
theorem Zv8 (D:Zq K mg "_law_refused" Zjv ZnT) (g:Glb K mg) {CC WW:Addr} (EK:Zr8 base mg CC WW "NoPort" "WireError") (d_p_Host_callsX:Ze3 P w K mg base 7 CC "Host" "calls" Zac) (d_p_Host_listensX:Ze3 P w K mg base 1 CC "Host" "listens" zN) (d_p_Host_taken_endX:Ze3 P w K mg base 1 CC "Host" "taken_end" zp):Zr P w K mg base 8 "_law_refused" Z8:=
  ZY D zc90 4 6 rfl rfl fun f cdv A outer s H E hr=>(Ze (Zz 4 zc90.nd zw)
  (Ze (ZrC 5 4 (j:=0) rfl (Zst rfl (ZA (zu hr.units) (Za 1) Zi) (Zi0 rfl d_p_Host_listensX hr (by decide) (Za 0) (Zb (Za 2) Zf)) (Zst rfl (ZA (zu hr.units) (Za 1) Zi) (Zi0 rfl d_p_Host_callsX hr (by decide) (Za 0) (Zb (Za 2) (Zb (Za 3) Zf))) (Zi0 rfl d_p_Host_taken_endX hr (by decide) (Za 0) (Zb (Za 2) Zf)))) EK rfl rfl zc90.nd (by decide))
  (Zj (Zw (Za 4)))))
theorem Zv7 {fl:Addr} {fdl:FuncData} (F:Fun K "law" "law" ZgR fl fdl) (g:Glb K mg) (zd75:MMk P w K mg base 1 "Host" z0) (zd78:Zek P w K mg base 9 "Host" "arrives" p_Host_arrives) (zd77:Zek P w K mg base 7 "Host" "calls" ZaO) (zd76:Zek P w K mg base 1 "Host" "listens" zd) (zd79:Zek P w K mg base 9 "Host" "sends" ZJ) (zd89:Zr P w K mg base 3 "_law_any" Zij) (zd88:Zr P w K mg base 2 "_law_bytes" ZaQ) (zd85:Zr P w K mg base 2 "_law_mix" zv) (zd90:Zr P w K mg base 8 "_law_refused" Z8):FnOk P w K mg base CX0 10 fl fdl ZnS (spM ⟨zc mg,K⟩ ZmQ):=
  mfn F zc91 1 14 rfl rfl fun cdv A outer s H E hr=>(Ze (Zz 1 zc91.nd (Zh zd89 hr (by decide) (Zb (Za 0) (Zb Zi Zf))))
  (Ze (Zz 2 zc91.nd (Zi3 zd75 hr (by decide) (Zb (Zh zd85 hr (by decide) (Zb (Za 0) (Zb Zi Zf))) Zf)))
  (Ze (Zz 3 zc91.nd (Zu zj (Zh zd85 hr (by decide) (Zb (Za 0) (Zb Zi Zf))) Zi))
  (Ze (Zz 4 zc91.nd (ZH ZI (Za 1) Zi))
  (Ze (Zz 5 zc91.nd (zl (zu hr.units) (Zu zj (Zh zd85 hr (by decide) (Zb (Za 0) (Zb Zi Zf))) Zi) Zi))
  (Ze (ZG (ZB (Za 5)) (Zj (ZW (Zb4 zd76 hr (by decide) (Za 2) (Zb (Za 3) Zf)))) Zy)
  (Ze (ZG (MW.mt (ZcY (ZA (Zfa hr.units) (Zh zd90 hr (by decide) (Zb (Za 2) (Zb Zi (Zb (Za 3) (Zb Zi Zf))))) (Za 5)) (Zah (ZaA (ZB (Zh zd90 hr (by decide) (Zb (Za 2) (Zb Zi (Zb (Za 3) (Zb Zi Zf)))))))))) (Zj (Zw zw)) Zy)
  (Ze (ZG (MW.mt (ZcY (ZB (Zh zd90 hr (by decide) (Zb (Za 2) (Zb Zi (Zb (Za 3) (Zb Zi Zf)))))) (Zah (ZaA (ZB (Zh zd90 hr (by decide) (Zb (Za 2) (Zb Zi (Zb (Zu ZK (Za 3) Zi) (Zb Zi Zf)))))))))) (Zj (Zw zw)) Zy)
  (Ze (Zz 6 zc91.nd (zl (zu hr.units) (Zu zj (Zh zd85 hr (by decide) (Zb (Za 0) (Zb Zi Zf))) Zi) Zi))
  (Ze (ZG (ZB (Za 6)) (Ze (ZW (Zb4 zd77 hr (by decide) (Za 2) (Zb (Zu ZK (Za 3) Zi) (Zb (Za 4) Zf))))
    (Zj (ZW (Zb4 zd79 hr (by decide) (Za 2) (Zb Zi Zf))))) Zy)
  (Ze (ZG (ZA (Zfa hr.units) (Zh zd90 hr (by decide) (Zb (Za 2) (Zb Zi (Zb (Zu ZK (Za 3) Zi) (Zb (Za 4) Zf))))) (Za 6)) (Zj (Zw zw)) Zy)
  (Ze (Zz 2 zc91.nd (Zi3 zd75 hr (by decide) (Zb (Zh zd85 hr (by decide) (Zb (Za 0) (Zb Zi Zf))) Zf)))
  (Ze (ZW (Zb4 zd76 hr (by decide) (Za 2) (Zb (Za 3) Zf)))
  (Ze (Zz 7 zc91.nd (Zu ZK (Za 3) (Zu zj (Zh zd85 hr (by decide) (Zb (Za 0) (Zb Zi Zf))) Zi)))
  (Ze (Zz 8 zc91.nd (Zh zd88 hr (by decide) (Zb (Zu ZK (Z5 (Zb (Za 4) (Zb (Za 7) Zf))) (Zaw (Za 1) (z6 Zi) ZaP)) Zf)))
  (Ze (Zz 9 zc91.nd (Zu zj (Zh zd85 hr (by decide) (Zb (Za 0) (Zb Zi Zf))) (Z9 Zcp g.b_len PySem.boot_len (Zb (Za 8) Zf))))
  (Ze (Zz 10 zc91.nd (Zu ZK (Zu ZK (Zaw (Za 8) ZaP (z6 (Za 9))) (zP (Zb (Zu zj (Zu ZK (ZH ZI (Za 8) (Za 9)) Zi) Zi) Zf))) (Zaw (Za 8) (z6 (Zu ZK (Za 9) Zi)) ZaP)))
  (Ze (ZG (MW.mt (ZcY (ZA Zdl (Zb4 zd78 hr (by decide) (Za 2) (Zb (Za 10) (Zb Zi Zf))) zw) (ZcY (ZA (Zfa hr.units) (Zb4 zd79 hr (by decide) (Za 2) (Zb Zi Zf)) (zP Zf)) (Zah (ZA Zdl (Zb4 zd78 hr (by decide) (Za 2) (Zb (Za 8) (Zb Zi Zf))) zw))))) (Zj (Zw zw)) Zy)
  (Ze (Zz 11 zc91.nd (ZH ZI (Za 1) Zi))
  (Ze (Zz 12 zc91.nd (Zu ZK (Zu ZK (Z9 Zcp g.b_len PySem.boot_len (Zb (ZH ZI (Za 1) Zi) Zf)) (Zu zj (Zu Zb0 (Za 11) Zi) Zi)) (Zu zj (Za 11) Zi)))
  (Ze (Zz 13 zc91.nd (zP Zf))
  (Ze (ZG (ZA (zu hr.units) (Zu zj (Zu Zb0 (Za 11) Zi) Zi) Zi) (Zj (ZG (ZA (zu hr.units) (Zu zj (Zu Zb0 (Za 11) Zi) Zi) Zi) (Zj (Zz 13 zc91.nd (Zh zd88 hr (by decide) (Zb (Z5 (Zb (Za 7) (Zb (Za 4) (Zb (ZH ZI (Za 1) Zi) (Zb Zi (Zb Zi (Zb Zi (Zb Zi (Zb (Z5 Zf) Zf))))))))) Zf)))) (Zj (ZG (MW.mt (ZbX (ZA (zu hr.units) (Za 7) (Za 3)) (Zad (ZA (zu hr.units) (Zu zj (Zu Zb0 (Za 11) Zi) Zi) Zi)))) (Zj (Zz 13 zc91.nd (Zh zd88 hr (by decide) (Zb (Z5 (Zb (Za 7) (Zb (Za 4) (Zb (Zh zd85 hr (by decide) (Zb (Za 0) (Zb Zi Zf))) (Zb (Zu zj (Zu ZK (ZH ZI (Za 1) Zi) Zi) Zi) (Zb Zi (Zb Zi (Zb Zi (Zb (Z5 Zf) Zf))))))))) Zf)))) (Zj (Zz 13 zc91.nd (Zh zd88 hr (by decide) (Zb (Z5 (Zb (Za 7) (Zb (Za 4) (Zb Zi (Zb (Zu zj (Zu ZK (ZH ZI (Za 1) Zi) (Za 12)) Zi) (Zb Zi (Zb Zi (Zb Zi (Zb (Z5 Zf) Zf))))))))) Zf)))))))) Zy)
  (Zj (Zw (ZaW (zl (zu hr.units) (Zb4 zd79 hr (by decide) (Za 2) (Zb Zi Zf)) (Za 13)) (Zby (Zlb (zl (zu hr.units) (Za 13) (zP Zf)) (Zby (zl (zu hr.units) (Zb4 zd79 hr (by decide) (Za 2) (Zb Zi Zf)) (zP Zf))))))))))))))))))))))))))))))
theorem Ztz {fl:Addr} {fdl:FuncData} (F:Fun K "law" "law" ZgR fl fdl) (zD0:Mk0 K mg "Pile" "Pile.__init__" zs0 zP0) (zD1:Zq K mg "room" zs1 zP1) (zD2:Zq K mg "lay" zs2 zP2) (zD3:Zq K mg "take" zs3 zP3) (zD4:Zq K mg "plus" zs4 zP4) (zD5:Zq K mg "offset" zs5 zP5) (zD6:Zq K mg "past" zs6 zP6) (zD7:Mk0 K mg "End" "End.__init__" zs7 zP7) (zD8:Zq K mg "start_timer" zs8 zP8) (zD9:Zq K mg "our_window" zs9 zP9) (zD10:Zq K mg "has_sent_fin" ZkK Zo9) (zD11:Zq K mg "folded" ZkJ Zo8) (zD12:Zq K mg "sum_of" ZkI Zo7) (zD13:Zq K mg "length" ZkH Zo6) (zD14:Zq K mg "has" ZkG Zo5) (zD15:Zq K mg "bears" ZkF Zo4) (zD16:Zq K mg "put" ZkE Zo3) (zD17:Zq K mg "bytes_ahead_of_sum" ZkD Zo2) (zD18:Zq K mg "byte_of_head" ZkC Zo1) (zD19:Zq K mg "bytes_of_most" ZkB Zo0) (zD20:Zq K mg "two_bytes" ZkA ZoZ) (zD21:Zq K mg "four_bytes" Zkz ZoY) (zD22:Zq K mg "is_right" Zky ZoX) (zD23:Zq K mg "head_of" Zkx ZoW) (zD24:Zq K mg "is_right_long_head" Zkw ZoV) (zD25:Zq K mg "get" Zkv ZoU) (zD26:Zq K mg "two_at" Zku ZoT) (zD27:Zq K mg "four_at" Zkt ZoS) (zD28:Zq K mg "reset_for" Zks ZoR) (zD29:Zq K mg "owe_reset_for" Zkr ZoQ) (zD30:Zq K mg "come_to_closed" Zkq ZoP) (zD31:Zq K mg "come_to_listen" Zkp ZoO) (zD32:Zq K mg "hear_syn" Zko ZoN) (zD33:Zq K mg "come_to_syn_sent" Zkn ZoM) (zD34:Zq K mg "answers_syn" Zkm ZoL) (zD35:Zq K mg "refuse" Zkl ZoK) (zD36:Zq K mg "go_on_from_syn_sent" Zkk ZoJ) (zD37:Zq K mg "arrive" Zkj ZoI) (zD38:Zq K mg "is_for" Zki ZoH) (zD39:Zq K mg "come_to_stream" Zkh ZoG) (zD40:Zq K mg "fits" Zkg ZoF) (zD41:Zq K mg "is_in_window" Zkf ZoE) (zD42:Zq K mg "turn_away" Zke ZoD) (zD43:Zq K mg "hear_reset" Zkd ZoC) (zD44:Zq K mg "goes_on_behind_answer" Zkc ZoB) (zD45:Zq K mg "has_answered_syn" Zkb ZoA) (zD46:Zq K mg "take_window" Zka Zoz) (zD47:Zq K mg "hear_answer" Zj9 Zoy) (zD48:Zq K mg "is_newer" Zj8 Zox) (zD49:Zq K mg "end_what_is_acknowledged" Zj7 Zow) (zD50:Zq K mg "hear_stream" Zj6 Zov) (zD51:Zq K mg "keep_data" Zj5 Zou) (zD52:Zq K mg "keep_fin" Zj4 Zot) (zD53:Zq K mg "draw_in_order" Zj3 Zos) (zD54:Zq K mg "hear_fin" Zj2 Zor) (zD55:Zq K mg "opened" Zj1 Zoq) (zD56:Zq K mg "send" Zj0 Zop) (zD57:Zq K mg "going" ZjZ Zoo) (zD58:Zq K mg "paid_reset" ZjY Zon) (zD59:Zq K mg "is_due" ZjX Zom) (zD60:Zq K mg "again" ZjW Zol) (zD61:Zq K mg "most_at_once" ZjV Zok) (zD62:Zq K mg "paid_syn" ZjU Zoj) (zD63:Zq K mg "segment_of" ZjT Zoi) (zD64:Zq K mg "going_as_new" ZjS Zoh) (zD65:Zq K mg "new_syn" ZjR Zog) (zD66:Zq K mg "has_more" ZjQ Zof) (zD67:Zq K mg "has_new_data" ZjP Zoe) (zD68:Zq K mg "unsent" ZjO Zod) (zD69:Zq K mg "has_new_fin" ZjN Zoc) (zD70:Zq K mg "new_piece" ZjM Zob) (zD71:Zq K mg "new_data" ZjL Zoa) (zD72:Zq K mg "new_fin" ZjK Zn9) (zD73:Zq K mg "going_as_probe" ZjJ Zn8) (zD74:Zq K mg "going_as_answer" ZjI Zn7) (zD75:Mk0 K mg "Host" "Host.__init__" ZjH Zn6) (zD76:Me0 K mg "Host" "listens" "Host.listens" ZiD Zm6) (zD77:Me0 K mg "Host" "calls" "Host.calls" ZiC Zm5) (zD78:Me0 K mg "Host" "arrives" "Host.arrives" ZjG Zn5) (zD79:Me0 K mg "Host" "sends" "Host.sends" ZjF Zn4) (zD80:Zq K mg "live_end" ZjE Zn3) (zD81:Zq K mg "made_end" ZjD Zn2) (zD82:Zq K mg "end_for" ZjC Zn1) (zD83:Zq K mg "is_call" ZjB Zn0) (zD84:Zq K mg "_law_cell" ZjA ZnZ) (zD85:Zq K mg "_law_mix" Zjz ZnY) (zD86:Zq K mg "_law_two" Zjy ZnX) (zD87:Zq K mg "_law_folded" Zjx ZnW) (zD88:Zq K mg "_law_bytes" Zjw ZnV) (zD89:Zq K mg "_law_any" ZiB ZnU) (zD90:Zq K mg "_law_refused" Zjv ZnT) (zD92:Me0 K mg "Host" "taken_end" "Host.taken_end" ZiA ZnR) (g:Glb K mg) {CC WW:Addr} (O:PyProof.Rows.OwnCls "NoPort" CC Ziq "ValueError.__new__" mg base) (EK:Zr8 base mg CC WW "NoPort" "WireError"):FnOk P w K mg base CX0 10 fl fdl ZnS (spM ⟨zc mg,K⟩ ZmQ):=by
  have zd0:=zo0 (P:=P) (w:=w) (base:=base) zD0 g
  have zd1:=zo1 (P:=P) (w:=w) (base:=base) zD1 g
  have zd2:=zo2 (P:=P) (w:=w) (base:=base) zD2 g zd1
  have zd3:=zo3 (P:=P) (w:=w) (base:=base) zD3 g
  have zd4:=zo4 (P:=P) (w:=w) (base:=base) zD4 g
  have zd5:=zo5 (P:=P) (w:=w) (base:=base) zD5 g
  have zd6:=zo6 (P:=P) (w:=w) (base:=base) zD6 g zd5
  have zd7:=zo7 (P:=P) (w:=w) (base:=base) zD7 g zd0 zd4
  have zd8:=zo8 (P:=P) (w:=w) (base:=base) zD8 g
  have zd9:=zo9 (P:=P) (w:=w) (base:=base) zD9 g zd1
  have zd10:=Zxq (P:=P) (w:=w) (base:=base) zD10 g zd6
  have zd11:=Zxp (P:=P) (w:=w) (base:=base) zD11 g
  have zd12:=Zxo (P:=P) (w:=w) (base:=base) zD12 g zd11
  have zd14:=Zxm (P:=P) (w:=w) (base:=base) zD14 g
  have zd13:=Zxn (P:=P) (w:=w) (base:=base) zD13 g zd14
  have zd15:=Zxl (P:=P) (w:=w) (base:=base) zD15 g zd14
  have zd18:=Zxi (P:=P) (w:=w) (base:=base) zD18 g
  have zd20:=Zxg (P:=P) (w:=w) (base:=base) zD20 g
  have zd21:=Zxf (P:=P) (w:=w) (base:=base) zD21 g zd20
  have zd17:=Zxj (P:=P) (w:=w) (base:=base) zD17 g zd18 zd21 zd20
  have zd19:=Zxh (P:=P) (w:=w) (base:=base) zD19 g zd20
  have zd16:=Zxk (P:=P) (w:=w) (base:=base) zD16 g zd17 zd19 zd12 zd20
  have zd23:=Zxd (P:=P) (w:=w) (base:=base) zD23 g
  have zd26:=Zxa (P:=P) (w:=w) (base:=base) zD26 g
  have zd24:=Zxc (P:=P) (w:=w) (base:=base) zD24 g zd14 zd26
  have zd22:=Zxe (P:=P) (w:=w) (base:=base) zD22 g zd18 zd11 zd23 zd24 zd26
  have zd27:=Zw9 (P:=P) (w:=w) (base:=base) zD27 g zd26
  have zd25:=Zxb (P:=P) (w:=w) (base:=base) zD25 g zd27 zd23 zd22 zd26
  have zd28:=Zw8 (P:=P) (w:=w) (base:=base) zD28 g zd15 zd13 zd4
  have zd29:=Zw7 (P:=P) (w:=w) (base:=base) zD29 g zd15 zd28
  have zd30:=Zw6 (P:=P) (w:=w) (base:=base) zD30 g zd29
  have zd32:=Zw4 (P:=P) (w:=w) (base:=base) zD32 g zd15 zd4
  have zd31:=Zw5 (P:=P) (w:=w) (base:=base) zD31 g zd15 zd32 zd29
  have zd34:=Zw2 (P:=P) (w:=w) (base:=base) zD34 g zd4
  have zd36:=Zw0 (P:=P) (w:=w) (base:=base) zD36 g zd15 zd8
  have zd35:=Zw1 (P:=P) (w:=w) (base:=base) zD35 g zd15
  have zd33:=Zw3 (P:=P) (w:=w) (base:=base) zD33 g zd34 zd15 zd36 zd32 zd29 zd35
  have zd41:=ZwV (P:=P) (w:=w) (base:=base) zD41 g zd5 zd9
  have zd40:=ZwW (P:=P) (w:=w) (base:=base) zD40 g zd41 zd13 zd5 zd4
  have zd49:=ZwN (P:=P) (w:=w) (base:=base) zD49 g zd10
  have zd46:=ZwQ (P:=P) (w:=w) (base:=base) zD46 g
  have zd45:=ZwR (P:=P) (w:=w) (base:=base) zD45 g zd29 zd46
  have zd48:=ZwO (P:=P) (w:=w) (base:=base) zD48 g zd6
  have zd47:=ZwP (P:=P) (w:=w) (base:=base) zD47 g zd48 zd5 zd6 zd8 zd3 zd46
  have zd44:=ZwS (P:=P) (w:=w) (base:=base) zD44 g zd49 zd45 zd47 zd6
  have zd43:=ZwT (P:=P) (w:=w) (base:=base) zD43 g
  have zd53:=ZwJ (P:=P) (w:=w) (base:=base) zD53 g zd2 zd4
  have zd54:=ZwI (P:=P) (w:=w) (base:=base) zD54 g zd4
  have zd51:=ZwL (P:=P) (w:=w) (base:=base) zD51 g zd41 zd4
  have zd52:=ZwK (P:=P) (w:=w) (base:=base) zD52 g zd15 zd41 zd4
  have zd50:=ZwM (P:=P) (w:=w) (base:=base) zD50 g zd53 zd54 zd51 zd52
  have zd42:=ZwU (P:=P) (w:=w) (base:=base) zD42 g zd15
  have zd39:=ZwX (P:=P) (w:=w) (base:=base) zD39 g zd15 zd40 zd44 zd43 zd50 zd42
  have zd38:=ZwY (P:=P) (w:=w) (base:=base) zD38 g
  have zd37:=ZwZ (P:=P) (w:=w) (base:=base) zD37 g zd30 zd31 zd39 zd33 zd25 zd38 zd22
  have zd55:=ZwH (P:=P) (w:=w) (base:=base) zD55 g zd7
  have zd61:=ZwB (P:=P) (w:=w) (base:=base) zD61 g
  have zd62:=ZwA (P:=P) (w:=w) (base:=base) zD62 g
  have zd63:=Zwz (P:=P) (w:=w) (base:=base) zD63 g zd9
  have zd60:=ZwC (P:=P) (w:=w) (base:=base) zD60 g zd61 zd5 zd62 zd63
  have zd74:=Zwo (P:=P) (w:=w) (base:=base) zD74 g zd63
  have zd68:=Zwu (P:=P) (w:=w) (base:=base) zD68 g zd5
  have zd67:=Zwv (P:=P) (w:=w) (base:=base) zD67 g zd68
  have zd69:=Zwt (P:=P) (w:=w) (base:=base) zD69 g zd68
  have zd66:=Zww (P:=P) (w:=w) (base:=base) zD66 g zd67 zd69
  have zd71:=Zwr (P:=P) (w:=w) (base:=base) zD71 g zd61 zd5 zd4 zd63 zd68
  have zd72:=Zwq (P:=P) (w:=w) (base:=base) zD72 g zd4 zd63
  have zd70:=Zws (P:=P) (w:=w) (base:=base) zD70 g zd67 zd71 zd72
  have zd65:=Zwx (P:=P) (w:=w) (base:=base) zD65 g zd62 zd4 zd8
  have zd64:=Zwy (P:=P) (w:=w) (base:=base) zD64 g zd66 zd70 zd65 zd5 zd8
  have zd59:=ZwD (P:=P) (w:=w) (base:=base) zD59 g
  have zd73:=Zwp (P:=P) (w:=w) (base:=base) zD73 g zd66 zd59 zd70 zd8
  have zd58:=ZwE (P:=P) (w:=w) (base:=base) zD58 g
  have zd57:=ZwF (P:=P) (w:=w) (base:=base) zD57 g zd60 zd74 zd64 zd73 zd59 zd58
  have zd56:=ZwG (P:=P) (w:=w) (base:=base) zD56 g zd57 zd16
  have zd75:=Zwn (P:=P) (w:=w) (base:=base) zD75 g
  have zd76:=Zwm (P:=P) (w:=w) (base:=base) zD76 g
  have zd80:=Zwi (P:=P) (w:=w) (base:=base) zD80 g
  have zd81:=Zwh (P:=P) (w:=w) (base:=base) zD81 g zd55 zd4
  have zd77:=Zwl (P:=P) (w:=w) (base:=base) zD77 g zd80 zd81
  have zd83:=Zwf (P:=P) (w:=w) (base:=base) zD83 g zd15
  have zd82:=Zwg (P:=P) (w:=w) (base:=base) zD82 g zd83 zd80 zd81
  have zd78:=Zwk (P:=P) (w:=w) (base:=base) zD78 g zd37 zd15 zd82 zd25 zd22 zd28
  have zd79:=Zwj (P:=P) (w:=w) (base:=base) zD79 g zd16 zd56
  have zd84:=Zwe (P:=P) (w:=w) (base:=base) zD84 g
  have zd85:=Zwd (P:=P) (w:=w) (base:=base) zD85 g zd84
  have zd86:=Zwc (P:=P) (w:=w) (base:=base) zD86 g
  have zd87:=Zwb (P:=P) (w:=w) (base:=base) zD87 g
  have zd88:=Zwa (P:=P) (w:=w) (base:=base) zD88 g zd87 zd86
  have zd89:=Zv9 (P:=P) (w:=w) (base:=base) zD89 g zd85
  have d_p_Host_callsX:=ZfZ (P:=P) (w:=w) (base:=base) zD77 O g zd80 zd81
  have d_p_Host_listensX:=ZeR (P:=P) (w:=w) (base:=base) zD76 O g
  have d_p_Host_taken_endX:=ZdU (P:=P) (w:=w) (base:=base) zD92 O g
  have zd90:=Zv8 (P:=P) (w:=w) (base:=base) zD90 g EK d_p_Host_callsX d_p_Host_listensX d_p_Host_taken_endX
  exact Zv7 F g zd75 zd78 zd77 zd76 zd79 zd89 zd88 zd85 zd90
end
theorem us1 {p:List Value→Prop} (h:∀a,p [a]):∀us:List Value,us.length=1→p us
  | [a],_=>h a
theorem us2 {p:List Value→Prop} (h:∀a b,p [a,b]):∀us:List Value,us.length=2→p us
  | [a,b],_=>h a b
theorem us3 {p:List Value→Prop} (h:∀a b c,p [a,b,c]):∀us:List Value,us.length=3→p us
  | [a,b,c],_=>h a b c
theorem us4 {p:List Value→Prop} (h:∀a b c d,p [a,b,c,d]):∀us:List Value,us.length=4→p us
  | [a,b,c,d],_=>h a b c d
theorem us5 {p:List Value→Prop} (h:∀a b c d e,p [a,b,c,d,e]):∀us:List Value,us.length=5→p us
  | [a,b,c,d,e],_=>h a b c d e
open PySem.W
theorem ZtX {l:OpenLaw} {w:World} {K:Frag} {h:Heap} {mg:Str→Option Value} {fa CC WW f0 f1 f2 f3 f4 f5 f6 f7 f8 f9 f10 f11 f12 f13 f14 f15 f16 f17 f18 f19 f20 f21 f22 f23 f24 f25 f26 f27 f28 f29 f30 f31 f32 f33 f34 f35 f36 f37 f38 f39 f40 f41 f42 f43 f44 f45 f46 f47 f48 f49 f50 f51 f52 f53 f54 f55 f56 f57 f58 f59 f60 f61 f62 f63 f64 f65 f66 f67 f68 f69 f70 f71 f72 f73 f74 f75 f76 f77 f78 f79 f80 f81 f82 f83 f84 f85 f86 f87 f88 f89 f90 f91 f92 C_End C_Host C_Pile:Addr} (X:K.In h) (G:h.Ns mainGlobals mg) (hfa:mg "law"=some (.ref fa))
    (aC_End:nsIn K mainGlobals "End"=some (some (.ref C_End)))
    (aC_Host:nsIn K mainGlobals "Host"=some (some (.ref C_Host)))
    (aC_Pile:nsIn K mainGlobals "Pile"=some (some (.ref C_Pile)))
    {dC dW:Option Addr} {cC cW:ClassData} {sC sW:Array (Option Value)}
    (xaC:nsIn K mainGlobals "NoPort"=some (some (.ref CC))) (xaW:nsIn K mainGlobals "WireError"=some (some (.ref WW))) (xqC:excIn K CC Ziq "ValueError.__new__"=true) (xqW:excIn K WW Ziq "ValueError.__new__"=true)
    (xlC:K.lookup CC=some ⟨.type "type",dC,.cls cC,sC⟩) (xlW:K.lookup WW=some ⟨.type "type",dW,.cls cW,sW⟩) (xmC:cC.mro=Zvz CC WW) (xmW:cW.mro=ZvA WW) (xzI:nsIn K mainGlobals "isinstance"=some none) (xzV:nsIn K mainGlobals "ValueError"=some none)
    (a0:findIn K (.ref C_Pile) "__init__"=some (some (.ref f0))) (i0:isFn K (.ref f0)=true) (l0:K.lookup f0=some ⟨oc0,od0,.func (fnOf "__init__" "Pile.__init__" (Zs zs0) (Zn zs0) (Zg zs0) .none kV0 dc0 pm0 an0 cd0 ct0),sl0⟩) (c0:codeIn K cd0 "Pile.__init__"=true) (k0:keepIn K (.ref f0)=true)
    (a1:nsIn K mainGlobals "room"=some (some (.ref f1))) (l1:K.lookup f1=some ⟨oc1,od1,.func (fnOf "room" "room" (Zs zs1) (Zn zs1) (Zg zs1) .none kV1 dc1 pm1 an1 cd1 ct1),sl1⟩) (c1:codeIn K cd1 "room"=true) (k1:keepIn K (.ref f1)=true)
    (a2:nsIn K mainGlobals "lay"=some (some (.ref f2))) (l2:K.lookup f2=some ⟨oc2,od2,.func (fnOf "lay" "lay" (Zs zs2) (Zn zs2) (Zg zs2) .none kV2 dc2 pm2 an2 cd2 ct2),sl2⟩) (c2:codeIn K cd2 "lay"=true) (k2:keepIn K (.ref f2)=true)
    (a3:nsIn K mainGlobals "take"=some (some (.ref f3))) (l3:K.lookup f3=some ⟨oc3,od3,.func (fnOf "take" "take" (Zs zs3) (Zn zs3) (Zg zs3) .none kV3 dc3 pm3 an3 cd3 ct3),sl3⟩) (c3:codeIn K cd3 "take"=true) (k3:keepIn K (.ref f3)=true)
    (a4:nsIn K mainGlobals "plus"=some (some (.ref f4))) (l4:K.lookup f4=some ⟨oc4,od4,.func (fnOf "plus" "plus" (Zs zs4) (Zn zs4) (Zg zs4) .none kV4 dc4 pm4 an4 cd4 ct4),sl4⟩) (c4:codeIn K cd4 "plus"=true) (k4:keepIn K (.ref f4)=true)
    (a5:nsIn K mainGlobals "offset"=some (some (.ref f5))) (l5:K.lookup f5=some ⟨oc5,od5,.func (fnOf "offset" "offset" (Zs zs5) (Zn zs5) (Zg zs5) .none kV5 dc5 pm5 an5 cd5 ct5),sl5⟩) (c5:codeIn K cd5 "offset"=true) (k5:keepIn K (.ref f5)=true)
    (a6:nsIn K mainGlobals "past"=some (some (.ref f6))) (l6:K.lookup f6=some ⟨oc6,od6,.func (fnOf "past" "past" (Zs zs6) (Zn zs6) (Zg zs6) .none kV6 dc6 pm6 an6 cd6 ct6),sl6⟩) (c6:codeIn K cd6 "past"=true) (k6:keepIn K (.ref f6)=true)
    (a7:findIn K (.ref C_End) "__init__"=some (some (.ref f7))) (i7:isFn K (.ref f7)=true) (l7:K.lookup f7=some ⟨oc7,od7,.func (fnOf "__init__" "End.__init__" (Zs zs7) (Zn zs7) (Zg zs7) .none kV7 dc7 pm7 an7 cd7 ct7),sl7⟩) (c7:codeIn K cd7 "End.__init__"=true) (k7:keepIn K (.ref f7)=true)
    (a8:nsIn K mainGlobals "start_timer"=some (some (.ref f8))) (l8:K.lookup f8=some ⟨oc8,od8,.func (fnOf "start_timer" "start_timer" (Zs zs8) (Zn zs8) (Zg zs8) .none kV8 dc8 pm8 an8 cd8 ct8),sl8⟩) (c8:codeIn K cd8 "start_timer"=true) (k8:keepIn K (.ref f8)=true)
    (a9:nsIn K mainGlobals "our_window"=some (some (.ref f9))) (l9:K.lookup f9=some ⟨oc9,od9,.func (fnOf "our_window" "our_window" (Zs zs9) (Zn zs9) (Zg zs9) .none kV9 dc9 pm9 an9 cd9 ct9),sl9⟩) (c9:codeIn K cd9 "our_window"=true) (k9:keepIn K (.ref f9)=true)
    (a10:nsIn K mainGlobals "has_sent_fin"=some (some (.ref f10))) (l10:K.lookup f10=some ⟨oc10,od10,.func (fnOf "has_sent_fin" "has_sent_fin" (Zs ZkK) (Zn ZkK) (Zg ZkK) .none kV10 dc10 pm10 an10 cd10 ct10),sl10⟩) (c10:codeIn K cd10 "has_sent_fin"=true) (k10:keepIn K (.ref f10)=true)
    (a11:nsIn K mainGlobals "folded"=some (some (.ref f11))) (l11:K.lookup f11=some ⟨oc11,od11,.func (fnOf "folded" "folded" (Zs ZkJ) (Zn ZkJ) (Zg ZkJ) .none kV11 dc11 pm11 an11 cd11 ct11),sl11⟩) (c11:codeIn K cd11 "folded"=true) (k11:keepIn K (.ref f11)=true)
    (a12:nsIn K mainGlobals "sum_of"=some (some (.ref f12))) (l12:K.lookup f12=some ⟨oc12,od12,.func (fnOf "sum_of" "sum_of" (Zs ZkI) (Zn ZkI) (Zg ZkI) .none kV12 dc12 pm12 an12 cd12 ct12),sl12⟩) (c12:codeIn K cd12 "sum_of"=true) (k12:keepIn K (.ref f12)=true)
    (a13:nsIn K mainGlobals "length"=some (some (.ref f13))) (l13:K.lookup f13=some ⟨oc13,od13,.func (fnOf "length" "length" (Zs ZkH) (Zn ZkH) (Zg ZkH) .none kV13 dc13 pm13 an13 cd13 ct13),sl13⟩) (c13:codeIn K cd13 "length"=true) (k13:keepIn K (.ref f13)=true)
    (a14:nsIn K mainGlobals "has"=some (some (.ref f14))) (l14:K.lookup f14=some ⟨oc14,od14,.func (fnOf "has" "has" (Zs ZkG) (Zn ZkG) (Zg ZkG) .none kV14 dc14 pm14 an14 cd14 ct14),sl14⟩) (c14:codeIn K cd14 "has"=true) (k14:keepIn K (.ref f14)=true)
    (a15:nsIn K mainGlobals "bears"=some (some (.ref f15))) (l15:K.lookup f15=some ⟨oc15,od15,.func (fnOf "bears" "bears" (Zs ZkF) (Zn ZkF) (Zg ZkF) .none kV15 dc15 pm15 an15 cd15 ct15),sl15⟩) (c15:codeIn K cd15 "bears"=true) (k15:keepIn K (.ref f15)=true)
    (a16:nsIn K mainGlobals "put"=some (some (.ref f16))) (l16:K.lookup f16=some ⟨oc16,od16,.func (fnOf "put" "put" (Zs ZkE) (Zn ZkE) (Zg ZkE) .none kV16 dc16 pm16 an16 cd16 ct16),sl16⟩) (c16:codeIn K cd16 "put"=true) (k16:keepIn K (.ref f16)=true)
    (a17:nsIn K mainGlobals "bytes_ahead_of_sum"=some (some (.ref f17))) (l17:K.lookup f17=some ⟨oc17,od17,.func (fnOf "bytes_ahead_of_sum" "bytes_ahead_of_sum" (Zs ZkD) (Zn ZkD) (Zg ZkD) .none kV17 dc17 pm17 an17 cd17 ct17),sl17⟩) (c17:codeIn K cd17 "bytes_ahead_of_sum"=true) (k17:keepIn K (.ref f17)=true)
    (a18:nsIn K mainGlobals "byte_of_head"=some (some (.ref f18))) (l18:K.lookup f18=some ⟨oc18,od18,.func (fnOf "byte_of_head" "byte_of_head" (Zs ZkC) (Zn ZkC) (Zg ZkC) .none kV18 dc18 pm18 an18 cd18 ct18),sl18⟩) (c18:codeIn K cd18 "byte_of_head"=true) (k18:keepIn K (.ref f18)=true)
    (a19:nsIn K mainGlobals "bytes_of_most"=some (some (.ref f19))) (l19:K.lookup f19=some ⟨oc19,od19,.func (fnOf "bytes_of_most" "bytes_of_most" (Zs ZkB) (Zn ZkB) (Zg ZkB) .none kV19 dc19 pm19 an19 cd19 ct19),sl19⟩) (c19:codeIn K cd19 "bytes_of_most"=true) (k19:keepIn K (.ref f19)=true)
    (a20:nsIn K mainGlobals "two_bytes"=some (some (.ref f20))) (l20:K.lookup f20=some ⟨oc20,od20,.func (fnOf "two_bytes" "two_bytes" (Zs ZkA) (Zn ZkA) (Zg ZkA) .none kV20 dc20 pm20 an20 cd20 ct20),sl20⟩) (c20:codeIn K cd20 "two_bytes"=true) (k20:keepIn K (.ref f20)=true)
    (a21:nsIn K mainGlobals "four_bytes"=some (some (.ref f21))) (l21:K.lookup f21=some ⟨oc21,od21,.func (fnOf "four_bytes" "four_bytes" (Zs Zkz) (Zn Zkz) (Zg Zkz) .none kV21 dc21 pm21 an21 cd21 ct21),sl21⟩) (c21:codeIn K cd21 "four_bytes"=true) (k21:keepIn K (.ref f21)=true)
    (a22:nsIn K mainGlobals "is_right"=some (some (.ref f22))) (l22:K.lookup f22=some ⟨oc22,od22,.func (fnOf "is_right" "is_right" (Zs Zky) (Zn Zky) (Zg Zky) .none kV22 dc22 pm22 an22 cd22 ct22),sl22⟩) (c22:codeIn K cd22 "is_right"=true) (k22:keepIn K (.ref f22)=true)
    (a23:nsIn K mainGlobals "head_of"=some (some (.ref f23))) (l23:K.lookup f23=some ⟨oc23,od23,.func (fnOf "head_of" "head_of" (Zs Zkx) (Zn Zkx) (Zg Zkx) .none kV23 dc23 pm23 an23 cd23 ct23),sl23⟩) (c23:codeIn K cd23 "head_of"=true) (k23:keepIn K (.ref f23)=true)
    (a24:nsIn K mainGlobals "is_right_long_head"=some (some (.ref f24))) (l24:K.lookup f24=some ⟨oc24,od24,.func (fnOf "is_right_long_head" "is_right_long_head" (Zs Zkw) (Zn Zkw) (Zg Zkw) .none kV24 dc24 pm24 an24 cd24 ct24),sl24⟩) (c24:codeIn K cd24 "is_right_long_head"=true) (k24:keepIn K (.ref f24)=true)
    (a25:nsIn K mainGlobals "get"=some (some (.ref f25))) (l25:K.lookup f25=some ⟨oc25,od25,.func (fnOf "get" "get" (Zs Zkv) (Zn Zkv) (Zg Zkv) .none kV25 dc25 pm25 an25 cd25 ct25),sl25⟩) (c25:codeIn K cd25 "get"=true) (k25:keepIn K (.ref f25)=true)
    (a26:nsIn K mainGlobals "two_at"=some (some (.ref f26))) (l26:K.lookup f26=some ⟨oc26,od26,.func (fnOf "two_at" "two_at" (Zs Zku) (Zn Zku) (Zg Zku) .none kV26 dc26 pm26 an26 cd26 ct26),sl26⟩) (c26:codeIn K cd26 "two_at"=true) (k26:keepIn K (.ref f26)=true)
    (a27:nsIn K mainGlobals "four_at"=some (some (.ref f27))) (l27:K.lookup f27=some ⟨oc27,od27,.func (fnOf "four_at" "four_at" (Zs Zkt) (Zn Zkt) (Zg Zkt) .none kV27 dc27 pm27 an27 cd27 ct27),sl27⟩) (c27:codeIn K cd27 "four_at"=true) (k27:keepIn K (.ref f27)=true)
    (a28:nsIn K mainGlobals "reset_for"=some (some (.ref f28))) (l28:K.lookup f28=some ⟨oc28,od28,.func (fnOf "reset_for" "reset_for" (Zs Zks) (Zn Zks) (Zg Zks) .none kV28 dc28 pm28 an28 cd28 ct28),sl28⟩) (c28:codeIn K cd28 "reset_for"=true) (k28:keepIn K (.ref f28)=true)
    (a29:nsIn K mainGlobals "owe_reset_for"=some (some (.ref f29))) (l29:K.lookup f29=some ⟨oc29,od29,.func (fnOf "owe_reset_for" "owe_reset_for" (Zs Zkr) (Zn Zkr) (Zg Zkr) .none kV29 dc29 pm29 an29 cd29 ct29),sl29⟩) (c29:codeIn K cd29 "owe_reset_for"=true) (k29:keepIn K (.ref f29)=true)
    (a30:nsIn K mainGlobals "come_to_closed"=some (some (.ref f30))) (l30:K.lookup f30=some ⟨oc30,od30,.func (fnOf "come_to_closed" "come_to_closed" (Zs Zkq) (Zn Zkq) (Zg Zkq) .none kV30 dc30 pm30 an30 cd30 ct30),sl30⟩) (c30:codeIn K cd30 "come_to_closed"=true) (k30:keepIn K (.ref f30)=true)
    (a31:nsIn K mainGlobals "come_to_listen"=some (some (.ref f31))) (l31:K.lookup f31=some ⟨oc31,od31,.func (fnOf "come_to_listen" "come_to_listen" (Zs Zkp) (Zn Zkp) (Zg Zkp) .none kV31 dc31 pm31 an31 cd31 ct31),sl31⟩) (c31:codeIn K cd31 "come_to_listen"=true) (k31:keepIn K (.ref f31)=true)
    (a32:nsIn K mainGlobals "hear_syn"=some (some (.ref f32))) (l32:K.lookup f32=some ⟨oc32,od32,.func (fnOf "hear_syn" "hear_syn" (Zs Zko) (Zn Zko) (Zg Zko) .none kV32 dc32 pm32 an32 cd32 ct32),sl32⟩) (c32:codeIn K cd32 "hear_syn"=true) (k32:keepIn K (.ref f32)=true)
    (a33:nsIn K mainGlobals "come_to_syn_sent"=some (some (.ref f33))) (l33:K.lookup f33=some ⟨oc33,od33,.func (fnOf "come_to_syn_sent" "come_to_syn_sent" (Zs Zkn) (Zn Zkn) (Zg Zkn) .none kV33 dc33 pm33 an33 cd33 ct33),sl33⟩) (c33:codeIn K cd33 "come_to_syn_sent"=true) (k33:keepIn K (.ref f33)=true)
    (a34:nsIn K mainGlobals "answers_syn"=some (some (.ref f34))) (l34:K.lookup f34=some ⟨oc34,od34,.func (fnOf "answers_syn" "answers_syn" (Zs Zkm) (Zn Zkm) (Zg Zkm) .none kV34 dc34 pm34 an34 cd34 ct34),sl34⟩) (c34:codeIn K cd34 "answers_syn"=true) (k34:keepIn K (.ref f34)=true)
    (a35:nsIn K mainGlobals "refuse"=some (some (.ref f35))) (l35:K.lookup f35=some ⟨oc35,od35,.func (fnOf "refuse" "refuse" (Zs Zkl) (Zn Zkl) (Zg Zkl) .none kV35 dc35 pm35 an35 cd35 ct35),sl35⟩) (c35:codeIn K cd35 "refuse"=true) (k35:keepIn K (.ref f35)=true)
    (a36:nsIn K mainGlobals "go_on_from_syn_sent"=some (some (.ref f36))) (l36:K.lookup f36=some ⟨oc36,od36,.func (fnOf "go_on_from_syn_sent" "go_on_from_syn_sent" (Zs Zkk) (Zn Zkk) (Zg Zkk) .none kV36 dc36 pm36 an36 cd36 ct36),sl36⟩) (c36:codeIn K cd36 "go_on_from_syn_sent"=true) (k36:keepIn K (.ref f36)=true)
    (a37:nsIn K mainGlobals "arrive"=some (some (.ref f37))) (l37:K.lookup f37=some ⟨oc37,od37,.func (fnOf "arrive" "arrive" (Zs Zkj) (Zn Zkj) (Zg Zkj) .none kV37 dc37 pm37 an37 cd37 ct37),sl37⟩) (c37:codeIn K cd37 "arrive"=true) (k37:keepIn K (.ref f37)=true)
    (a38:nsIn K mainGlobals "is_for"=some (some (.ref f38))) (l38:K.lookup f38=some ⟨oc38,od38,.func (fnOf "is_for" "is_for" (Zs Zki) (Zn Zki) (Zg Zki) .none kV38 dc38 pm38 an38 cd38 ct38),sl38⟩) (c38:codeIn K cd38 "is_for"=true) (k38:keepIn K (.ref f38)=true)
    (a39:nsIn K mainGlobals "come_to_stream"=some (some (.ref f39))) (l39:K.lookup f39=some ⟨oc39,od39,.func (fnOf "come_to_stream" "come_to_stream" (Zs Zkh) (Zn Zkh) (Zg Zkh) .none kV39 dc39 pm39 an39 cd39 ct39),sl39⟩) (c39:codeIn K cd39 "come_to_stream"=true) (k39:keepIn K (.ref f39)=true)
    (a40:nsIn K mainGlobals "fits"=some (some (.ref f40))) (l40:K.lookup f40=some ⟨oc40,od40,.func (fnOf "fits" "fits" (Zs Zkg) (Zn Zkg) (Zg Zkg) .none kV40 dc40 pm40 an40 cd40 ct40),sl40⟩) (c40:codeIn K cd40 "fits"=true) (k40:keepIn K (.ref f40)=true)
    (a41:nsIn K mainGlobals "is_in_window"=some (some (.ref f41))) (l41:K.lookup f41=some ⟨oc41,od41,.func (fnOf "is_in_window" "is_in_window" (Zs Zkf) (Zn Zkf) (Zg Zkf) .none kV41 dc41 pm41 an41 cd41 ct41),sl41⟩) (c41:codeIn K cd41 "is_in_window"=true) (k41:keepIn K (.ref f41)=true)
    (a42:nsIn K mainGlobals "turn_away"=some (some (.ref f42))) (l42:K.lookup f42=some ⟨oc42,od42,.func (fnOf "turn_away" "turn_away" (Zs Zke) (Zn Zke) (Zg Zke) .none kV42 dc42 pm42 an42 cd42 ct42),sl42⟩) (c42:codeIn K cd42 "turn_away"=true) (k42:keepIn K (.ref f42)=true)
    (a43:nsIn K mainGlobals "hear_reset"=some (some (.ref f43))) (l43:K.lookup f43=some ⟨oc43,od43,.func (fnOf "hear_reset" "hear_reset" (Zs Zkd) (Zn Zkd) (Zg Zkd) .none kV43 dc43 pm43 an43 cd43 ct43),sl43⟩) (c43:codeIn K cd43 "hear_reset"=true) (k43:keepIn K (.ref f43)=true)
    (a44:nsIn K mainGlobals "goes_on_behind_answer"=some (some (.ref f44))) (l44:K.lookup f44=some ⟨oc44,od44,.func (fnOf "goes_on_behind_answer" "goes_on_behind_answer" (Zs Zkc) (Zn Zkc) (Zg Zkc) .none kV44 dc44 pm44 an44 cd44 ct44),sl44⟩) (c44:codeIn K cd44 "goes_on_behind_answer"=true) (k44:keepIn K (.ref f44)=true)
    (a45:nsIn K mainGlobals "has_answered_syn"=some (some (.ref f45))) (l45:K.lookup f45=some ⟨oc45,od45,.func (fnOf "has_answered_syn" "has_answered_syn" (Zs Zkb) (Zn Zkb) (Zg Zkb) .none kV45 dc45 pm45 an45 cd45 ct45),sl45⟩) (c45:codeIn K cd45 "has_answered_syn"=true) (k45:keepIn K (.ref f45)=true)
    (a46:nsIn K mainGlobals "take_window"=some (some (.ref f46))) (l46:K.lookup f46=some ⟨oc46,od46,.func (fnOf "take_window" "take_window" (Zs Zka) (Zn Zka) (Zg Zka) .none kV46 dc46 pm46 an46 cd46 ct46),sl46⟩) (c46:codeIn K cd46 "take_window"=true) (k46:keepIn K (.ref f46)=true)
    (a47:nsIn K mainGlobals "hear_answer"=some (some (.ref f47))) (l47:K.lookup f47=some ⟨oc47,od47,.func (fnOf "hear_answer" "hear_answer" (Zs Zj9) (Zn Zj9) (Zg Zj9) .none kV47 dc47 pm47 an47 cd47 ct47),sl47⟩) (c47:codeIn K cd47 "hear_answer"=true) (k47:keepIn K (.ref f47)=true)
    (a48:nsIn K mainGlobals "is_newer"=some (some (.ref f48))) (l48:K.lookup f48=some ⟨oc48,od48,.func (fnOf "is_newer" "is_newer" (Zs Zj8) (Zn Zj8) (Zg Zj8) .none kV48 dc48 pm48 an48 cd48 ct48),sl48⟩) (c48:codeIn K cd48 "is_newer"=true) (k48:keepIn K (.ref f48)=true)
    (a49:nsIn K mainGlobals "end_what_is_acknowledged"=some (some (.ref f49))) (l49:K.lookup f49=some ⟨oc49,od49,.func (fnOf "end_what_is_acknowledged" "end_what_is_acknowledged" (Zs Zj7) (Zn Zj7) (Zg Zj7) .none kV49 dc49 pm49 an49 cd49 ct49),sl49⟩) (c49:codeIn K cd49 "end_what_is_acknowledged"=true) (k49:keepIn K (.ref f49)=true)
    (a50:nsIn K mainGlobals "hear_stream"=some (some (.ref f50))) (l50:K.lookup f50=some ⟨oc50,od50,.func (fnOf "hear_stream" "hear_stream" (Zs Zj6) (Zn Zj6) (Zg Zj6) .none kV50 dc50 pm50 an50 cd50 ct50),sl50⟩) (c50:codeIn K cd50 "hear_stream"=true) (k50:keepIn K (.ref f50)=true)
    (a51:nsIn K mainGlobals "keep_data"=some (some (.ref f51))) (l51:K.lookup f51=some ⟨oc51,od51,.func (fnOf "keep_data" "keep_data" (Zs Zj5) (Zn Zj5) (Zg Zj5) .none kV51 dc51 pm51 an51 cd51 ct51),sl51⟩) (c51:codeIn K cd51 "keep_data"=true) (k51:keepIn K (.ref f51)=true)
    (a52:nsIn K mainGlobals "keep_fin"=some (some (.ref f52))) (l52:K.lookup f52=some ⟨oc52,od52,.func (fnOf "keep_fin" "keep_fin" (Zs Zj4) (Zn Zj4) (Zg Zj4) .none kV52 dc52 pm52 an52 cd52 ct52),sl52⟩) (c52:codeIn K cd52 "keep_fin"=true) (k52:keepIn K (.ref f52)=true)
    (a53:nsIn K mainGlobals "draw_in_order"=some (some (.ref f53))) (l53:K.lookup f53=some ⟨oc53,od53,.func (fnOf "draw_in_order" "draw_in_order" (Zs Zj3) (Zn Zj3) (Zg Zj3) .none kV53 dc53 pm53 an53 cd53 ct53),sl53⟩) (c53:codeIn K cd53 "draw_in_order"=true) (k53:keepIn K (.ref f53)=true)
    (a54:nsIn K mainGlobals "hear_fin"=some (some (.ref f54))) (l54:K.lookup f54=some ⟨oc54,od54,.func (fnOf "hear_fin" "hear_fin" (Zs Zj2) (Zn Zj2) (Zg Zj2) .none kV54 dc54 pm54 an54 cd54 ct54),sl54⟩) (c54:codeIn K cd54 "hear_fin"=true) (k54:keepIn K (.ref f54)=true)
    (a55:nsIn K mainGlobals "opened"=some (some (.ref f55))) (l55:K.lookup f55=some ⟨oc55,od55,.func (fnOf "opened" "opened" (Zs Zj1) (Zn Zj1) (Zg Zj1) .none kV55 dc55 pm55 an55 cd55 ct55),sl55⟩) (c55:codeIn K cd55 "opened"=true) (k55:keepIn K (.ref f55)=true)
    (a56:nsIn K mainGlobals "send"=some (some (.ref f56))) (l56:K.lookup f56=some ⟨oc56,od56,.func (fnOf "send" "send" (Zs Zj0) (Zn Zj0) (Zg Zj0) .none kV56 dc56 pm56 an56 cd56 ct56),sl56⟩) (c56:codeIn K cd56 "send"=true) (k56:keepIn K (.ref f56)=true)
    (a57:nsIn K mainGlobals "going"=some (some (.ref f57))) (l57:K.lookup f57=some ⟨oc57,od57,.func (fnOf "going" "going" (Zs ZjZ) (Zn ZjZ) (Zg ZjZ) .none kV57 dc57 pm57 an57 cd57 ct57),sl57⟩) (c57:codeIn K cd57 "going"=true) (k57:keepIn K (.ref f57)=true)
    (a58:nsIn K mainGlobals "paid_reset"=some (some (.ref f58))) (l58:K.lookup f58=some ⟨oc58,od58,.func (fnOf "paid_reset" "paid_reset" (Zs ZjY) (Zn ZjY) (Zg ZjY) .none kV58 dc58 pm58 an58 cd58 ct58),sl58⟩) (c58:codeIn K cd58 "paid_reset"=true) (k58:keepIn K (.ref f58)=true)
    (a59:nsIn K mainGlobals "is_due"=some (some (.ref f59))) (l59:K.lookup f59=some ⟨oc59,od59,.func (fnOf "is_due" "is_due" (Zs ZjX) (Zn ZjX) (Zg ZjX) .none kV59 dc59 pm59 an59 cd59 ct59),sl59⟩) (c59:codeIn K cd59 "is_due"=true) (k59:keepIn K (.ref f59)=true)
    (a60:nsIn K mainGlobals "again"=some (some (.ref f60))) (l60:K.lookup f60=some ⟨oc60,od60,.func (fnOf "again" "again" (Zs ZjW) (Zn ZjW) (Zg ZjW) .none kV60 dc60 pm60 an60 cd60 ct60),sl60⟩) (c60:codeIn K cd60 "again"=true) (k60:keepIn K (.ref f60)=true)
    (a61:nsIn K mainGlobals "most_at_once"=some (some (.ref f61))) (l61:K.lookup f61=some ⟨oc61,od61,.func (fnOf "most_at_once" "most_at_once" (Zs ZjV) (Zn ZjV) (Zg ZjV) .none kV61 dc61 pm61 an61 cd61 ct61),sl61⟩) (c61:codeIn K cd61 "most_at_once"=true) (k61:keepIn K (.ref f61)=true)
    (a62:nsIn K mainGlobals "paid_syn"=some (some (.ref f62))) (l62:K.lookup f62=some ⟨oc62,od62,.func (fnOf "paid_syn" "paid_syn" (Zs ZjU) (Zn ZjU) (Zg ZjU) .none kV62 dc62 pm62 an62 cd62 ct62),sl62⟩) (c62:codeIn K cd62 "paid_syn"=true) (k62:keepIn K (.ref f62)=true)
    (a63:nsIn K mainGlobals "segment_of"=some (some (.ref f63))) (l63:K.lookup f63=some ⟨oc63,od63,.func (fnOf "segment_of" "segment_of" (Zs ZjT) (Zn ZjT) (Zg ZjT) .none kV63 dc63 pm63 an63 cd63 ct63),sl63⟩) (c63:codeIn K cd63 "segment_of"=true) (k63:keepIn K (.ref f63)=true)
    (a64:nsIn K mainGlobals "going_as_new"=some (some (.ref f64))) (l64:K.lookup f64=some ⟨oc64,od64,.func (fnOf "going_as_new" "going_as_new" (Zs ZjS) (Zn ZjS) (Zg ZjS) .none kV64 dc64 pm64 an64 cd64 ct64),sl64⟩) (c64:codeIn K cd64 "going_as_new"=true) (k64:keepIn K (.ref f64)=true)
    (a65:nsIn K mainGlobals "new_syn"=some (some (.ref f65))) (l65:K.lookup f65=some ⟨oc65,od65,.func (fnOf "new_syn" "new_syn" (Zs ZjR) (Zn ZjR) (Zg ZjR) .none kV65 dc65 pm65 an65 cd65 ct65),sl65⟩) (c65:codeIn K cd65 "new_syn"=true) (k65:keepIn K (.ref f65)=true)
    (a66:nsIn K mainGlobals "has_more"=some (some (.ref f66))) (l66:K.lookup f66=some ⟨oc66,od66,.func (fnOf "has_more" "has_more" (Zs ZjQ) (Zn ZjQ) (Zg ZjQ) .none kV66 dc66 pm66 an66 cd66 ct66),sl66⟩) (c66:codeIn K cd66 "has_more"=true) (k66:keepIn K (.ref f66)=true)
    (a67:nsIn K mainGlobals "has_new_data"=some (some (.ref f67))) (l67:K.lookup f67=some ⟨oc67,od67,.func (fnOf "has_new_data" "has_new_data" (Zs ZjP) (Zn ZjP) (Zg ZjP) .none kV67 dc67 pm67 an67 cd67 ct67),sl67⟩) (c67:codeIn K cd67 "has_new_data"=true) (k67:keepIn K (.ref f67)=true)
    (a68:nsIn K mainGlobals "unsent"=some (some (.ref f68))) (l68:K.lookup f68=some ⟨oc68,od68,.func (fnOf "unsent" "unsent" (Zs ZjO) (Zn ZjO) (Zg ZjO) .none kV68 dc68 pm68 an68 cd68 ct68),sl68⟩) (c68:codeIn K cd68 "unsent"=true) (k68:keepIn K (.ref f68)=true)
    (a69:nsIn K mainGlobals "has_new_fin"=some (some (.ref f69))) (l69:K.lookup f69=some ⟨oc69,od69,.func (fnOf "has_new_fin" "has_new_fin" (Zs ZjN) (Zn ZjN) (Zg ZjN) .none kV69 dc69 pm69 an69 cd69 ct69),sl69⟩) (c69:codeIn K cd69 "has_new_fin"=true) (k69:keepIn K (.ref f69)=true)
    (a70:nsIn K mainGlobals "new_piece"=some (some (.ref f70))) (l70:K.lookup f70=some ⟨oc70,od70,.func (fnOf "new_piece" "new_piece" (Zs ZjM) (Zn ZjM) (Zg ZjM) .none kV70 dc70 pm70 an70 cd70 ct70),sl70⟩) (c70:codeIn K cd70 "new_piece"=true) (k70:keepIn K (.ref f70)=true)
    (a71:nsIn K mainGlobals "new_data"=some (some (.ref f71))) (l71:K.lookup f71=some ⟨oc71,od71,.func (fnOf "new_data" "new_data" (Zs ZjL) (Zn ZjL) (Zg ZjL) .none kV71 dc71 pm71 an71 cd71 ct71),sl71⟩) (c71:codeIn K cd71 "new_data"=true) (k71:keepIn K (.ref f71)=true)
    (a72:nsIn K mainGlobals "new_fin"=some (some (.ref f72))) (l72:K.lookup f72=some ⟨oc72,od72,.func (fnOf "new_fin" "new_fin" (Zs ZjK) (Zn ZjK) (Zg ZjK) .none kV72 dc72 pm72 an72 cd72 ct72),sl72⟩) (c72:codeIn K cd72 "new_fin"=true) (k72:keepIn K (.ref f72)=true)
    (a73:nsIn K mainGlobals "going_as_probe"=some (some (.ref f73))) (l73:K.lookup f73=some ⟨oc73,od73,.func (fnOf "going_as_probe" "going_as_probe" (Zs ZjJ) (Zn ZjJ) (Zg ZjJ) .none kV73 dc73 pm73 an73 cd73 ct73),sl73⟩) (c73:codeIn K cd73 "going_as_probe"=true) (k73:keepIn K (.ref f73)=true)
    (a74:nsIn K mainGlobals "going_as_answer"=some (some (.ref f74))) (l74:K.lookup f74=some ⟨oc74,od74,.func (fnOf "going_as_answer" "going_as_answer" (Zs ZjI) (Zn ZjI) (Zg ZjI) .none kV74 dc74 pm74 an74 cd74 ct74),sl74⟩) (c74:codeIn K cd74 "going_as_answer"=true) (k74:keepIn K (.ref f74)=true)
    (a75:findIn K (.ref C_Host) "__init__"=some (some (.ref f75))) (i75:isFn K (.ref f75)=true) (l75:K.lookup f75=some ⟨oc75,od75,.func (fnOf "__init__" "Host.__init__" (Zs ZjH) (Zn ZjH) (Zg ZjH) .none kV75 dc75 pm75 an75 cd75 ct75),sl75⟩) (c75:codeIn K cd75 "Host.__init__"=true) (k75:keepIn K (.ref f75)=true)
    (a76:findIn K (.ref C_Host) "listens"=some (some (.ref f76))) (i76:isFn K (.ref f76)=true) (l76:K.lookup f76=some ⟨oc76,od76,.func (fnOf "listens" "Host.listens" (Zs ZiD) (Zn ZiD) (Zg ZiD) .none kV76 dc76 pm76 an76 cd76 ct76),sl76⟩) (c76:codeIn K cd76 "Host.listens"=true) (k76:keepIn K (.ref f76)=true)
    (a77:findIn K (.ref C_Host) "calls"=some (some (.ref f77))) (i77:isFn K (.ref f77)=true) (l77:K.lookup f77=some ⟨oc77,od77,.func (fnOf "calls" "Host.calls" (Zs ZiC) (Zn ZiC) (Zg ZiC) .none kV77 dc77 pm77 an77 cd77 ct77),sl77⟩) (c77:codeIn K cd77 "Host.calls"=true) (k77:keepIn K (.ref f77)=true)
    (a78:findIn K (.ref C_Host) "arrives"=some (some (.ref f78))) (i78:isFn K (.ref f78)=true) (l78:K.lookup f78=some ⟨oc78,od78,.func (fnOf "arrives" "Host.arrives" (Zs ZjG) (Zn ZjG) (Zg ZjG) .none kV78 dc78 pm78 an78 cd78 ct78),sl78⟩) (c78:codeIn K cd78 "Host.arrives"=true) (k78:keepIn K (.ref f78)=true)
    (a79:findIn K (.ref C_Host) "sends"=some (some (.ref f79))) (i79:isFn K (.ref f79)=true) (l79:K.lookup f79=some ⟨oc79,od79,.func (fnOf "sends" "Host.sends" (Zs ZjF) (Zn ZjF) (Zg ZjF) .none kV79 dc79 pm79 an79 cd79 ct79),sl79⟩) (c79:codeIn K cd79 "Host.sends"=true) (k79:keepIn K (.ref f79)=true)
    (a80:nsIn K mainGlobals "live_end"=some (some (.ref f80))) (l80:K.lookup f80=some ⟨oc80,od80,.func (fnOf "live_end" "live_end" (Zs ZjE) (Zn ZjE) (Zg ZjE) .none kV80 dc80 pm80 an80 cd80 ct80),sl80⟩) (c80:codeIn K cd80 "live_end"=true) (k80:keepIn K (.ref f80)=true)
    (a81:nsIn K mainGlobals "made_end"=some (some (.ref f81))) (l81:K.lookup f81=some ⟨oc81,od81,.func (fnOf "made_end" "made_end" (Zs ZjD) (Zn ZjD) (Zg ZjD) .none kV81 dc81 pm81 an81 cd81 ct81),sl81⟩) (c81:codeIn K cd81 "made_end"=true) (k81:keepIn K (.ref f81)=true)
    (a82:nsIn K mainGlobals "end_for"=some (some (.ref f82))) (l82:K.lookup f82=some ⟨oc82,od82,.func (fnOf "end_for" "end_for" (Zs ZjC) (Zn ZjC) (Zg ZjC) .none kV82 dc82 pm82 an82 cd82 ct82),sl82⟩) (c82:codeIn K cd82 "end_for"=true) (k82:keepIn K (.ref f82)=true)
    (a83:nsIn K mainGlobals "is_call"=some (some (.ref f83))) (l83:K.lookup f83=some ⟨oc83,od83,.func (fnOf "is_call" "is_call" (Zs ZjB) (Zn ZjB) (Zg ZjB) .none kV83 dc83 pm83 an83 cd83 ct83),sl83⟩) (c83:codeIn K cd83 "is_call"=true) (k83:keepIn K (.ref f83)=true)
    (a84:nsIn K mainGlobals "_law_cell"=some (some (.ref f84))) (l84:K.lookup f84=some ⟨oc84,od84,.func (fnOf "_law_cell" "_law_cell" (Zs ZjA) (Zn ZjA) (Zg ZjA) .none kV84 dc84 pm84 an84 cd84 ct84),sl84⟩) (c84:codeIn K cd84 "_law_cell"=true) (k84:keepIn K (.ref f84)=true)
    (a85:nsIn K mainGlobals "_law_mix"=some (some (.ref f85))) (l85:K.lookup f85=some ⟨oc85,od85,.func (fnOf "_law_mix" "_law_mix" (Zs Zjz) (Zn Zjz) (Zg Zjz) .none kV85 dc85 pm85 an85 cd85 ct85),sl85⟩) (c85:codeIn K cd85 "_law_mix"=true) (k85:keepIn K (.ref f85)=true)
    (a86:nsIn K mainGlobals "_law_two"=some (some (.ref f86))) (l86:K.lookup f86=some ⟨oc86,od86,.func (fnOf "_law_two" "_law_two" (Zs Zjy) (Zn Zjy) (Zg Zjy) .none kV86 dc86 pm86 an86 cd86 ct86),sl86⟩) (c86:codeIn K cd86 "_law_two"=true) (k86:keepIn K (.ref f86)=true)
    (a87:nsIn K mainGlobals "_law_folded"=some (some (.ref f87))) (l87:K.lookup f87=some ⟨oc87,od87,.func (fnOf "_law_folded" "_law_folded" (Zs Zjx) (Zn Zjx) (Zg Zjx) .none kV87 dc87 pm87 an87 cd87 ct87),sl87⟩) (c87:codeIn K cd87 "_law_folded"=true) (k87:keepIn K (.ref f87)=true)
    (a88:nsIn K mainGlobals "_law_bytes"=some (some (.ref f88))) (l88:K.lookup f88=some ⟨oc88,od88,.func (fnOf "_law_bytes" "_law_bytes" (Zs Zjw) (Zn Zjw) (Zg Zjw) .none kV88 dc88 pm88 an88 cd88 ct88),sl88⟩) (c88:codeIn K cd88 "_law_bytes"=true) (k88:keepIn K (.ref f88)=true)
    (a89:nsIn K mainGlobals "_law_any"=some (some (.ref f89))) (l89:K.lookup f89=some ⟨oc89,od89,.func (fnOf "_law_any" "_law_any" (Zs ZiB) (Zn ZiB) (Zg ZiB) .none kV89 dc89 pm89 an89 cd89 ct89),sl89⟩) (c89:codeIn K cd89 "_law_any"=true) (k89:keepIn K (.ref f89)=true)
    (a90:nsIn K mainGlobals "_law_refused"=some (some (.ref f90))) (l90:K.lookup f90=some ⟨oc90,od90,.func (fnOf "_law_refused" "_law_refused" (Zs Zjv) (Zn Zjv) (Zg Zjv) .none kV90 dc90 pm90 an90 cd90 ct90),sl90⟩) (c90:codeIn K cd90 "_law_refused"=true) (k90:keepIn K (.ref f90)=true)
    (a91:nsIn K mainGlobals "law"=some (some (.ref f91))) (l91:K.lookup f91=some ⟨oc91,od91,.func (fnOf "law" "law" (Zs ZgR) (Zn ZgR) (Zg ZgR) .none kV91 dc91 pm91 an91 cd91 ct91),sl91⟩) (c91:codeIn K cd91 "law"=true) (k91:keepIn K (.ref f91)=true)
    (a92:findIn K (.ref C_Host) "taken_end"=some (some (.ref f92))) (i92:isFn K (.ref f92)=true) (l92:K.lookup f92=some ⟨oc92,od92,.func (fnOf "taken_end" "Host.taken_end" (Zs ZiA) (Zn ZiA) (Zg ZiA) .none kV92 dc92 pm92 an92 cd92 ct92),sl92⟩) (c92:codeIn K cd92 "Host.taken_end"=true) (k92:keepIn K (.ref f92)=true)
    (pg_End:plainGet K C_End Str.empty=true) (hd_End:hasDictIn K C_End=true) (po_End:plainOver K C_End=true) (sa_End:findIn K (.ref C_End) "__setattr__"=some (some (.builtin "object.__setattr__"))) (mk_End:makesIn K C_End=true) (kc_End:keepIn K (.ref C_End)=true)
    (pg_Host:plainGet K C_Host Str.empty=true) (hd_Host:hasDictIn K C_Host=true) (po_Host:plainOver K C_Host=true) (sa_Host:findIn K (.ref C_Host) "__setattr__"=some (some (.builtin "object.__setattr__"))) (mk_Host:makesIn K C_Host=true) (kc_Host:keepIn K (.ref C_Host)=true)
    (pg_Pile:plainGet K C_Pile Str.empty=true) (hd_Pile:hasDictIn K C_Pile=true) (po_Pile:plainOver K C_Pile=true) (sa_Pile:findIn K (.ref C_Pile) "__setattr__"=some (some (.builtin "object.__setattr__"))) (mk_Pile:makesIn K C_Pile=true) (kc_Pile:keepIn K (.ref C_Pile)=true)
    (zA0:findIn K (.ref C_End) "behind"=some none)
    (zA1:findIn K (.ref C_End) "come"=some none)
    (zA2:findIn K (.ref C_End) "early"=some none)
    (zA3:findIn K (.ref C_End) "early_fin"=some none)
    (zA4:findIn K (.ref C_End) "error"=some none)
    (zA5:findIn K (.ref C_End) "first"=some none)
    (zA6:findIn K (.ref C_End) "has_closed"=some none)
    (zA7:findIn K (.ref C_End) "most"=some none)
    (zA8:findIn K (.ref C_End) "nxt"=some none)
    (zA9:findIn K (.ref C_End) "ours"=some none)
    (zA10:findIn K (.ref C_End) "owed_reset"=some none)
    (zA11:findIn K (.ref C_End) "owes_answer"=some none)
    (zA12:findIn K (.ref C_End) "owes_syn"=some none)
    (zA13:findIn K (.ref C_End) "probes"=some none)
    (zA14:findIn K (.ref C_End) "rcv"=some none)
    (zA15:findIn K (.ref C_End) "since"=some none)
    (zA16:findIn K (.ref C_End) "state"=some none)
    (zA17:findIn K (.ref C_End) "theirs"=some none)
    (zA18:findIn K (.ref C_End) "told"=some none)
    (zA19:findIn K (.ref C_End) "told_by"=some none)
    (zA20:findIn K (.ref C_End) "tries"=some none)
    (zA21:findIn K (.ref C_End) "una"=some none)
    (zA22:findIn K (.ref C_End) "wait"=some none)
    (zA23:findIn K (.ref C_End) "wnd"=some none)
    (zA24:findIn K (.ref C_End) "written"=some none)
    (zA25:findIn K (.ref C_Host) "coming_first"=some none)
    (zA26:findIn K (.ref C_Host) "ends"=some none)
    (zA27:findIn K (.ref C_Host) "latest"=some none)
    (zA28:findIn K (.ref C_Host) "owed_reset"=some none)
    (zA29:findIn K (.ref C_Host) "turn"=some none)
    (zA30:findIn K (.ref C_Host) "untaken"=some none)
    (zA31:findIn K (.ref C_Pile) "row"=some none)
    (zg0:nsIn K mainGlobals "ACK"=some (some (.int 16 zt0)))
    (zg1:nsIn K mainGlobals "ANSWER"=some (some (.int 3 zt1)))
    (zg2:nsIn K mainGlobals "CLOSED"=some (some (.str "closed" zt2)))
    (zg3:nsIn K mainGlobals "CLOSE_WAIT"=some (some (.str "close wait" zt3)))
    (zg4:nsIn K mainGlobals "CLOSING"=some (some (.str "closing" zt4)))
    (zg5:nsIn K mainGlobals "DATA"=some (some (.int 7 zt5)))
    (zg6:nsIn K mainGlobals "FIN"=some (some (.int 1 zt6)))
    (zg7:nsIn K mainGlobals "FIRST_WAIT"=some (some (.int 1000 zt7)))
    (zg8:nsIn K mainGlobals "FLAGS"=some (some (.int 4 zt8)))
    (zg9:nsIn K mainGlobals "GOAL"=some (some (.int 1 zt9)))
    (zg10:nsIn K mainGlobals "GREATEST_DATA"=some (some (.int 16 zt10)))
    (zg11:nsIn K mainGlobals "GREATEST_FLAGS"=some (some (.int 31 zt11)))
    (zg12:nsIn K mainGlobals "GREATEST_WORD"=some (some (.int 65535 zt12)))
    (zg13:nsIn K mainGlobals "HALF_ROUND"=some (some (.int 2147483648 zt13)))
    (zg14:nsIn K mainGlobals "LAST_ACK"=some (some (.str "last ack" zt14)))
    (zg15:nsIn K mainGlobals "LAST_WAIT"=some (some (.int 120000 zt15)))
    (zg16:nsIn K mainGlobals "LEAST_MOST"=some (some (.int 4 zt16)))
    (zg17:nsIn K mainGlobals "LISTEN"=some (some (.str "listen" zt17)))
    (zg18:nsIn K mainGlobals "LONGEST_WAIT"=some (some (.int 16000 zt18)))
    (zg19:nsIn K mainGlobals "LONG_HEAD"=some (some (.int 24 zt19)))
    (zg20:nsIn K mainGlobals "MOST"=some (some (.int 6 zt20)))
    (zg21:nsIn K mainGlobals "MOST_TRIES"=some (some (.int 6 zt21)))
    (zg22:nsIn K mainGlobals "MOST_UNTOLD"=some (some (.int 12 zt22)))
    (zg23:nsIn K mainGlobals "NO_ERROR"=some (some (.str "" zt23)))
    (zg24:nsIn K mainGlobals "NUMBER"=some (some (.int 2 zt24)))
    (zg25:nsIn K mainGlobals "OPEN"=some (some (.str "open" zt25)))
    (zg26:nsIn K mainGlobals "PSH"=some (some (.int 8 zt26)))
    (zg27:nsIn K mainGlobals "REFUSED"=some (some (.str "refused" zt27)))
    (zg28:nsIn K mainGlobals "RESET"=some (some (.str "reset" zt28)))
    (zg29:nsIn K mainGlobals "RIGHT_SUM"=some (some (.int 65535 zt29)))
    (zg30:nsIn K mainGlobals "ROOM"=some (some (.int 64 zt30)))
    (zg31:nsIn K mainGlobals "ROUND"=some (some (.int 4294967296 zt31)))
    (zg32:nsIn K mainGlobals "RST"=some (some (.int 4 zt32)))
    (zg33:nsIn K mainGlobals "SHORT_HEAD"=some (some (.int 20 zt33)))
    (zg34:nsIn K mainGlobals "SOURCE"=some (some (.int 0 zt34)))
    (zg35:nsIn K mainGlobals "STEP_OF_FIRSTS"=some (some (.int 64000 zt35)))
    (zg36:nsIn K mainGlobals "SYN"=some (some (.int 2 zt36)))
    (zg37:nsIn K mainGlobals "SYN_COME"=some (some (.str "syn come" zt37)))
    (zg38:nsIn K mainGlobals "SYN_SENT"=some (some (.str "syn sent" zt38)))
    (zg39:nsIn K mainGlobals "TIME"=some (some (.str "time" zt39)))
    (zg40:nsIn K mainGlobals "TIME_WAIT"=some (some (.str "time wait" zt40)))
    (zg41:nsIn K mainGlobals "WAIT_ONE"=some (some (.str "wait one" zt41)))
    (zg42:nsIn K mainGlobals "WAIT_TWO"=some (some (.str "wait two" zt42)))
    (zg43:nsIn K mainGlobals "WINDOW"=some (some (.int 5 zt43)))
    (zg44:nsIn K mainGlobals "WORDS"=some (some (.int 65536 zt44)))
    (z_enumerate:nsIn K mainGlobals "enumerate"=some none)
    (z_int:nsIn K mainGlobals "int"=some none)
    (z_isinstance:nsIn K mainGlobals "isinstance"=some none)
    (z_len:nsIn K mainGlobals "len"=some none)
    (z_list:nsIn K mainGlobals "list"=some none)
    (z_max:nsIn K mainGlobals "max"=some none)
    (z_min:nsIn K mainGlobals "min"=some none)
    (z_range:nsIn K mainGlobals "range"=some none)
    (z_sum:nsIn K mainGlobals "sum"=some none)
    (z_tuple:nsIn K mainGlobals "tuple"=some none) :
    ∃fd:FuncData,(∀(s:Shared) (v:Value),BindsTo s fd ⟨[v],[]⟩ [("_law_script",v)])∧∀base:Heap,K.In base→base.Ns mainGlobals mg→FnOk l.prog w K mg base CX0 10 fa fd ["_law_script"] (Zmt K):=by
  have e:=hfa.symm.trans (mg_of X G a91)
  cases e
  have eC_End:C_End=zc mg "End":=(Zjh (mg_of X G aC_End)).symm
  have eC_Host:C_Host=zc mg "Host":=(Zjh (mg_of X G aC_Host)).symm
  have eC_Pile:C_Pile=zc mg "Pile":=(Zjh (mg_of X G aC_Pile)).symm
  subst eC_End
  subst eC_Host
  subst eC_Pile
  have g:Glb K mg:=⟨⟨_,mg_of X G zg0⟩,⟨_,mg_of X G zg1⟩,⟨_,mg_of X G zg2⟩,⟨_,mg_of X G zg3⟩,⟨_,mg_of X G zg4⟩,⟨_,mg_of X G zg5⟩,⟨_,mg_of X G zg6⟩,⟨_,mg_of X G zg7⟩,⟨_,mg_of X G zg8⟩,⟨_,mg_of X G zg9⟩,⟨_,mg_of X G zg10⟩,⟨_,mg_of X G zg11⟩,⟨_,mg_of X G zg12⟩,⟨_,mg_of X G zg13⟩,⟨_,mg_of X G zg14⟩,⟨_,mg_of X G zg15⟩,⟨_,mg_of X G zg16⟩,⟨_,mg_of X G zg17⟩,⟨_,mg_of X G zg18⟩,⟨_,mg_of X G zg19⟩,⟨_,mg_of X G zg20⟩,⟨_,mg_of X G zg21⟩,⟨_,mg_of X G zg22⟩,⟨_,mg_of X G zg23⟩,⟨_,mg_of X G zg24⟩,⟨_,mg_of X G zg25⟩,⟨_,mg_of X G zg26⟩,⟨_,mg_of X G zg27⟩,⟨_,mg_of X G zg28⟩,⟨_,mg_of X G zg29⟩,⟨_,mg_of X G zg30⟩,⟨_,mg_of X G zg31⟩,⟨_,mg_of X G zg32⟩,⟨_,mg_of X G zg33⟩,⟨_,mg_of X G zg34⟩,⟨_,mg_of X G zg35⟩,⟨_,mg_of X G zg36⟩,⟨_,mg_of X G zg37⟩,⟨_,mg_of X G zg38⟩,⟨_,mg_of X G zg39⟩,⟨_,mg_of X G zg40⟩,⟨_,mg_of X G zg41⟩,⟨_,mg_of X G zg42⟩,⟨_,mg_of X G zg43⟩,⟨_,mg_of X G zg44⟩,mg_none_of X G z_enumerate,mg_none_of X G z_int,mg_none_of X G z_isinstance,mg_none_of X G z_len,mg_none_of X G z_list,mg_none_of X G z_max,mg_none_of X G z_min,mg_none_of X G z_range,mg_none_of X G z_sum,mg_none_of X G z_tuple,⟨pg_End,hd_End,po_End,sa_End⟩,⟨pg_Host,hd_Host,po_Host,sa_Host⟩,⟨pg_Pile,hd_Pile,po_Pile,sa_Pile⟩,zA0,zA1,zA2,zA3,zA4,zA5,zA6,zA7,zA8,zA9,zA10,zA11,zA12,zA13,zA14,zA15,zA16,zA17,zA18,zA19,zA20,zA21,zA22,zA23,zA24,zA25,zA26,zA27,zA28,zA29,zA30,zA31⟩
  have F0:=Zx (st:=zs0) l0 c0 k0
  have b0:=F0.binds (ps:=zP0) fun _ _ _ _ _ _=>us1 fun _=>rfl
  have D0:Mk0 K mg "Pile" "Pile.__init__" zs0 zP0:=⟨_,_,F0,b0,⟨mk_Pile,a0,i0,kc_Pile⟩,mg_of X G aC_Pile⟩
  have F1:=Zx (st:=zs1) l1 c1 k1
  have b1:=F1.binds (ps:=zP1) fun _ _ _ _ _ _=>us1 fun _=>rfl
  have D1:Zq K mg "room" zs1 zP1:=⟨_,_,F1,b1,mg_of X G a1⟩
  have F2:=Zx (st:=zs2) l2 c2 k2
  have b2:=F2.binds (ps:=zP2) fun _ _ _ _ _ _=>us2 fun _ _=>rfl
  have D2:Zq K mg "lay" zs2 zP2:=⟨_,_,F2,b2,mg_of X G a2⟩
  have F3:=Zx (st:=zs3) l3 c3 k3
  have b3:=F3.binds (ps:=zP3) fun _ _ _ _ _ _=>us2 fun _ _=>rfl
  have D3:Zq K mg "take" zs3 zP3:=⟨_,_,F3,b3,mg_of X G a3⟩
  have F4:=Zx (st:=zs4) l4 c4 k4
  have b4:=F4.binds (ps:=zP4) fun _ _ _ _ _ _=>us2 fun _ _=>rfl
  have D4:Zq K mg "plus" zs4 zP4:=⟨_,_,F4,b4,mg_of X G a4⟩
  have F5:=Zx (st:=zs5) l5 c5 k5
  have b5:=F5.binds (ps:=zP5) fun _ _ _ _ _ _=>us2 fun _ _=>rfl
  have D5:Zq K mg "offset" zs5 zP5:=⟨_,_,F5,b5,mg_of X G a5⟩
  have F6:=Zx (st:=zs6) l6 c6 k6
  have b6:=F6.binds (ps:=zP6) fun _ _ _ _ _ _=>us2 fun _ _=>rfl
  have D6:Zq K mg "past" zs6 zP6:=⟨_,_,F6,b6,mg_of X G a6⟩
  have F7:=Zx (st:=zs7) l7 c7 k7
  have b7:=F7.binds (ps:=zP7) fun _ _ _ _ _ _=>us5 fun _ _ _ _ _=>rfl
  have D7:Mk0 K mg "End" "End.__init__" zs7 zP7:=⟨_,_,F7,b7,⟨mk_End,a7,i7,kc_End⟩,mg_of X G aC_End⟩
  have F8:=Zx (st:=zs8) l8 c8 k8
  have b8:=F8.binds (ps:=zP8) fun _ _ _ _ _ _=>us2 fun _ _=>rfl
  have D8:Zq K mg "start_timer" zs8 zP8:=⟨_,_,F8,b8,mg_of X G a8⟩
  have F9:=Zx (st:=zs9) l9 c9 k9
  have b9:=F9.binds (ps:=zP9) fun _ _ _ _ _ _=>us1 fun _=>rfl
  have D9:Zq K mg "our_window" zs9 zP9:=⟨_,_,F9,b9,mg_of X G a9⟩
  have F10:=Zx (st:=ZkK) l10 c10 k10
  have b10:=F10.binds (ps:=Zo9) fun _ _ _ _ _ _=>us1 fun _=>rfl
  have D10:Zq K mg "has_sent_fin" ZkK Zo9:=⟨_,_,F10,b10,mg_of X G a10⟩
  have F11:=Zx (st:=ZkJ) l11 c11 k11
  have b11:=F11.binds (ps:=Zo8) fun _ _ _ _ _ _=>us1 fun _=>rfl
  have D11:Zq K mg "folded" ZkJ Zo8:=⟨_,_,F11,b11,mg_of X G a11⟩
  have F12:=Zx (st:=ZkI) l12 c12 k12
  have b12:=F12.binds (ps:=Zo7) fun _ _ _ _ _ _=>us1 fun _=>rfl
  have D12:Zq K mg "sum_of" ZkI Zo7:=⟨_,_,F12,b12,mg_of X G a12⟩
  have F13:=Zx (st:=ZkH) l13 c13 k13
  have b13:=F13.binds (ps:=Zo6) fun _ _ _ _ _ _=>us1 fun _=>rfl
  have D13:Zq K mg "length" ZkH Zo6:=⟨_,_,F13,b13,mg_of X G a13⟩
  have F14:=Zx (st:=ZkG) l14 c14 k14
  have b14:=F14.binds (ps:=Zo5) fun _ _ _ _ _ _=>us2 fun _ _=>rfl
  have D14:Zq K mg "has" ZkG Zo5:=⟨_,_,F14,b14,mg_of X G a14⟩
  have F15:=Zx (st:=ZkF) l15 c15 k15
  have b15:=F15.binds (ps:=Zo4) fun _ _ _ _ _ _=>us2 fun _ _=>rfl
  have D15:Zq K mg "bears" ZkF Zo4:=⟨_,_,F15,b15,mg_of X G a15⟩
  have F16:=Zx (st:=ZkE) l16 c16 k16
  have b16:=F16.binds (ps:=Zo3) fun _ _ _ _ _ _=>us1 fun _=>rfl
  have D16:Zq K mg "put" ZkE Zo3:=⟨_,_,F16,b16,mg_of X G a16⟩
  have F17:=Zx (st:=ZkD) l17 c17 k17
  have b17:=F17.binds (ps:=Zo2) fun _ _ _ _ _ _=>us1 fun _=>rfl
  have D17:Zq K mg "bytes_ahead_of_sum" ZkD Zo2:=⟨_,_,F17,b17,mg_of X G a17⟩
  have F18:=Zx (st:=ZkC) l18 c18 k18
  have b18:=F18.binds (ps:=Zo1) fun _ _ _ _ _ _=>us1 fun _=>rfl
  have D18:Zq K mg "byte_of_head" ZkC Zo1:=⟨_,_,F18,b18,mg_of X G a18⟩
  have F19:=Zx (st:=ZkB) l19 c19 k19
  have b19:=F19.binds (ps:=Zo0) fun _ _ _ _ _ _=>us1 fun _=>rfl
  have D19:Zq K mg "bytes_of_most" ZkB Zo0:=⟨_,_,F19,b19,mg_of X G a19⟩
  have F20:=Zx (st:=ZkA) l20 c20 k20
  have b20:=F20.binds (ps:=ZoZ) fun _ _ _ _ _ _=>us1 fun _=>rfl
  have D20:Zq K mg "two_bytes" ZkA ZoZ:=⟨_,_,F20,b20,mg_of X G a20⟩
  have F21:=Zx (st:=Zkz) l21 c21 k21
  have b21:=F21.binds (ps:=ZoY) fun _ _ _ _ _ _=>us1 fun _=>rfl
  have D21:Zq K mg "four_bytes" Zkz ZoY:=⟨_,_,F21,b21,mg_of X G a21⟩
  have F22:=Zx (st:=Zky) l22 c22 k22
  have b22:=F22.binds (ps:=ZoX) fun _ _ _ _ _ _=>us1 fun _=>rfl
  have D22:Zq K mg "is_right" Zky ZoX:=⟨_,_,F22,b22,mg_of X G a22⟩
  have F23:=Zx (st:=Zkx) l23 c23 k23
  have b23:=F23.binds (ps:=ZoW) fun _ _ _ _ _ _=>us1 fun _=>rfl
  have D23:Zq K mg "head_of" Zkx ZoW:=⟨_,_,F23,b23,mg_of X G a23⟩
  have F24:=Zx (st:=Zkw) l24 c24 k24
  have b24:=F24.binds (ps:=ZoV) fun _ _ _ _ _ _=>us1 fun _=>rfl
  have D24:Zq K mg "is_right_long_head" Zkw ZoV:=⟨_,_,F24,b24,mg_of X G a24⟩
  have F25:=Zx (st:=Zkv) l25 c25 k25
  have b25:=F25.binds (ps:=ZoU) fun _ _ _ _ _ _=>us1 fun _=>rfl
  have D25:Zq K mg "get" Zkv ZoU:=⟨_,_,F25,b25,mg_of X G a25⟩
  have F26:=Zx (st:=Zku) l26 c26 k26
  have b26:=F26.binds (ps:=ZoT) fun _ _ _ _ _ _=>us2 fun _ _=>rfl
  have D26:Zq K mg "two_at" Zku ZoT:=⟨_,_,F26,b26,mg_of X G a26⟩
  have F27:=Zx (st:=Zkt) l27 c27 k27
  have b27:=F27.binds (ps:=ZoS) fun _ _ _ _ _ _=>us2 fun _ _=>rfl
  have D27:Zq K mg "four_at" Zkt ZoS:=⟨_,_,F27,b27,mg_of X G a27⟩
  have F28:=Zx (st:=Zks) l28 c28 k28
  have b28:=F28.binds (ps:=ZoR) fun _ _ _ _ _ _=>us1 fun _=>rfl
  have D28:Zq K mg "reset_for" Zks ZoR:=⟨_,_,F28,b28,mg_of X G a28⟩
  have F29:=Zx (st:=Zkr) l29 c29 k29
  have b29:=F29.binds (ps:=ZoQ) fun _ _ _ _ _ _=>us2 fun _ _=>rfl
  have D29:Zq K mg "owe_reset_for" Zkr ZoQ:=⟨_,_,F29,b29,mg_of X G a29⟩
  have F30:=Zx (st:=Zkq) l30 c30 k30
  have b30:=F30.binds (ps:=ZoP) fun _ _ _ _ _ _=>us2 fun _ _=>rfl
  have D30:Zq K mg "come_to_closed" Zkq ZoP:=⟨_,_,F30,b30,mg_of X G a30⟩
  have F31:=Zx (st:=Zkp) l31 c31 k31
  have b31:=F31.binds (ps:=ZoO) fun _ _ _ _ _ _=>us2 fun _ _=>rfl
  have D31:Zq K mg "come_to_listen" Zkp ZoO:=⟨_,_,F31,b31,mg_of X G a31⟩
  have F32:=Zx (st:=Zko) l32 c32 k32
  have b32:=F32.binds (ps:=ZoN) fun _ _ _ _ _ _=>us2 fun _ _=>rfl
  have D32:Zq K mg "hear_syn" Zko ZoN:=⟨_,_,F32,b32,mg_of X G a32⟩
  have F33:=Zx (st:=Zkn) l33 c33 k33
  have b33:=F33.binds (ps:=ZoM) fun _ _ _ _ _ _=>us3 fun _ _ _=>rfl
  have D33:Zq K mg "come_to_syn_sent" Zkn ZoM:=⟨_,_,F33,b33,mg_of X G a33⟩
  have F34:=Zx (st:=Zkm) l34 c34 k34
  have b34:=F34.binds (ps:=ZoL) fun _ _ _ _ _ _=>us2 fun _ _=>rfl
  have D34:Zq K mg "answers_syn" Zkm ZoL:=⟨_,_,F34,b34,mg_of X G a34⟩
  have F35:=Zx (st:=Zkl) l35 c35 k35
  have b35:=F35.binds (ps:=ZoK) fun _ _ _ _ _ _=>us2 fun _ _=>rfl
  have D35:Zq K mg "refuse" Zkl ZoK:=⟨_,_,F35,b35,mg_of X G a35⟩
  have F36:=Zx (st:=Zkk) l36 c36 k36
  have b36:=F36.binds (ps:=ZoJ) fun _ _ _ _ _ _=>us3 fun _ _ _=>rfl
  have D36:Zq K mg "go_on_from_syn_sent" Zkk ZoJ:=⟨_,_,F36,b36,mg_of X G a36⟩
  have F37:=Zx (st:=Zkj) l37 c37 k37
  have b37:=F37.binds (ps:=ZoI) fun _ _ _ _ _ _=>us3 fun _ _ _=>rfl
  have D37:Zq K mg "arrive" Zkj ZoI:=⟨_,_,F37,b37,mg_of X G a37⟩
  have F38:=Zx (st:=Zki) l38 c38 k38
  have b38:=F38.binds (ps:=ZoH) fun _ _ _ _ _ _=>us2 fun _ _=>rfl
  have D38:Zq K mg "is_for" Zki ZoH:=⟨_,_,F38,b38,mg_of X G a38⟩
  have F39:=Zx (st:=Zkh) l39 c39 k39
  have b39:=F39.binds (ps:=ZoG) fun _ _ _ _ _ _=>us3 fun _ _ _=>rfl
  have D39:Zq K mg "come_to_stream" Zkh ZoG:=⟨_,_,F39,b39,mg_of X G a39⟩
  have F40:=Zx (st:=Zkg) l40 c40 k40
  have b40:=F40.binds (ps:=ZoF) fun _ _ _ _ _ _=>us2 fun _ _=>rfl
  have D40:Zq K mg "fits" Zkg ZoF:=⟨_,_,F40,b40,mg_of X G a40⟩
  have F41:=Zx (st:=Zkf) l41 c41 k41
  have b41:=F41.binds (ps:=ZoE) fun _ _ _ _ _ _=>us2 fun _ _=>rfl
  have D41:Zq K mg "is_in_window" Zkf ZoE:=⟨_,_,F41,b41,mg_of X G a41⟩
  have F42:=Zx (st:=Zke) l42 c42 k42
  have b42:=F42.binds (ps:=ZoD) fun _ _ _ _ _ _=>us3 fun _ _ _=>rfl
  have D42:Zq K mg "turn_away" Zke ZoD:=⟨_,_,F42,b42,mg_of X G a42⟩
  have F43:=Zx (st:=Zkd) l43 c43 k43
  have b43:=F43.binds (ps:=ZoC) fun _ _ _ _ _ _=>us2 fun _ _=>rfl
  have D43:Zq K mg "hear_reset" Zkd ZoC:=⟨_,_,F43,b43,mg_of X G a43⟩
  have F44:=Zx (st:=Zkc) l44 c44 k44
  have b44:=F44.binds (ps:=ZoB) fun _ _ _ _ _ _=>us3 fun _ _ _=>rfl
  have D44:Zq K mg "goes_on_behind_answer" Zkc ZoB:=⟨_,_,F44,b44,mg_of X G a44⟩
  have F45:=Zx (st:=Zkb) l45 c45 k45
  have b45:=F45.binds (ps:=ZoA) fun _ _ _ _ _ _=>us2 fun _ _=>rfl
  have D45:Zq K mg "has_answered_syn" Zkb ZoA:=⟨_,_,F45,b45,mg_of X G a45⟩
  have F46:=Zx (st:=Zka) l46 c46 k46
  have b46:=F46.binds (ps:=Zoz) fun _ _ _ _ _ _=>us2 fun _ _=>rfl
  have D46:Zq K mg "take_window" Zka Zoz:=⟨_,_,F46,b46,mg_of X G a46⟩
  have F47:=Zx (st:=Zj9) l47 c47 k47
  have b47:=F47.binds (ps:=Zoy) fun _ _ _ _ _ _=>us3 fun _ _ _=>rfl
  have D47:Zq K mg "hear_answer" Zj9 Zoy:=⟨_,_,F47,b47,mg_of X G a47⟩
  have F48:=Zx (st:=Zj8) l48 c48 k48
  have b48:=F48.binds (ps:=Zox) fun _ _ _ _ _ _=>us2 fun _ _=>rfl
  have D48:Zq K mg "is_newer" Zj8 Zox:=⟨_,_,F48,b48,mg_of X G a48⟩
  have F49:=Zx (st:=Zj7) l49 c49 k49
  have b49:=F49.binds (ps:=Zow) fun _ _ _ _ _ _=>us2 fun _ _=>rfl
  have D49:Zq K mg "end_what_is_acknowledged" Zj7 Zow:=⟨_,_,F49,b49,mg_of X G a49⟩
  have F50:=Zx (st:=Zj6) l50 c50 k50
  have b50:=F50.binds (ps:=Zov) fun _ _ _ _ _ _=>us3 fun _ _ _=>rfl
  have D50:Zq K mg "hear_stream" Zj6 Zov:=⟨_,_,F50,b50,mg_of X G a50⟩
  have F51:=Zx (st:=Zj5) l51 c51 k51
  have b51:=F51.binds (ps:=Zou) fun _ _ _ _ _ _=>us2 fun _ _=>rfl
  have D51:Zq K mg "keep_data" Zj5 Zou:=⟨_,_,F51,b51,mg_of X G a51⟩
  have F52:=Zx (st:=Zj4) l52 c52 k52
  have b52:=F52.binds (ps:=Zot) fun _ _ _ _ _ _=>us2 fun _ _=>rfl
  have D52:Zq K mg "keep_fin" Zj4 Zot:=⟨_,_,F52,b52,mg_of X G a52⟩
  have F53:=Zx (st:=Zj3) l53 c53 k53
  have b53:=F53.binds (ps:=Zos) fun _ _ _ _ _ _=>us1 fun _=>rfl
  have D53:Zq K mg "draw_in_order" Zj3 Zos:=⟨_,_,F53,b53,mg_of X G a53⟩
  have F54:=Zx (st:=Zj2) l54 c54 k54
  have b54:=F54.binds (ps:=Zor) fun _ _ _ _ _ _=>us2 fun _ _=>rfl
  have D54:Zq K mg "hear_fin" Zj2 Zor:=⟨_,_,F54,b54,mg_of X G a54⟩
  have F55:=Zx (st:=Zj1) l55 c55 k55
  have b55:=F55.binds (ps:=Zoq) fun _ _ _ _ _ _=>us4 fun _ _ _ _=>rfl
  have D55:Zq K mg "opened" Zj1 Zoq:=⟨_,_,F55,b55,mg_of X G a55⟩
  have F56:=Zx (st:=Zj0) l56 c56 k56
  have b56:=F56.binds (ps:=Zop) fun _ _ _ _ _ _=>us2 fun _ _=>rfl
  have D56:Zq K mg "send" Zj0 Zop:=⟨_,_,F56,b56,mg_of X G a56⟩
  have F57:=Zx (st:=ZjZ) l57 c57 k57
  have b57:=F57.binds (ps:=Zoo) fun _ _ _ _ _ _=>us2 fun _ _=>rfl
  have D57:Zq K mg "going" ZjZ Zoo:=⟨_,_,F57,b57,mg_of X G a57⟩
  have F58:=Zx (st:=ZjY) l58 c58 k58
  have b58:=F58.binds (ps:=Zon) fun _ _ _ _ _ _=>us1 fun _=>rfl
  have D58:Zq K mg "paid_reset" ZjY Zon:=⟨_,_,F58,b58,mg_of X G a58⟩
  have F59:=Zx (st:=ZjX) l59 c59 k59
  have b59:=F59.binds (ps:=Zom) fun _ _ _ _ _ _=>us2 fun _ _=>rfl
  have D59:Zq K mg "is_due" ZjX Zom:=⟨_,_,F59,b59,mg_of X G a59⟩
  have F60:=Zx (st:=ZjW) l60 c60 k60
  have b60:=F60.binds (ps:=Zol) fun _ _ _ _ _ _=>us2 fun _ _=>rfl
  have D60:Zq K mg "again" ZjW Zol:=⟨_,_,F60,b60,mg_of X G a60⟩
  have F61:=Zx (st:=ZjV) l61 c61 k61
  have b61:=F61.binds (ps:=Zok) fun _ _ _ _ _ _=>us1 fun _=>rfl
  have D61:Zq K mg "most_at_once" ZjV Zok:=⟨_,_,F61,b61,mg_of X G a61⟩
  have F62:=Zx (st:=ZjU) l62 c62 k62
  have b62:=F62.binds (ps:=Zoj) fun _ _ _ _ _ _=>us1 fun _=>rfl
  have D62:Zq K mg "paid_syn" ZjU Zoj:=⟨_,_,F62,b62,mg_of X G a62⟩
  have F63:=Zx (st:=ZjT) l63 c63 k63
  have b63:=F63.binds (ps:=Zoi) fun _ _ _ _ _ _=>us4 fun _ _ _ _=>rfl
  have D63:Zq K mg "segment_of" ZjT Zoi:=⟨_,_,F63,b63,mg_of X G a63⟩
  have F64:=Zx (st:=ZjS) l64 c64 k64
  have b64:=F64.binds (ps:=Zoh) fun _ _ _ _ _ _=>us2 fun _ _=>rfl
  have D64:Zq K mg "going_as_new" ZjS Zoh:=⟨_,_,F64,b64,mg_of X G a64⟩
  have F65:=Zx (st:=ZjR) l65 c65 k65
  have b65:=F65.binds (ps:=Zog) fun _ _ _ _ _ _=>us2 fun _ _=>rfl
  have D65:Zq K mg "new_syn" ZjR Zog:=⟨_,_,F65,b65,mg_of X G a65⟩
  have F66:=Zx (st:=ZjQ) l66 c66 k66
  have b66:=F66.binds (ps:=Zof) fun _ _ _ _ _ _=>us1 fun _=>rfl
  have D66:Zq K mg "has_more" ZjQ Zof:=⟨_,_,F66,b66,mg_of X G a66⟩
  have F67:=Zx (st:=ZjP) l67 c67 k67
  have b67:=F67.binds (ps:=Zoe) fun _ _ _ _ _ _=>us1 fun _=>rfl
  have D67:Zq K mg "has_new_data" ZjP Zoe:=⟨_,_,F67,b67,mg_of X G a67⟩
  have F68:=Zx (st:=ZjO) l68 c68 k68
  have b68:=F68.binds (ps:=Zod) fun _ _ _ _ _ _=>us1 fun _=>rfl
  have D68:Zq K mg "unsent" ZjO Zod:=⟨_,_,F68,b68,mg_of X G a68⟩
  have F69:=Zx (st:=ZjN) l69 c69 k69
  have b69:=F69.binds (ps:=Zoc) fun _ _ _ _ _ _=>us1 fun _=>rfl
  have D69:Zq K mg "has_new_fin" ZjN Zoc:=⟨_,_,F69,b69,mg_of X G a69⟩
  have F70:=Zx (st:=ZjM) l70 c70 k70
  have b70:=F70.binds (ps:=Zob) fun _ _ _ _ _ _=>us2 fun _ _=>rfl
  have D70:Zq K mg "new_piece" ZjM Zob:=⟨_,_,F70,b70,mg_of X G a70⟩
  have F71:=Zx (st:=ZjL) l71 c71 k71
  have b71:=F71.binds (ps:=Zoa) fun _ _ _ _ _ _=>us2 fun _ _=>rfl
  have D71:Zq K mg "new_data" ZjL Zoa:=⟨_,_,F71,b71,mg_of X G a71⟩
  have F72:=Zx (st:=ZjK) l72 c72 k72
  have b72:=F72.binds (ps:=Zn9) fun _ _ _ _ _ _=>us1 fun _=>rfl
  have D72:Zq K mg "new_fin" ZjK Zn9:=⟨_,_,F72,b72,mg_of X G a72⟩
  have F73:=Zx (st:=ZjJ) l73 c73 k73
  have b73:=F73.binds (ps:=Zn8) fun _ _ _ _ _ _=>us2 fun _ _=>rfl
  have D73:Zq K mg "going_as_probe" ZjJ Zn8:=⟨_,_,F73,b73,mg_of X G a73⟩
  have F74:=Zx (st:=ZjI) l74 c74 k74
  have b74:=F74.binds (ps:=Zn7) fun _ _ _ _ _ _=>us1 fun _=>rfl
  have D74:Zq K mg "going_as_answer" ZjI Zn7:=⟨_,_,F74,b74,mg_of X G a74⟩
  have F75:=Zx (st:=ZjH) l75 c75 k75
  have b75:=F75.binds (ps:=Zn6) fun _ _ _ _ _ _=>us2 fun _ _=>rfl
  have D75:Mk0 K mg "Host" "Host.__init__" ZjH Zn6:=⟨_,_,F75,b75,⟨mk_Host,a75,i75,kc_Host⟩,mg_of X G aC_Host⟩
  have F76:=Zx (st:=ZiD) l76 c76 k76
  have b76:=F76.binds (ps:=Zm6) fun _ _ _ _ _ _=>us2 fun _ _=>rfl
  have D76:Me0 K mg "Host" "listens" "Host.listens" ZiD Zm6:=⟨_,_,F76,b76,⟨a76,i76,k76⟩⟩
  have F77:=Zx (st:=ZiC) l77 c77 k77
  have b77:=F77.binds (ps:=Zm5) fun _ _ _ _ _ _=>us3 fun _ _ _=>rfl
  have D77:Me0 K mg "Host" "calls" "Host.calls" ZiC Zm5:=⟨_,_,F77,b77,⟨a77,i77,k77⟩⟩
  have F78:=Zx (st:=ZjG) l78 c78 k78
  have b78:=F78.binds (ps:=Zn5) fun _ _ _ _ _ _=>us3 fun _ _ _=>rfl
  have D78:Me0 K mg "Host" "arrives" "Host.arrives" ZjG Zn5:=⟨_,_,F78,b78,⟨a78,i78,k78⟩⟩
  have F79:=Zx (st:=ZjF) l79 c79 k79
  have b79:=F79.binds (ps:=Zn4) fun _ _ _ _ _ _=>us2 fun _ _=>rfl
  have D79:Me0 K mg "Host" "sends" "Host.sends" ZjF Zn4:=⟨_,_,F79,b79,⟨a79,i79,k79⟩⟩
  have F80:=Zx (st:=ZjE) l80 c80 k80
  have b80:=F80.binds (ps:=Zn3) fun _ _ _ _ _ _=>us3 fun _ _ _=>rfl
  have D80:Zq K mg "live_end" ZjE Zn3:=⟨_,_,F80,b80,mg_of X G a80⟩
  have F81:=Zx (st:=ZjD) l81 c81 k81
  have b81:=F81.binds (ps:=Zn2) fun _ _ _ _ _ _=>us4 fun _ _ _ _=>rfl
  have D81:Zq K mg "made_end" ZjD Zn2:=⟨_,_,F81,b81,mg_of X G a81⟩
  have F82:=Zx (st:=ZjC) l82 c82 k82
  have b82:=F82.binds (ps:=Zn1) fun _ _ _ _ _ _=>us2 fun _ _=>rfl
  have D82:Zq K mg "end_for" ZjC Zn1:=⟨_,_,F82,b82,mg_of X G a82⟩
  have F83:=Zx (st:=ZjB) l83 c83 k83
  have b83:=F83.binds (ps:=Zn0) fun _ _ _ _ _ _=>us1 fun _=>rfl
  have D83:Zq K mg "is_call" ZjB Zn0:=⟨_,_,F83,b83,mg_of X G a83⟩
  have F84:=Zx (st:=ZjA) l84 c84 k84
  have b84:=F84.binds (ps:=ZnZ) fun _ _ _ _ _ _=>us2 fun _ _=>rfl
  have D84:Zq K mg "_law_cell" ZjA ZnZ:=⟨_,_,F84,b84,mg_of X G a84⟩
  have F85:=Zx (st:=Zjz) l85 c85 k85
  have b85:=F85.binds (ps:=ZnY) fun _ _ _ _ _ _=>us2 fun _ _=>rfl
  have D85:Zq K mg "_law_mix" Zjz ZnY:=⟨_,_,F85,b85,mg_of X G a85⟩
  have F86:=Zx (st:=Zjy) l86 c86 k86
  have b86:=F86.binds (ps:=ZnX) fun _ _ _ _ _ _=>us1 fun _=>rfl
  have D86:Zq K mg "_law_two" Zjy ZnX:=⟨_,_,F86,b86,mg_of X G a86⟩
  have F87:=Zx (st:=Zjx) l87 c87 k87
  have b87:=F87.binds (ps:=ZnW) fun _ _ _ _ _ _=>us1 fun _=>rfl
  have D87:Zq K mg "_law_folded" Zjx ZnW:=⟨_,_,F87,b87,mg_of X G a87⟩
  have F88:=Zx (st:=Zjw) l88 c88 k88
  have b88:=F88.binds (ps:=ZnV) fun _ _ _ _ _ _=>us1 fun _=>rfl
  have D88:Zq K mg "_law_bytes" Zjw ZnV:=⟨_,_,F88,b88,mg_of X G a88⟩
  have F89:=Zx (st:=ZiB) l89 c89 k89
  have b89:=F89.binds (ps:=ZnU) fun _ _ _ _ _ _=>us2 fun _ _=>rfl
  have D89:Zq K mg "_law_any" ZiB ZnU:=⟨_,_,F89,b89,mg_of X G a89⟩
  have F90:=Zx (st:=Zjv) l90 c90 k90
  have b90:=F90.binds (ps:=ZnT) fun _ _ _ _ _ _=>us4 fun _ _ _ _=>rfl
  have D90:Zq K mg "_law_refused" Zjv ZnT:=⟨_,_,F90,b90,mg_of X G a90⟩
  have F91:=Zx (st:=ZgR) l91 c91 k91
  have b91:=F91.binds (ps:=ZnS) fun _ _ _ _ _ _=>us1 fun _=>rfl
  have D91:Zq K mg "law" ZgR ZnS:=⟨_,_,F91,b91,mg_of X G a91⟩
  have F92:=Zx (st:=ZiA) l92 c92 k92
  have b92:=F92.binds (ps:=ZnR) fun _ _ _ _ _ _=>us2 fun _ _=>rfl
  have D92:Me0 K mg "Host" "taken_end" "Host.taken_end" ZiA ZnR:=⟨_,_,F92,b92,⟨a92,i92,k92⟩⟩
  refine ⟨fnOf "law" "law" (Zs ZgR) (Zn ZgR) (Zg ZgR) .none kV91 dc91 pm91 an91 cd91 ct91,fun s v=>.of_eq rfl,fun base BX BG=>?_⟩
  exact ZrH law_true (Ztz F91 D0 D1 D2 D3 D4 D5 D6 D7 D8 D9 D10 D11 D12 D13 D14 D15 D16 D17 D18 D19 D20 D21 D22 D23 D24 D25 D26 D27 D28 D29 D30 D31 D32 D33 D34 D35 D36 D37 D38 D39 D40 D41 D42 D43 D44 D45 D46 D47 D48 D49 D50 D51 D52 D53 D54 D55 D56 D57 D58 D59 D60 D61 D62 D63 D64 D65 D66 D67 D68 D69 D70 D71 D72 D73 D74 D75 D76 D77 D78 D79 D80 D81 D82 D83 D84 D85 D86 D87 D88 D89 D90 D92 g (ZrY BX BG xaC xqC) (ZrQ BX BG xaC xqC xlC xmC xaW xqW xlW xmW xzI xzV))
theorem Zx1 {l:OpenLaw} {q:Program} {loose:List Str} {XP:(Str→Option Value)→Heap→Prop} {YP:World→Heap→Prop} {d:DefRec} {K:Params→Frag} (hn:l.most=some 63) (hdf:d.params.defaults=[])
    (hY:∀(w:World) (h:Heap),YP w h→(K w.params).In h)
    (F:∀(w:World) (mg:Str→Option Value) (fa:Addr) (h:Heap),(K w.params).In h→h.Ns mainGlobals mg→mg d.name=some (.ref fa)→
      ∃fd:FuncData,(∀(s:Shared) (u:Value),BindsTo s fd ⟨[u],[]⟩ [("_law_script",u)])∧∀base:Heap,(K w.params).In base→base.Ns mainGlobals mg→FnOk l.prog w (K w.params) mg base CX0 10 fa fd ["_law_script"] (Zmt (K w.params))) :
    WalkO q loose XP YP l.row.toRowW d [] (fun f vs=>PySem.call f vs):=
  L2.ZqZ (n:=63) (k:=10) (x:="_law_script") (CX:=fun _=>CX0) (sp:=fun w=>Zmt (K w.params)) hn (by decide) hdf ⟨rfl,by decide,by decide⟩ hY F (fun _ H a ns hl hO hS=>⟨a,ns,rfl,hO,hS,hl,fun _=>rfl⟩) fun _ _ _ _ _ z=>z
end My
open PySem PySem.W PyProof.Rows
set_option maxRecDepth 100000 in
set_option maxHeartbeats 0 in
theorem PySem.Challenge.cw_wirestream_k41_ports_refused_holds : PySem.Challenge.rw_wirestream_k41_ports_refused.Holds := by
  w_on; o_law; k_head; (case hw=>w_witness2)
  k_fill
  refine My.Zx1 (l:=PySem.Challenge.rw_wirestream_k41_ports_refused) rfl rfl (fun w h Y=>PySem.W.kIn_of Y) ?F
  case F=>
    intro w mg fa h KX G hmg
    refine' My.ZtX KX G hmg ?aC_End ?aC_Host ?aC_Pile ?xaC ?xaW ?xqC ?xqW ?xlC ?xlW ?xmC ?xmW ?xzI ?xzV ?a0 ?i0 ?l0 ?c0 ?k0 ?a1 ?l1 ?c1 ?k1 ?a2 ?l2 ?c2 ?k2 ?a3 ?l3 ?c3 ?k3 ?a4 ?l4 ?c4 ?k4 ?a5 ?l5 ?c5 ?k5 ?a6 ?l6 ?c6 ?k6 ?a7 ?i7 ?l7 ?c7 ?k7 ?a8 ?l8 ?c8 ?k8 ?a9 ?l9 ?c9 ?k9 ?a10 ?l10 ?c10 ?k10 ?a11 ?l11 ?c11 ?k11 ?a12 ?l12 ?c12 ?k12 ?a13 ?l13 ?c13 ?k13 ?a14 ?l14 ?c14 ?k14 ?a15 ?l15 ?c15 ?k15 ?a16 ?l16 ?c16 ?k16 ?a17 ?l17 ?c17 ?k17 ?a18 ?l18 ?c18 ?k18 ?a19 ?l19 ?c19 ?k19 ?a20 ?l20 ?c20 ?k20 ?a21 ?l21 ?c21 ?k21 ?a22 ?l22 ?c22 ?k22 ?a23 ?l23 ?c23 ?k23 ?a24 ?l24 ?c24 ?k24 ?a25 ?l25 ?c25 ?k25 ?a26 ?l26 ?c26 ?k26 ?a27 ?l27 ?c27 ?k27 ?a28 ?l28 ?c28 ?k28 ?a29 ?l29 ?c29 ?k29 ?a30 ?l30 ?c30 ?k30 ?a31 ?l31 ?c31 ?k31 ?a32 ?l32 ?c32 ?k32 ?a33 ?l33 ?c33 ?k33 ?a34 ?l34 ?c34 ?k34 ?a35 ?l35 ?c35 ?k35 ?a36 ?l36 ?c36 ?k36 ?a37 ?l37 ?c37 ?k37 ?a38 ?l38 ?c38 ?k38 ?a39 ?l39 ?c39 ?k39 ?a40 ?l40 ?c40 ?k40 ?a41 ?l41 ?c41 ?k41 ?a42 ?l42 ?c42 ?k42 ?a43 ?l43 ?c43 ?k43 ?a44 ?l44 ?c44 ?k44 ?a45 ?l45 ?c45 ?k45 ?a46 ?l46 ?c46 ?k46 ?a47 ?l47 ?c47 ?k47 ?a48 ?l48 ?c48 ?k48 ?a49 ?l49 ?c49 ?k49 ?a50 ?l50 ?c50 ?k50 ?a51 ?l51 ?c51 ?k51 ?a52 ?l52 ?c52 ?k52 ?a53 ?l53 ?c53 ?k53 ?a54 ?l54 ?c54 ?k54 ?a55 ?l55 ?c55 ?k55 ?a56 ?l56 ?c56 ?k56 ?a57 ?l57 ?c57 ?k57 ?a58 ?l58 ?c58 ?k58 ?a59 ?l59 ?c59 ?k59 ?a60 ?l60 ?c60 ?k60 ?a61 ?l61 ?c61 ?k61 ?a62 ?l62 ?c62 ?k62 ?a63 ?l63 ?c63 ?k63 ?a64 ?l64 ?c64 ?k64 ?a65 ?l65 ?c65 ?k65 ?a66 ?l66 ?c66 ?k66 ?a67 ?l67 ?c67 ?k67 ?a68 ?l68 ?c68 ?k68 ?a69 ?l69 ?c69 ?k69 ?a70 ?l70 ?c70 ?k70 ?a71 ?l71 ?c71 ?k71 ?a72 ?l72 ?c72 ?k72 ?a73 ?l73 ?c73 ?k73 ?a74 ?l74 ?c74 ?k74 ?a75 ?i75 ?l75 ?c75 ?k75 ?a76 ?i76 ?l76 ?c76 ?k76 ?a77 ?i77 ?l77 ?c77 ?k77 ?a78 ?i78 ?l78 ?c78 ?k78 ?a79 ?i79 ?l79 ?c79 ?k79 ?a80 ?l80 ?c80 ?k80 ?a81 ?l81 ?c81 ?k81 ?a82 ?l82 ?c82 ?k82 ?a83 ?l83 ?c83 ?k83 ?a84 ?l84 ?c84 ?k84 ?a85 ?l85 ?c85 ?k85 ?a86 ?l86 ?c86 ?k86 ?a87 ?l87 ?c87 ?k87 ?a88 ?l88 ?c88 ?k88 ?a89 ?l89 ?c89 ?k89 ?a90 ?l90 ?c90 ?k90 ?a91 ?l91 ?c91 ?k91 ?a92 ?i92 ?l92 ?c92 ?k92 ?pg_End ?hd_End ?po_End ?sa_End ?mk_End ?kc_End ?pg_Host ?hd_Host ?po_Host ?sa_Host ?mk_Host ?kc_Host ?pg_Pile ?hd_Pile ?po_Pile ?sa_Pile ?mk_Pile ?kc_Pile ?zA0 ?zA1 ?zA2 ?zA3 ?zA4 ?zA5 ?zA6 ?zA7 ?zA8 ?zA9 ?zA10 ?zA11 ?zA12 ?zA13 ?zA14 ?zA15 ?zA16 ?zA17 ?zA18 ?zA19 ?zA20 ?zA21 ?zA22 ?zA23 ?zA24 ?zA25 ?zA26 ?zA27 ?zA28 ?zA29 ?zA30 ?zA31 ?zg0 ?zg1 ?zg2 ?zg3 ?zg4 ?zg5 ?zg6 ?zg7 ?zg8 ?zg9 ?zg10 ?zg11 ?zg12 ?zg13 ?zg14 ?zg15 ?zg16 ?zg17 ?zg18 ?zg19 ?zg20 ?zg21 ?zg22 ?zg23 ?zg24 ?zg25 ?zg26 ?zg27 ?zg28 ?zg29 ?zg30 ?zg31 ?zg32 ?zg33 ?zg34 ?zg35 ?zg36 ?zg37 ?zg38 ?zg39 ?zg40 ?zg41 ?zg42 ?zg43 ?zg44 ?z_enumerate ?z_int ?z_isinstance ?z_len ?z_list ?z_max ?z_min ?z_range ?z_sum ?z_tuple
    case aC_End | aC_Host | aC_Pile | xaC | xaW | xlC | xlW | xzI | xzV | a0 | i0 | l0 | c0 | k0 | a1 | l1 | c1 | k1 | a2 | l2 | c2 | k2 | a3 | l3 | c3 | k3 | a4 | l4 | c4 | k4 | a5 | l5 | c5 | k5 | a6 | l6 | c6 | k6 | a7 | i7 | l7 | c7 | k7 | a8 | l8 | c8 | k8 | a9 | l9 | c9 | k9 | a10 | l10 | c10 | k10 | a11 | l11 | c11 | k11 | a12 | l12 | c12 | k12 | a13 | l13 | c13 | k13 | a14 | l14 | c14 | k14 | a15 | l15 | c15 | k15 | a16 | l16 | c16 | k16 | a17 | l17 | c17 | k17 | a18 | l18 | c18 | k18 | a19 | l19 | c19 | k19 | a20 | l20 | c20 | k20 | a21 | l21 | c21 | k21 | a22 | l22 | c22 | k22 | a23 | l23 | c23 | k23 | a24 | l24 | c24 | k24 | a25 | l25 | c25 | k25 | a26 | l26 | c26 | k26 | a27 | l27 | c27 | k27 | a28 | l28 | c28 | k28 | a29 | l29 | c29 | k29 | a30 | l30 | c30 | k30 | a31 | l31 | c31 | k31 | a32 | l32 | c32 | k32 | a33 | l33 | c33 | k33 | a34 | l34 | c34 | k34 | a35 | l35 | c35 | k35 | a36 | l36 | c36 | k36 | a37 | l37 | c37 | k37 | a38 | l38 | c38 | k38 | a39 | l39 | c39 | k39 | a40 | l40 | c40 | k40 | a41 | l41 | c41 | k41 | a42 | l42 | c42 | k42 | a43 | l43 | c43 | k43 | a44 | l44 | c44 | k44 | a45 | l45 | c45 | k45 | a46 | l46 | c46 | k46 | a47 | l47 | c47 | k47 | a48 | l48 | c48 | k48 | a49 | l49 | c49 | k49 | a50 | l50 | c50 | k50 | a51 | l51 | c51 | k51 | a52 | l52 | c52 | k52 | a53 | l53 | c53 | k53 | a54 | l54 | c54 | k54 | a55 | l55 | c55 | k55 | a56 | l56 | c56 | k56 | a57 | l57 | c57 | k57 | a58 | l58 | c58 | k58 | a59 | l59 | c59 | k59 | a60 | l60 | c60 | k60 | a61 | l61 | c61 | k61 | a62 | l62 | c62 | k62 | a63 | l63 | c63 | k63 | a64 | l64 | c64 | k64 | a65 | l65 | c65 | k65 | a66 | l66 | c66 | k66 | a67 | l67 | c67 | k67 | a68 | l68 | c68 | k68 | a69 | l69 | c69 | k69 | a70 | l70 | c70 | k70 | a71 | l71 | c71 | k71 | a72 | l72 | c72 | k72 | a73 | l73 | c73 | k73 | a74 | l74 | c74 | k74 | a75 | i75 | l75 | c75 | k75 | a76 | i76 | l76 | c76 | k76 | a77 | i77 | l77 | c77 | k77 | a78 | i78 | l78 | c78 | k78 | a79 | i79 | l79 | c79 | k79 | a80 | l80 | c80 | k80 | a81 | l81 | c81 | k81 | a82 | l82 | c82 | k82 | a83 | l83 | c83 | k83 | a84 | l84 | c84 | k84 | a85 | l85 | c85 | k85 | a86 | l86 | c86 | k86 | a87 | l87 | c87 | k87 | a88 | l88 | c88 | k88 | a89 | l89 | c89 | k89 | a90 | l90 | c90 | k90 | a91 | l91 | c91 | k91 | a92 | i92 | l92 | c92 | k92 | pg_End | hd_End | po_End | sa_End | mk_End | kc_End | pg_Host | hd_Host | po_Host | sa_Host | mk_Host | kc_Host | pg_Pile | hd_Pile | po_Pile | sa_Pile | mk_Pile | kc_Pile | zA0 | zA1 | zA2 | zA3 | zA4 | zA5 | zA6 | zA7 | zA8 | zA9 | zA10 | zA11 | zA12 | zA13 | zA14 | zA15 | zA16 | zA17 | zA18 | zA19 | zA20 | zA21 | zA22 | zA23 | zA24 | zA25 | zA26 | zA27 | zA28 | zA29 | zA30 | zA31 | zg0 | zg1 | zg2 | zg3 | zg4 | zg5 | zg6 | zg7 | zg8 | zg9 | zg10 | zg11 | zg12 | zg13 | zg14 | zg15 | zg16 | zg17 | zg18 | zg19 | zg20 | zg21 | zg22 | zg23 | zg24 | zg25 | zg26 | zg27 | zg28 | zg29 | zg30 | zg31 | zg32 | zg33 | zg34 | zg35 | zg36 | zg37 | zg38 | zg39 | zg40 | zg41 | zg42 | zg43 | zg44 | z_enumerate | z_int | z_isinstance | z_len | z_list | z_max | z_min | z_range | z_sum | z_tuple=>k_is
    (case xqC=>k_exc)
    (case xqW=>k_exc)
    (case xmC=>rfl)
    (case xmW=>rfl)
#print axioms PySem.Challenge.cw_wirestream_k41_ports_refused_holds
