import PyProof.Rows.All
import KE.KDictLaws
import KE.KDictOf
import KE.KFromBytes
import KE.KIsAll
import KE.KItem
import Wide.Meth
import KE.KIntText
import KE.KPairComp
import PySem.Challenge.RW_wirestream_k06_lines_refused
set_option compiler.extract_closed false
set_option bootstrap.genMatcherCode false
set_option Elab.async false
set_option linter.all false
set_option maxRecDepth 100000
namespace L2
open PySem PySem.Spec PyProof.Rows
abbrev Key:=Sum Int Str
def ZjT:Key→Value→Bool
  | .inl k,v=>Value.isInt k v
  | .inr x,v=>Value.isStrOf x v
def ZmB (w:World):Key→Int
  | .inl k=>hashInt k
  | .inr x=>hashStr w x
theorem Z4:∀{k:Key} {v:Value},ZjT k v=true→(∃i t,k=Sum.inl i∧v=Value.int i t)∨(∃x t,k=Sum.inr x∧v=Value.str x t)
  | .inl i,v,h=>by
    obtain ⟨t,e⟩:=Value.isInt_shape (k:=i) (v:=v) h
    exact .inl ⟨i,t,rfl,e⟩
  | .inr x,v,h=>by
    obtain ⟨t,e⟩:=Value.isStrOf_shape (x:=x) (v:=v) h
    exact .inr ⟨x,t,rfl,e⟩
theorem ZkE (a b:Int):decide ((Sum.inl a:Key)=Sum.inl b)=(a == b):=by
  by_cases e:a=b
  · subst e; simp
  · have h:¬(Sum.inl a:Key)=Sum.inl b:=fun q=>e (Sum.inl.inj q)
    rw [decide_eq_false h]
    exact (beq_eq_false_iff_ne.mpr e).symm
theorem ZkB (a b:Str):decide ((Sum.inr a:Key)=Sum.inr b)=decide (a=b):=by
  by_cases e:a=b
  · subst e; simp
  · have h:¬(Sum.inr a:Key)=Sum.inr b:=fun q=>e (Sum.inr.inj q)
    rw [decide_eq_false h,decide_eq_false e]
theorem ZkD (a:Int) (b:Str):decide ((Sum.inl a:Key)=Sum.inr b)=false:=decide_eq_false (fun q=>nomatch q)
theorem ZkC (a:Str) (b:Int):decide ((Sum.inr a:Key)=Sum.inl b)=false:=decide_eq_false (fun q=>nomatch q)
def ZeJ (prog:Program) (w:World):PySem.KeyKind prog w Key where
  is:=ZjT
  hash:=ZmB w
  inj:=fun v a b ha hb=>by
    rcases Z4 ha with ⟨i,t,rfl,rfl⟩ | ⟨x,t,rfl,rfl⟩
    · rcases Z4 hb with ⟨j,u,rfl,e⟩ | ⟨y,u,rfl,e⟩
      · injection e with e1 _; rw [e1]
      · exact nomatch e
    · rcases Z4 hb with ⟨j,u,rfl,e⟩ | ⟨y,u,rfl,e⟩
      · exact nomatch e
      · injection e with e1 _; rw [e1]
  byValue:=fun k v h=>by
    rcases Z4 h with ⟨i,t,rfl,rfl⟩ | ⟨x,t,rfl,rfl⟩<;>rfl
  pyHash:=fun hv h=>by
    rcases Z4 hv with ⟨i,t,rfl,rfl⟩ | ⟨x,t,rfl,rfl⟩
    · exact wpAny_pyHash_int h
    · exact wpAny_pyHash_str h
  eqBool:=fun hu hv h=>by
    rcases Z4 hu with ⟨i,t,rfl,rfl⟩ | ⟨x,t,rfl,rfl⟩
    · rcases Z4 hv with ⟨j,u,rfl,rfl⟩ | ⟨y,u,rfl,rfl⟩
      · rw [ZkE] at h; exact wpAny_eqBool_int h
      · rw [ZkD] at h; exact SeqAt.EqAt.int_str i t y u _ _ _ _ h
    · rcases Z4 hv with ⟨j,u,rfl,rfl⟩ | ⟨y,u,rfl,rfl⟩
      · rw [ZkC] at h; exact SeqAt.EqAt.str_int x t j u _ _ _ _ h
      · rw [ZkB] at h; exact wpAny_eqBool_str h
  «strs»:=fun k x t v h=>by
    rcases Z4 h with ⟨i,u,rfl,e⟩ | ⟨y,u,rfl,e⟩
    · exact nomatch e
    · injection e with e1 _
      subst e1
      cases v<;>rfl
end L2
namespace L2
open PySem PySem.Spec PyProof.Rows
inductive V where
  | non | bl (b:Bool) | int (i:Int) | str (x:Str) | byt (b:Array UInt8) | flt (b:UInt64) | ref (a:Addr) | ty (n:String)
  deriving DecidableEq
def RelV:V→Value→Prop
  | .non,u=>u=Value.none
  | .bl b,u=>u=Value.bool b
  | .int i,u=>∃t,u=Value.int i t
  | .str x,u=>∃t,u=Value.str x t
  | .byt b,u=>∃t,u=Value.bytes b t
  | .flt b,u=>∃t,u=Value.float b t
  | .ref a,u=>u=Value.ref a
  | .ty n,u=>u=Value.type n
abbrev Vals:List V→List Value→Prop:=Paired RelV
theorem Vals.length {xs:List V} {us:List Value} (r:Vals xs us):xs.length=us.length:=Paired.length r
theorem Vals.get:∀{xs:List V} {us:List Value} {i:Nat} {x:V},Vals xs us→xs[i]?=some x→∃u,us[i]?=some u∧RelV x u
  | _,_,_,_,.nil,e=>by simp at e
  | _,_,0,_,.cons r _,e=>by simp at e; subst e; exact ⟨_,rfl,r⟩
  | _,_,i+1,x,.cons _ t,e=>by
    obtain ⟨u,h1,h2⟩:=Vals.get (i:=i) (x:=x) t (by simpa using e)
    exact ⟨u,by simpa using h1,h2⟩
theorem Vals.set {x:V} {u:Value} (r:RelV x u):∀{xs:List V} {us:List Value} (i:Nat),Vals xs us→Vals (xs.set i x) (us.set i u)
  | _,_,_,.nil=>.nil
  | _,_,0,.cons _ t=>.cons r t
  | _,_,i+1,.cons q t=>.cons q (Vals.set r i t)
theorem Vals.append:∀{xs ys:List V} {us ws:List Value},Vals xs us→Vals ys ws→Vals (xs++ys) (us++ws)
  | _,_,_,_,.nil,s=>s
  | _,_,_,_,.cons r t,s=>.cons r (Vals.append t s)
theorem Vals.take:∀{xs:List V} {us:List Value} (n:Nat),Vals xs us→Vals (xs.take n) (us.take n)
  | _,_,0,_=>.nil
  | _,_,_+1,.nil=>.nil
  | _,_,n+1,.cons r t=>.cons r (Vals.take n t)
theorem Vals.drop:∀{xs:List V} {us:List Value} (n:Nat),Vals xs us→Vals (xs.drop n) (us.drop n)
  | _,_,0,r=>r
  | _,_,_+1,.nil=>.nil
  | _,_,n+1,.cons _ t=>Vals.drop n t
def RelO:Option V→Option Value→Prop
  | some v,some u=>RelV v u
  | none,none=>True
  | _,_=>False
def KV {κ:Type}:List (κ×V)→List (κ×Value)→Prop:=Paired fun (p:κ×V) (q:κ×Value)=>p.1=q.1∧RelV p.2 q.2
def kV:Key→V
  | .inl i=>.int i
  | .inr x=>.str x
inductive HO where
  | lst (xs:List V)
  | tup (xs:List V)
  | dK (kvs:List (Key×V)) | dT (kvs:List (List Key×V))
  | set (S:Int→Bool) (n:Nat)
  | ins (C dx:Addr) (fs:List (Str×V))
  | own (x:Addr)
  | xd (fs:List (Str×V))
  | met (f x:Addr)
  | rng (lo hi:Int)
  | frz (o:Obj) (u:HO)
  | tbl (ps:Array Value)
  | ext (φ:Heap→Prop)
abbrev Hp:=Addr→Option HO
def upd (H:Hp) (a:Addr) (o:HO):Hp:=fun b=>if b=a then some o else H b
theorem ZX {H:Hp} {a:Addr} {o:HO}:upd H a o a=some o:=by unfold upd; rw [if_pos rfl]
theorem Zq {H:Hp} {a b:Addr} {o:HO} (h:b≠a):upd H a o b=H b:=by unfold upd; rw [if_neg h]
theorem ZE {H:Hp} {a b:Addr} {o:HO} (h:H a=some o) (h':H b=none):a≠b:=by
  intro e; subst e; rw [h] at h'; cases h'
section
variable (P:Program) (w:World)
def ObjOk (H:Hp) (h:Heap) (a:Addr):HO→Prop
  | .lst xs=>xs.length≤sizeLine∧∃(its:List Value) (n:Nat),Vals xs its∧h.get? a=some { cls:=.type "list",data:=.seq its.toArray n }
  | .tup xs=>xs.length≤sizeLine∧∃its:List Value,Vals xs its∧IsTup h a its.toArray
  | .dK kvs=>kvs.length≤sizeLine∧(a == sysModules)=false∧∃vs,KV kvs vs∧h.DictOf (ZeJ P w) a vs
  | .dT kvs=>kvs.length≤sizeLine∧(a == sysModules)=false∧∃xs:List (List Key×Addr×Value),
      Paired (fun (p:List Key×V) (q:List Key×Addr×Value)=>p.1=q.1∧H q.2.1=some (.tup (p.1.map kV))∧RelV p.2 q.2.2) kvs xs∧
      ∃o es ep,h.get? a=some o∧o.ExactDict∧o.data=.dict es ep∧es.toList=xs.map (entryOfKey (tupleKind (ZeJ P w)))∧(xs.map (·.1)).Nodup
  | .set S n=>h.SetOf (intKind P w) a S n
  | .ins C dx fs=>H dx=some (.own a)∧fs.length≤1000∧dx≠a∧h.get? a=some (PySem.W.instObj C dx)∧
      ∃mA,h.Ns1 dx mA∧(∀f,RelO (fs.lookup f) (mA f))∧PySem.Within mA (fs.map (·.1))
  | .own _=>∃o,h.get? a=some o
  | .xd fs=>∃mA,h.Ns1 a mA∧∀f,RelO (fs.lookup f) (mA f)
  | .rng lo hi=>∃t u v,h.get? a=some { cls:=.type "range",data:=.fields #[.int lo t,.int hi u,.int 1 v] }
  | .frz o u=>h.get? a=some o∧ObjOk H h a u
  | .tbl ps=>h.get? a=some { cls:=.none,data:=.fields ps }
  | .met f x=>h.get? a=some (PySem.W.methodObj (.ref f) (.ref x))
  | .ext φ=>φ h∧(∃o,h.get? a=some o)∧∀h1 h2:Heap,φ h1→(∀o,h1.get? a=some o→h2.get? a=some o)→φ h2
def HOk (H:Hp) (h:Heap):Prop:=∀a o,H a=some o→ObjOk P w H h a o
end
section
variable {P:Program} {w:World} {H H':Hp} {h h':Heap} {a:Addr} {o:HO}
theorem ObjOk.lt (x:ObjOk P w H h a o):a<h.objs.size:=by
  cases o with
  | lst xs=>obtain ⟨_,_,_,_,e⟩:=x; exact Heap.lt_size e
  | tup xs=>obtain ⟨_,_,_,p⟩:=x; exact p.lt
  | dK kvs=>obtain ⟨_,_,_,_,o,_,_,e,_⟩:=x; exact Heap.lt_size e
  | dT kvs=>obtain ⟨_,_,_,_,o,_,_,e,_⟩:=x; exact Heap.lt_size e
  | set S n=>obtain ⟨o,_,_,_,e,_⟩:=x; exact Heap.lt_size e
  | ins C dx fs=>obtain ⟨_,_,_,e,_⟩:=x; exact Heap.lt_size e
  | own y=>obtain ⟨_,e⟩:=x; exact Heap.lt_size e
  | xd fs=>obtain ⟨_,⟨_,_,_,e,_⟩,_⟩:=x; exact Heap.lt_size e
  | rng lo hi=>obtain ⟨_,_,_,e⟩:=x; exact Heap.lt_size e
  | frz ob u=>obtain ⟨e,_⟩:=x; exact Heap.lt_size e
  | tbl ps=>exact Heap.lt_size (show h.get? a=some _ from x)
  | met f y=>exact Heap.lt_size (show h.get? a=some _ from x)
  | ext φ=>obtain ⟨_,⟨_,e⟩,_⟩:=x; exact Heap.lt_size e
theorem Paired.mapP {α β:Type} {F G:α→β→Prop}:∀{l₁:List α} {l₂:List β},Paired F l₁ l₂→(∀a b,F a b→G a b)→Paired G l₁ l₂
  | _,_,.nil,_=>.nil
  | _,_,.cons r t,f=>.cons (f _ _ r) (Paired.mapP t f)
theorem ObjOk.stay (x:ObjOk P w H h a o) (k:∀b u,(b=a∨H b=some (.own a))→h.get? b=some u→h'.get? b=some u)
    (ho:∀b,H b=some (.own a)→H' b=some (.own a)) (ht:∀b xs,H b=some (.tup xs)→H' b=some (.tup xs)):ObjOk P w H' h' a o:=by
  induction o with
  | lst xs=>obtain ⟨z,its,n,r,e⟩:=x; exact ⟨z,its,n,r,k _ _ (.inl rfl) e⟩
  | tup xs=>obtain ⟨z,its,r,ob,e,c⟩:=x; exact ⟨z,its,r,ob,k _ _ (.inl rfl) e,c⟩
  | dK kvs=>obtain ⟨z,y,vs,r,ob,es,ep,e,c⟩:=x; exact ⟨z,y,vs,r,ob,es,ep,k _ _ (.inl rfl) e,c⟩
  | dT kvs=>
    obtain ⟨z,y,xs,r,ob,es,ep,e,c⟩:=x
    exact ⟨z,y,xs,Paired.mapP r fun p q z=>⟨z.1,ht _ _ z.2.1,z.2.2⟩,ob,es,ep,k _ _ (.inl rfl) e,c⟩
  | set S n=>obtain ⟨ob,es,ep,t,e,c⟩:=x; exact ⟨ob,es,ep,t,k _ _ (.inl rfl) e,c⟩
  | ins C dx fs=>
    obtain ⟨d,z,ne,e,mA,⟨od,es,ep,e2,c⟩,r⟩:=x
    exact ⟨ho _ d,z,ne,k _ _ (.inl rfl) e,mA,⟨od,es,ep,k _ _ (.inr d) e2,c⟩,r⟩
  | own y=>obtain ⟨ob,e⟩:=x; exact ⟨ob,k _ _ (.inl rfl) e⟩
  | xd fs=>obtain ⟨mA,⟨od,es,ep,e,c⟩,r⟩:=x; exact ⟨mA,⟨od,es,ep,k _ _ (.inl rfl) e,c⟩,r⟩
  | rng lo hi=>obtain ⟨t,u,v,e⟩:=x; exact ⟨t,u,v,k _ _ (.inl rfl) e⟩
  | frz ob u ih=>obtain ⟨e,q⟩:=x; exact ⟨k _ _ (.inl rfl) e,ih q⟩
  | tbl ps=>
    have e:h.get? a=some { cls:=.none,data:=.fields ps }:=x
    show h'.get? a=some { cls:=.none,data:=.fields ps }
    exact k a _ (.inl rfl) e
  | met f y=>
    have e:h.get? a=some (PySem.W.methodObj (.ref f) (.ref y)):=x
    show h'.get? a=some (PySem.W.methodObj (.ref f) (.ref y))
    exact k a _ (.inl rfl) e
  | ext φ=>obtain ⟨p,⟨o,e⟩,st⟩:=x; exact ⟨st _ _ p fun o q=>k _ _ (.inl rfl) q,⟨o,k _ _ (.inl rfl) e⟩,st⟩
theorem HOk.lt (x:HOk P w H h) (e:H a=some o):a<h.objs.size:=(x a o e).lt
theorem HOk.fresh (x:HOk P w H h) (e:h.objs.size≤a):H a=none:=by
  cases q:H a with
  | none=>rfl
  | some u=>exact absurd (Nat.lt_of_lt_of_le (x.lt q) e) (Nat.lt_irrefl _)
theorem HOk.kept (x:HOk P w H h) (k:∀b u,h.get? b=some u→h'.get? b=some u):HOk P w H h':=fun a o e=>
  (x a o e).stay (fun b u _ q=>k b u q) (fun _ q=>q) fun _ _ q=>q
theorem HOk.laid (x:HOk P w H h) (k:∀b u,h.get? b=some u→h'.get? b=some u) (hp:h.objs.size≤a) (new:ObjOk P w (upd H a o) h' a o):HOk P w (upd H a o) h':=fun b u e=>by
  have hn:=x.fresh hp
  by_cases hb:b=a
  · subst hb; rw [ZX] at e; cases e; exact new
  · rw [Zq hb] at e
    exact (x b u e).stay (fun c v _ q=>k c v q) (fun c q=>by rw [Zq (ZE q hn)]; exact q) fun c xs q=>by rw [Zq (ZE q hn)]; exact q
end
def Rd (H:Hp) (a:Addr) (u:HO):Prop:=H a=some u∨∃o,H a=some (.frz o u)
theorem Rd.ok {P:Program} {w:World} {H:Hp} {h:Heap} {a:Addr} {u:HO} (r:Rd H a u) (x:HOk P w H h):ObjOk P w H h a u:=by
  rcases r with r | ⟨o,r⟩
  · exact x a u r
  · obtain ⟨_,q⟩:=x a _ r
    exact q
def Mut:Option HO→Prop
  | some (.lst _)=>True
  | some (.dK _)=>True
  | some (.dT _)=>True
  | some (.set _ _)=>True
  | some (.ins _ _ _)=>True
  | some (.ext _)=>True
  | _=>False
section
variable {P:Program} {w:World} {H:Hp} {h h':Heap} {x e:Addr} {o':HO}
theorem HOk.write (ok:HOk P w H h) (mu:Mut (H x)) (he:e=x∨H e=some (.own x)) (k:∀b u,b≠e→h.get? b=some u→h'.get? b=some u) (heo:∃u,h'.get? e=some u)
    (new:ObjOk P w (upd H x o') h' x o'):HOk P w (upd H x o') h':=fun b u q=>by
  have nown:∀c y,H c=some (.own y)→c≠x:=fun c y r z=>by subst z; rw [r] at mu; exact mu
  have ntup:∀c xs,H c=some (.tup xs)→c≠x:=fun c xs r z=>by subst z; rw [r] at mu; exact mu
  by_cases hb:b=x
  · subst hb; rw [ZX] at q; cases q; exact new
  · rw [Zq hb] at q
    by_cases hbe:b=e
    · have q':H b=some (.own x):=by
        rcases he with z | z
        · exact absurd (hbe.trans z) hb
        · rw [hbe]; exact z
      rw [q] at q'; cases q'
      obtain ⟨v,hv⟩:=heo
      exact ⟨v,by rw [hbe]; exact hv⟩
    · refine (ok b u q).stay (fun c v hc r=>k c v ?_ r) (fun c r=>by rw [Zq (nown c b r)]; exact r) fun c xs r=>by rw [Zq (ntup c xs r)]; exact r
      rcases hc with rfl | hc
      · exact hbe
      · rintro rfl
        rcases he with z | z
        · exact nown c b hc z
        · rw [hc] at z; cases z; exact hb rfl
end
structure Un (fs ex:List Addr) (H H':Hp) (h h':Heap):Prop where
  keep:∀b o,h.get? b=some o→H b=none→b∉fs→b∉ex→h'.get? b=some o
  slot:∀b o,h.get? b=some o→H b=none→b∈fs→b∉ex→∃sl,h'.get? b=some { o with slots:=sl }
  free:∀b o,h.get? b=some o→H b=none→b∉ex→H' b=none
  there:∀b o,h.get? b=some o→b∉ex→∃o',h'.get? b=some o'
  tups:∀b xs,H b=some (.tup xs)→H' b=some (.tup xs)
  frzs:∀b o u,H b=some (.frz o u)→H' b=some (.frz o u)
  tbls:∀b ps,H b=some (.tbl ps)→∃more,H' b=some (.tbl (ps++more))
section
variable {fs fs' ex ex':List Addr} {H H1 H2:Hp} {h h1 h2 h':Heap} {a x e:Addr} {o:HO}
theorem Un.any (u:Un fs ex H H1 h h1) {b:Addr} {ob:Obj} (q:h.get? b=some ob) (n:H b=none) (hx:b∉ex):∃sl,h1.get? b=some { ob with slots:=sl }:=by
  by_cases hb:b∈fs
  · exact u.slot b ob q n hb hx
  · exact ⟨ob.slots,u.keep b ob q n hb hx⟩
theorem Un.kept (k:∀b u,h.get? b=some u→h'.get? b=some u):Un fs ex H H h h':=
  ⟨fun b ob q _ _ _=>k b ob q,fun b ob q _ _ _=>⟨ob.slots,k b ob q⟩,fun _ _ _ n _=>n,fun b ob q _=>⟨ob,k b ob q⟩,fun _ _ q=>q,fun _ _ _ q=>q,fun _ ps q=>⟨#[],by rw [q]; simp⟩⟩
theorem Un.refl:Un fs ex H H h h:=Un.kept fun _ _ q=>q
theorem Un.laid (k:∀b u,h.get? b=some u→h'.get? b=some u) (hp:h.objs.size≤a) (hn:H a=none):Un fs ex H (upd H a o) h h' where
  keep:=fun b u q _ _ _=>k b u q
  slot:=fun b u q _ _ _=>⟨u.slots,k b u q⟩
  free:=fun b u q n _=>by rw [Zq (Nat.ne_of_lt (Nat.lt_of_lt_of_le (Heap.lt_size q) hp))]; exact n
  there:=fun b u q _=>⟨u,k b u q⟩
  tups:=fun b xs q=>by rw [Zq (ZE q hn)]; exact q
  frzs:=fun b u xs q=>by rw [Zq (ZE q hn)]; exact q
  tbls:=fun b ps q=>⟨#[],by rw [Zq (ZE q hn),q]; simp⟩
theorem Un.write (mu:Mut (H x)) (he:e=x∨H e=some (.own x)) (k:∀b u,b≠e→h.get? b=some u→h'.get? b=some u) (heo:∃u,h'.get? e=some u):Un fs ex H (upd H x o) h h':=by
  have hx:∀b,H b=none→b≠x:=fun b n z=>by subst z; rw [n] at mu; exact mu
  have hb:∀b,H b=none→b≠e:=fun b n z=>by
    subst z
    rcases he with r | r
    · exact hx b n r
    · rw [n] at r; cases r
  have hm:∀b u,H b=some u→¬Mut (some u)→b≠x:=fun b u q nm z=>by subst z; rw [q] at mu; exact nm mu
  refine ⟨fun b u q n _ _=>k b u (hb b n) q,fun b u q n _ _=>⟨u.slots,k b u (hb b n) q⟩,fun b u q n _=>by rw [Zq (hx b n)]; exact n,fun b u q _=>?_,
    fun b xs q=>by rw [Zq (hm b _ q fun z=>z)]; exact q,fun b u xs q=>by rw [Zq (hm b _ q fun z=>z)]; exact q,fun b ps q=>⟨#[],by rw [Zq (hm b _ q fun z=>z),q]; simp⟩⟩
  by_cases hbe:b=e
  · subst hbe; exact heo
  · exact ⟨u,k b u hbe q⟩
end
def trk (h:Heap) (H:Hp):List Addr:=(List.range h.objs.size).filter fun a=>(H a).isSome
def ZeS (h:Heap) (H:Hp):Heap:=PySem.W.hideAll h (trk h H)
theorem Zhi (h:Heap) (H:Hp):(ZeS h H).objs.size=h.objs.size:=PySem.W.hideAll_size _ _
theorem Ziw {h:Heap} {H:Hp} {b:Addr} {o:Obj} (e:h.get? b=some o) (n:H b=none):(ZeS h H).get? b=some o:=
  PySem.W.hideAll_get _ e fun hm=>by
    have q:(H b).isSome=true:=(List.mem_filter.mp hm).2
    rw [n] at q; simp at q
theorem Zjf {h:Heap} {H:Hp} {b:Addr} {o:Obj} (e:(ZeS h H).get? b=some o):h.get? b=some o∧H b=none:=by
  have e':h.get? b=some o:=PySem.W.of_hideAll (trk h H) e
  refine ⟨e',?_⟩
  cases q:H b with
  | none=>rfl
  | some x=>
    have hm:b∈trk h H:=List.mem_filter.mpr ⟨List.mem_range.mpr (Heap.lt_size e'),by simp [q]⟩
    have z:(ZeS h H).get? b=none:=PySem.W.hideAll_none (trk h H) hm
    rw [z] at e; cases e
def ZjC (g h:Heap) (L:Addr):List (Addr×Obj):=(List.range h.objs.size).filterMap fun a=>if a=L∨(g.get? a).isSome=true then none else (h.get? a).map fun o=>(a,o)
def rest (g h:Heap) (L d:Addr):List (Addr×Obj):=(ZjC g h L).filter fun p=>decide (p.1≠d)
end L2
namespace L2
open PySem PySem.Spec PyProof.Rows
structure Mod (K:PySem.W.Frag) (mg:Str→Option Value) (base:Heap):Prop where
  kin:K.In base
  glob:base.Ns mainGlobals mg
  blt:∃mb,base.Ns builtinsNs mb∧∀x:Str,x≠"__name__"→mb x=bootBuiltins x
  nolimit:base.NoLimit
structure Cx where
  prog:Program
  w:World
  K:PySem.W.Frag
  mg:Str→Option Value
  base:Heap
  A:Around
  N:List Str
  s₀:Shared
  H₀:Hp
  env:Env
  outer:List Env
  stack:List Env
  ex:List Addr
  fn:Str→Bool
  calm:Bool
  pn:List (Addr×Obj)
  xe:Value→Shared→Prop
def frs (l:List Env):List Addr:=l.filterMap (·.frame)
abbrev Cx.fs (X:Cx):List Addr:=frs X.outer
def Vis (sc:Scope) (x:Str):Prop:=sc.names.lookup x=some .local∨sc.names.lookup x=some .cell∨sc.names.lookup x=some .free
def Loc (sc:Scope) (x:Str):Prop:=sc.names.lookup x=some .local∨sc.names.lookup x=some .cell
def ZmL (env:Env) (h:Heap) (m:Str→Option Value) (x:Str) (u:Value):Prop:=
  (env.kindOf x=some .local∧m x=some u)∨((env.kindOf x=some .cell∨env.kindOf x=some .free)∧∃c,env.cells.lookup x=some c∧h.IsCell c (some u))
structure Cx.Ok (X:Cx):Prop where
  mod:Mod X.K X.mg X.base
  kind:X.env.scope.kind=.function
  glob:X.env.globals=mainGlobals
  blt:X.env.builtins=builtinsNs
  above:X.s₀.heap.objs.size≤X.env.locals
  inj:∀x y c,X.env.cells.lookup x=some c→X.env.cells.lookup y=some c→x=y
  has:∀x,(X.env.kindOf x=some .cell∨X.env.kindOf x=some .free)→∃c,X.env.cells.lookup x=some c
  cab:∀x c,X.fn x=true→X.env.cells.lookup x=some c→X.s₀.heap.objs.size≤c
  hd:X.calm=true→X.A.handled=none
  frames:X.A.frames=some X.stack
  stk:X.stack=X.outer∨(X.stack=X.env::X.outer∧X.env.frame=some X.env.locals)
  exf:∀b∈X.ex,b≠X.env.locals∧∀x c,X.env.cells.lookup x=some c→c≠b
  bs:∀b o,X.base.get? b=some o→X.s₀.heap.get? b=some o∧X.H₀ b=none
  bsz:X.base.objs.size≤X.s₀.heap.objs.size
  noex:∀b o,X.base.get? b=some o→b∉X.ex
  exfs:∀b∈X.ex,b∉X.fs
  funs:X.s₀.heap.FunFrames X.base X.outer
  frf:∀b∈X.fs,X.H₀ b=none
structure Inv (X:Cx) (pins:List (Addr×Obj)) (σ:List (Option V)) (H:Hp) (s:Shared):Prop where
  ok:X.Ok
  os:s.os=X.s₀.os
  bare:AllBare s.gens
  base:Un X.fs X.ex X.H₀ H X.s₀.heap s.heap
  loc:∃m,s.heap.Ns X.env.locals m∧∀(i:Nat) (x:Str) (v:V),X.N[i]?=some x→σ[i]?=some (some v)→Vis X.env.scope x→∃u,RelV v u∧ZmL X.env s.heap m x u
  cell:∀x c,X.env.cells.lookup x=some c→∃v,s.heap.IsCell c v
  free:H X.env.locals=none
  freeC:∀x c,X.env.cells.lookup x=some c→H c=none
  pin:∀p∈X.pn++pins,s.heap.get? p.1=some p.2∧H p.1=none∧p.1≠X.env.locals∧p.1∉X.fs∧∀v,p.2.data≠.cell v
  hok:HOk X.prog X.w H s.heap
  len:σ.length=X.N.length
section
variable {X:Cx} {pins:List (Addr×Obj)} {σ:List (Option V)} {H H':Hp} {s:Shared} {h':Heap}
theorem Cx.Ok.nofr (ok:X.Ok) {b:Addr} {o:Obj} (e:X.base.get? b=some o):b∉X.fs:=fun hb=>by
  have:=(ok.funs.mem hb).1
  rw [e] at this; cases this
theorem Inv.bs (I:Inv X pins σ H s):∀b o,X.base.get? b=some o→s.heap.get? b=some o∧H b=none:=fun b o e=>
  ⟨I.base.keep b o (I.ok.bs b o e).1 (I.ok.bs b o e).2 (I.ok.nofr e) (I.ok.noex b o e),I.base.free b o (I.ok.bs b o e).1 (I.ok.bs b o e).2 (I.ok.noex b o e)⟩
theorem Inv.bk (I:Inv X pins σ H s):∀b o,X.base.get? b=some o→s.heap.get? b=some o:=fun b o e=>(I.bs b o e).1
theorem Inv.mod (I:Inv X pins σ H s):Mod X.K X.mg X.base:=I.ok.mod
theorem Inv.kIn (I:Inv X pins σ H s):X.K.In s.heap:=I.ok.mod.kin.keeps I.bk
theorem Inv.lt (I:Inv X pins σ H s):X.env.locals<s.heap.objs.size:=let ⟨_,hn,_⟩:=I.loc; hn.lt
theorem Inv.sz (I:Inv X pins σ H s):X.s₀.heap.objs.size≤s.heap.objs.size:=Nat.le_trans I.ok.above (Nat.le_of_lt I.lt)
theorem Inv.nofs (I:Inv X pins σ H s) {a:Addr} (h:s.heap.objs.size≤a):a∉X.fs:=fun hb=>by
  obtain ⟨_,o,ho,_⟩:=I.ok.funs.mem hb
  exact absurd (Nat.lt_of_lt_of_le (Heap.lt_size ho) (Nat.le_trans I.sz h)) (Nat.lt_irrefl _)
theorem Inv.cne (I:Inv X pins σ H s):∀x c,X.env.cells.lookup x=some c→c≠X.env.locals:=fun x c e z=>by
  obtain ⟨v,o,ho,hd⟩:=I.cell x c e
  obtain ⟨m,⟨o',es,ep,ho',hd',_⟩,_⟩:=I.loc
  rw [z,ho'] at ho; cases ho; rw [hd'] at hd; cases hd
theorem Inv.funs (I:Inv X pins σ H s):s.heap.FunFrames X.base X.outer:=by
  have all:∀(l:List Env),(∀b∈frs l,b∈X.fs)→X.s₀.heap.FunFrames X.base l→s.heap.FunFrames X.base l:=by
    intro l
    induction l with
    | nil=>intro _ _; trivial
    | cons env r ih=>
      intro hs hl
      obtain ⟨hk,⟨L,o,hf,hn,ho,hd⟩,hr⟩:=hl
      have hL:L∈X.fs:=hs L (by unfold frs; rw [List.filterMap_cons,hf]; exact List.mem_cons_self)
      obtain ⟨sl,e⟩:=I.base.slot L o ho (I.ok.frf L hL) hL fun z=>I.ok.exfs L z hL
      exact ⟨hk,⟨L,_,hf,hn,e,hd⟩,ih (fun b hb=>hs b (by unfold frs; rw [List.filterMap_cons,hf]; exact List.mem_cons_of_mem _ hb)) hr⟩
  exact all X.outer (fun _ hb=>hb) I.ok.funs
theorem Inv.stack (I:Inv X pins σ H s):s.heap.FunFrames X.base X.stack:=by
  rcases I.ok.stk with e | ⟨e,hf⟩
  · rw [e]; exact I.funs
  · rw [e]
    obtain ⟨m,hn,_⟩:=I.loc
    refine .cons (by rw [I.ok.kind]; decide) hf hn ?_ I.funs
    exact Heap.get?_none_of_le (Nat.le_trans I.ok.bsz I.ok.above)
theorem Inv.stkSub (I:Inv X pins σ H s):∀b∈frs X.stack,b∈X.env.locals::X.fs:=fun b hb=>by
  rcases I.ok.stk with e | ⟨e,hf⟩
  · rw [e] at hb; exact List.mem_cons_of_mem _ hb
  · rw [e] at hb
    unfold frs at hb
    rw [List.filterMap_cons,hf] at hb
    exact hb
theorem Inv.stkFree (I:Inv X pins σ H s):∀b∈frs X.stack,H b=none:=fun b hb=>by
  rcases List.mem_cons.mp (I.stkSub b hb) with e | hb
  · rw [e]; exact I.free
  · obtain ⟨_,o,ho,_⟩:=I.ok.funs.mem hb
    exact I.base.free b o ho (I.ok.frf b hb) fun z=>I.ok.exfs b z hb
theorem Inv.step {g':Array GenState} {t':Nat} {d':Drawn} {ch:List Addr} (I:Inv X pins σ H s)
    (hch:∀b∈ch,(b∈X.ex∨X.s₀.heap.objs.size≤b)∧b≠X.env.locals∧(∀x c,X.env.cells.lookup x=some c→c≠b)∧∀p∈X.pn++pins,p.1≠b)
    (keep:∀b o,b≠X.env.locals→b∉X.fs→b∉ch→s.heap.get? b=some o→H b=none→h'.get? b=some o)
    (slot:∀b o,b≠X.env.locals→b∈X.fs→b∉ch→s.heap.get? b=some o→H b=none→∃sl,h'.get? b=some { o with slots:=sl }) (free:∀b o,b∉ch→s.heap.get? b=some o→H b=none→H' b=none)
    (there:∀b o,b∉ch→s.heap.get? b=some o→∃o',h'.get? b=some o')
    (tups:∀b xs,H b=some (.tup xs)→H' b=some (.tup xs)) (frzs:∀b o u,H b=some (.frz o u)→H' b=some (.frz o u)) (tbls:∀b ps,H b=some (.tbl ps)→∃more,H' b=some (.tbl (ps++more)))
    (ns:∀m,s.heap.Ns X.env.locals m→h'.Ns X.env.locals m) (hok:HOk X.prog X.w H' h') (hg:AllBare g') :
    Inv X pins σ H' { s with heap:=h',gens:=g',drawn:=d',toks:=t' }:=by
  have neL:∀b o,X.s₀.heap.get? b=some o→b≠X.env.locals:=fun b o e=>Nat.ne_of_lt (Nat.lt_of_lt_of_le (Heap.lt_size e) I.ok.above)
  have neC:∀b o,X.s₀.heap.get? b=some o→b∉X.ex→b∉ch:=fun b o e hx hb=>by
    rcases (hch b hb).1 with z | z
    · exact hx z
    · exact absurd (Nat.lt_of_lt_of_le (Heap.lt_size e) z) (Nat.lt_irrefl _)
  have cellK:∀x c,X.env.cells.lookup x=some c→∀v,s.heap.IsCell c v→h'.IsCell c v:=fun x c e v ⟨o,ho,hd⟩=>by
    have nch:c∉ch:=fun z=>(hch c z).2.2.1 x c e rfl
    by_cases hc:c∈X.fs
    · obtain ⟨sl,q⟩:=slot c o (I.cne x c e) hc nch ho (I.freeC x c e)
      exact ⟨_,q,hd⟩
    · exact ⟨o,keep c o (I.cne x c e) hc nch ho (I.freeC x c e),hd⟩
  refine ⟨I.ok,I.os,hg,⟨fun b o e n hb hx=>?_,fun b o e n hb hx=>?_,fun b o e n hx=>?_,fun b o e hx=>?_,fun b xs e=>tups b xs (I.base.tups b xs e),fun b o xs e=>frzs b o xs (I.base.frzs b o xs e),fun b ps e=>?_⟩,?_,fun x c e=>?_,?_,fun x c e=>?_,fun p hp=>?_,hok,I.len⟩
  · exact keep b o (neL b o e) hb (neC b o e hx) (I.base.keep b o e n hb hx) (I.base.free b o e n hx)
  · obtain ⟨sl,e1⟩:=I.base.slot b o e n hb hx
    obtain ⟨sl',e2⟩:=slot b _ (neL b o e) hb (neC b o e hx) e1 (I.base.free b o e n hx)
    exact ⟨sl',e2⟩
  · obtain ⟨o',e1⟩:=I.base.there b o e hx
    exact free b o' (neC b o e hx) e1 (I.base.free b o e n hx)
  · obtain ⟨o',e1⟩:=I.base.there b o e hx
    exact there b o' (neC b o e hx) e1
  · obtain ⟨m1,e1⟩:=I.base.tbls b ps e
    obtain ⟨m2,e2⟩:=tbls b _ e1
    exact ⟨m1++m2,by rw [e2,Array.append_assoc]⟩
  · obtain ⟨m,hn,hl⟩:=I.loc
    refine ⟨m,ns m hn,fun i x v e1 e2 e3=>?_⟩
    obtain ⟨u,r,l⟩:=hl i x v e1 e2 e3
    refine ⟨u,r,?_⟩
    rcases l with l | ⟨k,c,e,z⟩
    · exact .inl l
    · exact .inr ⟨k,c,e,cellK x c e _ z⟩
  · obtain ⟨v,z⟩:=I.cell x c e
    exact ⟨v,cellK x c e v z⟩
  · obtain ⟨m,⟨o,_,_,ho,_⟩,_⟩:=I.loc
    exact free _ o (fun z=>(hch _ z).2.1 rfl) ho I.free
  · obtain ⟨v,o,ho,hd⟩:=I.cell x c e
    exact free c o (fun z=>(hch c z).2.2.1 x c e rfl) ho (I.freeC x c e)
  · obtain ⟨e,n,ne,nf,d⟩:=I.pin p hp
    have nch:p.1∉ch:=fun z=>(hch p.1 z).2.2.2 p hp rfl
    exact ⟨keep p.1 p.2 ne nf nch e n,free p.1 p.2 nch e n,ne,nf,d⟩
theorem Inv.un {t':Nat} (I:Inv X pins σ H s) (u:Un X.fs [] H H' s.heap h') (hok:HOk X.prog X.w H' h'):Inv X pins σ H' { s with heap:=h',toks:=t' }:=by
  obtain ⟨m,⟨o,es,ep,ho,r⟩,_⟩:=id I.loc
  obtain ⟨sl,hL⟩:=u.any ho I.free (by simp)
  exact I.step (g':=s.gens) (d':=s.drawn) (ch:=[]) (fun _ z=>nomatch z) (fun b o _ hb _ e n=>u.keep b o e n hb (by simp)) (fun b o _ hb _ e n=>u.slot b o e n hb (by simp)) (fun b o _ e n=>u.free b o e n (by simp)) (fun b o _ e=>u.there b o e (by simp)) u.tups u.frzs u.tbls (fun m' hm=>by
    obtain ⟨o',es',ep',ho',r'⟩:=hm
    rw [ho] at ho'; cases ho'
    exact ⟨_,es',ep',hL,r'⟩) hok I.bare
theorem Inv.call {g':Array GenState} {t':Nat} {d':Drawn} {ch:List Addr} (I:Inv X pins σ H s) (u:Un (frs X.stack) ch H H' s.heap h') (hok:HOk X.prog X.w H' h') (hg:AllBare g')
    (hch:∀b∈ch,(b∈X.ex∨X.s₀.heap.objs.size≤b)∧b≠X.env.locals∧(∀x c,X.env.cells.lookup x=some c→c≠b)∧∀p∈X.pn++pins,p.1≠b) :
    Inv X pins σ H' { s with heap:=h',gens:=g',drawn:=d',toks:=t' }:=by
  obtain ⟨m,⟨o,es,ep,ho,r⟩,_⟩:=id I.loc
  obtain ⟨sl,hL⟩:=u.any ho I.free fun z=>(hch _ z).2.1 rfl
  exact I.step (ch:=ch) hch (fun b o hL hb hc e n=>u.keep b o e n (fun z=>(List.mem_cons.mp (I.stkSub b z)).elim hL hb) hc) (fun b o _ _ hc e n=>u.any e n hc) (fun b o hc e n=>u.free b o e n hc) (fun b o hc e=>u.there b o e hc) u.tups u.frzs u.tbls (fun m' hm=>by
    obtain ⟨o',es',ep',ho',r'⟩:=hm
    rw [ho] at ho'; cases ho'
    exact ⟨_,es',ep',hL,r'⟩) hok hg
theorem Inv.turned {t':Nat} {it:Addr} (I:Inv X pins σ H s) (k:∀b o,b≠it→s.heap.get? b=some o→h'.get? b=some o) (hn:H it=none) (hL:it≠X.env.locals)
    (h1:it∈X.ex∨X.s₀.heap.objs.size≤it) (h2:∀x c,X.env.cells.lookup x=some c→c≠it) (h3:∀p∈X.pn++pins,p.1≠it):Inv X pins σ H { s with heap:=h',toks:=t' }:=by
  have nit:∀b u,H b=some u→b≠it:=fun b u e z=>by rw [z,hn] at e; cases e
  refine I.step (g':=s.gens) (d':=s.drawn) (ch:=[it]) (fun b hb=>?_) (fun b o _ _ hc e _=>k b o (fun z=>hc (by simp [z])) e) (fun b o _ _ hc e _=>⟨o.slots,k b o (fun z=>hc (by simp [z])) e⟩) (fun _ _ _ _ n=>n)
    (fun b o hc e=>⟨o,k b o (fun z=>hc (by simp [z])) e⟩) (fun _ _ e=>e) (fun _ _ _ e=>e) (fun b ps e=>⟨#[],by rw [e]; simp⟩) (fun m hm=>?_) (fun b u e=>?_) I.bare
  · have e:b=it:=by simpa using hb
    subst e
    exact ⟨h1,hL,h2,h3⟩
  · obtain ⟨o,es,ep,ho,r⟩:=hm
    exact ⟨o,es,ep,k _ o (Ne.symm hL) ho,r⟩
  · refine (I.hok b u e).stay (fun c v hc q=>k c v ?_ q) (fun _ q=>q) fun _ _ q=>q
    rcases hc with z | z
    · rw [z]; exact nit b u e
    · exact nit c _ z
theorem Inv.tok (I:Inv X pins σ H s) (t:Nat):Inv X pins σ H { s with toks:=t }:=I.un (h':=s.heap) (t':=t) Un.refl I.hok
theorem Inv.kept {t':Nat} (I:Inv X pins σ H s) (k:∀b u,s.heap.get? b=some u→h'.get? b=some u):Inv X pins σ H { s with heap:=h',toks:=t' }:=I.un (Un.kept k) (I.hok.kept k)
theorem Inv.laid {a:Addr} {o:HO} {t':Nat} (I:Inv X pins σ H s) (k:∀b u,s.heap.get? b=some u→h'.get? b=some u) (hp:s.heap.objs.size≤a) (new:ObjOk X.prog X.w (upd H a o) h' a o) :
    Inv X pins σ (upd H a o) { s with heap:=h',toks:=t' }:=I.un (Un.laid k hp (I.hok.fresh hp)) (I.hok.laid k hp new)
theorem Inv.write {x e:Addr} {o:HO} {t':Nat} (I:Inv X pins σ H s) (mu:Mut (H x)) (he:e=x∨H e=some (.own x)) (k:∀b u,b≠e→s.heap.get? b=some u→h'.get? b=some u) (heo:∃u,h'.get? e=some u)
    (new:ObjOk X.prog X.w (upd H x o) h' x o):Inv X pins σ (upd H x o) { s with heap:=h',toks:=t' }:=I.un (Un.write mu he k heo) (I.hok.write mu he k heo new)
theorem Inv.pins_of {pins':List (Addr×Obj)} (I:Inv X pins σ H s) (h:∀p∈pins',s.heap.get? p.1=some p.2∧H p.1=none∧p.1≠X.env.locals∧p.1∉X.fs∧∀v,p.2.data≠.cell v):Inv X pins' σ H s:=
  ⟨I.ok,I.os,I.bare,I.base,I.loc,I.cell,I.free,I.freeC,fun p hp=>(List.mem_append.mp hp).elim (fun z=>I.pin p (List.mem_append_left _ z)) (h p),I.hok,I.len⟩
theorem Zb7 {N:List Str} (hN:N.Nodup) {i j:Nat} {x:Str} (a:N[i]?=some x) (b:N[j]?=some x):i=j:=by
  obtain ⟨h1,e1⟩:=List.getElem?_eq_some_iff.mp a
  obtain ⟨h2,e2⟩:=List.getElem?_eq_some_iff.mp b
  exact (List.getElem_inj hN).mp (e1.trans e2.symm)
theorem ZgU {M:Model} {A:Around} {E:Value→Shared→Prop} {i:Nat} {x:Str} {v:V} {u:Value} {Q:Unit→Shared→Prop} (I:Inv X pins σ H s) (hN:X.N.Nodup) (hi:X.N[i]?=some x) (hx:Loc X.env.scope x) (r:RelV v u)
    (h:∀s',Inv X pins (σ.set i (some v)) H s'→(∃a,Heap.SameBut a s.heap s'.heap∧(a=X.env.locals∨X.env.cells.lookup x=some a))→Q () s') (hf:X.fn x=true∨X.env.scope.names.lookup x=some .local:=by first | exact .inl rfl | exact .inr rfl | assumption):wpAny M A (storeName X.env x u) Q E s:=by
  obtain ⟨m,hn,hl⟩:=id I.loc
  have hcls:(X.env.scope.kind == .class || (X.env.scope.kind == .module && X.env.locals != X.env.globals))=false:=by rw [I.ok.kind]; rfl
  have hiσ:i < σ.length:=by rw [I.len]; exact (List.getElem?_eq_some_iff.mp hi).1
  have cne:=I.cne
  have tracked:∀{a:Addr} {h':Heap},(∃o,s.heap.get? a=some o∧H a=none)→Heap.SameBut a s.heap h'→HOk X.prog X.w H h':=fun {a h'} ha hs b ob e=>by
    obtain ⟨_,_,hfree⟩:=ha
    refine (I.hok b ob e).stay (fun c w' hc q=>(hs.2 c ?_).trans q) (fun _ q=>q) fun _ _ q=>q
    rintro rfl
    rcases hc with rfl | hc
    · rw [hfree] at e; cases e
    · rw [hfree] at hc; cases hc
  rcases hx with hk | hk
  · refine wpAny_storeName_local hk hn (fun h' hn' hs=>?_) hcls
    obtain ⟨oL,_,_,hoL,_⟩:=id hn
    refine h _ ⟨I.ok,I.os,I.bare,⟨fun b o e n hb hx=>?_,fun b o e n hb hx=>?_,I.base.free,fun b o e hx=>?_,I.base.tups,I.base.frzs,I.base.tbls⟩,⟨_,hn',fun j y v' e1 e2 e3=>?_⟩,fun y c e=>?_,I.free,I.freeC,fun p hp=>?_,tracked ⟨oL,hoL,I.free⟩ hs,by simpa using I.len⟩ ⟨_,hs,.inl rfl⟩
    · exact (hs.2 b (Nat.ne_of_lt (Nat.lt_of_lt_of_le (Heap.lt_size e) I.ok.above))).trans (I.base.keep b o e n hb hx)
    · obtain ⟨sl,e1⟩:=I.base.slot b o e n hb hx
      exact ⟨sl,(hs.2 b (Nat.ne_of_lt (Nat.lt_of_lt_of_le (Heap.lt_size e) I.ok.above))).trans e1⟩
    · obtain ⟨o',e1⟩:=I.base.there b o e hx
      exact ⟨o',(hs.2 b (Nat.ne_of_lt (Nat.lt_of_lt_of_le (Heap.lt_size e) I.ok.above))).trans e1⟩
    · by_cases hj:j=i
      · subst hj
        rw [hi] at e1; cases e1
        rw [List.getElem?_set_self hiσ] at e2
        cases e2
        exact ⟨u,r,.inl ⟨hk,by simp⟩⟩
      · rw [List.getElem?_set_ne (Ne.symm hj)] at e2
        obtain ⟨u',r',q⟩:=hl j y v' e1 e2 e3
        refine ⟨u',r',?_⟩
        rcases q with ⟨k,e⟩ | ⟨k,c,e,z⟩
        · refine .inl ⟨k,?_⟩
          have:y≠x:=fun e=>hj (Zb7 hN e1 (e ▸ hi))
          simp [this,e]
        · exact .inr ⟨k,c,e,z.sameBut hs (cne y c e)⟩
    · obtain ⟨w',z⟩:=I.cell y c e
      exact ⟨w',z.sameBut hs (cne y c e)⟩
    · obtain ⟨e,n,ne,nf,d⟩:=I.pin p hp
      exact ⟨(hs.2 p.1 ne).trans e,n,ne,nf,d⟩
  · have hfn:X.fn x=true:=by
      rcases hf with z | z
      · exact z
      · rw [z] at hk; cases hk
    obtain ⟨c,hc⟩:=I.ok.has x (.inl hk)
    obtain ⟨w',z⟩:=I.cell x c hc
    refine wpAny_storeName_cell I.ok.kind hk hc z (fun h' hc' hs=>?_)
    obtain ⟨oc,hoc,hocd⟩:=id z
    refine h { s with heap:=h' } ⟨I.ok,I.os,I.bare,⟨fun b o e n hb hx=>?_,fun b o e n hb hx=>?_,I.base.free,fun b o e hx=>?_,I.base.tups,I.base.frzs,I.base.tbls⟩,⟨m,hn.sameBut hs (Ne.symm (cne x c hc)),fun j y v' e1 e2 e3=>?_⟩,fun y c' e=>?_,I.free,I.freeC,fun p hp=>?_,tracked ⟨oc,hoc,I.freeC x c hc⟩ hs,by simpa using I.len⟩ ⟨c,hs,.inr hc⟩
    · exact (hs.2 b (Nat.ne_of_lt (Nat.lt_of_lt_of_le (Heap.lt_size e) (I.ok.cab x c hfn hc)))).trans (I.base.keep b o e n hb hx)
    · obtain ⟨sl,e1⟩:=I.base.slot b o e n hb hx
      exact ⟨sl,(hs.2 b (Nat.ne_of_lt (Nat.lt_of_lt_of_le (Heap.lt_size e) (I.ok.cab x c hfn hc)))).trans e1⟩
    · obtain ⟨o',e1⟩:=I.base.there b o e hx
      exact ⟨o',(hs.2 b (Nat.ne_of_lt (Nat.lt_of_lt_of_le (Heap.lt_size e) (I.ok.cab x c hfn hc)))).trans e1⟩
    · by_cases hj:j=i
      · subst hj
        rw [hi] at e1; cases e1
        rw [List.getElem?_set_self hiσ] at e2
        cases e2
        exact ⟨u,r,.inr ⟨.inl hk,c,hc,hc'⟩⟩
      · rw [List.getElem?_set_ne (Ne.symm hj)] at e2
        obtain ⟨u',r',q⟩:=hl j y v' e1 e2 e3
        refine ⟨u',r',?_⟩
        rcases q with q | ⟨k,c',e,z'⟩
        · exact .inl q
        · refine .inr ⟨k,c',e,z'.sameBut hs ?_⟩
          rintro rfl
          exact hj (Zb7 hN e1 (I.ok.inj _ _ _ e hc ▸ hi))
    · by_cases hcc:c'=c
      · subst hcc; exact ⟨_,hc'⟩
      · obtain ⟨w2,z2⟩:=I.cell y c' e
        exact ⟨w2,z2.sameBut hs hcc⟩
    · obtain ⟨e,n,ne,nf,d⟩:=I.pin p hp
      refine ⟨(hs.2 p.1 ?_).trans e,n,ne,nf,d⟩
      intro q
      rw [q,hoc] at e
      have q':oc=p.2:=Option.some.inj e
      exact d w' (by rw [←q']; exact hocd)
theorem Zfd {M:Model} {A:Around} {E:Value→Shared→Prop} {i:Nat} {x:Str} {v:V} {u:Value} {Q:Unit→Shared→Prop} (I:Inv X pins σ H s) (hN:X.N.Nodup) (hi:X.N[i]?=some x) (hx:Loc X.env.scope x) (r:RelV v u)
    (h:∀s',Inv X pins (σ.set i (some v)) H s'→Q () s') (hf:X.fn x=true∨X.env.scope.names.lookup x=some .local:=by first | exact .inl rfl | exact .inr rfl | assumption):wpAny M A (storeName X.env x u) Q E s:=
  ZgU I hN hi hx r (fun s' I' _=>h s' I') hf
theorem Inv.call' {s':Shared} {ch:List Addr} (I:Inv X pins σ H s) (ho:s'.os=s.os) (u:Un (frs X.stack) ch H H' s.heap s'.heap) (hok:HOk X.prog X.w H' s'.heap) (hg:AllBare s'.gens)
    (hch:∀b∈ch,(b∈X.ex∨X.s₀.heap.objs.size≤b)∧b≠X.env.locals∧(∀x c,X.env.cells.lookup x=some c→c≠b)∧∀p∈X.pn++pins,p.1≠b):Inv X pins σ H' s':=by
  obtain ⟨h',g',d',t',o'⟩:=s'
  have e:o'=s.os:=ho
  subst e
  exact I.call (g':=g') (t':=t') (d':=d') u hok hg hch
end
abbrev XK:=Value→Option Addr→Hp→Prop
abbrev St:=List (Option V)
abbrev VK:=V→Hp→Prop
abbrev TE:=St→Hp→VK→Prop
abbrev TT:=St→Hp→(Bool→Hp→Prop)→Prop
abbrev TA:=St→Hp→(List V→Hp→Prop)→Prop
structure Ends where
  nx:St→Hp→Prop
  rt:VK
  bk:St→Hp→Prop:=fun _ _=>False
  ct:St→Hp→Prop:=fun _ _=>False
abbrev TS:=Ends→St→Hp→Prop
def EP (X:Cx) (pins:List (Addr×Obj)) (σ:St) (Q:VK) (u:Value) (s':Shared):Prop:=∃v H',Inv X pins σ H' s'∧RelV v u∧Q v H'
def TP (X:Cx) (pins:List (Addr×Obj)) (σ:St) (Q:Bool→Hp→Prop) (b:Bool) (s':Shared):Prop:=∃H',Inv X pins σ H' s'∧Q b H'
def AP (X:Cx) (pins:List (Addr×Obj)) (σ:St) (Q:List V→Hp→Prop) (us:List Value) (s':Shared):Prop:=∃vs H',Inv X pins σ H' s'∧Vals vs us∧Q vs H'
def SP (X:Cx) (pins:List (Addr×Obj)) (D:Ends) (f:Flow) (s':Shared):Prop:=
  match f with
  | .next=>∃σ' H',Inv X pins σ' H' s'∧D.nx σ' H'
  | .brk=>∃σ' H',Inv X pins σ' H' s'∧D.bk σ' H'
  | .cont=>∃σ' H',Inv X pins σ' H' s'∧D.ct σ' H'
  | .ret u=>∃v σ' H',Inv X pins σ' H' s'∧RelV v u∧D.rt v H'
def PE (X:Cx) (e:Expr) (t:TE):Prop:=
  ∀(pins:List (Addr×Obj)) (s:Shared) (σ:St) (H:Hp) (Q:VK),Inv X pins σ H s→t σ H Q→wpAny (model X.prog X.w) X.A (eval e X.env) (EP X pins σ Q) X.xe s
def PT (X:Cx) (e:Expr) (t:TT):Prop:=
  ∀(pins:List (Addr×Obj)) (s:Shared) (σ:St) (H:Hp) (Q:Bool→Hp→Prop),Inv X pins σ H s→t σ H Q→wpAny (model X.prog X.w) X.A (isTrue e X.env (eval e X.env)) (TP X pins σ Q) X.xe s
def PW (X:Cx) (e:Expr) (t:TT):Prop:=
  ∀(whole:Sem Value) (pins:List (Addr×Obj)) (s:Shared) (σ:St) (H:Hp) (Q:Bool→Hp→Prop),Inv X pins σ H s→t σ H Q→wpAny (model X.prog X.w) X.A (isTrue e X.env whole) (TP X pins σ Q) X.xe s
theorem PW.pt {X:Cx} {e:Expr} {t:TT} (h:PW X e t):PT X e t:=h _
def PA (X:Cx) (es:List Expr) (t:TA):Prop:=
  ∀(pos:Pos) (pins:List (Addr×Obj)) (s:Shared) (σ:St) (H:Hp) (Q:List V→Hp→Prop),Inv X pins σ H s→t σ H Q→wpAny (model X.prog X.w) X.A (spliced (backTo pos (starEach es X.env))) (AP X pins σ Q) X.xe s
def PS (X:Cx) (st:Stmt) (t:TS):Prop:=
  ∀(pins:List (Addr×Obj)) (s:Shared) (σ:St) (H:Hp) (D:Ends),Inv X pins σ H s→t D σ H→wpAny (model X.prog X.w) X.A (exec st X.env) (SP X pins D) X.xe s
def PSs (X:Cx) (st:List Stmt) (t:TS):Prop:=
  ∀(pins:List (Addr×Obj)) (s:Shared) (σ:St) (H:Hp) (D:Ends),Inv X pins σ H s→t D σ H→wpAny (model X.prog X.w) X.A (execs st X.env) (SP X pins D) X.xe s
theorem thn {α:Type} {t:Sem α} {Q Q':α→Shared→Prop} {M:Model} {A:Around} {E:Value→Shared→Prop} {s:Shared} (h:wpAny M A t Q E s) (hQ:∀a s,Q a s→Q' a s):wpAny M A t Q' E s:=wpAny_mono h hQ fun _ _ x=>x
end L2
namespace L2
open PySem PySem.Spec PyProof.Rows
section
variable {X:Cx}
theorem bin {a b:Expr} {ta tb:TE} (ha:PE X a ta) (hb:PE X b tb) {pins:List (Addr×Obj)} {s:Shared} {σ:St} {H:Hp} {R:V→V→Hp→Prop} (I:Inv X pins σ H s) (h:ta σ H fun x H1=>tb σ H1 fun y H2=>R x y H2)
    {α:Type} {Q:α→Shared→Prop} {f:Value→Value→Sem α}
    (hf:∀v u s2 x y H2,Inv X pins σ H2 s2→RelV x v→RelV y u→R x y H2→wpAny (model X.prog X.w) X.A (f v u) Q X.xe s2) :
    wpAny (model X.prog X.w) X.A (eval a X.env) (fun v s₁=>wpAny (model X.prog X.w) X.A (eval b X.env) (fun u s₂=>wpAny (model X.prog X.w) X.A (f v u) Q X.xe s₂) X.xe s₁) X.xe s:=by
  refine thn (ha pins s σ H _ I h) fun v s1 ⟨x,H1,I1,r1,q1⟩=>?_
  refine thn (hb pins s1 σ H1 _ I1 q1) fun u s2 ⟨y,H2,I2,r2,q2⟩=>?_
  exact hf v u s2 x y H2 I2 r1 r2 q2
def Zml (i:Nat):TE:=fun σ H Q=>∃v,σ[i]?=some (some v)∧Q v H
def tC (v:V):TE:=fun _ H Q=>Q v H
theorem ZeA {i:Nat} {x:Str} {pos:Pos} (hN:X.N[i]?=some x) (hv:Vis X.env.scope x) (hd:(x == ("__debug__":Str))=false:=by decide) (hcd:(x == ("__classdict__":Str))=false:=by decide):PE X (.Name x pos) (Zml i):=by
  intro pins s σ H Q I h
  obtain ⟨v,e,h⟩:=h
  obtain ⟨m,hn,hl⟩:=I.loc
  obtain ⟨u,r,l⟩:=hl i x v hN e hv
  have fin:EP X pins σ Q u s:=⟨v,H,I,r,h⟩
  rcases l with ⟨hk,hm⟩ | ⟨hk,c,hc,hcell⟩
  · exact wpAny_Name (wpAny_loadName_local I.ok.kind hk hn hm fin) hd
  · rcases hk with hk | hk
    · exact wpAny_Name (wpAny_loadName_cell I.ok.kind hk hc hcell fin) hd
    · exact wpAny_Name (wpAny_loadName_free I.ok.kind hk hc hcell fin hcd) hd
theorem Zkl {i j pos}:PE X (.Constant (.int i) j pos) (tC (.int i)):=fun _ _ _ H _ I h=>wpAny_Constant_int ⟨.int i,H,I.tok _,⟨_,rfl⟩,h⟩
theorem Zlm {b j pos}:PE X (.Constant (.bool b) j pos) (tC (.bl b)):=fun _ _ _ H _ I h=>Constant_bool ⟨.bl b,H,I,rfl,h⟩
theorem ZhZ {x j pos}:PE X (.Constant (.str x) j pos) (tC (.str x)):=fun _ _ _ H _ I h=>Calls.Constant_str ⟨.str x,H,I.tok _,⟨_,rfl⟩,h⟩
def Gl (X:Cx) (x:Str):Prop:=X.env.kindOf x=some .globalImplicit
theorem Zbr {E:Value→Shared→Prop} {pins:List (Addr×Obj)} {s:Shared} {σ:St} {H:Hp} {x:Str} {u:Value} {pos:Pos} {Q:Value→Shared→Prop} (I:Inv X pins σ H s) (hg:Gl X x) (hm:X.mg x=some u) (h:Q u s)
    (hd:(x == ("__debug__":Str))=false:=by decide):wpAny (model X.prog X.w) X.A (eval (.Name x pos) X.env) Q E s:=
  Calls.Name_function_global I.ok.kind hg (Calls.loadGlobal_global (by rw [I.ok.glob]; exact I.mod.glob.keeps I.bk) hm h) hd
theorem Zdx {E:Value→Shared→Prop} {pins:List (Addr×Obj)} {s:Shared} {σ:St} {H:Hp} {x:Str} {u:Value} {pos:Pos} {Q:Value→Shared→Prop} (I:Inv X pins σ H s) (hg:Gl X x) (hm:X.mg x=none) (hv:bootBuiltins x=some u) (h:Q u s)
    (hn:x≠"__name__":=by decide) (hd:(x == ("__debug__":Str))=false:=by decide):wpAny (model X.prog X.w) X.A (eval (.Name x pos) X.env) Q E s:=by
  obtain ⟨mb,h1,h2⟩:=I.mod.blt
  exact Calls.Name_function_global I.ok.kind hg (Calls.loadGlobal_builtin (by rw [I.ok.glob]; exact I.mod.glob.keeps I.bk) hm (by rw [I.ok.blt]; exact h1.keeps I.bk) ((h2 x hn).trans hv) h) hd
theorem ZeB {x:Str} {v:V} {u:Value} {pos:Pos} (hg:Gl X x) (hm:X.mg x=some u) (r:RelV v u) (hd:(x == ("__debug__":Str))=false:=by decide):PE X (.Name x pos) (tC v):=
  fun _ _ _ H _ I h=>Zbr I hg hm ⟨v,H,I,r,h⟩ hd
theorem Zje {x:Str} {v:V} {u:Value} {pos:Pos} (hg:Gl X x) (hm:X.mg x=none) (hv:bootBuiltins x=some u) (r:RelV v u) (hn:x≠"__name__":=by decide) (hd:(x == ("__debug__":Str))=false:=by decide):PE X (.Name x pos) (tC v):=
  fun _ _ _ H _ I h=>Zdx I hg hm hv ⟨v,H,I,r,h⟩ hn hd
variable {a b:Expr} {ta tb:TE} {pos:Pos}
variable {tA tB':TT} {rest:List Expr}
def Zmt (t u:TT):TT:=fun σ H Q=>t σ H fun c H1=>if c=true then u σ H1 Q else Q false H1
def tOr (t u:TT):TT:=fun σ H Q=>t σ H fun c H1=>if c=true then Q true H1 else u σ H1 Q
def Zmp (t:TT):TT:=fun σ H Q=>t σ H fun c H1=>Q (!c) H1
theorem Zi5 (ha:PT X a tA):PW X (.BoolOp .And [a] pos) tA:=by
  intro wh pins s σ H Q I h
  refine isTrue_and (thn (ha pins s σ H Q I h) fun c s1 e=>?_)
  cases c with
  | true=>exact isTrue_and_nil e
  | false=>exact e
theorem Zka (ha:PT X a tA):PW X (.BoolOp .Or [a] pos) tA:=by
  intro wh pins s σ H Q I h
  refine isTrue_or (thn (ha pins s σ H Q I h) fun c s1 e=>?_)
  cases c with
  | false=>exact isTrue_or_nil e
  | true=>exact e
theorem Zkb (ha:PT X a tA) (hb:PW X (.BoolOp .And (b::rest) pos) tB'):PW X (.BoolOp .And (a::b::rest) pos) (Zmt tA tB'):=by
  intro wh pins s σ H Q I h
  refine isTrue_and (thn (ha pins s σ H _ I h) fun c s1 ⟨H1,I1,q1⟩=>?_)
  cases c with
  | true=>exact hb wh pins s1 σ H1 Q I1 q1
  | false=>exact ⟨H1,I1,q1⟩
theorem Zlh (ha:PT X a tA) (hb:PW X (.BoolOp .Or (b::rest) pos) tB'):PW X (.BoolOp .Or (a::b::rest) pos) (tOr tA tB'):=by
  intro wh pins s σ H Q I h
  refine isTrue_or (thn (ha pins s σ H _ I h) fun c s1 ⟨H1,I1,q1⟩=>?_)
  cases c with
  | true=>exact ⟨H1,I1,q1⟩
  | false=>exact hb wh pins s1 σ H1 Q I1 q1
theorem Zkc (ha:PT X a tA):PT X (.UnaryOp .Not a pos) (Zmp tA):=by
  intro pins s σ H Q I h
  exact isTrue_not (ha pins s σ H (fun c H1=>Q (!c) H1) I h)
def Zla (ta tb:TE):TE:=fun σ H Q=>ta σ H fun x H1=>∃c,x=.bl c∧if c=true then tb σ H1 Q else Q (.bl false) H1
theorem Zh1 {op} {t:TE} (h:PE X a t):PE X (.BoolOp op [a] pos) t:=fun pins s σ H Q I hw=>BoolOp_one (h pins s σ H Q I hw)
theorem Zh5 (ha:PE X a ta) (hb:PE X (.BoolOp .And (b::rest) pos) tb):PE X (.BoolOp .And (a::b::rest) pos) (Zla ta tb):=by
  intro pins s σ H Q I h
  refine BoolOp_and (thn (ha pins s σ H _ I h) fun v s1 ⟨x,H1,I1,r1,q1⟩=>?_)
  obtain ⟨c,rfl,q1⟩:=q1
  cases r1
  refine wpAny_truthy_bool ?_
  cases c with
  | true=>exact hb pins s1 σ H1 Q I1 q1
  | false=>exact ⟨.bl false,H1,I1,rfl,q1⟩
def tIf (t:TT) (ta tb:TE):TE:=fun σ H Q=>t σ H fun c H1=>if c=true then ta σ H1 Q else tb σ H1 Q
theorem Zfi {c:Expr} (hc:PT X c tA) (ha:PE X a ta) (hb:PE X b tb):PE X (.IfExp c a b pos) (tIf tA ta tb):=by
  intro pins s σ H Q I h
  refine wpAny_IfExp (thn (hc pins s σ H _ I h) fun d s1 ⟨H1,I1,q1⟩=>?_)
  cases d with
  | true=>exact ha pins s1 σ H1 Q I1 q1
  | false=>exact hb pins s1 σ H1 Q I1 q1
end
end L2
namespace L2
open PySem PySem.Spec PyProof.Rows
def SqL (K:PySem.W.Frag) (H:Hp) (a:Addr) (xs:List V):Prop:=
  Rd H a (.lst xs)∨
    ∃(o:Obj) (its:Array Value) (n:Nat),K.lookup a=some o∧o.cls=.type "list"∧o.dict=none∧o.data=.seq its n∧its.size≤sizeLine∧Vals xs its.toList
def SqT (K:PySem.W.Frag) (H:Hp) (a:Addr) (xs:List V):Prop:=
  Rd H a (.tup xs)∨
    ∃(o:Obj) (its:Array Value) (n:Nat),K.lookup a=some o∧o.cls=.type "tuple"∧o.data=.seq its n∧its.size≤sizeLine∧Vals xs its.toList
def ZmJ:Value→Option V
  | .none=>some .non
  | .bool b=>some (.bl b)
  | .int i _=>some (.int i)
  | .str x _=>some (.str x)
  | .bytes b _=>some (.byt b)
  | .float b _=>some (.flt b)
  | .ref a=>some (.ref a)
  | .type n=>some (.ty n)
  | _=>none
theorem RelV.abs {x:V} {u:Value} (r:RelV x u):ZmJ u=some x:=by
  cases x with
  | non=>cases r; rfl
  | bl _=>cases r; rfl
  | int _=>obtain ⟨t,rfl⟩:=r; rfl
  | str _=>obtain ⟨t,rfl⟩:=r; rfl
  | byt _=>obtain ⟨t,rfl⟩:=r; rfl
  | flt _=>obtain ⟨t,rfl⟩:=r; rfl
  | ref _=>cases r; rfl
  | ty _=>cases r; rfl
theorem RelV.inj {x y:V} {u:Value} (r:RelV x u) (q:RelV y u):x=y:=Option.some.inj (r.abs.symm.trans q.abs)
theorem Vals.inj:∀{xs ys:List V} {us:List Value},Vals xs us→Vals ys us→xs=ys
  | _,_,_,.nil,.nil=>rfl
  | _,_,_,.cons r t,.cons r' t'=>by rw [r.inj r',Vals.inj t t']
section
variable {X:Cx} {pins:List (Addr×Obj)} {σ:St} {H:Hp} {s:Shared} {a:Addr} {xs ys:List V}
theorem SqL.of {K:PySem.W.Frag} (h:H a=some (.lst xs)):SqL K H a xs:=.inl (.inl h)
theorem SqT.of {K:PySem.W.Frag} (h:H a=some (.tup xs)):SqT K H a xs:=.inl (.inl h)
theorem Inv.list (I:Inv X pins σ H s) (h:SqL X.K H a xs):∃its:List Value,Vals xs its∧PlainL s.heap a its.toArray∧xs.length≤sizeLine:=by
  rcases h with h | ⟨o,its,n,hk,hc,hd,hs,hz,r⟩
  · obtain ⟨z,its,n,r,e⟩:=h.ok I.hok
    exact ⟨its,r,⟨_,n,e,rfl,rfl,rfl⟩,z⟩
  · refine ⟨its.toList,r,⟨o,n,I.kIn a o hk,hc,hd,by simpa using hs⟩,?_⟩
    have e:=r.length
    simp only [Array.length_toList] at e
    omega
theorem Inv.tuple (I:Inv X pins σ H s) (h:SqT X.K H a xs):∃its:List Value,Vals xs its∧IsTup s.heap a its.toArray∧xs.length≤sizeLine:=by
  rcases h with h | ⟨o,its,n,hk,hc,hs,hz,r⟩
  · obtain ⟨z,its,r,p⟩:=h.ok I.hok
    exact ⟨its,r,p,z⟩
  · refine ⟨its.toList,r,⟨o,I.kIn a o hk,hc,n,by simpa using hs⟩,?_⟩
    have e:=r.length
    simp only [Array.length_toList] at e
    omega
theorem Inv.list_inj (I:Inv X pins σ H s) (h:SqL X.K H a xs) (h':SqL X.K H a ys):xs=ys:=by
  obtain ⟨its,r,⟨o,n,e,_,_,d⟩,_⟩:=I.list h
  obtain ⟨its',r',⟨o',n',e',_,_,d'⟩,_⟩:=I.list h'
  rw [e] at e'; cases e'
  rw [d] at d'
  injection d' with d1 _
  have:its=its':=by simpa using congrArg Array.toList d1
  subst this
  exact r.inj r'
theorem Inv.tuple_inj (I:Inv X pins σ H s) (h:SqT X.K H a xs) (h':SqT X.K H a ys):xs=ys:=by
  obtain ⟨its,r,⟨o,e,_,n,d⟩,_⟩:=I.tuple h
  obtain ⟨its',r',⟨o',e',_,n',d'⟩,_⟩:=I.tuple h'
  rw [e] at e'; cases e'
  rw [d] at d'
  injection d' with d1 _
  have:its=its':=by simpa using congrArg Array.toList d1
  subst this
  exact r.inj r'
end
abbrev Cx.wish (X:Cx) (E:Value→Shared→Prop):Cx:={ X with xe:=E }
abbrev Cx.nox (X:Cx):Cx:=X.wish fun _ _=>False
theorem Cx.Ok.wish {X:Cx} (ok:X.Ok) (E:Value→Shared→Prop):(X.wish E).Ok:=
  ⟨ok.mod,ok.kind,ok.glob,ok.blt,ok.above,ok.inj,ok.has,ok.cab,ok.hd,ok.frames,ok.stk,ok.exf,ok.bs,ok.bsz,ok.noex,ok.exfs,ok.funs,ok.frf⟩
theorem Cx.Ok.unwish {X:Cx} {E:Value→Shared→Prop} (ok:(X.wish E).Ok):X.Ok:=
  ⟨ok.mod,ok.kind,ok.glob,ok.blt,ok.above,ok.inj,ok.has,ok.cab,ok.hd,ok.frames,ok.stk,ok.exf,ok.bs,ok.bsz,ok.noex,ok.exfs,ok.funs,ok.frf⟩
section
variable {X:Cx} {pins:List (Addr×Obj)} {σ:St} {H:Hp} {s:Shared} {E:Value→Shared→Prop}
theorem Inv.wish (I:Inv X pins σ H s) (E:Value→Shared→Prop):Inv (X.wish E) pins σ H s:=⟨I.ok.wish E,I.os,I.bare,I.base,I.loc,I.cell,I.free,I.freeC,I.pin,I.hok,I.len⟩
theorem Inv.unwish (I:Inv (X.wish E) pins σ H s):Inv X pins σ H s:=⟨I.ok.unwish,I.os,I.bare,I.base,I.loc,I.cell,I.free,I.freeC,I.pin,I.hok,I.len⟩
theorem SP.unwish {D:Ends} {f:Flow} {s':Shared} (h:SP (X.wish E) pins D f s'):SP X pins D f s':=by
  cases f with
  | next=>obtain ⟨σ',H',I,q⟩:=h; exact ⟨σ',H',I.unwish,q⟩
  | brk=>obtain ⟨σ',H',I,q⟩:=h; exact ⟨σ',H',I.unwish,q⟩
  | cont=>obtain ⟨σ',H',I,q⟩:=h; exact ⟨σ',H',I.unwish,q⟩
  | ret u=>obtain ⟨v,σ',H',I,r,q⟩:=h; exact ⟨v,σ',H',I.unwish,r,q⟩
theorem PE.nox {e:Expr} {t:TE} (h:PE X.nox e t):PE X e t:=fun pins s σ H Q I hw=>
  wpAny_mono (h pins s σ H Q (I.wish _) hw) (fun _ _ ⟨v,H',I',r,q⟩=>⟨v,H',I'.unwish,r,q⟩) fun _ _ z=>False.elim z
theorem PT.nox {e:Expr} {t:TT} (h:PT X.nox e t):PT X e t:=fun pins s σ H Q I hw=>
  wpAny_mono (h pins s σ H Q (I.wish _) hw) (fun _ _ ⟨H',I',q⟩=>⟨H',I'.unwish,q⟩) fun _ _ z=>False.elim z
theorem PSs.nox {st:List Stmt} {t:TS} (h:PSs X.nox st t):PSs X st t:=fun pins s σ H D I hw=>
  wpAny_mono (h pins s σ H D (I.wish _) hw) (fun _ _ q=>q.unwish) fun _ _ z=>False.elim z
end
section
variable {X:Cx} {st:Stmt} {rest:List Stmt} {t u:TS} {e:Expr} {te:TE} {pos:Pos}
def Zk6:TS:=fun D σ H=>D.nx σ H
def Zmn (t u:TS):TS:=fun D σ H=>t { D with nx:=u D } σ H
theorem Zgp:PSs X [] Zk6:=fun _ _ σ H _ I h=>wpAny_execs_nil ⟨σ,H,I,h⟩
theorem Zfg (h1:PS X st t) (h2:PSs X rest u):PSs X (st::rest) (Zmn t u):=by
  intro pins s σ H D I h
  refine wpAny_execs_cons (thn (h1 pins s σ H { D with nx:=u D } I h) fun f s1 q=>?_)
  cases f with
  | next=>
    obtain ⟨σ',H',I',q⟩:=q
    exact h2 pins s1 σ' H' D I' q
  | ret v=>exact q
  | brk=>exact q
  | cont=>exact q
theorem Zc4 (h1:PS X st t):PSs X [st] t:=by
  intro pins s σ H D I h
  refine wpAny_execs_cons (thn (h1 pins s σ H D I h) fun f s1 q=>?_)
  cases f with
  | next=>exact wpAny_execs_nil q
  | ret v=>exact q
  | brk=>exact q
  | cont=>exact q
theorem Inv.quiet {pins:List (Addr×Obj)} {σ:St} {H:Hp} {s:Shared} (I:Inv X pins σ H s):interactive X.env=false:=by simp [interactive,I.ok.kind]
def Zk9 (te:TE):TS:=fun D σ H=>te σ H fun _ H1=>D.nx σ H1
theorem Zgq (he:PE X e te) (hs:swapsWith e none pos.line X.env=pure false:=by rfl):PS X (.Expr e pos) (Zk9 te):=by
  intro pins s σ H D I h
  exact wpAny_Expr_any (thn (he pins s σ H _ I h) fun v s1 ⟨x,H1,I1,r1,q1⟩=>⟨σ,H1,I1,q1⟩) I.quiet hs
def Zmo (te:TE):TS:=fun D σ H=>te σ H D.rt
theorem Zkd (he:PE X e te):PS X (.Return (some e) pos) (Zmo te):=by
  intro pins s σ H D I h
  exact wpAny_Return_some (thn (he pins s σ H _ I h) fun v s1 ⟨x,H1,I1,r1,q1⟩=>⟨x,σ,H1,I1,r1,q1⟩)
def Zmr (c:TT) (t u:TS):TS:=fun D σ H=>c σ H fun b H1=>if b=true then t D σ H1 else u D σ H1
theorem ZjP {c:Expr} {a b:List Stmt} {tc:TT} (hc:PT X c tc) (ha:PSs X a t) (hb:PSs X b u):PS X (.If c a b pos) (Zmr tc t u):=by
  intro pins s σ H D I h
  refine wpAny_If (thn (hc pins s σ H _ I h) fun d s1 ⟨H1,I1,q1⟩=>?_)
  cases d with
  | true=>exact ha pins s1 σ H1 D I1 q1
  | false=>exact hb pins s1 σ H1 D I1 q1
end
abbrev TG:=V→St→Hp→(St→Hp→Prop)→Prop
abbrev TGs:=List V→St→Hp→(St→Hp→Prop)→Prop
def PG (X:Cx) (target:Expr) (t:TG):Prop:=
  ∀(pins:List (Addr×Obj)) (s:Shared) (σ:St) (H:Hp) (v:V) (u:Value) (Q:St→Hp→Prop),Inv X pins σ H s→RelV v u→t v σ H Q→
    wpAny (model X.prog X.w) X.A (assign target X.env u) (fun _ s'=>∃σ' H',Inv X pins σ' H' s'∧Q σ' H') X.xe s
def PGs (X:Cx) (ts:List Expr) (t:TGs):Prop:=
  ∀(pins:List (Addr×Obj)) (s:Shared) (σ:St) (H:Hp) (vs:List V) (us:List Value) (Q:St→Hp→Prop),Inv X pins σ H s→Vals vs us→t vs σ H Q→
    wpAny (model X.prog X.w) X.A (assignInOrder ((assignEach ts X.env).map (·.2)) us) (fun _ s'=>∃σ' H',Inv X pins σ' H' s'∧Q σ' H') X.xe s
abbrev ZkQ:=V→V→V→Hp→(Hp→Prop)→Prop
def ZlV (X:Cx) (t:ZkQ):Prop:=
  ∀(pins:List (Addr×Obj)) (s:Shared) (σ:St) (H:Hp) (o i v:V) (ov iv u:Value) (Q:Hp→Prop),Inv X pins σ H s→RelV o ov→RelV i iv→RelV v u→t o i v H Q→
    wpAny (model X.prog X.w) X.A (setItem ov iv u) (fun _ s'=>∃H',Inv X pins σ H' s'∧Q H') X.xe s
section
variable {X:Cx} {pos:Pos}
def ZbG (i:Nat):TG:=fun v σ H Q=>Q (σ.set i (some v)) H
theorem ZaO {i:Nat} {x:Str} (hN:X.N.Nodup) (hi:X.N[i]?=some x) (hx:Loc X.env.scope x) (hf:X.fn x=true∨X.env.scope.names.lookup x=some .local:=by first | exact .inl rfl | exact .inr rfl | assumption):PG X (.Name x pos) (ZbG i):=by
  intro pins s σ H v u Q I r h
  exact wpAny_assign_Name (Zfd I hN hi hx r (fun s' I'=>⟨_,H,I',h⟩) hf)
def ZlH:TGs:=fun vs σ H Q=>vs=[]∧Q σ H
def ZiA (t:TG) (u:TGs):TGs:=fun vs σ H Q=>∃v r,vs=v::r∧t v σ H fun σ' H'=>u r σ' H' Q
theorem Zjb:PGs X [] ZlH:=by
  intro pins s σ H vs us Q I r h
  obtain ⟨e,h⟩:=h
  subst e
  cases r
  exact assignInOrder_nil ⟨σ,H,I,h⟩
theorem Zfh {e:Expr} {es:List Expr} {t:TG} {u:TGs} (h1:PG X e t) (h2:PGs X es u)
    (hs:(assignEach (e::es) X.env).map (·.2)=assign e X.env::(assignEach es X.env).map (·.2):=by rfl):PGs X (e::es) (ZiA t u):=by
  intro pins s σ H vs us Q I r h
  obtain ⟨v,vr,e1,h⟩:=h
  subst e1
  cases r with
  | cons r rr=>
    rw [hs]
    refine assignInOrder_cons (thn (h1 pins s σ H _ _ _ I r h) fun _ s1 ⟨σ1,H1,I1,q1⟩=>?_)
    exact h2 pins s1 σ1 H1 _ _ Q I1 rr q1
def ZlF (K:PySem.W.Frag) (n:Nat) (t:TGs):TG:=fun v σ H Q=>∃a xs,v=.ref a∧SqT K H a xs∧xs.length=n∧t xs σ H Q
theorem Zkj {es:List Expr} {k:Nat} {t:TGs} {n:Nat} (hc:X.calm=true) (h:PGs X es t)
    (hn:(assignEach es X.env).length=n:=by rfl) (hst:(assignEach es X.env).findIdx? (·.1)=none:=by rfl):PG X (.Tuple es k pos) (ZlF X.K n t):=by
  intro pins s σ H v u Q I r hw
  obtain ⟨a,xs,e1,hq,hl,hw⟩:=hw
  subst e1
  cases r
  obtain ⟨its,rv,ht,hz⟩:=I.tuple hq
  refine assign_Tuple_tuple (I.ok.hd hc) ht (by simp [hn,←hl,rv.length]) hst fun h' hx=>?_
  have I1:Inv X pins σ H { s with heap:=h' }:=I.kept (t':=s.toks) fun b o e=>hx b o (Nat.ne_of_lt (Heap.lt_size e)) e
  exact h pins _ σ H xs _ Q I1 (by simpa using rv) hw
def ZlG (to ti:TE) (t:ZkQ):TG:=fun v σ H Q=>to σ H fun o H1=>ti σ H1 fun i H2=>t o i v H2 fun H3=>Q σ H3
theorem ZbN {o i:Expr} {to ti:TE} {t:ZkQ} (ho:PE X o to) (hi:PE X i ti) (hs:ZlV X t)
    (ha:∀v,assign (.Subscript o i pos) X.env v=(do
      let ov ←holding [v] (eval o X.env)
      let iv ←holding [v,ov] (eval i X.env)
      standAt pos
      holding [v,ov,iv] (setItem ov iv v)
      release [v,ov,iv] []):=by intro _; rfl):PG X (.Subscript o i pos) (ZlG to ti t):=by
  intro pins s σ H v u Q I r h
  rw [ha]
  refine wpAny_bind (wpAny_holding (thn (ho pins s σ H _ I h) fun ov s1 ⟨x,H1,I1,r1,q1⟩=>?_))
  refine wpAny_bind (wpAny_holding (thn (hi pins s1 σ H1 _ I1 q1) fun iv s2 ⟨y,H2,I2,r2,q2⟩=>?_))
  refine wpAny_bind (wpAny_standAt (wpAny_bind (wpAny_holding (thn (hs pins s2 σ H2 x y v ov iv u _ I2 r1 r2 r q2) fun _ s3 ⟨H3,I3,q3⟩=>?_))))
  exact wpAny_release ⟨σ,H3,I3,q3⟩
def ZhO (te:TE) (g:TG):TS:=fun D σ H=>te σ H fun x H1=>g x σ H1 D.nx
theorem ZbM {tg e:Expr} {te:TE} {g:TG} (he:PE X e te) (hg:PG X tg g) (hs:swapsWithSole [tg] e pos.line X.env=pure false:=by rfl) (hw:swappedStores [tg] e X.env=pure none:=by rfl)
    (h1:(assignEach [tg] X.env).map (·.2)=[assign tg X.env]:=by rfl):PS X (.Assign [tg] e pos) (ZhO te g):=by
  intro pins s σ H D I h
  refine wpAny_Assign_stores (thn (he pins s σ H _ I h) fun v s1 ⟨x,H1,I1,r1,q1⟩=>?_) hs hw
  rw [h1]
  exact thn (hg pins s1 σ H1 x v _ I1 r1 q1) fun _ s2 q=>q
theorem Zey {i:Nat} {x:Str} {e:Expr} {te:TE} {pos':Pos} (hN:X.N.Nodup) (hi:X.N[i]?=some x) (hx:Loc X.env.scope x) (he:PE X e te) (hs:swapsWith e (some (.Name x pos')) pos.line X.env=pure false:=by rfl) (hf:X.fn x=true∨X.env.scope.names.lookup x=some .local:=by first | exact .inl rfl | exact .inr rfl | assumption) :
    PS X (.Assign [.Name x pos'] e pos) (ZhO te (ZbG i)):=by
  intro pins s σ H D I h
  refine wpAny_Assign_Name (thn (he pins s σ H _ I h) fun v s1 ⟨y,H1,I1,r1,q1⟩=>?_) hs
  exact Zfd I1 hN hi hx r1 (fun s2 I2=>⟨_,H1,I2,q1⟩) hf
end
section
variable {X:Cx} {pos:Pos}
end
structure It where
  go:Nat→Hp→Prop
  yld:Nat→Hp→V→Hp→Prop
  stop:Nat→Hp→Prop
def Zbl (X:Cx) (pins:List (Addr×Obj)) (H:Hp) (b:Addr):Prop:=
  H b=none∧b≠X.env.locals∧b∉X.fs∧(b∈X.ex∨X.s₀.heap.objs.size≤b)∧(∀x c,X.env.cells.lookup x=some c→c≠b)∧∀p∈X.pn++pins,p.1≠b
theorem Inv.fpOk {X:Cx} {pins:List (Addr×Obj)} {σ:St} {H H':Hp} {s:Shared} {b:Addr} (I:Inv X pins σ H s) (hb:s.heap.objs.size≤b) (hn:H' b=none):Zbl X pins H' b:=by
  refine ⟨hn,Nat.ne_of_gt (Nat.lt_of_lt_of_le I.lt hb),I.nofs hb,.inr (Nat.le_trans I.sz hb),fun x c e z=>?_,fun p hp z=>?_⟩
  · obtain ⟨v,q⟩:=I.cell x c e
    exact absurd (Nat.lt_of_lt_of_le q.lt (by rw [z]; exact hb)) (Nat.lt_irrefl _)
  · exact absurd (Nat.lt_of_lt_of_le (Heap.lt_size (I.pin p hp).1) (by rw [z]; exact hb)) (Nat.lt_irrefl _)
structure Zd0 (P:Program) (w:World) (K:PySem.W.Frag) (tg:Expr) (J:It) (fp:List Addr) (it:Addr) (tn:Nat→Heap→Prop):Prop where
  mem:it∈fp
  obj:∀i h,tn i h→∀b∈fp,∃o,h.get? b=some o∧∀v,o.data≠.cell v
  keep:∀i h h',tn i h→(∀b∈fp,∀o,h.get? b=some o→h'.get? b=some o)→tn i h'
  item:∀(X:Cx),X.prog=P→X.w=w→X.K=K→X.calm=true→∀(i:Nat) (pins:List (Addr×Obj)) (s:Shared) (σ:St) (H:Hp) (E:Value→Shared→Prop),Inv X pins σ H s→(∀b∈fp,Zbl X pins H b)→tn i s.heap→J.go i H→
    wpAny (model P w) X.A (pyNext (.ref it)) (fun r s1=>∃u,r=some u∧
      wpAny (model P w) X.A (letOwnedTupleGo tg (.ref it) u) (fun _ s2=>∃x H',Inv X pins σ H' s2∧RelV x u∧J.yld i H x H'∧tn (i+1) s2.heap∧∀b∈fp,H' b=none) E s1) E s
  done:∀(X:Cx),X.prog=P→X.w=w→X.K=K→X.calm=true→∀(i:Nat) (pins:List (Addr×Obj)) (s:Shared) (σ:St) (H:Hp) (E:Value→Shared→Prop),Inv X pins σ H s→(∀b∈fp,Zbl X pins H b)→tn i s.heap→J.stop i H→
    wpAny (model P w) X.A (pyNext (.ref it)) (fun r s1=>r=none∧Inv X pins σ H s1) E s
  self:∀(A:Around) (i:Nat) (s:Shared) (Q:Value→Shared→Prop) (E:Value→Shared→Prop),tn i s.heap→Q (.ref it) s→wpAny (model P w) A (pyIter (.ref it)) Q E s
abbrev TI:=St→Hp→(It→Hp→Prop)→Prop
def PIE (X:Cx) (pins:List (Addr×Obj)) (σ:St) (tg:Expr) (R:It→Hp→Prop) (itv:Value) (s2:Shared):Prop:=
  ∃(it:Addr) (fp:List Addr) (tn:Nat→Heap→Prop) (J:It) (H':Hp),itv=.ref it∧Inv X pins σ H' s2∧Zd0 X.prog X.w X.K tg J fp it tn∧tn 0 s2.heap∧(∀b∈fp,Zbl X pins H' b)∧R J H'
def PI (X:Cx) (tg iter:Expr) (wi:TI):Prop:=
  ∀(pins:List (Addr×Obj)) (s:Shared) (σ:St) (H:Hp) (R:It→Hp→Prop),Inv X pins σ H s→wi σ H R→
    wpAny (model X.prog X.w) X.A (eval iter X.env) (fun v s1=>wpAny (model X.prog X.w) X.A (pyIter v) (PIE X pins σ tg R) X.xe s1) X.xe s
theorem ZfB {M:Model} {A:Around} {E:Value→Shared→Prop} {s:Shared} {tg:Expr} {it:Addr} {u:Value} {o:Obj} {n:String} {vs:Array Value} {Q:Unit→Shared→Prop} (ho:s.heap.get? it=some o) (hc:o.cls=.type n) (hd:o.data=.fields vs)
    (hn:["enumerate","zip","dict_itemiterator","dict_reverseitemiterator","odict_iterator","itertools.zip_longest","itertools.pairwise"].contains n=false) (hQ:Q () s):wpAny M A (letOwnedTupleGo tg (.ref it) u) Q E s:=by
  unfold letOwnedTupleGo
  cases tg<;>first
    | exact wpAny_pure hQ
    | (cases u<;>first
        | exact wpAny_pure hQ
        | (refine wpAny_bind (wpAny_load ho ?_)
           rw [hc,hd]
           show wpAny M A (if (["enumerate","zip","dict_itemiterator","dict_reverseitemiterator","odict_iterator","itertools.zip_longest","itertools.pairwise"].contains n && vs[0]? == some (rawInt _))=true then _ else _) Q E s
           rw [if_neg (by intro h; rw [hn,Bool.false_and] at h; cases h)]
           exact wpAny_pure hQ))
def Itl (K:PySem.W.Frag) (a:Addr):It:=
  ⟨fun i H=>∃xs x,SqL K H a xs∧xs[i]?=some x,fun i H x H'=>H'=H∧∀xs,SqL K H a xs→xs[i]?=some x,fun i H=>∃xs,SqL K H a xs∧xs.length≤i⟩
def Itt (K:PySem.W.Frag) (a:Addr):It:=
  ⟨fun i H=>∃xs x,SqT K H a xs∧xs[i]?=some x,fun i H x H'=>H'=H∧∀xs,SqT K H a xs→xs[i]?=some x,fun i H=>∃xs,SqT K H a xs∧xs.length≤i⟩
def Itr (lo:Int) (n:Nat):It:=⟨fun i _=>i<n,fun i H x H'=>H'=H∧x=.int (lo+i),fun i _=>n≤i⟩
theorem ZgS {P:Program} {w:World} {K:PySem.W.Frag} {tg:Expr} (a it:Addr):Zd0 P w K tg (Itl K a) [it] it (fun i h=>h.IsListIter it a i) where
  mem:=by simp
  obj:=fun i h st b hb=>by
    have e:b=it:=by simpa using hb
    subst e
    obtain ⟨o,e,c,d⟩:=st
    exact ⟨o,e,fun v z=>by rw [d] at z; cases z⟩
  keep:=fun i h h' st k=>st.at fun o e=>k it (by simp) o e
  item:=by
    intro X hP hw hK hc i pins s σ H E I hf st hg
    subst hP hw hK
    obtain ⟨xs,x,hq,hx⟩:=hg
    obtain ⟨its,rv,p,hz⟩:=I.list hq
    obtain ⟨u,hu,ru⟩:=rv.get hx
    obtain ⟨f0,f1,f2,f3,f4,f5⟩:=hf it (by simp)
    refine wpAny_pyNext_list_item st p.isList (x:=u) (by simpa using hu) fun h' st' sb=>?_
    have I1:Inv X pins σ H { s with heap:=h' }:=I.turned (t':=s.toks) (fun b o hb e=>(sb.2 b hb).trans e) f0 f1 f3 f4 f5
    obtain ⟨o,e,c,d⟩:=id st'
    exact ⟨u,rfl,ZfB (s:={ s with heap:=h' }) e c d (by decide) ⟨x,H,I1,ru,⟨rfl,fun ys hy=>by rw [I.list_inj hy hq]; exact hx⟩,st',fun b hb=>(hf b hb).1⟩⟩
  done:=by
    intro X hP hw hK hc i pins s σ H E I hf st hg
    subst hP hw hK
    obtain ⟨xs,hq,hx⟩:=hg
    obtain ⟨its,rv,p,hz⟩:=I.list hq
    obtain ⟨f0,f1,f2,f3,f4,f5⟩:=hf it (by simp)
    have hl:=rv.length
    exact wpAny_pyNext_list_end (I.ok.hd hc) st p.isList (by simp; omega) fun h' eb=>⟨rfl,I.turned (t':=s.toks) (fun b o hb e=>eb b o hb e) f0 f1 f3 f4 f5⟩
  self:=fun _ _ _ _ _ st h=>wpAny_pyIter_listiter st h
theorem ZfN {P:Program} {w:World} {K:PySem.W.Frag} {tg:Expr} (a it:Addr):Zd0 P w K tg (Itt K a) [it] it (fun i h=>h.IsTupleIter it a i) where
  mem:=by simp
  obj:=fun i h st b hb=>by
    have e:b=it:=by simpa using hb
    subst e
    obtain ⟨o,e,c,d⟩:=st
    exact ⟨o,e,fun v z=>by rw [d] at z; cases z⟩
  keep:=fun i h h' st k=>st.at fun o e=>k it (by simp) o e
  item:=by
    intro X hP hw hK hc i pins s σ H E I hf st hg
    subst hP hw hK
    obtain ⟨xs,x,hq,hx⟩:=hg
    obtain ⟨its,rv,p,hz⟩:=I.tuple hq
    obtain ⟨u,hu,ru⟩:=rv.get hx
    obtain ⟨f0,f1,f2,f3,f4,f5⟩:=hf it (by simp)
    refine wpAny_pyNext_tuple_item st (show s.heap.IsTuple a its.toArray from p) (x:=u) (by simpa using hu) fun h' st' sb=>?_
    have I1:Inv X pins σ H { s with heap:=h' }:=I.turned (t':=s.toks) (fun b o hb e=>(sb.2 b hb).trans e) f0 f1 f3 f4 f5
    obtain ⟨o,e,c,d⟩:=id st'
    exact ⟨u,rfl,ZfB (s:={ s with heap:=h' }) e c d (by decide) ⟨x,H,I1,ru,⟨rfl,fun ys hy=>by rw [I.tuple_inj hy hq]; exact hx⟩,st',fun b hb=>(hf b hb).1⟩⟩
  done:=by
    intro X hP hw hK hc i pins s σ H E I hf st hg
    subst hP hw hK
    obtain ⟨xs,hq,hx⟩:=hg
    obtain ⟨its,rv,p,hz⟩:=I.tuple hq
    obtain ⟨f0,f1,f2,f3,f4,f5⟩:=hf it (by simp)
    have hl:=rv.length
    exact wpAny_pyNext_tuple_end (I.ok.hd hc) st (show s.heap.IsTuple a its.toArray from p) (by simp; omega) fun h' eb=>⟨rfl,I.turned (t':=s.toks) (fun b o hb e=>eb b o hb e) f0 f1 f3 f4 f5⟩
  self:=fun _ _ _ _ _ st h=>wpAny_pyIter_tupleiter st h
theorem ZfO {P:Program} {w:World} {K:PySem.W.Frag} {tg:Expr} (it:Addr) (lo:Int) (n:Nat):Zd0 P w K tg (Itr lo n) [it] it (fun i h=>IsRangeIter h it (lo+(i:Nat)*1) ((n:Int)-(i:Nat)) 1) where
  mem:=by simp
  obj:=fun i h st b hb=>by
    have e:b=it:=by simpa using hb
    subst e
    exact ⟨_,st,fun v z=>by
      have z':Data.fields _=Data.cell v:=z
      cases z'⟩
  keep:=fun i h h' st k=>k it (by simp) _ st
  item:=by
    intro X hP hw hK hc i pins s σ H E I hf st hg
    subst hP hw hK
    obtain ⟨f0,f1,f2,f3,f4,f5⟩:=hf it (by simp)
    have W:=Walks.range (prog:=X.prog) (w:=X.w) (I.ok.hd hc) it lo 1 n
    refine W.item i s _ _ hg st fun v h' tk hv st' kk=>?_
    obtain ⟨t,rfl⟩:=hv
    have I1:Inv X pins σ H { s with heap:=h',toks:=tk }:=I.turned (fun b o hb e=>kk b o (by simpa using hb) e) f0 f1 f3 f4 f5
    refine ⟨_,rfl,ZfB (s:={ s with heap:=h',toks:=tk }) (n:="range_iterator") st' rfl rfl (by decide) ⟨.int (lo+i),H,I1,⟨t,?_⟩,⟨rfl,rfl⟩,st',fun b hb=>(hf b hb).1⟩⟩
    rw [Int.mul_one]
  done:=by
    intro X hP hw hK hc i pins s σ H E I hf st hg
    subst hP hw hK
    obtain ⟨f0,f1,f2,f3,f4,f5⟩:=hf it (by simp)
    exact wpAny_pyNext_range_end (I.ok.hd hc) st (by have:n≤i:=hg; omega) fun h' eb=>⟨rfl,I.turned (t':=s.toks) (fun b o hb e=>eb b o hb e) f0 f1 f3 f4 f5⟩
  self:=fun _ _ _ _ _ st h=>wpAny_pyIter_rangeiter st h
end L2
namespace L2
open PySem PySem.Spec PyProof.Rows
section
variable {X:Cx} {tg:Expr}
theorem ZhR {pins:List (Addr×Obj)} {σ:St} {H:Hp} {s:Shared} {R:It→Hp→Prop} {E:Value→Shared→Prop} {lo hi:Int} {t u v:Tok} {tk:Nat} (I:Inv X pins σ H s) (h1 : -(2 ^ 62)≤lo) (h2:lo<2 ^ 62) (h3 : -(2 ^ 62)≤hi) (h4:hi<2 ^ 62)
    (q:R (Itr lo (hi-lo).toNat) H):wpAny (model X.prog X.w) X.A (pyIter (.ref s.heap.objs.size)) (PIE X pins σ tg R) E { s with heap:=s.heap.push { cls:=.type "range",data:=.fields #[.int lo t,.int hi u,.int 1 v] },toks:=tk }:=by
  refine wpAny_pyIter_range (IsRange.new ..) (small_one h1 h2 h3 h4) ?_
  have I1:Inv X pins σ H { s with heap:=s.heap.push { cls:=.type "range",data:=.fields #[.int lo t,.int hi u,.int 1 v] },toks:=tk }:=I.kept fun b o e=>Heap.get?_push_of_some _ e
  refine ⟨(s.heap.push { cls:=.type "range",data:=.fields #[.int lo t,.int hi u,.int 1 v] }).objs.size,[(s.heap.push { cls:=.type "range",data:=.fields #[.int lo t,.int hi u,.int 1 v] }).objs.size],_,_,H,rfl,
    I1.kept (t':=tk) fun b o e=>Heap.get?_push_of_some _ e,ZfO _ lo (hi-lo).toNat,?_,fun b hb=>?_,q⟩
  · have e1:lo+((0:Nat):Int)*1=lo:=by simp
    have e2:(((hi-lo).toNat:Nat):Int)-((0:Nat):Int)=Builtin.Range.rangeSize lo hi 1:=by rw [rangeSize_one]; split<;>omega
    show IsRangeIter _ _ (lo+((0:Nat):Int)*1) ((((hi-lo).toNat:Nat):Int)-((0:Nat):Int)) 1
    rw [e1,e2]
    exact Heap.get?_push_size _ rfl
  · have e:b=(s.heap.push { cls:=.type "range",data:=.fields #[.int lo t,.int hi u,.int 1 v] }).objs.size:=by simpa using hb
    subst e
    exact I1.fpOk (Nat.le_refl _) (I1.hok.fresh (Nat.le_refl _))
def ZlE (ta:TA):TI:=fun σ H R=>ta σ H fun vs H1=>∃j:Int,vs=[.int j]∧-(2 ^ 62)≤j∧j<2 ^ 62∧R (Itr 0 j.toNat) H1
theorem Zg1 {a:Expr} {ta:TA} {p pos:Pos} (hg:Gl X "range") (hm:X.mg "range"=none) (ha:PA X [a] ta) (hs:starEach [a] X.env=[(false,eval a X.env)]:=by rfl):PI X tg (.Call (.Name "range" p) [a] [] pos) (ZlE ta):=by
  intro pins s σ H R I h
  refine Call_ (Zdx I hg hm boot_range (PyProof.Rows.callWith_type1 (thn (ha pos pins s σ H _ I h) fun us s1 ⟨vs,H1,I1,r1,q1⟩=>?_) hs rfl))
  obtain ⟨j,e,q1,q2,q⟩:=q1
  subst e
  cases r1 with
  | cons r rr=>
    cases rr
    obtain ⟨t,rfl⟩:=r
    exact call_range_1 (ZhR I1 (by omega) (by omega) q1 q2 (by simpa using q))
def Zms (wi:TI) (g:TG) (tb:TS):TS:=fun D σ H=>wi σ H fun J H1=>∃W:Nat→Nat→St→Hp→Prop,(∃m,W 0 m σ H1)∧∀i m σ H,W i m σ H→
  (J.stop i H∧D.nx σ H)∨(J.go i H∧∃N:St→Hp→Prop,(∀σ' H',N σ' H'→∃m',m'<m∧W (i+1) m' σ' H')∧∀x H',J.yld i H x H'→g x σ H' fun σ2 H2=>tb { D with nx:=N,ct:=N,bk:=D.nx } σ2 H2)
def Zez (fp:List Addr) (h:Heap):List (Addr×Obj):=fp.filterMap fun b=>(h.get? b).map fun o=>(b,o)
theorem ZT {fp:List Addr} {h:Heap} {b:Addr} {o:Obj} (hb:b∈fp) (e:h.get? b=some o):(b,o)∈Zez fp h:=List.mem_filterMap.mpr ⟨b,hb,by rw [e]; rfl⟩
theorem Zg4 {fp:List Addr} {h:Heap} {p:Addr×Obj} (hp:p∈Zez fp h):p.1∈fp∧h.get? p.1=some p.2:=by
  obtain ⟨b,hb,e⟩:=List.mem_filterMap.mp hp
  cases q:h.get? b with
  | none=>rw [q] at e; cases e
  | some o=>
    rw [q] at e
    have e':(b,o)=p:=Option.some.inj e
    subst e'
    exact ⟨hb,q⟩
theorem Inv.pinned {pins:List (Addr×Obj)} {σ:St} {H:Hp} {s:Shared} {fp:List Addr} (I:Inv X pins σ H s) (hf:∀b∈fp,Zbl X pins H b) (ho:∀b∈fp,∃o,s.heap.get? b=some o∧∀v,o.data≠.cell v):Inv X (pins++Zez fp s.heap) σ H s:=
  I.pins_of fun p hp=>(List.mem_append.mp hp).elim (fun z=>I.pin p (List.mem_append_right _ z)) fun z=>by
    obtain ⟨hb,e⟩:=Zg4 z
    obtain ⟨f0,f1,f2,_⟩:=hf p.1 hb
    obtain ⟨o,e',d⟩:=ho p.1 hb
    rw [e] at e'; cases e'
    exact ⟨e,f0,f1,f2,d⟩
theorem Inv.unpinned {pins pl:List (Addr×Obj)} {σ:St} {H:Hp} {s:Shared} (I:Inv X (pins++pl) σ H s):Inv X pins σ H s:=I.pins_of fun p hp=>I.pin p (List.mem_append_right _ (List.mem_append_left _ hp))
theorem Zkf {iter:Expr} {body:List Stmt} {wi:TI} {g:TG} {tb:TS} {pos:Pos} (hp:PassesOwn (model X.prog X.w) X.A X.env X.xe) (hc:X.calm=true) (hi:PI X tg iter wi) (hg:PG X tg g) (hb:PSs X body tb)
    (hs:∀x,foldedSetIterable iter X.env x=pure x:=by intro _; rfl):PS X (.For tg iter body [] pos) (Zms wi g tb):=by
  intro pins s σ H D I h
  refine wpAny_For (thn (hi pins s σ H _ I h) fun v s1 h1=>thn h1 fun itv s2 h2=>?_) hs
  obtain ⟨it,fp,tn,J,H2,e,I2,T,st2,f2,W,⟨m0,w0⟩,turn⟩:=h2
  subst e
  have stat:∀{H':Hp},(∀b∈fp,H' b=none)→∀b∈fp,Zbl X pins H' b:=fun hn b hb=>⟨hn b hb,(f2 b hb).2⟩
  refine codeAny_forLoop_any (fun n s'=>∃i σ' H',Inv X pins σ' H' s'∧tn i s'.heap∧(∀b∈fp,H' b=none)∧W i n σ' H') ?_ m0 ⟨0,σ,H2,I2,st2,fun b hb=>(f2 b hb).1,w0⟩
  rintro n s3 ⟨i,σ3,H3,I3,st3,fr3,w3⟩
  rcases turn i n σ3 H3 w3 with ⟨stop,qn⟩ | ⟨go,N,hN,step⟩
  · refine wpAny_passesOwn hp (thn (T.done X rfl rfl rfl hc i pins s3 σ3 H3 X.xe I3 (stat fr3) st3 stop) fun r s4 ⟨hr,I4⟩=>?_)
    subst hr
    exact wpAny_execs_nil ⟨σ3,H3,I4,qn⟩
  · refine wpAny_passesOwn hp (thn (T.item X rfl rfl rfl hc i pins s3 σ3 H3 X.xe I3 (stat fr3) st3 go) fun r s4 ⟨u,hr,h4⟩=>?_)
    subst hr
    refine wpAny_passesOwn hp (thn h4 fun _ s5 ⟨x,H5,I5,r5,y5,st5,fr5⟩=>?_)
    have I5':=I5.pinned (stat fr5) (T.obj _ _ st5)
    refine wpAny_passesOwn hp (thn (hg _ s5 σ3 H5 x u _ I5' r5 (step x H5 y5)) fun _ s6 ⟨σ6,H6,I6,q6⟩=>?_)
    refine wpAny_passesOwn hp (thn (hb _ s6 σ6 H6 _ I6 q6) fun f s7 q7=>?_)
    have again:∀{σ7:St} {H7:Hp},Inv X (pins++Zez fp s5.heap) σ7 H7 s7→N σ7 H7→∃m,m<n∧∃i σ' H',Inv X pins σ' H' s7∧tn i s7.heap∧(∀b∈fp,H' b=none)∧W i m σ' H':=fun {σ7 H7} I7 n7=>by
      obtain ⟨m',hm,w7⟩:=hN σ7 H7 n7
      refine ⟨m',hm,i+1,σ7,H7,I7.unpinned,T.keep _ _ _ st5 fun b hb o e=>(I7.pin (b,o) (List.mem_append_right _ (List.mem_append_right _ (ZT hb e)))).1,fun b hb=>?_,w7⟩
      obtain ⟨o,e,d⟩:=T.obj _ _ st5 b hb
      exact (I7.pin (b,o) (List.mem_append_right _ (List.mem_append_right _ (ZT hb e)))).2.1
    cases f with
    | next=>obtain ⟨σ7,H7,I7,n7⟩:=q7; exact again I7 n7
    | cont=>obtain ⟨σ7,H7,I7,n7⟩:=q7; exact again I7 n7
    | brk=>obtain ⟨σ7,H7,I7,q7⟩:=q7; exact ⟨σ7,H7,I7.unpinned,q7⟩
    | ret v=>obtain ⟨x7,σ7,H7,I7,r7,q7⟩:=q7; exact ⟨x7,σ7,H7,I7.unpinned,r7,q7⟩
end
end L2
namespace L2
open PySem PySem.Spec PyProof.Rows
abbrev R2:=V→V→Hp→VK→Prop
def OpR (X:Cx) (f:Value→Value→Sem Value) (r:R2):Prop:=
  ∀(pins:List (Addr×Obj)) (s:Shared) (σ:St) (H:Hp) (x y:V) (v u:Value) (Q:VK),Inv X pins σ H s→RelV x v→RelV y u→r x y H Q→
    wpAny (model X.prog X.w) X.A (f v u) (EP X pins σ Q) X.xe s
def CallR (X:Cx) (f:Value) (r:List V→Hp→VK→Prop):Prop:=
  ∀(pins:List (Addr×Obj)) (s:Shared) (σ:St) (H:Hp) (xs:List V) (us:List Value) (Q:VK),Inv X pins σ H s→Vals xs us→r xs H Q→
    wpAny (model X.prog X.w) X.A (call f us) (EP X pins σ Q) X.xe s
def ZmK (X:Cx) (r:V→Hp→(Bool→Hp→Prop)→Prop):Prop:=
  ∀(pins:List (Addr×Obj)) (s:Shared) (σ:St) (H:Hp) (x:V) (v:Value) (Q:Bool→Hp→Prop),Inv X pins σ H s→RelV x v→r x H Q→
    wpAny (model X.prog X.w) X.A (truthy v) (TP X pins σ Q) X.xe s
def tOp (r:R2) (ta tb:TE):TE:=fun σ H Q=>ta σ H fun x H1=>tb σ H1 fun y H2=>r x y H2 Q
def rI (C:Int→Int→Prop) (g:Int→Int→V):R2:=fun x y H Q=>∃i j,x=.int i∧y=.int j∧C i j∧Q (g i j) H
def rI0 (g:Int→Int→V):R2:=fun x y H Q=>∃i j,x=.int i∧y=.int j∧Q (g i j) H
section
variable {X:Cx} {a b c:Expr} {ta tb tc:TE} {pos:Pos}
theorem ZkN (ha:PE X a ta) (hb:PE X b tb) {pins:List (Addr×Obj)} {s:Shared} {σ:St} {H:Hp} {R:V→V→Hp→Prop} (I:Inv X pins σ H s)
    (h:ta σ H fun x H1=>tb σ H1 fun y H2=>R x y H2) {Q:Value→Shared→Prop} {f:Value→Value→Sem Value}
    (hf:∀v u s2 x y H2,Inv X pins σ H2 s2→RelV x v→RelV y u→R x y H2→wpAny (model X.prog X.w) X.A (f v u) Q X.xe s2) :
    wpAny (model X.prog X.w) X.A (eval a X.env) (fun v s₁=>wpAny (model X.prog X.w) X.A (eval b X.env) (fun u s₂=>wpAny (model X.prog X.w) X.A (f v u) Q X.xe s₂) X.xe s₁) X.xe s:=by
  refine thn (ha pins s σ H _ I h) fun v s1 ⟨x,H1,I1,r1,q1⟩=>?_
  refine thn (hb pins s1 σ H1 _ I1 q1) fun u s2 ⟨y,H2,I2,r2,q2⟩=>?_
  exact hf v u s2 x y H2 I2 r1 r2 q2
theorem Zlk {op:Operator} {r:R2} (ho:OpR X (binaryOp op) r) (ha:PE X a ta) (hb:PE X b tb):PE X (.BinOp a op b pos) (tOp r ta tb):=by
  intro pins s σ H Q I h
  exact wpAny_BinOp (ZkN ha hb I h fun v u s2 x y H2 I2 rx ry q=>ho pins s2 σ H2 x y v u Q I2 rx ry q)
theorem opI {f:Value→Value→Sem Value} {C:Int→Int→Prop} {g:Int→Int→Int}
    (rule:∀(i j:Int) (t u:Tok) (s:Shared) (Q:Value→Shared→Prop) (E:Value→Shared→Prop),C i j→Q (.int (g i j) s.toks) { s with toks:=s.toks+1 }→wpAny (model X.prog X.w) X.A (f (.int i t) (.int j u)) Q E s) :
    OpR X f (rI C fun i j=>.int (g i j)):=by
  intro pins s σ H x y v u Q I rx ry h
  obtain ⟨i,j,rfl,rfl,hc,q⟩:=h
  obtain ⟨t,rfl⟩:=rx
  obtain ⟨t',rfl⟩:=ry
  exact rule i j t t' s _ _ hc ⟨.int (g i j),H,I.tok _,⟨_,rfl⟩,q⟩
theorem Zlq {f:Value→Value→Sem Value} {g:Int→Int→Int}
    (rule:∀(i j:Int) (t u:Tok) (s:Shared) (Q:Value→Shared→Prop) (E:Value→Shared→Prop),Q (.int (g i j) s.toks) { s with toks:=s.toks+1 }→wpAny (model X.prog X.w) X.A (f (.int i t) (.int j u)) Q E s) :
    OpR X f (rI0 fun i j=>.int (g i j)):=by
  intro pins s σ H x y v u Q I rx ry h
  obtain ⟨i,j,rfl,rfl,q⟩:=h
  obtain ⟨t,rfl⟩:=rx
  obtain ⟨t',rfl⟩:=ry
  exact rule i j t t' s _ _ ⟨.int (g i j),H,I.tok _,⟨_,rfl⟩,q⟩
theorem Zlr {f:Value→Value→Sem Value} {g:Int→Int→Bool}
    (rule:∀(i j:Int) (t u:Tok) (s:Shared) (Q:Value→Shared→Prop) (E:Value→Shared→Prop),Q (.bool (g i j)) s→wpAny (model X.prog X.w) X.A (f (.int i t) (.int j u)) Q E s) :
    OpR X f (rI0 fun i j=>.bl (g i j)):=by
  intro pins s σ H x y v u Q I rx ry h
  obtain ⟨i,j,rfl,rfl,q⟩:=h
  obtain ⟨t,rfl⟩:=rx
  obtain ⟨t',rfl⟩:=ry
  exact rule i j t t' s _ _ ⟨.bl (g i j),H,I,rfl,q⟩
def ZkT (i j:Int):Prop:=0≤j∧j≤1000000∧i.natAbs<2 ^ 64
def CMul (i j:Int):Prop:=(-(2 ^ 64)<i∧i<2 ^ 64)∨(-(2 ^ 64)<j∧j<2 ^ 64)
theorem CMul.ok {i j:Int} (h:CMul i j):IntMulOk i j:=by
  rcases h with ⟨h1,h2⟩ | ⟨h1,h2⟩
  · exact .of_left (intBits_le_64 h1 h2)
  · exact .of_right (intBits_le_64 h1 h2)
theorem op_add:OpR X (binaryOp .Add) (rI0 fun i j=>.int (i+j)):=Zlq fun _ _ _ _ _ _ _ q=>add_int q
theorem op_mul:OpR X (binaryOp .Mult) (rI CMul fun i j=>.int (i*j)):=opI fun _ _ _ _ _ _ _ hc q=>mul_int q hc.ok
theorem Zkp:OpR X (binaryOp .Mod) (rI (fun _ j=>0<j) fun i j=>.int (i % j)):=opI fun i j _ _ _ _ _ hc q=>by
  have h1:(0:Int)<j:=hc
  exact mod_int' (by omega) (by rw [Int.fmod_eq_emod_of_nonneg i (by omega)]; exact q)
theorem Zkn:OpR X (binaryOp .Pow) (rI ZkT fun i j=>.int (i ^ j.toNat)):=opI fun _ _ _ _ _ _ _ hc q=>pow_int_small hc.1 hc.2.1 hc.2.2 q
theorem Zkr:OpR X (binaryOp .BitAnd) (rI0 fun i j=>.int (Builtin.bitAnd i j)):=Zlq fun _ _ _ _ _ _ _ q=>and_int q
end
section
variable {X:Cx} {a b c:Expr} {ta tb tc:TE} {pos:Pos}
theorem ZkK {pins:List (Addr×Obj)} {σ:St} {H:Hp} {s:Shared} {Q:VK} {k k':Bool} (I:Inv X pins σ H s) (q:Q (.bl k) H) (e:k=k'):EP X pins σ Q (.bool k') s:=by
  subst e
  exact ⟨.bl k,H,I,rfl,q⟩
theorem Zlo:OpR X (compareOp .Lt) (rI0 fun i j=>.bl (decide (i<j))):=Zlr fun _ _ _ _ _ _ _ q=>lt_int q
theorem Zlp:OpR X (compareOp .Gt) (rI0 fun i j=>.bl (decide (j<i))):=Zlr fun _ _ _ _ _ _ _ q=>gt_int q
theorem Zg3:OpR X (compareOp .In) (fun x y H Q=>∃i j,x=.str i∧y=.str j∧Q (.bl (!(Builtin.Str.occurrences j i 0 j.length 1).isEmpty)) H):=by
  intro pins s σ H x y v u Q I rx ry h
  obtain ⟨i,j,rfl,rfl,q⟩:=h
  obtain ⟨t,rfl⟩:=rx
  obtain ⟨t',rfl⟩:=ry
  exact in_str (ZkK I q rfl)
def Zlz:HO→Bool
  | .lst _=>true
  | .ins _ _ _=>true
  | _=>false
theorem obj_there {pins:List (Addr×Obj)} {s:Shared} {σ:St} {H:Hp} {a:Addr} {o:HO} (I:Inv X pins σ H s) (h:H a=some o) (p:Zlz o=true):∃ob,s.heap.get? a=some ob∧ob.cls≠.type "tuple":=by
  cases o with
  | lst xs=>
    obtain ⟨_,its,n,_,e⟩:xs.length≤sizeLine∧∃(its:List Value) (n:Nat),Vals xs its∧s.heap.get? a=some { cls:=.type "list",data:=.seq its.toArray n }:=I.hok a _ h
    exact ⟨_,e,(by show Value.type "list"≠.type "tuple"; decide +kernel)⟩
  | ins C dx fs=>
    have x:=I.hok a _ h
    obtain ⟨_,_,_,e,_⟩:=x
    exact ⟨_,e,(by show Value.ref C≠.type "tuple"; exact fun z=>by cases z)⟩
  | _=>exact absurd (show false=true from p) Bool.false_ne_true
theorem OpR.or {f:Value→Value→Sem Value} {r r':R2} (h:OpR X f r) (h':OpR X f r'):OpR X f (fun x y H Q=>r x y H Q∨r' x y H Q):=by
  intro pins s σ H x y v u Q I rx ry q
  rcases q with q | q
  · exact h pins s σ H x y v u Q I rx ry q
  · exact h' pins s σ H x y v u Q I rx ry q
theorem Zh9 (b:Expr) {op:CmpOp} (h:op≠.In:=by decide) (h2:op≠.NotIn:=by decide):behindInMarks op b=false:=by
  have e1:(op == CmpOp.In)=false:=by cases op<;>first | rfl | exact absurd rfl h
  have e2:(op == CmpOp.NotIn)=false:=by cases op<;>first | rfl | exact absurd rfl h2
  cases b<;>simp [behindInMarks,e1,e2]
theorem Zjd {op:CmpOp} {r:R2} (ho:OpR X (compareOp op) r) (ha:PE X a ta) (hb:PE X b tb) (hm:behindInMarks op b=false):PE X (.Compare a [op] [b] pos) (tOp r ta tb):=by
  intro pins s σ H Q I h
  exact wpAny_Compare1 (ZkN ha hb I h fun v u s2 x y H2 I2 rx ry q=>ho pins s2 σ H2 x y v u Q I2 rx ry q) hm
def Zk4 (t:TE):TT:=fun σ H Q=>t σ H fun x H'=>∃k,x=.bl k∧Q k H'
theorem Zi6 {op:CmpOp} {r:R2} (ho:OpR X (compareOp op) r) (ha:PE X a ta) (hb:PE X b tb) (hm:behindInMarks op b=false):PT X (.Compare a [op] [b] pos) (Zk4 (tOp r ta tb)):=by
  intro pins s σ H Q I h
  refine wpAny_isTrue_Compare1 (thn (ha pins s σ H _ I h) fun v s1 ⟨x,H1,I1,r1,q1⟩=>thn (hb pins s1 σ H1 _ I1 q1) fun u s2 ⟨y,H2,I2,r2,q2⟩=>
    thn (ho pins s2 σ H2 x y v u _ I2 r1 r2 q2) fun c s3 ⟨z,H3,I3,r3,k,e,q3⟩=>?_) hm
  subst e
  cases r3
  exact wpAny_truthy_bool ⟨H3,I3,q3⟩
def TruV (K:PySem.W.Frag) (x:V) (H:Hp) (k:Bool):Prop:=
  match x with
  | .non=>k=false
  | .bl b=>k=b
  | .int i=>k=(i != 0)
  | .str y=>y.length≤sizeLine∧k=((y.length:Int) != 0)
  | .byt y=>y.size≤sizeLine∧k=((y.size:Int) != 0)
  | .ref p=>(∃xs,SqL K H p xs∧k=!xs.isEmpty)∨(∃xs,SqT K H p xs∧k=!xs.isEmpty)∨∃kvs,H p=some (.dK kvs)∧k=!kvs.isEmpty
  | _=>False
theorem Zf9 {κ:Type} {kvs:List (κ×V)} {vs:List (κ×Value)} (r:KV kvs vs):(!vs.isEmpty)=!kvs.isEmpty:=by
  cases r<;>rfl
theorem Zdz {xs:List V} {its:List Value} (r:Vals xs its):(!its.toArray.isEmpty)=!xs.isEmpty:=by
  cases r<;>simp
theorem ZbV:(sizeLine:Nat)<2 ^ 63:=by rw [sizeLine_eq]; decide
theorem Zj2:ZmK X (fun x H Q=>∃k,TruV X.K x H k∧Q k H):=by
  intro pins s σ H x v Q I rx h
  obtain ⟨k,e,q⟩:=h
  have hl:=ZbV
  have hs:sizeLine=16777216:=sizeLine_eq
  cases x with
  | non=>
    cases rx
    have e':k=false:=e
    subst e'
    exact truthy_none ⟨H,I,q⟩
  | bl b=>
    cases rx
    have e':k=b:=e
    subst e'
    exact wpAny_truthy_bool ⟨H,I,q⟩
  | int i=>
    obtain ⟨t,rfl⟩:=rx
    have e':k=(i != 0):=e
    subst e'
    exact PySem.P.truthy_int ⟨H,I,q⟩
  | str y=>
    obtain ⟨t,rfl⟩:=rx
    obtain ⟨hy,e'⟩:y.length≤sizeLine∧k=((y.length:Int) != 0):=e
    subst e'
    exact PySem.P.truthy_str (by omega) ⟨H,I.tok _,q⟩
  | byt y=>
    obtain ⟨t,rfl⟩:=rx
    obtain ⟨hy,e'⟩:y.size≤sizeLine∧k=((y.size:Int) != 0):=e
    subst e'
    exact PySem.W.truthy_bytes (by omega) ⟨H,I.tok _,q⟩
  | ref p=>
    cases rx
    have e':(∃xs,SqL X.K H p xs∧k=!xs.isEmpty)∨(∃xs,SqT X.K H p xs∧k=!xs.isEmpty)∨∃kvs,H p=some (.dK kvs)∧k=!kvs.isEmpty:=e
    rcases e' with ⟨xs,hx,e'⟩ | ⟨xs,hx,e'⟩ | ⟨kvs,hx,e'⟩
    · subst e'
      obtain ⟨its,r,pl,hz⟩:=I.list hx
      have hlen:=r.length
      exact wpAny_truthy_list pl.isList (by simp only [List.size_toArray]; omega) ⟨H,I.tok _,by rw [Zdz r]; exact q⟩
    · subst e'
      obtain ⟨its,r,pl,hz⟩:=I.tuple hx
      have hlen:=r.length
      exact truthy_tuple pl (by simp only [List.size_toArray]; omega) ⟨H,I.tok _,by rw [Zdz r]; exact q⟩
    · subst e'
      obtain ⟨hz,hS,vs,r,m⟩:kvs.length≤sizeLine∧(p == sysModules)=false∧∃vs,KV kvs vs∧s.heap.DictOf (ZeJ X.prog X.w) p vs:=I.hok p _ hx
      have hlen:kvs.length=vs.length:=Paired.length r
      exact wpAny_truthy_dict hS m (by omega) ⟨H,I.tok _,by rw [Zf9 r]; exact q⟩
  | _=>exact (show False from e).elim
theorem ZhV (ha:PE X a ta) (he:∀whole,isTrue a X.env whole=(do let v ←whole; standAt a.pos; holding [v] (truthy v))) :
    PT X a (fun σ H Q=>ta σ H fun x H'=>∃k,TruV X.K x H' k∧Q k H'):=by
  intro pins s σ H Q I h
  exact isTrue_plain (thn (ha pins s σ H _ I h) fun v s1 ⟨x,H1,I1,r1,q1⟩=>Zj2 pins s1 σ H1 x v Q I1 r1 q1) (he _)
theorem op_add_str:OpR X (binaryOp .Add) (fun x y H Q=>∃i j,x=.str i∧y=.str j∧i.length+j.length≤sizeLine∧Q (.str (i++j)) H):=by
  intro pins s σ H x y v u Q I rx ry h
  obtain ⟨i,j,rfl,rfl,hz,q⟩:=h
  obtain ⟨t,rfl⟩:=rx
  obtain ⟨t',rfl⟩:=ry
  exact add_str (fun t' tk=>⟨.str (i++j),H,I.tok _,⟨_,rfl⟩,q⟩) hz
theorem Zd6 {x:V} {us:List Value} (r:Vals [x] us):∃u,us=[u]∧RelV x u:=by
  cases r with
  | cons r1 r2=>cases r2; exact ⟨_,rfl,r1⟩
theorem ZeW:CallR X (.type "str") (fun xs H Q=>∃i,xs=[.int i]∧i.natAbs.log2<1920∧Q (.str (toString i)) H):=by
  intro pins s σ H xs us Q I r h
  obtain ⟨i,rfl,hz,q⟩:=h
  obtain ⟨u,rfl,t,rfl⟩:=Zd6 r
  exact PySem.P.str_of_int hz ⟨.str _,H,I.tok _,⟨_,rfl⟩,q⟩
end
end L2
namespace L2
open PySem PySem.Spec PyProof.Rows
structure Zm7 (h:Heap) (x dx C:Addr) (mA:Str→Option Value):Prop where
  obj:h.get? x=some (PySem.W.instObj C dx)
  ns:h.Ns1 dx mA
  ne:dx≠x
section
variable {prog:Program} {w:World} {A:Around} {E:Value→Shared→Prop} {s:Shared} {K:PySem.W.Frag} {x dx C f:Addr} {mA:Str→Option Value} {name:Str} {v:Value}
end
section
variable {P:Program} {w:World} {H H':Hp} {h h':Heap} {a C dx:Addr} {fs fs':List (Str×V)}
end
structure Cls (K:PySem.W.Frag) (C:Addr):Prop where
  pg:PySem.W.plainGet K C Str.empty=true
  hd:PySem.W.hasDictIn K C=true
  po:PySem.W.plainOver K C=true
  sa:PySem.W.findIn K (.ref C) "__setattr__"=some (some (.builtin "object.__setattr__"))
structure Con (K:PySem.W.Frag) (C:Addr) (f:Str) (v:V) (u:Value):Prop where
  at_:PySem.W.findIn K (.ref C) f=some (some u)
  rel:RelV v u
  get:PySem.W.specialIn K u "__get__"=some none
  cp:PySem.W.copiedNames.contains f=false
structure Zm8 (K:PySem.W.Frag) (C:Addr) (m:Str) (f:Addr):Prop where
  at_:PySem.W.findIn K (.ref C) m=some (some (.ref f))
  fn:PySem.W.isFn K (.ref f)=true
  kp:PySem.W.keepIn K (.ref f)=true
section
variable {X:Cx} {pins:List (Addr×Obj)} {σ:St} {H:Hp} {s:Shared} {a C dx:Addr} {fs:List (Str×V)} {f:Str} {v:V} {A:Around} {E:Value→Shared→Prop}
end
section
variable {X:Cx} {o e value:Expr} {f:Str} {pos pos' tpos:Pos} {ta tv:TE}
end
section
variable {X:Cx} {pins:List (Addr×Obj)} {σ:St} {H:Hp} {s:Shared} {A:Around} {E:Value→Shared→Prop} {Q:Value→Shared→Prop} {c:Value} {b:Bool}
inductive ZdS (K:PySem.W.Frag) (H:Hp):V→Value→Prop where
  | non:ZdS K H .non (.type "NoneType")
  | bl (x:Bool):ZdS K H (.bl x) (.type "bool")
  | int (i:Int):ZdS K H (.int i) (.type "int")
  | str (x:Str):ZdS K H (.str x) (.type "str")
  | flt (x:UInt64):ZdS K H (.flt x) (.type "float")
  | lst {a:Addr} {xs:List V} (e:H a=some (.lst xs)):ZdS K H (.ref a) (.type "list")
  | frz {a:Addr} {o:Obj} {xs:List V} (e:H a=some (.frz o (.lst xs))):ZdS K H (.ref a) (.type "list")
  | tup {a:Addr} {xs:List V} (e:H a=some (.tup xs)):ZdS K H (.ref a) (.type "tuple")
  | dK {a:Addr} {kvs:List (Key×V)} (e:H a=some (.dK kvs)):ZdS K H (.ref a) (.type "dict")
  | dT {a:Addr} {kvs:List (List Key×V)} (e:H a=some (.dT kvs)):ZdS K H (.ref a) (.type "dict")
  | ins {a C dx:Addr} {fs:List (Str×V)} (e:H a=some (.ins C dx fs)) (cl:Cls K C) (ha:PySem.W.findIn K (.ref C) "__class__"=some (some (.builtin "object.__class__")))
      (hn:PySem.W.specialIn K (.builtin "object.__class__") "__get__"=some (some (.builtin "getset_descriptor.__get__"))) (htk:PySem.W.takesIn K (.builtin "object.__class__")=some true)
      (hm:PySem.W.mroIn K C (.type "object")=some true):ZdS K H (.ref a) (.ref C)
end
end L2
namespace L2
open PySem PySem.Spec PyProof.Rows
structure Room (k:Nat) (A:Around):Prop where
  hd:A.handled=none
  dp:A.depth+3*k+5<recursionLimit
  un:A.units+16*k+200<cLine
theorem Room.mono {j k:Nat} {A:Around} (r:Room k A) (h:j≤k):Room j A:=⟨r.hd,by have:=r.dp; omega,by have:=r.un; omega⟩
theorem Room.deeper {k:Nat} {A:Around} (r:Room (k+1) A) (env:Env):Room k (A.deeper env):=
  ⟨r.hd,by have:=r.dp; show A.depth+1+3*k+5<_; omega,by have:=r.un; show A.units+3+16*k+200<_; omega⟩
theorem Room.depth {k:Nat} {A:Around} (r:Room k A):A.depth<recursionLimit:=by have:=r.dp; omega
theorem Room.units {k:Nat} {A:Around} (r:Room k A):A.units+64<cLine:=by have:=r.un; omega
def ZfU:TA:=fun _ H Q=>Q [] H
def Zdi (ta:TE) (tr:TA):TA:=fun σ H Q=>ta σ H fun x H1=>tr σ H1 fun xs H2=>Q (x::xs) H2
section
variable {X:Cx} {e:Expr} {es:List Expr} {te:TE} {t:TA} {pos:Pos}
theorem zl:PA X [] ZfU:=fun _ _ _ _ H Q I h=>Calls.spliced_nil ⟨[],H,I,.nil,h⟩
theorem Z3 (ha:PE X e te) (hr:PA X es t) (hs:starEach (e::es) X.env=(false,eval e X.env)::starEach es X.env:=by rfl):PA X (e::es) (Zdi te t):=by
  intro pos pins s σ H Q I h
  rw [hs]
  show wpAny _ _ (spliced ((false,eval e X.env)::backTo pos (starEach es X.env))) _ _ s
  refine Calls.spliced_cons (thn (ha pins s σ H _ I h) fun u s1 ⟨x,H1,I1,r1,q1⟩=>?_)
  exact thn (hr pos pins s1 σ H1 _ I1 q1) fun us s2 ⟨xs,H2,I2,r2,q2⟩=>⟨x::xs,H2,I2,.cons r1 r2,q2⟩
def Zmm (t:TA):TE:=fun σ H Q=>t σ H fun xs H1=>xs.length≤sizeLine∧∀p,H1 p=none→Q (.ref p) (upd H1 p (.tup xs))
def Zmq (t:TA):TE:=fun σ H Q=>t σ H fun xs H1=>xs.length≤sizeLine∧∀p,H1 p=none→Q (.ref p) (upd H1 p (.lst xs))
theorem ZhY {x1} (h:PA X es t):PE X (.Tuple es x1 pos) (Zmm t):=by
  intro pins s σ H Q I hq
  refine wpAny_Tuple_spliced (thn (h pos pins s σ H _ I hq) fun us s1 ⟨xs,H1,I1,r,z,q⟩=>⟨by rw [←r.length]; exact z,?_⟩)
  have hf:H1 s1.heap.objs.size=none:=I1.hok.fresh (Nat.le_refl _)
  refine ⟨.ref s1.heap.objs.size,upd H1 s1.heap.objs.size (.tup xs),I1.laid (t':=s1.toks) (fun b u e=>Heap.get?_push_of_some _ e) (Nat.le_refl _) ?_,rfl,q _ hf⟩
  exact ⟨z,us,r,⟨_,Heap.get?_push_size _ rfl,rfl,_,rfl⟩⟩
theorem Zh2 (h:PA X es t):PE X (.List es pos) (Zmq t):=by
  intro pins s σ H Q I hq
  refine wpAny_List_spliced (thn (h pos pins s σ H _ I hq) fun us s1 ⟨xs,H1,I1,r,z,q⟩=>⟨by rw [←r.length]; exact z,?_⟩)
  have hf:H1 s1.heap.objs.size=none:=I1.hok.fresh (Nat.le_refl _)
  refine ⟨.ref s1.heap.objs.size,upd H1 s1.heap.objs.size (.lst xs),I1.laid (t':=s1.toks) (fun b u e=>Heap.get?_push_of_some _ e) (Nat.le_refl _) ?_,rfl,q _ hf⟩
  exact ⟨z,us,0,r,Heap.get?_push_size _ rfl⟩
end
abbrev Sp:=List V→Hp→VK→XK→Prop
abbrev CXT:=List Env→Hp→Shared→XK→Value→Shared→Prop
structure ZjG (P:Program) (w:World) (K:PySem.W.Frag) (mg:Str→Option Value) (base:Heap) (A:Around) (outer:List Env) (s:Shared) (H:Hp):Prop where
  frames:A.frames=some outer
  mod:Mod K mg base
  bs:∀b o,base.get? b=some o→s.heap.get? b=some o∧H b=none
  bsz:base.objs.size≤s.heap.objs.size
  funs:s.heap.FunFrames base outer
  frf:∀b∈frs outer,H b=none
  hok:HOk P w H s.heap
  bare:AllBare s.gens
def CE (outer:List Env) (P:Program) (w:World) (H:Hp) (s:Shared) (Q:VK) (u:Value) (s':Shared):Prop:=
  ∃v H',s'.os=s.os∧AllBare s'.gens∧Un (frs outer) [] H H' s.heap s'.heap∧HOk P w H' s'.heap∧RelV v u∧Q v H'
def CR (CX:CXT) (outer:List Env) (P:Program) (w:World) (H:Hp) (s:Shared) (Q:VK) (E:XK) (r:Result) (s':Shared):Prop:=
  match r with
  | .ok (.ret u)=>CE outer P w H s Q u s'
  | .ok _=>False
  | .error e=>CX outer H s E e s'
structure FnOk (P:Program) (w:World) (K:PySem.W.Frag) (mg:Str→Option Value) (base:Heap) (CX:CXT) (k:Nat) (f:Addr) (fd:FuncData) (ps:List Str) (sp:Sp):Prop where
  len:∀vs H Q E,sp vs H Q E→vs.length=ps.length
  run:∀(A:Around) (outer:List Env) (s:Shared) (H:Hp) (args:Args) (us:List Value) (vs:List V) (Q:VK) (E:XK),Room k A→ZjG P w K mg base A outer s H→BindsTo s fd args (ps.zip us)→Vals vs us→sp vs H Q E→
    codeAny (model P w) A (.call (.ref f) args) (CR CX outer P w H s Q E) s
theorem FnOk.imp {P:Program} {w:World} {K:PySem.W.Frag} {mg:Str→Option Value} {base:Heap} {CX:CXT} {k:Nat} {f:Addr} {fd:FuncData} {ps:List Str} {sp sp':Sp} (F:FnOk P w K mg base CX k f fd ps sp)
    (h:∀vs H Q E,sp' vs H Q E→sp vs H Q E):FnOk P w K mg base CX k f fd ps sp':=
  ⟨fun vs H Q E q=>F.len vs H Q E (h _ _ _ _ q),fun A outer s H args us vs Q E hr he hb hv hs=>F.run A outer s H args us vs Q E hr he hb hv (h _ _ _ _ hs)⟩
section
variable {X:Cx} {pins:List (Addr×Obj)} {σ:St} {H:Hp} {s s':Shared}
theorem Inv.env0 (I:Inv X pins σ H s):ZjG X.prog X.w X.K X.mg X.base X.A X.stack s H:=
  ⟨I.ok.frames,I.ok.mod,I.bs,Nat.le_trans I.ok.bsz I.sz,I.stack,I.stkFree,I.hok,I.bare⟩
theorem Inv.after {Q:VK} {u:Value} (I:Inv X pins σ H s) (h:CE X.stack X.prog X.w H s Q u s'):EP X pins σ Q u s':=by
  obtain ⟨v,H',os,bare,un,hok,r,q⟩:=h
  obtain ⟨hh,g,d,t,os'⟩:=s'
  obtain rfl:os'=s.os:=os
  exact ⟨v,H',I.call (h':=hh) (g':=g) (d':=d) (t':=t) (ch:=[]) un hok bare (fun b z=>absurd z (by simp)),r,q⟩
end
def ZjL (sp:Sp) (dvs:List V) (E:XK) (t:TA):TE:=fun σ H Q=>t σ H fun vs H1=>sp (vs++dvs) H1 Q E
def Binds (K:PySem.W.Frag) (fd:FuncData) (ps:List Str) (ds:List Value):Prop:=
  ∀(s:Shared) (us:List Value),K.In s.heap→(us++ds).length=ps.length→BindsTo s fd ⟨us,[]⟩ (ps.zip (us++ds))
theorem Binds.all {K:PySem.W.Frag} {fd:FuncData} {ps:List Str} (h:∀us:List Value,us.length=ps.length→bindArgs fd ⟨us,[]⟩=pure (ps.zip us)):Binds K fd ps []:=fun s us _ hl=>by
  rw [List.append_nil] at hl ⊢
  exact .of_eq (h us hl)
def ZdT (CX:CXT) (X:Cx) (E:XK):Prop:=∀(pins:List (Addr×Obj)) (σ:St) (H:Hp) (s:Shared) (e:Value) (s':Shared),Inv X pins σ H s→CX X.stack H s E e s'→X.xe e s'
section
variable {X:Cx} {CX:CXT} {k:Nat} {f C:Addr} {fd:FuncData} {ps:List Str} {sp:Sp} {dvs:List V} {ds:List Value} {E:XK} {x m:Str} {p pos apos:Pos} {e o:Expr} {es:List Expr} {ta:TE} {t:TA}
theorem Zj9 {pins:List (Addr×Obj)} {σ:St} {H:Hp} {s:Shared} {Q:VK} {us:List Value} {vs:List V} (F:FnOk X.prog X.w X.K X.mg X.base CX k f fd ps sp) (hr:Room k X.A) (hb:Binds X.K fd ps ds) (hd:Vals dvs ds) (hx:ZdT CX X E)
    (I:Inv X pins σ H s) (r:Vals vs us) (h:sp (vs++dvs) H Q E):wpAny (model X.prog X.w) X.A (call (.ref f) us) (EP X pins σ Q) X.xe s:=by
  have r2:Vals (vs++dvs) (us++ds):=r.append hd
  have hl:(us++ds).length=ps.length:=by rw [←r2.length]; exact F.len _ _ _ _ h
  refine wpAny_call (codeAny_mono (F.run X.A X.stack s H ⟨us,[]⟩ (us++ds) (vs++dvs) Q E hr I.env0 (hb s us I.kIn hl) r2 h) fun r s' hq=>?_)
  cases r with
  | error e=>exact hx pins σ H s e s' I hq
  | ok fl=>
    cases fl with
    | ret u=>exact I.after hq
    | next=>exact False.elim hq
    | brk=>exact False.elim hq
    | cont=>exact False.elim hq
theorem Zgs (F:FnOk X.prog X.w X.K X.mg X.base CX k f fd ps sp) (hr:Room k X.A) (hg:Gl X x) (hm:X.mg x=some (.ref f)) (hk:PySem.W.keepIn X.K (.ref f)=true) (hb:Binds X.K fd ps ds) (hd:Vals dvs ds) (hx:ZdT CX X E)
    (ha:PA X (e::es) t) (hdb:(x == ("__debug__":Str))=false:=by decide) (he:starEach (e::es) X.env=(false,eval e X.env)::starEach es X.env:=by rfl) (hpl:(backTo pos (starEach es X.env)).any (·.1)=false:=by rfl) :
    PE X (.Call (.Name x p) (e::es) [] pos) (ZjL sp dvs E t):=by
  intro pins s σ H Q I h
  refine wpAny_Call_Name_kw (Zbr I hg hm ?_ hdb)
  refine PySem.W.callWith_K (h₀:=X.base) I.ok.mod.kin hk (thn (ha pos pins s σ H _ I h) fun us s1 ⟨vs,H1,I1,r,q⟩=>⟨I1.kIn,?_⟩) he hpl
  exact Zj9 F hr hb hd hx I1 r q
structure Mk (K:PySem.W.Frag) (C f:Addr):Prop where
  makes:PySem.W.makesIn K C=true
  init:PySem.W.findIn K (.ref C) "__init__"=some (some (.ref f))
  fn:PySem.W.isFn K (.ref f)=true
  kp:PySem.W.keepIn K (.ref C)=true
end
section
variable {X:Cx} {CX:CXT} {k:Nat} {f C:Addr} {fd:FuncData} {ps ks:List Str} {sp:Sp} {E:XK} {x m:Str} {p pos apos kpos:Pos} {e o:Expr} {es:List Expr} {kws:List Keyword} {te ta:TE} {t tk:TA} {nm:Option Str}
structure ZmM (K:PySem.W.Frag) (fd:FuncData) (ps ks:List Str) (g:List Value→List Value→List Value) (gV:List V→List V→List V):Prop where
  to:∀(s:Shared) (us ws:List Value),K.In s.heap→(g us ws).length=ps.length→BindsTo s fd ⟨us,ks.zip ws⟩ (ps.zip (g us ws))
  rel:∀{vs:List V} {us:List Value} {zs:List V} {ws:List Value},Vals vs us→Vals zs ws→Vals (gV vs zs) (g us ws)
variable {g:List Value→List Value→List Value} {gV:List V→List V→List V}
end
structure ZP (N P:List Str) (sc:Scope):Prop where
  kind:sc.kind=.function
  co:sc.isCoroutine=false
  gen:sc.isGenerator=false
  nd:N.Nodup
  pre:N.take P.length=P
  par:∀x∈P,sc.names.lookup x=some .local∨sc.names.lookup x=some .cell
  nofree:∀y∈sc.names,y.2≠.free
theorem Zek {kindOf:Str→Option NameKind} {x:Str}:∀{binds:List (Str×Value)} {m:Str→Option Value},(∀v,(x,v)∉binds)→bindL kindOf binds m x=m x
  | [],_,_=>rfl
  | (n,v)::r,m,h=>by
    unfold bindL
    rw [Zek fun w hw=>h w (List.mem_cons_of_mem _ hw)]
    split
    · have:x≠n:=by rintro rfl; exact h v List.mem_cons_self
      simp [this]
    · rfl
theorem Zem {kindOf:Str→Option NameKind} {x:Str}:∀{binds:List (Str×Value)} {m:Str→Option Value},(∀v,(x,v)∉binds)→bindC kindOf binds m x=m x
  | [],_,_=>rfl
  | (n,v)::r,m,h=>by
    unfold bindC
    rw [Zem fun w hw=>h w (List.mem_cons_of_mem _ hw)]
    split
    · rfl
    · have:x≠n:=by rintro rfl; exact h v List.mem_cons_self
      simp [this]
theorem Zel {kindOf:Str→Option NameKind} {x:Str} {v:Value}:∀{P:List Str} {vs:List Value} {i:Nat} {m:Str→Option Value},P.Nodup→P[i]?=some x→vs[i]?=some v→kindOf x=some .local→
    bindL kindOf (P.zip vs) m x=some v
  | [],_,_,_,_,h,_,_=>by simp at h
  | _::_,[],_,_,_,_,h,_=>by simp at h
  | p::P,w::vs,0,m,nd,h1,h2,hk=>by
    simp at h1 h2; subst h1; subst h2
    show bindL kindOf ((p,w)::P.zip vs) m p=_
    unfold bindL
    rw [Zek fun v hv=>(List.nodup_cons.mp nd).1 (List.of_mem_zip hv).1,if_pos hk]
    simp
  | p::P,w::vs,i+1,m,nd,h1,h2,hk=>by
    show bindL kindOf ((p,w)::P.zip vs) m x=_
    unfold bindL
    exact Zel (i:=i) (List.nodup_cons.mp nd).2 (by simpa using h1) (by simpa using h2) hk
theorem Zen {kindOf:Str→Option NameKind} {x:Str} {v:Value}:∀{P:List Str} {vs:List Value} {i:Nat} {m:Str→Option Value},P.Nodup→P[i]?=some x→vs[i]?=some v→kindOf x≠some .local→
    bindC kindOf (P.zip vs) m x=some v
  | [],_,_,_,_,h,_,_=>by simp at h
  | _::_,[],_,_,_,_,h,_=>by simp at h
  | p::P,w::vs,0,m,nd,h1,h2,hk=>by
    simp at h1 h2; subst h1; subst h2
    show bindC kindOf ((p,w)::P.zip vs) m p=_
    unfold bindC
    rw [Zem fun v hv=>(List.nodup_cons.mp nd).1 (List.of_mem_zip hv).1,if_neg hk]
    simp
  | p::P,w::vs,i+1,m,nd,h1,h2,hk=>by
    show bindC kindOf ((p,w)::P.zip vs) m x=_
    unfold bindC
    exact Zen (i:=i) (List.nodup_cons.mp nd).2 (by simpa using h1) (by simpa using h2) hk
def Za0 (N:List Str) (vs:List V):St:=vs.map some++List.replicate (N.length-vs.length) none
def Zbd (CX:CXT) (P:Program) (w:World) (K:PySem.W.Frag) (mg:Str→Option Value) (base:Heap) (N:List Str) (qual:Str) (scope:Scope) (f:Addr) (cd:Value) (A:Around) (outer:List Env) (s:Shared) (H:Hp) (E:XK):Cx where
  prog:=P
  w:=w
  K:=K
  mg:=mg
  base:=base
  A:=A.deeper (envOfC qual scope s.heap.objs.size f cd)
  N:=N
  s₀:=s
  H₀:=H
  env:=envOfC qual scope s.heap.objs.size f cd
  outer:=outer
  stack:=envOfC qual scope s.heap.objs.size f cd::outer
  ex:=[]
  calm:=true
  fn:=fun _=>true
  pn:=[]
  xe:=fun e s'=>wpAny (model P w) (A.deeper (envOfC qual scope s.heap.objs.size f cd)) (leaving (envOfC qual scope s.heap.objs.size f cd) e) (fun _ s''=>CX outer H s E e s'') (fun e' s''=>CX outer H s E e' s'') s'
theorem ZfI {sc:Scope} {n:Nat} {x:Str} (h:sc.names.lookup x=some .cell):∃c,(cellsFrom n sc.names []).lookup x=some c:=by
  have q:=PySem.W.cellsFrom_some sc.names n [] (.inl h)
  exact Option.isSome_iff_exists.mp q
theorem Zhh {CX:CXT} {P:Program} {w:World} {K:PySem.W.Frag} {mg:Str→Option Value} {base:Heap} {N ps:List Str} {qual:Str} {scope:Scope} {f:Addr} {cd:Value} {A:Around} {outer:List Env} {s s1:Shared} {H:Hp} {E:XK} {us:List Value} {vs:List V}
    (S:ZP N ps scope) (hd:A.handled=none) (e0:ZjG P w K mg base A outer s H) (hl:vs.length=ps.length) (r:Vals vs us)
    (x:InCallC s s.heap.objs.size (bindL (envOfC qual scope s.heap.objs.size f cd).kindOf (ps.zip us) fun _=>none) (cellsFrom (s.heap.objs.size+1) scope.names []) (bindC (envOfC qual scope s.heap.objs.size f cd).kindOf (ps.zip us) fun _=>none) s1) :
    Inv (Zbd CX P w K mg base N qual scope f cd A outer s H E) [] (Za0 N vs) H s1:=by
  have hpl:ps.length≤N.length:=by have:=congrArg List.length S.pre; rw [List.length_take] at this; omega
  obtain ⟨h1,tk,rfl,hk⟩:=x.done
  have noA:∀b:Addr,b∉(Zbd CX P w K mg base N qual scope f cd A outer s H E).ex:=fun b z=>absurd (show b∈([]:List Addr) from z) (by simp)
  refine ⟨⟨e0.mod,S.kind,rfl,rfl,Nat.le_refl _,fun y z c h1 h2=>?_,fun y hy=>?_,fun y c _ h=>?_,fun _=>hd,Around.frames_deeper e0.frames,.inr ⟨rfl,rfl⟩,fun b z=>absurd z (noA b),e0.bs,e0.bsz,fun b _ _=>noA b,fun b z=>absurd z (noA b),e0.funs,e0.frf⟩,
    rfl,e0.bare,Un.kept hk,⟨_,x.toInCall.ns,fun i y v h1 h2 h3=>?_⟩,fun y c h=>⟨_,x.cell y c h⟩,e0.hok.fresh (Nat.le_refl _),fun y c h=>?_,fun p hp=>absurd (show p∈([]:List (Addr×Obj)) from hp) (by simp),e0.hok.kept hk,?_⟩
  · exact name_of_addr x.apart (PySem.mem_of_lookup h1) (PySem.mem_of_lookup h2)
  · have hy:scope.names.lookup y=some .cell∨scope.names.lookup y=some .free:=hy
    rcases hy with hy | hy
    · exact ZfI hy
    · exact absurd rfl (S.nofree _ (PySem.mem_of_lookup hy))
  · exact Nat.le_of_lt (x.above y c (PySem.mem_of_lookup h))
  · have hi:i<vs.length:=by
      unfold Za0 at h2
      by_cases hi:i<vs.length
      · exact hi
      · rw [List.getElem?_append_right (by simpa using hi)] at h2
        rw [List.getElem?_replicate] at h2
        split at h2<;>cases h2
    have ha:vs[i]?=some v:=by
      unfold Za0 at h2
      rw [List.getElem?_append_left (by simpa using hi),List.getElem?_map] at h2
      cases e:vs[i]? with
      | none=>rw [e] at h2; cases h2
      | some a=>rw [e] at h2; cases h2; rfl
    obtain ⟨u,hu,rv⟩:=r.get ha
    have hp:ps[i]?=some y:=by
      rw [←S.pre,List.getElem?_take_of_lt (by omega)]; exact h1
    have ndP:ps.Nodup:=by rw [←S.pre]; exact S.nd.sublist (List.take_sublist _ _)
    refine ⟨u,rv,?_⟩
    rcases S.par y (List.mem_of_getElem? hp) with k | k
    · exact .inl ⟨k,Zel ndP hp hu k⟩
    · obtain ⟨c,e⟩:=ZfI (n:=s.heap.objs.size+1) k
      refine .inr ⟨.inl k,c,e,?_⟩
      have q:=x.cell y c e
      rw [Zen ndP hp hu (by show scope.names.lookup y≠_; rw [k]; decide)] at q
      exact q
  · exact e0.hok.fresh (Nat.le_of_lt (x.above y c (PySem.mem_of_lookup h)))
  · unfold Za0
    show _=N.length
    rw [List.length_append,List.length_map,List.length_replicate]
    omega
theorem ZjX {CX:CXT} {P:Program} {w:World} {K:PySem.W.Frag} {mg:Str→Option Value} {base:Heap} {k:Nat} {f:Addr} {name qual:Str} {params:Arguments} {body:List Stmt} {scope:Scope} {dV kV doc pm cdv ct oc:Value} {an od:Option Addr}
    {osl:Array (Option Value)} {N ps:List Str} {sp:Sp} (lk:K.lookup f=some ⟨oc,od,.func (PySem.W.fnOf name qual params body scope dV kV doc pm an cdv ct),osl⟩) (hcd:PySem.W.codeIn K cdv qual=true) (S:ZP N ps scope)
    (len:∀vs H Q E,sp vs H Q E→vs.length=ps.length)
    (hbody:∀(A:Around) (outer:List Env) (s:Shared) (H:Hp) (vs:List V) (Q:VK) (E:XK),Room k (A.deeper (envOfC qual scope s.heap.objs.size f cdv))→sp vs H Q E→
      ∃t,PSs (Zbd CX P w K mg base N qual scope f cdv A outer s H E) body t∧t { nx:=fun _ H'=>Q .non H',rt:=Q } (Za0 N vs) H) :
    FnOk P w K mg base CX (k+1) f (PySem.W.fnOf name qual params body scope dV kV doc pm an cdv ct) ps sp:=by
  refine ⟨len,fun A outer s H args us vs Q E hr e0 hb r hsp=>?_⟩
  have hl:=len _ _ _ _ hsp
  have KX:K.In s.heap:=e0.mod.kin.keeps fun b o e=>(e0.bs b o e).1
  have lim:s.heap.NoLimit:=e0.mod.nolimit.keeps fun b o e=>(e0.bs b o e).1
  have hkind:∀y∈ps.zip us,scope.names.lookup y.1=some .local∨(scope.names.lookup y.1=some .cell∧((cellsFrom (s.heap.objs.size+1) scope.names []).lookup y.1).isSome=true):=fun ⟨n,v⟩ hy=>by
    rcases S.par n (List.of_mem_zip hy).1 with q | q
    · exact .inl q
    · exact .inr ⟨q,PySem.W.cellsFrom_some _ _ _ (.inl q)⟩
  refine codeAny_call_function hr.depth (KX _ _ lk) rfl S.co S.gen rfl (PySem.W.codeRec_of KX hcd) (hb _ _ _ _ ?_)
  refine wpAny_newFunctionEnv_cells S.kind hkind fun env he s1 x=>?_
  subst he
  refine ⟨lim.keeps x.toInCall.keep,codeAny_func ?_⟩
  obtain ⟨t,ht,hq⟩:=hbody A outer s H vs Q E (hr.deeper _) hsp
  have I:Inv (Zbd CX P w K mg base N qual scope f cdv A outer s H E) [] (Za0 N vs) H s1:=Zhh S hr.hd e0 hl r x
  refine wpAny_mono (ht [] s1 (Za0 N vs) H _ I hq) (fun fl s' hs=>?_) fun e s' hs=>hs
  have fin:∀{σ':St} {H':Hp} {v:V} {u:Value},Inv (Zbd CX P w K mg base N qual scope f cdv A outer s H E) [] σ' H' s'→RelV v u→Q v H'→CE outer P w H s Q u s':=
    fun {σ' H' v u} J rv q=>⟨v,H',J.os,J.bare,J.base,J.hok,rv,q⟩
  cases fl with
  | ret u=>
    obtain ⟨v,σ',H',J,rv,q⟩:=hs
    exact fin J rv q
  | next=>
    obtain ⟨σ',H',J,q⟩:=hs
    exact fin (v:=V.non) (u:=Value.none) J rfl q
  | brk=>
    obtain ⟨_,_,_,q⟩:=hs
    exact False.elim q
  | cont=>
    obtain ⟨_,_,_,q⟩:=hs
    exact False.elim q
end L2
namespace L2
open PySem PySem.Spec PyProof.Rows
section
variable {X:Cx} {x:Str} {p pos:Pos} {e:Expr} {es:List Expr} {t:TA} {id T:String} {r:List V→Hp→VK→Prop}
def tCB (r:List V→Hp→VK→Prop) (t:TA):TE:=fun σ H Q=>t σ H fun vs H1=>r vs H1 Q
theorem Zdo (hc:CallR X (.builtin id) r) (hg:Gl X x) (hm:X.mg x=none) (hv:bootBuiltins x=some (.builtin id)) (ha:PA X (e::es) t) (hn:x≠"__name__":=by decide) (hdb:(x == ("__debug__":Str))=false:=by decide)
    (he:starEach (e::es) X.env=(false,eval e X.env)::starEach es X.env:=by rfl) (hpl:(backTo pos (starEach es X.env)).any (·.1)=false:=by rfl):PE X (.Call (.Name x p) (e::es) [] pos) (tCB r t):=by
  intro pins s σ H Q I h
  refine wpAny_Call_Name_kw (Zdx I hg hm hv ?_ hn hdb)
  exact PyProof.Rows.callWith_builtin1 (thn (ha pos pins s σ H _ I h) fun us s1 ⟨vs,H1,I1,r1,q1⟩=>hc pins s1 σ H1 vs us Q I1 r1 q1) he hpl
theorem Zg2 (hc:CallR X (.type T) r) (hg:Gl X x) (hm:X.mg x=none) (hv:bootBuiltins x=some (.type T)) (ha:PA X (e::es) t) (hn:x≠"__name__":=by decide) (hdb:(x == ("__debug__":Str))=false:=by decide)
    (he:starEach (e::es) X.env=(false,eval e X.env)::starEach es X.env:=by rfl) (hpl:(backTo pos (starEach es X.env)).any (·.1)=false:=by rfl):PE X (.Call (.Name x p) (e::es) [] pos) (tCB r t):=by
  intro pins s σ H Q I h
  refine wpAny_Call_Name_kw (Zdx I hg hm hv ?_ hn hdb)
  exact PyProof.Rows.callWith_type1 (thn (ha pos pins s σ H _ I h) fun us s1 ⟨vs,H1,I1,r1,q1⟩=>hc pins s1 σ H1 vs us Q I1 r1 q1) he hpl
end
end L2
namespace HT
open PySem PyProof.Rows
section
open PySem.SeqAt
open PySem.AutoSeq1 (wpAny_loadPart')
open PySem.MeetsSeq PySem.MeetsSeq2 PySem.MeetsSeq3
end
section
variable {prog:Program} {w:World} {A:Around} {E:Value→Shared→Prop} {s:Shared}
theorem cat_tup {t b:Addr} {vs ws:List Value} {Q:Value→Shared→Prop} (ht:IsTup s.heap t vs.toArray) (hb:IsTup s.heap b ws.toArray) (hv:vs≠[])
    (h1:ws=[]→Q (.ref t) s) (h2:ws≠[]→Q (.ref s.heap.objs.size) { s with heap:=s.heap.push { cls:=.type "tuple",data:=.seq (vs++ws).toArray } })
    (hsz:vs.length+ws.length≤sizeLine):wpAny (model prog w) A (binaryOp .Add (.ref t) (.ref b)) Q E s:=by
  obtain ⟨⟨cls,dd,data,sl⟩,ho,hc,n,hd⟩:=id ht
  obtain ⟨⟨cls2,dd2,data2,sl2⟩,ho2,hc2,n2,hd2⟩:=id hb
  simp only at hc hd hc2 hd2
  subst hc hd hc2 hd2
  have e:vs.toArray++ws.toArray=(vs++ws).toArray:=by simp
  by_cases hw:ws=[]
  · exact concat_meets ⟨_,ho,rfl⟩ ⟨_,ho2,rfl⟩ noFill_tuple_add seq_tuple_add PySem.F.slot_tuple_add PySem.F.entry_tuple_add (PySem.F.args_tuple_add_2 _ _)
      (tuple_addW1 t b vs.toArray ws.toArray n n2 dd dd2 sl sl2 (by simpa using hv) (by simp [hw])) ⟨ho,ho2,h1 hw⟩
  · refine concat_meets ⟨_,ho,rfl⟩ ⟨_,ho2,rfl⟩ noFill_tuple_add seq_tuple_add PySem.F.slot_tuple_add PySem.F.entry_tuple_add (PySem.F.args_tuple_add_2 _ _)
      (tuple_addW2 t b vs.toArray ws.toArray n n2 dd dd2 sl sl2 (by simpa using hv) (by simpa using hw) (by rw [List.size_toArray,List.size_toArray]; exact hsz)) ⟨ho,ho2,?_⟩
    rw [e]
    exact h2 hw
def sIx (n d:Nat):Option Int→Nat
  | none=>d
  | some v=>if v<0 then (v+(n:Int)).toNat else min v.toNat n
theorem sIx_none (n d:Nat):sIx n d none=d:=rfl
theorem sIx_nat (n d k:Nat):sIx n d (some (k:Int))=min k n:=by
  show (if (k:Int)<0 then ((k:Int)+(n:Int)).toNat else min (k:Int).toNat n)=min k n
  rw [if_neg (by omega),Int.toNat_natCast]
theorem Zj8 (n d:Nat) (hd:d≤n) (o:Option Int):sIx n d o≤n:=by
  cases o with
  | none=>exact hd
  | some v=>
    show (if v<0 then (v+(n:Int)).toNat else min v.toNat n)≤n
    by_cases hv:v<0
    · rw [if_pos hv]; omega
    · rw [if_neg hv]; exact Nat.min_le_right _ _
theorem ZgJ (v:Int) (n d:Nat):(if v<0 then max (v+(n:Int)) 0 else min v (n:Int))=((sIx n d (some v):Nat):Int):=by
  show (if v<0 then max (v+(n:Int)) 0 else min v (n:Int))=(((if v<0 then (v+(n:Int)).toNat else min v.toNat n):Nat):Int)
  by_cases hv:v<0
  · simp only [if_pos hv]; omega
  · simp only [if_neg hv]; omega
theorem Zge (lo hi:Option Int) (n:Nat):Builtin.Slice.sliceAdjust lo hi 1 (n:Int)=(((sIx n 0 lo:Nat):Int),((sIx n n hi:Nat):Int)):=by
  have h1:¬((1:Int)<0):=by omega
  unfold Builtin.Slice.sliceAdjust
  simp only [h1,if_false]
  refine Prod.ext ?_ ?_
  · cases lo with
    | none=>rfl
    | some v=>exact ZgJ v n 0
  · cases hi with
    | none=>rfl
    | some v=>exact ZgJ v n n
theorem ZfY (i j:Nat):Builtin.Slice.slicePlaces (i:Int) (j:Int) 1=j-i:=by
  unfold Builtin.Slice.slicePlaces
  have h1:(1:Int) > 0:=by omega
  simp only [h1,if_true,Int.ediv_one]
  split<;>omega
theorem Zdk {v:Value} {o:Option Int} {Q:Option Int→Shared→Prop} (p:IsPart v o) (h:Q o s):wpAny (model prog w) A (Builtin.Slice.slicePartIndex v) Q E s:=by
  cases p with
  | none=>exact slicePart_none h
  | int i t=>exact slicePart_int h
theorem Zcr {sl:Addr} {vl vu:Value} {lo hi:Option Int} {n:Nat} {Q:Int×Int×Nat→Shared→Prop} (hs:s.heap.IsSliceOf sl vl vu .none) (pl:IsPart vl lo) (pu:IsPart vu hi)
    (h:Q (((sIx n 0 lo:Nat):Int),1,sIx n n hi-sIx n 0 lo) s):wpAny (model prog w) A (Builtin.Slice.sliceApplied (.ref sl) (pure (n:Int))) Q E s:=by
  obtain ⟨os,hos,hcs,hds⟩:=id hs
  unfold Builtin.Slice.sliceApplied Builtin.Slice.sliceFields
  refine wpAny_bind (wpAny_bind (wpAny_field hos hds (x:=vl) rfl (wpAny_bind (wpAny_field hos hds (x:=vu) rfl (wpAny_bind (wpAny_field hos hds (x:=.none) rfl (wpAny_pure ?_)))))))
  refine wpAny_bind (slicePart_none ?_)
  show wpAny _ _ (if ((1:Int) == 0)=true then _ else _) _ _ s
  rw [if_neg (by decide)]
  refine wpAny_bind (Zdk pl (wpAny_bind (Zdk pu (wpAny_bind (wpAny_pure ?_)))))
  show wpAny _ _ (match Builtin.Slice.sliceAdjust lo hi 1 (n:Int) with | (lo,hi)=>pure (lo,(1:Int),Builtin.Slice.slicePlaces lo hi 1)) _ _ s
  rw [Zge lo hi n]
  show wpAny _ _ (pure (((sIx n 0 lo:Nat):Int),(1:Int),Builtin.Slice.slicePlaces ((sIx n 0 lo:Nat):Int) ((sIx n n hi:Nat):Int) 1)) _ _ s
  rw [ZfY]
  exact wpAny_pure h
theorem ZhW (xs:Array Value) (i k:Nat):((List.range k).filterMap fun (m:Nat)=>xs[((i:Int)+(m:Int)*1).toNat]?).toArray=((xs.toList.drop i).take k).toArray:=by
  have e:(fun (m:Nat)=>xs[((i:Int)+(m:Int)*1).toNat]?)=fun m=>xs[i+m]?:=by
    funext m
    have:((i:Int)+(m:Int)*1).toNat=i+m:=by omega
    rw [this]
  rw [e]
  have:=pick_run xs i k
  rw [List.filterMap_map] at this
  have e2:((fun x=>xs[x]?)∘fun x=>i+x)=fun m=>xs[i+m]?:=rfl
  rw [e2] at this
  rw [this]
theorem getItem_tuple_cut {t sl:Addr} {items:Array Value} {vl vu:Value} {lo hi:Option Int} {Q:Value→Shared→Prop} (ht:IsTup s.heap t items) (hs:s.heap.IsSliceOf sl vl vu .none) (pl:IsPart vl lo) (pu:IsPart vu hi)
    (hw:¬(sIx items.size 0 lo=0∧sIx items.size items.size hi=items.size))
    (h:Q (.ref s.heap.objs.size) { s with heap:=s.heap.push { cls:=.type "tuple",data:=.seq ((items.toList.drop (sIx items.size 0 lo)).take (sIx items.size items.size hi-sIx items.size 0 lo)).toArray } })
    (hsz:items.size≤sizeLine):wpAny (model prog w) A (getItem (.ref t) (.ref sl)) Q E s:=by
  have htake:sizeOk (.seq ((items.toList.drop (sIx items.size 0 lo)).take (sIx items.size items.size hi-sIx items.size 0 lo)).toArray):=by
    show ((items.toList.drop (sIx items.size 0 lo)).take (sIx items.size items.size hi-sIx items.size 0 lo)).toArray.size≤sizeLine
    rw [List.size_toArray,List.length_take,List.length_drop,Array.length_toList]
    omega
  have hj:sIx items.size items.size hi≤items.size:=Zj8 _ _ (Nat.le_refl _) hi
  obtain ⟨os,hos,hcs,hds⟩:=id hs
  have hTs:s.TypeIs (.ref sl) "slice":=⟨os,hos,hcs⟩
  unfold getItem
  try with_reducible refine wpAny_holding ?_
  first | refine wpAny_bind (wpAny_pure ?_) | skip
  refine wpAny_bind (wpAny_sequenceKey ht.typeIs (by decide) ?_)
  refine wpAny_bind (wpAny_callSpecial?_slot (name:=Str.ofString "__getitem__") ht.typeIs PyProof.Rows.slot_tuple_getitem
    (wpAny_call_entry PyProof.Rows.slot_tuple_getitem ht.typeIs entry_tuple_getitem ?_ (args_tuple_getitem _ _)))
  show wpAny _ _ (Builtin.Tuple.tupleItemsOf (.ref t) >>= _) _ _ s
  refine wpAny_bind (tupleItemsOf_ ht ?_)
  refine wpAny_bind (wpAny_typeOf hTs ?_)
  rw [if_pos (by decide)]
  refine wpAny_bind (Zcr hs pl pu ?_)
  have hno:¬((((sIx items.size 0 lo:Nat):Int) == 0 && (1:Int) == 1 && (sIx items.size items.size hi-sIx items.size 0 lo) == items.size)=true):=by
    intro q
    rw [Bool.and_eq_true,Bool.and_eq_true] at q
    have q1:((sIx items.size 0 lo:Nat):Int)=0:=eq_of_beq q.1.1
    have q2:sIx items.size items.size hi-sIx items.size 0 lo=items.size:=eq_of_beq q.2
    exact hw ⟨by omega,by omega⟩
  show wpAny _ _ (if (((sIx items.size 0 lo:Nat):Int) == 0 && (1:Int) == 1 && (sIx items.size items.size hi-sIx items.size 0 lo) == items.size)=true then _ else _) _ _ s
  rw [if_neg hno,ZhW]
  first
    | exact wpAny_bind (m:=Builtin.Tuple.tupleExact _) (wpAny_newObj_type (wpAny_pure ⟨_,rfl,wpAny_pure h⟩) htake)
    | exact wpAny_bind (m:=Builtin.Tuple.tupleExact _) (wpAny_newObj_type (wpAny_bind (wpAny_pure (wpAny_pure ⟨_,rfl,wpAny_pure h⟩))) htake)
    | exact wpAny_bind (wpAny_bind (m:=Builtin.Tuple.tupleExact _) (wpAny_newObj_type (wpAny_pure (wpAny_pure ⟨_,rfl,wpAny_pure h⟩)) htake))
    | exact wpAny_bind (wpAny_bind (m:=Builtin.Tuple.tupleExact _) (wpAny_newObj_type (wpAny_pure ⟨_,rfl,wpAny_pure h⟩) htake))
end
end HT
namespace L2
open PySem PySem.Spec PyProof.Rows
abbrev TO:=St→Hp→(Option Int→Hp→Prop)→Prop
def PO (X:Cx) (e:Option Expr) (t:TO):Prop:=
  ∀(pins:List (Addr×Obj)) (s:Shared) (σ:St) (H:Hp) (Q:Option Int→Hp→Prop),Inv X pins σ H s→t σ H Q→
    wpAny (model X.prog X.w) X.A (evalPart e X.env) (fun u s'=>∃o H',Inv X pins σ H' s'∧IsPart u o∧Q o H') X.xe s
def ZiZ:TO:=fun _ H Q=>Q none H
def Zk5 (t:TE):TO:=fun σ H Q=>t σ H fun x H1=>∃i,x=.int i∧Q (some i) H1
section
variable {X:Cx} {e:Expr} {te:TE} {lo hi:Option Expr} {tl th:TO} {pos p2:Pos}
theorem Zi8:PO X none ZiZ:=by
  intro pins s σ H Q I h
  rw [evalPart_none]
  exact wpAny_pure ⟨none,H,I,.none,h⟩
theorem Zi7 (h:PE X e te):PO X (some e) (Zk5 te):=by
  intro pins s σ H Q I hw
  rw [evalPart_some]
  refine thn (h pins s σ H _ I hw) fun u s1 ⟨x,H1,I1,r1,q1⟩=>?_
  obtain ⟨i,rfl,q⟩:=q1
  obtain ⟨t,rfl⟩:=r1
  exact ⟨some i,H1,I1,.int i t,q⟩
def SlR (X:Cx) (r:V→Option Int→Option Int→Hp→VK→Prop):Prop:=
  ∀(pins:List (Addr×Obj)) (s:Shared) (σ:St) (H:Hp) (x:V) (v vl vu:Value) (lo hi:Option Int) (sl:Addr) (Q:VK),Inv X pins σ H s→RelV x v→s.heap.IsSliceOf sl vl vu .none→IsPart vl lo→IsPart vu hi→r x lo hi H Q→
    ∃T id,typeLookup (.type T) "__getitem__"=pure (some (.builtin id))∧s.TypeIs v T∧wpAny (model X.prog X.w) X.A (getItem v (.ref sl)) (EP X pins σ Q) X.xe s
theorem SlR.or {r r':V→Option Int→Option Int→Hp→VK→Prop} (h:SlR X r) (h':SlR X r'):SlR X (fun x lo hi H Q=>r x lo hi H Q∨r' x lo hi H Q):=by
  intro pins s σ H x v vl vu lo hi sl Q I rx hs pl pu q
  rcases q with q | q
  · exact h pins s σ H x v vl vu lo hi sl Q I rx hs pl pu q
  · exact h' pins s σ H x v vl vu lo hi sl Q I rx hs pl pu q
def tSl (r:V→Option Int→Option Int→Hp→VK→Prop) (te:TE) (tl th:TO):TE:=fun σ H Q=>te σ H fun x H1=>tl σ H1 fun l H2=>th σ H2 fun u H3=>r x l u H3 Q
theorem Zh0 {r:V→Option Int→Option Int→Hp→VK→Prop} (hr:SlR X r) (he:PE X e te) (hl:PO X lo tl) (hu:PO X hi th):PE X (.Subscript e (.Slice lo hi none p2) pos) (tSl r te tl th):=by
  intro pins s σ H Q I h
  refine Subscript_ (thn (he pins s σ H _ I h) fun v s1 ⟨x,H1,I1,r1,q1⟩=>?_)
  refine wpAny_Slice (thn (hl pins s1 σ H1 _ I1 q1) fun vl s2 ⟨l,H2,I2,pl,q2⟩=>thn (hu pins s2 σ H2 _ I2 q2) fun vu s3 ⟨u,H3,I3,pu,q3⟩=>?_)
  rw [evalPart_none]
  refine wpAny_pure ?_
  have I4:Inv X pins σ H3 { s3 with heap:=s3.heap.push { cls:=.type "slice",data:=.fields #[vl,vu,.none] } }:=I3.kept (t':=s3.toks) fun b ob q=>Heap.get?_push_of_some _ q
  obtain ⟨T,id,hT,ht,hg⟩:=hr pins { s3 with heap:=s3.heap.push { cls:=.type "slice",data:=.fields #[vl,vu,.none] } } σ H3 x v vl vu l u s3.heap.objs.size Q I4 r1 (Heap.IsSliceOf.new ..) pl pu q3
  show wpAny (model X.prog X.w) X.A (subscriptTail e (.Slice lo hi none p2) v (.ref s3.heap.objs.size)) (EP X pins σ Q) X.xe { s3 with heap:=s3.heap.push { cls:=.type "slice",data:=.fields #[vl,vu,.none] } }
  exact tail_any (ops:=[.ref s3.heap.objs.size,v]) ht hT hg (by with_unfolding_all rfl)
def ZfF (xs:List V) (lo hi:Option Int):List V:=(xs.drop (HT.sIx xs.length 0 lo)).take (HT.sIx xs.length xs.length hi-HT.sIx xs.length 0 lo)
theorem ZcV (xs:List V) (lo hi:Option Int):(ZfF xs lo hi).length≤xs.length:=by
  unfold ZfF
  rw [List.length_take,List.length_drop]
  omega
def Zmu (K:PySem.W.Frag):V→Option Int→Option Int→Hp→VK→Prop:=fun x lo hi H Q=>∃a xs,x=.ref a∧SqT K H a xs∧
  ¬(HT.sIx xs.length 0 lo=0∧HT.sIx xs.length xs.length hi=xs.length)∧∀p,H p=none→Q (.ref p) (upd H p (.tup (ZfF xs lo hi)))
theorem Zj6:SlR X (Zmu X.K):=by
  intro pins s σ H x v vl vu lo hi sl Q I rx hs pl pu h
  obtain ⟨a,xs,rfl,hx,hw,q⟩:=h
  cases rx
  obtain ⟨its,r,ht,hz⟩:=I.tuple hx
  have hlen:its.toArray.size=xs.length:=by rw [List.size_toArray]; exact r.length.symm
  refine ⟨"tuple",_,PyProof.Rows.slot_tuple_getitem.lookup,ht.typeIs,?_⟩
  refine HT.getItem_tuple_cut ht hs pl pu (by rw [hlen]; exact hw) ?_ (by rw [hlen]; exact hz)
  rw [hlen]
  refine ⟨.ref s.heap.objs.size,_,I.laid (t':=s.toks) (o:=.tup (ZfF xs lo hi)) (fun b ob q=>Heap.get?_push_of_some _ q) (Nat.le_refl _) ?_,rfl,q _ (I.hok.fresh (Nat.le_refl _))⟩
  exact ⟨Nat.le_trans (ZcV xs lo hi) hz,_,(r.drop (HT.sIx xs.length 0 lo)).take (HT.sIx xs.length xs.length hi-HT.sIx xs.length 0 lo),IsTup.new _ _⟩
def Zlg (K:PySem.W.Frag):R2:=fun x y H Q=>∃a b xs ys,x=.ref a∧y=.ref b∧SqT K H a xs∧SqT K H b ys∧xs≠[]∧xs.length+ys.length≤sizeLine∧
  (ys=[]→Q (.ref a) H)∧(ys≠[]→∀p,H p=none→Q (.ref p) (upd H p (.tup (xs++ys))))
theorem Vals.nil_iff {xs:List V} {us:List Value} (r:Vals xs us):us=[]↔xs=[]:=by
  cases r with
  | nil=>simp
  | cons _ _=>simp
theorem op_catT:OpR X (binaryOp .Add) (Zlg X.K):=by
  intro pins s σ H x y v u Q I rx ry h
  obtain ⟨a,b,xs,ys,rfl,rfl,ha,hb,hx,hz,q1,q2⟩:=h
  cases rx
  cases ry
  obtain ⟨its,r1,p1,_⟩:=I.tuple ha
  obtain ⟨its2,r2,p2,_⟩:=I.tuple hb
  refine HT.cat_tup p1 p2 (fun z=>hx (r1.nil_iff.mp z)) (fun z=>⟨.ref a,H,I,rfl,q1 (r2.nil_iff.mp z)⟩) (fun z=>?_) (by rw [←r1.length,←r2.length]; exact hz)
  refine ⟨.ref s.heap.objs.size,_,I.laid (t':=s.toks) (o:=.tup (xs++ys)) (fun b ob q=>Heap.get?_push_of_some _ q) (Nat.le_refl _) ?_,rfl,q2 (fun w=>z (r2.nil_iff.mpr w)) _ (I.hok.fresh (Nat.le_refl _))⟩
  exact ⟨by rw [List.length_append]; exact hz,_,r1.append r2,IsTup.new _ _⟩
end
end L2
namespace L2
open PySem PySem.Spec PyProof.Rows
def ixN (n:Nat) (i:Int):Option Nat:=if 0≤i then (if i<n then some i.toNat else none) else if -(n:Int)≤i then some (i+n).toNat else none
def atI {α:Type} (xs:List α) (i:Int):Option α:=(ixN xs.length i).bind fun j=>xs[j]?
theorem ZgC {n:Nat} {i:Int} {j:Nat} (h:ixN n i=some j):seqIndex? i n=some j∧j<n∧-(n:Int)≤i∧i<n:=by
  unfold ixN at h
  by_cases h0:0≤i
  · rw [if_pos h0] at h
    by_cases h1:i<n
    · rw [if_pos h1] at h
      have e:i.toNat=j:=Option.some.inj h
      exact ⟨by rw [seqIndex_of h0 h1,e],by omega,by omega,h1⟩
    · rw [if_neg h1] at h; cases h
  · rw [if_neg h0] at h
    by_cases h1 : -(n:Int)≤i
    · rw [if_pos h1] at h
      have e:(i+n).toNat=j:=Option.some.inj h
      exact ⟨by rw [seqIndex_neg (by omega) h1,e],by omega,h1,by omega⟩
    · rw [if_neg h1] at h; cases h
theorem Ze1 {α:Type} {xs:List α} {i:Int} {v:α} (h:atI xs i=some v):∃j,seqIndex? i xs.length=some j∧xs[j]?=some v∧j<xs.length∧-(xs.length:Int)≤i∧i<xs.length:=by
  unfold atI at h
  cases e:ixN xs.length i with
  | none=>rw [e] at h; cases h
  | some j=>
    rw [e] at h
    obtain ⟨h1,h2,h3,h4⟩:=ZgC e
    exact ⟨j,h1,h,h2,h3,h4⟩
theorem Ze0 {α:Type} {xs:List α} {j:Nat} {v:α} (h:xs[j]?=some v):atI xs (j:Int)=some v:=by
  have hj:j<xs.length:=(List.getElem?_eq_some_iff.mp h).1
  have e:ixN xs.length (j:Int)=some j:=by
    unfold ixN
    rw [if_pos (by omega),if_pos (by omega)]; simp
  unfold atI; rw [e]; exact h
def ZgP (b:Expr):Prop:=∀o i,subscripted b false o i=operate [o,i] (getItem o i)
def IxR (X:Cx) (r:R2):Prop:=
  ∀(value slice:Expr) (pins:List (Addr×Obj)) (s:Shared) (σ:St) (H:Hp) (x y:V) (v u:Value) (Q:VK),Inv X pins σ H s→RelV x v→RelV y u→r x y H Q→
    subscripted slice false v u=operate [v,u] (getItem v u)→wpAny (model X.prog X.w) X.A (subscriptTail value slice v u) (EP X pins σ Q) X.xe s
def MtR (X:Cx) (id:String) (r:V→List V→Hp→VK→Prop):Prop:=
  ∀(pins:List (Addr×Obj)) (s:Shared) (σ:St) (H:Hp) (x:V) (xs:List V) (v:Value) (us:List Value) (Q:VK),Inv X pins σ H s→RelV x v→Vals xs us→r x xs H Q→
    wpAny (model X.prog X.w) X.A (call (.builtin id) (v::us)) (EP X pins σ Q) X.xe s
section
variable {X:Cx} {a b:Expr} {ta tb:TE} {pos:Pos}
theorem IxR.or {r r':R2} (h:IxR X r) (h':IxR X r'):IxR X (fun x y H Q=>r x y H Q∨r' x y H Q):=by
  intro value slice pins s σ H x y v u Q I rx ry q hs
  rcases q with q | q
  · exact h value slice pins s σ H x y v u Q I rx ry q hs
  · exact h' value slice pins s σ H x y v u Q I rx ry q hs
theorem Zll {r:R2} (hr:IxR X r) (ha:PE X a ta) (hb:PE X b tb) (hs:ZgP b):PE X (.Subscript a b pos) (tOp r ta tb):=by
  intro pins s σ H Q I h
  exact Subscript_ (ZkN ha hb I h fun v u s2 x y H2 I2 rx ry q=>hr a b pins s2 σ H2 x y v u Q I2 rx ry q (hs _ _))
def Zlf (K:PySem.W.Frag):R2:=fun x y H Q=>∃p xs i v,x=.ref p∧y=.int i∧SqL K H p xs∧atI xs i=some v∧Q v H
def Zld (K:PySem.W.Frag):R2:=fun x y H Q=>∃p xs i v,x=.ref p∧y=.int i∧SqT K H p xs∧atI xs i=some v∧Q v H
def Zle:R2:=fun x y H Q=>∃z i c,x=.str z∧y=.int i∧z.length≤sizeLine∧atI z.cps.toList i=some c∧Q (.str ⟨#[c]⟩) H
theorem ix_list:IxR X (Zlf X.K):=by
  intro value slice pins s σ H x y v u Q I rx ry h hs
  obtain ⟨p,xs,i,z,rfl,rfl,hq,he,q⟩:=h
  cases rx
  obtain ⟨t,rfl⟩:=ry
  obtain ⟨its,r,pl,hz⟩:=I.list hq
  obtain ⟨j,h1,h2,h3,h4,h5⟩:=Ze1 he
  obtain ⟨w,ew,rw'⟩:=r.get h2
  have hl:=r.length
  have hn:=ZbV
  have fin:EP X pins σ Q w s:=⟨z,H,I,rw',q⟩
  by_cases h0:0≤i
  · have hj:i.toNat=j:=by
      rw [seqIndex_of h0 h5] at h1
      exact Option.some.inj h1
    exact item_listR pl.isList h0 (by omega) (by rw [hj]; simpa using ew) fin hs
  · have hj:(i+(its.toArray.size:Int)).toNat=j:=by
      rw [seqIndex_neg (by omega) h4] at h1
      rw [List.size_toArray,←hl]
      exact Option.some.inj h1
    exact subscriptTail_builtinR (x:=w) pl.isList.typeIs slot_list_getitem.lookup
      (wpAny_getItem_list_neg (Q:=fun r s'=>r=w∧EP X pins σ Q r s') pl.isList (by omega) (by rw [List.size_toArray]<;>omega) (by omega) (by rw [hj]; simpa using ew) ⟨rfl,fin⟩) hs
theorem ix_tup:IxR X (Zld X.K):=by
  intro value slice pins s σ H x y v u Q I rx ry h hs
  obtain ⟨p,xs,i,z,rfl,rfl,hq,he,q⟩:=h
  cases rx
  obtain ⟨t,rfl⟩:=ry
  obtain ⟨its,r,pl,hz⟩:=I.tuple hq
  obtain ⟨j,h1,h2,h3,h4,h5⟩:=Ze1 he
  obtain ⟨w,ew,rw'⟩:=r.get h2
  have hl:=r.length
  have hn:=ZbV
  have fin:EP X pins σ Q w s:=⟨z,H,I,rw',q⟩
  exact subscriptTail_builtinR (x:=w) pl.typeIs slot_tuple_getitem.lookup
    (getItem_tuple (j:=j) (Q:=fun r s'=>r=w∧EP X pins σ Q r s') pl (by omega) (by omega) (by rw [List.size_toArray,←hl]; exact h1) (by simpa using ew) ⟨rfl,fin⟩) hs
theorem ZkF:IxR X Zle:=by
  intro value slice pins s σ H x y v u Q I rx ry h hs
  obtain ⟨z,i,c,rfl,rfl,hz,he,q⟩:=h
  obtain ⟨t,rfl⟩:=rx
  obtain ⟨t',rfl⟩:=ry
  obtain ⟨j,h1,h2,h3,h4,h5⟩:=Ze1 he
  have hl:z.cps.toList.length=z.length:=by simp [Str.length]
  rw [hl] at h1 h4 h5
  have hn:=ZbV
  exact tail_any (typeIs_str s z t) slot_str_getitem.lookup (getItem_str (c:=c) (by
    have e1:decide (i < -(2 ^ 63:Int))=false:=decide_eq_false (by omega)
    have e2:decide (i≥2 ^ 63)=false:=decide_eq_false (by omega)
    rw [e1,e2,Bool.or_false]) (by rw [h1]; simpa using h2) ⟨.str ⟨#[c]⟩,H,I.tok _,⟨_,rfl⟩,q⟩) hs
def rIx (K:PySem.W.Frag):R2:=fun x y H Q=>Zlf K x y H Q∨Zld K x y H Q∨Zle x y H Q
theorem ZkG:IxR X (rIx X.K):=ix_list.or (ix_tup.or ZkF)
theorem Zf5 (its:List Value) (n j:Nat) (u:Value):Obj.mapSeq (·.setIfInBounds j u) { cls:=.type "list",data:=.seq its.toArray n }={ cls:=.type "list",data:=.seq (its.set j u).toArray n }:=by
  simp [Obj.mapSeq]
theorem Inv.lst {pins:List (Addr×Obj)} {σ:St} {H:Hp} {s:Shared} {p:Addr} {xs:List V} (I:Inv X pins σ H s) (h:H p=some (.lst xs)) :
    ∃(its:List Value) (n:Nat),Vals xs its∧s.heap.get? p=some { cls:=.type "list",data:=.seq its.toArray n }∧xs.length≤sizeLine:=by
  obtain ⟨z,its,n,r,e⟩:=I.hok p _ h
  exact ⟨its,n,r,e,z⟩
theorem Inv.lstUpd {pins:List (Addr×Obj)} {σ:St} {H:Hp} {s:Shared} {p:Addr} {xs ys:List V} {its its':List Value} {n n':Nat} {f:Obj→Obj} (I:Inv X pins σ H s) (h:H p=some (.lst xs))
    (ho:s.heap.get? p=some { cls:=.type "list",data:=.seq its.toArray n }) (hf:f { cls:=.type "list",data:=.seq its.toArray n }={ cls:=.type "list",data:=.seq its'.toArray n' }) (r:Vals ys its') (hz:ys.length≤sizeLine) (t:Nat) :
    Inv X pins σ (upd H p (.lst ys)) { s with heap:=s.heap.update p f,toks:=t }:=by
  have e:(s.heap.update p f).get? p=some { cls:=.type "list",data:=.seq its'.toArray n' }:=by
    rw [Heap.get?_update_self f ho (by rw [hf]<;>rfl),hf]
  refine I.write (x:=p) (e:=p) (by rw [h]; trivial) (.inl rfl) (fun b u hb q=>(Heap.get?_update_other _ _ (Ne.symm hb)).trans q) ⟨_,e⟩ ?_
  exact ⟨hz,its',n',r,e⟩
def ZjN:V→V→V→Hp→(Hp→Prop)→Prop:=fun o i v H Q=>∃p xs k j,o=.ref p∧i=.int k∧H p=some (.lst xs)∧ixN xs.length k=some j∧Q (upd H p (.lst (xs.set j v)))
theorem z8:ZlV X ZjN:=by
  intro pins s σ H o i v ov iv u Q I ro ri rv h
  obtain ⟨p,xs,k,j,rfl,rfl,hp,hj,q⟩:=h
  cases ro
  obtain ⟨t,rfl⟩:=ri
  obtain ⟨its,n,r,ho,hz⟩:=I.lst hp
  obtain ⟨h1,h2,h3,h4⟩:=ZgC hj
  have hl:=r.length
  have hn:=ZbV
  have I':Inv X pins σ (upd H p (.lst (xs.set j v))) { s with heap:=s.heap.update p (Obj.mapSeq (·.setIfInBounds j u)) }:=
    I.lstUpd hp ho (Zf5 its n j u) (r.set rv j) (by rw [List.length_set]; exact hz) s.toks
  by_cases h0:0≤k
  · have hk:k.toNat=j:=by
      rw [seqIndex_of h0 h4] at h1
      exact Option.some.inj h1
    exact PySem.W.ki_setAt ho h0 (by omega) (by rw [List.size_toArray,←hl]; exact h4) (by rw [hk]; exact ⟨_,I',q⟩)
  · have hk:(k+(its.toArray.size:Int)).toNat=j:=by
      rw [seqIndex_neg (by omega) h3] at h1
      rw [List.size_toArray,←hl]
      exact Option.some.inj h1
    exact PySem.W.ki_setBack ho (by omega) (by rw [List.size_toArray,←hl]; exact h3) (by omega) (by rw [hk]; exact ⟨_,I',q⟩)
theorem Zes (lo hi:Option Int) (n:Nat):(sliceBounds lo hi none n).1=((HT.sIx n 0 lo:Nat):Int)∧(sliceBounds lo hi none n).2.1=((HT.sIx n n hi:Nat):Int)∧(sliceBounds lo hi none n).2.2=1:=by
  refine ⟨?_,?_,rfl⟩
  · cases lo with
    | none=>simp [sliceBounds,HT.sIx]
    | some i=>
      simp only [sliceBounds,HT.sIx,Option.getD_none,show (1:Int) > 0 by decide,if_true]
      by_cases h:i<0
      · simp only [h,if_true]<;>omega
      · simp only [h,if_false]<;>omega
  · cases hi with
    | none=>simp [sliceBounds,HT.sIx]
    | some i=>
      simp only [sliceBounds,HT.sIx,Option.getD_none,show (1:Int) > 0 by decide,if_true]
      by_cases h:i<0
      · simp only [h,if_true]<;>omega
      · simp only [h,if_false]<;>omega
theorem ZdW (its:List Value) (lo hi:Option Int):slicePick its.toArray lo hi none=((its.drop (HT.sIx its.length 0 lo)).take (HT.sIx its.length its.length hi-HT.sIx its.length 0 lo)).toArray:=by
  obtain ⟨h1,h2,h3⟩:=Zes lo hi its.toArray.size
  unfold slicePick
  rw [h1,h2,h3]
  simp only [sliceRange_one,pick_run,List.size_toArray]<;>rfl
def Zlb (K:PySem.W.Frag):V→Option Int→Option Int→Hp→VK→Prop:=fun x lo hi H Q=>∃a xs,x=.ref a∧SqL K H a xs∧∀p,H p=none→Q (.ref p) (upd H p (.lst (ZfF xs lo hi)))
theorem sl_list:SlR X (Zlb X.K):=by
  intro pins s σ H x v vl vu lo hi sl Q I rx hs pl pu h
  obtain ⟨a,xs,rfl,hx,q⟩:=h
  cases rx
  obtain ⟨its,r,ht,hz⟩:=I.list hx
  have hlen:=r.length
  refine ⟨"list",_,slot_list_getitem.lookup,ht.isList.typeIs,?_⟩
  refine wpAny_getItem_list_slice ht.isList hs pl pu .none (by simp) ?_ (by rw [List.size_toArray]<;>omega)
  rw [ZdW,←hlen]
  refine ⟨.ref s.heap.objs.size,_,I.laid (t':=s.toks) (o:=.lst (ZfF xs lo hi)) (fun b ob q=>Heap.get?_push_of_some _ q) (Nat.le_refl _) ?_,rfl,q _ (I.hok.fresh (Nat.le_refl _))⟩
  exact ⟨Nat.le_trans (ZcV xs lo hi) hz,_,0,(r.drop (HT.sIx xs.length 0 lo)).take (HT.sIx xs.length xs.length hi-HT.sIx xs.length 0 lo),Heap.get?_push_size _ rfl⟩
def Zai:V→Bool
  | .non=>true
  | .bl _=>true
  | .int _=>true
  | .str _=>true
  | _=>false
def eqV:V→V→Bool
  | .non,.non=>true
  | .bl a,.bl b=>a == b
  | .bl a,.int b=>(if a then 1 else 0) == b
  | .int a,.bl b=>a == (if b then 1 else 0)
  | .int a,.int b=>a == b
  | .str a,.str b=>a == b
  | _,_=>false
theorem ZkM {A:Around} {s:Shared} {y x:V} {u v:Value} (ry:RelV y u) (rx:RelV x v) (fy:Zai y=true) (fx:Zai x=true):SeqAt.EqAt A s u v (eqV y x):=by
  cases y with
  | non=>
    cases ry
    cases x with
    | non=>cases rx; exact SeqAt.EqAt.same _
    | bl b=>cases rx; exact SeqAt.EqAt.none_bool b
    | int b=>obtain ⟨t,rfl⟩:=rx; exact SeqAt.EqAt.none_int b t
    | str b=>obtain ⟨t,rfl⟩:=rx; exact SeqAt.EqAt.none_str b t
    | _=>exact absurd (show false=true from fx) Bool.false_ne_true
  | bl a=>
    cases ry
    cases x with
    | non=>cases rx; exact SeqAt.EqAt.bool_none a
    | bl b=>cases rx; exact SeqAt.EqAt.bool_bool a b
    | int b=>obtain ⟨t,rfl⟩:=rx; exact SeqAt.EqAt.bool_int a b t
    | str b=>obtain ⟨t,rfl⟩:=rx; exact SeqAt.EqAt.bool_str a b t
    | _=>exact absurd (show false=true from fx) Bool.false_ne_true
  | int a=>
    obtain ⟨t',rfl⟩:=ry
    cases x with
    | non=>cases rx; exact SeqAt.EqAt.int_none a t'
    | bl b=>cases rx; exact SeqAt.EqAt.int_bool a t' b
    | int b=>obtain ⟨t,rfl⟩:=rx; exact SeqAt.EqAt.int_int a t' b t
    | str b=>obtain ⟨t,rfl⟩:=rx; exact SeqAt.EqAt.int_str a t' b t
    | _=>exact absurd (show false=true from fx) Bool.false_ne_true
  | str a=>
    obtain ⟨t',rfl⟩:=ry
    cases x with
    | non=>cases rx; exact SeqAt.EqAt.str_none a t'
    | bl b=>cases rx; exact SeqAt.EqAt.str_bool a t' b
    | int b=>obtain ⟨t,rfl⟩:=rx; exact SeqAt.EqAt.str_int a t' b t
    | str b=>obtain ⟨t,rfl⟩:=rx; exact SeqAt.EqAt.str_str a t' b t
    | _=>exact absurd (show false=true from fx) Bool.false_ne_true
  | _=>exact absurd (show false=true from fy) Bool.false_ne_true
def eqU (x:V) (u:Value):Bool:=match u with
  | .none=>eqV .non x
  | .bool b=>eqV (.bl b) x
  | .int i _=>eqV (.int i) x
  | .str z _=>eqV (.str z) x
  | _=>false
theorem ZiF {x y:V} {u:Value} (r:RelV y u) (f:Zai y=true):eqU x u=eqV y x:=by
  cases y with
  | non=>cases r; rfl
  | bl b=>cases r; rfl
  | int i=>obtain ⟨t,rfl⟩:=r; rfl
  | str z=>obtain ⟨t,rfl⟩:=r; rfl
  | _=>exact absurd (show false=true from f) Bool.false_ne_true
theorem Ze2 {x:V}:∀{xs:List V} {us:List Value},Vals xs us→xs.all Zai=true→us.any (eqU x)=xs.any fun y=>eqV y x
  | _,_,.nil,_=>rfl
  | y::xs,u::us,.cons r t,f=>by
    rw [List.all_cons,Bool.and_eq_true] at f
    rw [List.any_cons,List.any_cons,ZiF r f.1,Ze2 t f.2]
theorem Zdw {A:Around} {s:Shared} {x:V} {v:Value} (rx:RelV x v) (fx:Zai x=true):∀{xs:List V} {us:List Value},Vals xs us→xs.all Zai=true→∀u∈us,SeqAt.EqAt A s u v (eqU x u)
  | _,_,.nil,_=>fun u hu=>by cases hu
  | y::xs,u::us,.cons r t,f=>fun u' hu=>by
    rw [List.all_cons,Bool.and_eq_true] at f
    rcases List.mem_cons.mp hu with rfl | hu
    · rw [ZiF r f.1]; exact ZkM r rx f.1 fx
    · exact Zdw rx fx t f.2 u' hu
def inV (x:V) (xs:List V):Bool:=xs.any fun y=>eqV y x
def rIn (K:PySem.W.Frag) (neg:Bool):R2:=fun x y H Q=>∃p xs,y=.ref p∧(SqL K H p xs∨SqT K H p xs)∧Zai x=true∧xs.all Zai=true∧Q (.bl (if neg then !inV x xs else inV x xs)) H
theorem ZeC:OpR X (compareOp .NotIn) (rIn X.K true):=by
  intro pins s σ H x y v u Q I rx ry h
  obtain ⟨p,xs,rfl,hq,fx,fs,q⟩:=h
  cases ry
  rcases hq with hq | hq
  · obtain ⟨its,r,pl,hz⟩:=I.list hq
    refine SeqAt.notIn_listAt (eqU x) pl.isList (fun w hw=>Zdw rx fx r fs w (by simpa using hw)) ⟨.bl _,H,I,rfl,?_⟩
    rw [show its.toArray.any (eqU x)=its.any (eqU x) by simp,Ze2 r fs]
    exact q
  · obtain ⟨its,r,pl,hz⟩:=I.tuple hq
    refine SeqAt.notIn_tupleAt (eqU x) pl (fun w hw=>Zdw rx fx r fs w (by simpa using hw)) ⟨.bl _,H,I,rfl,?_⟩
    rw [show its.toArray.any (eqU x)=its.any (eqU x) by simp,Ze2 r fs]
    exact q
theorem ZeX:CallR X (.builtin "len") (fun xs H Q=>∃p ys,xs=[.ref p]∧(SqL X.K H p ys∨SqT X.K H p ys)∧Q (.int ys.length) H):=by
  intro pins s σ H xs us Q I r h
  obtain ⟨p,ys,rfl,hq,q⟩:=h
  obtain ⟨u,rfl,rx⟩:=Zd6 r
  cases rx
  have hn:=ZbV
  rcases hq with hq | hq
  · obtain ⟨its,r',pl,hz⟩:=I.list hq
    have hlen:=r'.length
    exact Calls.call_len_list pl.isList (by simp only [List.size_toArray]<;>omega) ⟨.int ys.length,H,I.tok _,⟨s.toks+1,by rw [List.size_toArray,hlen]⟩,q⟩
  · obtain ⟨its,r',pl,hz⟩:=I.tuple hq
    have hlen:=r'.length
    exact len_tuple pl (by simp only [List.size_toArray]<;>omega) ⟨.int ys.length,H,I.tok _,⟨s.toks+1,by rw [List.size_toArray,hlen]⟩,q⟩
theorem call_len_str:CallR X (.builtin "len") (fun xs H Q=>∃z,xs=[.str z]∧z.length≤sizeLine∧Q (.int z.length) H):=by
  intro pins s σ H xs us Q I r h
  obtain ⟨z,rfl,hz,q⟩:=h
  obtain ⟨u,rfl,t,rfl⟩:=Zd6 r
  have hn:=ZbV
  exact len_str (by omega) ⟨.int z.length,H,I.tok _,⟨_,rfl⟩,q⟩
theorem CallR.or {f:Value} {r r':List V→Hp→VK→Prop} (h:CallR X f r) (h':CallR X f r'):CallR X f (fun xs H Q=>r xs H Q∨r' xs H Q):=by
  intro pins s σ H xs us Q I rs q
  rcases q with q | q
  · exact h pins s σ H xs us Q I rs q
  · exact h' pins s σ H xs us Q I rs q
theorem ZdY:CallR X (.type "tuple") (fun xs H Q=>∃p ys,xs=[.ref p]∧((SqL X.K H p ys∧∀l,H l=none→Q (.ref l) (upd H l (.tup ys)))∨(SqT X.K H p ys∧Q (.ref p) H))):=by
  intro pins s σ H xs us Q I r h
  obtain ⟨p,ys,rfl,h⟩:=h
  obtain ⟨u,rfl,rx⟩:=Zd6 r
  cases rx
  rcases h with ⟨hq,q⟩ | ⟨hq,q⟩
  · obtain ⟨its,r',pl,hz⟩:=I.list hq
    have hlen:=r'.length
    refine call_tuple_list pl.isList (fun h' kp=>?_) (by simp only [List.size_toArray]<;>omega)
    have I1:Inv X pins σ H { s with heap:=h' }:=I.kept (t':=s.toks) kp
    have I2:Inv X pins σ (upd H h'.objs.size (.tup ys)) { s with heap:=h'.push { cls:=.type "tuple",data:=.seq its.toArray } }:=
      I1.laid (t':=s.toks) (fun b o e=>Heap.get?_push_of_some _ e) (Nat.le_refl _) (show ObjOk X.prog X.w _ _ _ (.tup ys) from ⟨hz,its,r',IsTup.new _ _⟩)
    exact ⟨.ref h'.objs.size,_,I2,rfl,q _ (I1.hok.fresh (Nat.le_refl _))⟩
  · obtain ⟨its,r',pl,hz⟩:=I.tuple hq
    exact call_tuple_same pl ⟨.ref p,H,I,rfl,q⟩
def tyV (K:PySem.W.Frag) (T:String) (x:V) (H:Hp):Prop:=match x with
  | .str _=>T = "str"
  | .int _=>T = "int"
  | .ref p=>(T = "list"∧∃xs,SqL K H p xs)∨(T = "tuple"∧∃o,K.lookup p=some o∧o.cls=.type "tuple"∧o.dict=none)∨
      (T = "dict"∧((∃kvs,H p=some (.dK kvs))∨∃kvs,H p=some (.dT kvs)))∨(T = "set"∧∃S n,H p=some (.set S n))
  | _=>False
theorem Zj1 {pins:List (Addr×Obj)} {σ:St} {H:Hp} {s:Shared} {T:String} {x:V} {v:Value} (I:Inv X pins σ H s) (r:RelV x v) (ty:tyV X.K T x H) :
    s.TypeIs v T∧∀a,v=.ref a→∃ob,s.heap.get? a=some ob∧ob.dict=none:=by
  cases x with
  | str z=>
    obtain ⟨t,rfl⟩:=r
    cases (show T = "str" from ty)
    exact ⟨typeIs_str s z t,fun _ e=>nomatch e⟩
  | int i=>
    obtain ⟨t,rfl⟩:=r
    cases (show T = "int" from ty)
    exact ⟨typeIs_int s i t,fun _ e=>nomatch e⟩
  | ref p=>
    cases r
    rcases ty with ⟨rfl,xs,hq⟩ | ⟨rfl,o,hk,hc,hd⟩ | ⟨rfl,hk⟩ | ⟨rfl,S,n,hk⟩
    · obtain ⟨its,_,pl,_⟩:=I.list hq
      refine ⟨pl.isList.typeIs,fun a e=>?_⟩
      cases e
      obtain ⟨o,n,e,c,hd,_⟩:=pl
      exact ⟨o,e,hd⟩
    · refine ⟨⟨o,I.kIn p o hk,hc⟩,fun a e=>?_⟩
      cases e
      exact ⟨o,I.kIn _ o hk,hd⟩
    · have z:∃o,s.heap.get? p=some o∧o.ExactDict:=by
        rcases hk with ⟨kvs,hk⟩ | ⟨kvs,hk⟩
        · obtain ⟨_,_,_,_,o,_,_,e,ex,_⟩:=I.hok p _ hk
          exact ⟨o,e,ex⟩
        · obtain ⟨_,_,_,_,o,_,_,e,ex,_⟩:=I.hok p _ hk
          exact ⟨o,e,ex⟩
      obtain ⟨o,e,ex⟩:=z
      refine ⟨⟨o,e,ex.1⟩,fun a e2=>?_⟩
      cases e2
      exact ⟨o,e,ex.2.1⟩
    · obtain ⟨o,_,_,_,e,ex,_⟩:=I.hok p _ hk
      refine ⟨⟨o,e,ex.1⟩,fun a e2=>?_⟩
      cases e2
      exact ⟨o,e,ex.2.1⟩
  | _=>exact False.elim ty
def tBM (K:PySem.W.Frag) (T:String) (r:V→List V→Hp→VK→Prop) (to:TE) (t:TA):TE:=fun σ H Q=>to σ H fun x H1=>tyV K T x H1∧t σ H1 fun xs H2=>r x xs H2 Q
variable {o e:Expr} {es:List Expr} {to:TE} {t:TA} {name:Str} {apos cpos:Pos} {T id:String} {r:V→List V→Hp→VK→Prop}
theorem ZbC (pa:PlainAttrs T) (slot:Slot T name id) (hty:typeOf (.builtin id)=pure (.type "method_descriptor")) (hm:MtR X id r) (ho:PE X o to) (ha:PA X (e::es) t)
    (hbase:attributeBase o name X.env (eval o X.env)=eval o X.env:=by rfl)
    (hfew:((backTo cpos (starEach (e::es) X.env)).all (fun x=>!x.1) && (backToKw cpos (keywordEach [] X.env)).all (fun x=>x.1.isSome)
      && decide ((e::es).length+([]:List Keyword).length+(if ([]:List Keyword).isEmpty then 0 else 1)<30))=true:=by rfl)
    (hline:(apos.endLine == cpos.line)=true:=by rfl) (hs:starEach (e::es) X.env=(false,eval e X.env)::starEach es X.env:=by rfl) (hplain:(backTo cpos (starEach es X.env)).any (·.1)=false:=by rfl) :
    PE X (.Call (.Attribute o name apos) (e::es) [] cpos) (tBM X.K T r to t):=by
  intro pins s σ H Q I h
  refine wpAny_Call_method_late hbase hfew hline rfl (thn (ho pins s σ H _ I h) fun v s1 ⟨x,H1,I1,r1,ty,q1⟩=>?_)
  obtain ⟨h1,h2⟩:=Zj1 I1 r1 ty
  refine ⟨T,id,pa,slot,hty,h1,h2,?_⟩
  have hA:=ha cpos pins s1 σ H1 _ I1 q1
  rw [hs] at hA ⊢
  refine Calls.callWith_builtin (by show (false || (backTo cpos (starEach es X.env)).any (·.1))=false; rw [hplain]<;>rfl) (Calls.evalArgs_plain ?_)
  exact thn hA fun us s2 ⟨vs,H2,I2,r2,q2⟩=>hm pins s2 σ H2 x vs v us Q I2 r1 r2 q2
end
end L2
namespace L2
open PySem PySem.Spec PyProof.Rows
def MtM (X:Cx) (id:String) (r:V→List V→Hp→VK→Prop):Prop:=
  ∀(pins:List (Addr×Obj)) (s:Shared) (σ:St) (H:Hp) (x:V) (xs:List V) (v:Value) (us:List Value) (Q:VK),Inv X pins σ H s→RelV x v→Vals xs us→r x xs H Q→
    wpAny (model X.prog X.w) X.A (call (.builtin id) (v::us)) (EP X pins σ Q) X.xe s
theorem Vals.one:∀{x:V} {us:List Value},Vals [x] us→∃u,us=[u]∧RelV x u
  | _,_,.cons r .nil=>⟨_,rfl,r⟩
theorem Vals.rep {xs:List V} {us:List Value} (h:Vals xs us):∀k:Nat,Vals (List.replicate k xs).flatten (List.replicate k us).flatten
  | 0=>.nil
  | k+1=>by
    rw [List.replicate_succ,List.replicate_succ,List.flatten_cons,List.flatten_cons]
    exact Vals.append h (Vals.rep h k)
theorem Zbt (its:List Value):∀(k:Nat) (acc:List Value),
    List.foldl (fun x1 x2=>x1++x2) acc.toArray (List.replicate k its.toArray)=(acc++(List.replicate k its).flatten).toArray
  | 0,acc=>by simp
  | k+1,acc=>by
    have e:acc.toArray++its.toArray=(acc++its).toArray:=by simp
    have e2:(acc++its)++(List.replicate k its).flatten=acc++(List.replicate (k+1) its).flatten:=by
      rw [List.replicate_succ,List.flatten_cons,List.append_assoc]
    rw [←e2,←Zbt its k (acc++its),←e,List.replicate_succ,List.foldl_cons]
section
variable {X:Cx} {pins:List (Addr×Obj)} {σ:St} {H:Hp} {s:Shared} {l b:Addr} {xs ys zs:List V}
theorem Inv.lset {its its':List Value} {n:Nat} {f:Array Value→Array Value} {t':Nat} (I:Inv X pins σ H s) (hH:H l=some (.lst xs))
    (e:s.heap.get? l=some { cls:=.type "list",data:=.seq its.toArray n }) (hf:f its.toArray=its'.toArray) (hv:Vals ys its') (hz:ys.length≤sizeLine) :
    Inv X pins σ (upd H l (.lst ys)) { s with heap:=s.heap.update l (Obj.mapSeq f),toks:=t' }:=by
  have q:=PySem.IsL.update e f
  rw [hf] at q
  refine I.write (x:=l) (e:=l) (by rw [hH]; exact trivial) (.inl rfl) (fun b' u hb hu=>(Heap.get?_update_other s.heap (Obj.mapSeq f) (Ne.symm hb)).trans hu) ⟨_,q⟩ ?_
  exact ⟨hz,its',_,hv,q⟩
theorem Inv.lnew {its:List Value} {t':Nat} (I:Inv X pins σ H s) (hv:Vals ys its) (hz:ys.length≤sizeLine) :
    Inv X pins σ (upd H s.heap.objs.size (.lst ys)) { s with heap:=s.heap.push { cls:=.type "list",data:=.seq its.toArray },toks:=t' }:=
  I.laid (fun _ _ q=>Heap.get?_push_of_some _ q) (Nat.le_refl _) ⟨hz,its,0,hv,Heap.get?_push_size _ rfl⟩
theorem Inv.fresh (I:Inv X pins σ H s):H s.heap.objs.size=none:=I.hok.fresh (Nat.le_refl _)
theorem Inv.lstM (I:Inv X pins σ H s) (hH:H l=some (.lst xs)):xs.length≤sizeLine∧∃(its:List Value) (n:Nat),Vals xs its∧xs.length=its.length∧s.heap.get? l=some { cls:=.type "list",data:=.seq its.toArray n }:=by
  obtain ⟨z,its,n,r,e⟩:=I.hok l _ hH
  exact ⟨z,its,n,r,r.length,e⟩
theorem Zb6 {n:Nat} (h:n≤sizeLine):Builtin.List.listTooLong n=false:=by
  unfold Builtin.List.listTooLong
  exact decide_eq_false (by omega)
end
section
variable {X:Cx}
def Zex:V→List V→Hp→VK→Prop:=fun x vs H Q=>∃l xs y,x=.ref l∧vs=[y]∧H l=some (.lst xs)∧xs.length<sizeLine∧Q .non (upd H l (.lst (xs++[y])))
theorem Zee:MtM X "list.append" Zex:=by
  intro pins s σ H x vs v us Q I rx rv h
  obtain ⟨l,xs,y,rfl,rfl,hH,hz,q⟩:=h
  cases rx
  obtain ⟨u,rfl,ru⟩:=rv.one
  obtain ⟨z,its,n,r,hl,e⟩:=I.lstM hH
  refine call_meets F.slot_list_append ⟨_,e,rfl⟩ F.entry_list_append (F.args_list_append_2 _ _) (PySem.list_append l its.toArray n u (by rw [List.size_toArray]; omega)) ⟨e,?_⟩
  refine ⟨.non,_,I.lset (its':=its++[u]) hH e (by simp) (r.append (.cons ru .nil)) ?_,rfl,q⟩
  rw [List.length_append,List.length_singleton]
  omega
def Zi4:V→List V→Hp→VK→Prop:=fun x vs H Q=>∃l b xs zs,x=.ref l∧vs=[.ref b]∧H l=some (.lst xs)∧H b=some (.lst zs)∧xs.length+zs.length≤sizeLine∧Q .non (upd H l (.lst (xs++zs)))
theorem ZkW:MtM X "list.extend" Zi4:=by
  intro pins s σ H x vs v us Q I rx rv h
  obtain ⟨l,b,xs,zs,rfl,rfl,hH,hB,hz,q⟩:=h
  cases rx
  obtain ⟨u,rfl,ru⟩:=rv.one
  cases ru
  obtain ⟨z,its,n,r,hl,e⟩:=I.lstM hH
  obtain ⟨z2,its2,n2,r2,hl2,e2⟩:=I.lstM hB
  have hsz:its.toArray.size+its2.toArray.size≤sizeLine:=by rw [List.size_toArray,List.size_toArray]; omega
  have hlong:¬(!its.toArray.isEmpty && Builtin.List.listTooLong (its.toArray.size+its2.toArray.size))=true:=by
    rw [Zb6 hsz,Bool.and_false]
    exact Bool.false_ne_true
  refine call_meets F.slot_list_extend ⟨_,e,rfl⟩ F.entry_list_extend (F.args_list_extend_2 _ _)
    (AutoSeq1.list_extend_list_list_0 l its.toArray n b its2.toArray n2 hlong (by rw [List.size_toArray]; omega) (by omega)) ⟨e,e2,?_⟩
  refine ⟨.non,_,I.lset (its':=its++its2) hH e (by simp) (r.append r2) ?_,rfl,q⟩
  rw [List.length_append]
  omega
def Zmw:R2:=fun x y H Q=>∃l b xs zs,x=.ref l∧y=.ref b∧H l=some (.lst xs)∧H b=some (.lst zs)∧xs.length+zs.length≤sizeLine∧∀p,H p=none→Q (.ref p) (upd H p (.lst (xs++zs)))
theorem Zh7:OpR X (binaryOp .Add) Zmw:=by
  intro pins s σ H x y v u Q I rx ry h
  obtain ⟨l,b,xs,zs,rfl,rfl,hH,hB,hz,q⟩:=h
  cases rx
  cases ry
  obtain ⟨z,its,n,r,hl,e⟩:=I.lstM hH
  obtain ⟨z2,its2,n2,r2,hl2,e2⟩:=I.lstM hB
  refine PySem.P.add_list e e2 ?_ (by rw [List.size_toArray,List.size_toArray]; omega)
  have ea:its.toArray++its2.toArray=(its++its2).toArray:=by simp
  rw [ea]
  exact ⟨.ref _,_,I.lnew (t':=s.toks) (r.append r2) (by rw [List.length_append]; omega),rfl,q _ I.fresh⟩
def Zmv:R2:=fun x y H Q=>∃l k xs,x=.ref l∧y=.int k∧H l=some (.lst xs)∧-(2 ^ 63)≤k∧k<2 ^ 63∧xs.length*k.toNat≤sizeLine∧
  ∀p,H p=none→Q (.ref p) (upd H p (.lst (List.replicate k.toNat xs).flatten))
theorem ZeP {α:Type} (xs:List α) (k:Nat):(List.replicate k xs).flatten.length=k*xs.length:=by
  induction k with
  | zero=>simp
  | succ k ih=>rw [List.replicate_succ,List.flatten_cons,List.length_append,ih,Nat.succ_mul,Nat.add_comm]
theorem Zkm:OpR X (binaryOp .Mult) Zmv:=by
  intro pins s σ H x y v u Q I rx ry h
  obtain ⟨l,k,xs,rfl,rfl,hH,h1,h2,hz,q⟩:=h
  cases rx
  obtain ⟨t,rfl⟩:=ry
  obtain ⟨z,its,n,r,hl,e⟩:=I.lstM hH
  have hlen:its.toArray.size*k.toNat≤sizeLine:=by rw [List.size_toArray,←hl]; exact hz
  have hcap:¬its.toArray.size*k.toNat > (2 ^ 63-1)/8:=by
    have:(sizeLine:Nat)≤(2 ^ 63-1)/8:=by decide
    omega
  have hfit:¬(!Builtin.List.listFitsIndex k)=true:=by
    rw [fitsIndex_both h1 h2]
    exact Bool.false_ne_true
  have hlong:¬Builtin.List.listTooLong (its.toArray.size*k.toNat)=true:=by
    rw [Zb6 hlen]
    exact Bool.false_ne_true
  have hnew:List.foldl (fun x1 x2=>x1++x2) #[] (List.replicate (if its.toArray.isEmpty=true then 0 else k.toNat) its.toArray)=(List.replicate k.toNat its).flatten.toArray:=by
    have f0:∀m:Nat,List.foldl (fun x1 x2=>x1++x2) #[] (List.replicate m its.toArray)=(List.replicate m its).flatten.toArray:=fun m=>by
      have:=Zbt its m []
      rw [List.nil_append] at this
      exact this
    rw [f0]
    cases its with
    | nil=>simp
    | cons a r'=>rw [if_neg (by simp)]
  refine wpAny_binaryOp_repeat_ref (T:="list") (U:="int") (by decide) ⟨_,e,rfl⟩ (fun s'=>typeIs_int s' k t) noFill_list_mul F.fills_int_mul F.slot_int_rmul repeat_list F.slot_int_index.lookup
    (call_meets F.slot_int_rmul (typeIs_int s k t) F.entry_int_rmul (F.args_int_rmul_2 _ _) (int___rmul___int_list k t l its.toArray n)
      ⟨e,rfl,⟨_,e,rfl⟩,call_meets F.slot_list_mul ⟨_,e,rfl⟩ F.entry_list_mul (F.args_list_mul_2 _ _) (AutoListH.list___mul___list_int_3 l its.toArray n k t hfit hcap hlong) ⟨e,?_⟩⟩)
  rw [hnew]
  exact ⟨.ref _,_,I.lnew (t':=s.toks) (r.rep k.toNat) (by rw [ZeP,Nat.mul_comm]; exact hz),rfl,q _ I.fresh⟩
end
section
variable {prog:Program} {w:World} {A:Around} {E:Value→Shared→Prop} {s:Shared}
theorem Zgc {a c n:Nat} (hac:a≤c) (hc:c≤n):sliceBounds (some (a:Int)) (some (c:Int)) none n=((a:Int),(c:Int),1):=by
  simp only [sliceBounds,Option.getD_none]
  have h1:¬((a:Int)<0):=by omega
  have h2:¬((c:Int)<0):=by omega
  simp only [h1,h2,if_false,show (1:Int) > 0 by decide,if_true]
  congr 1
  · omega
  · congr 1; omega
set_option maxRecDepth 100000 in
theorem ZiQ {l b sl:Addr} {items new:Array Value} {n n2:Nat} {vl vu:Value} {a c:Nat} {Q:Unit→Shared→Prop}
    (e:s.heap.get? l=some { cls:=.type "list",data:=.seq items n }) (e2:s.heap.get? b=some { cls:=.type "list",data:=.seq new n2 }) (hne:l≠b)
    (hs:s.heap.IsSliceOf sl vl vu .none) (pl:IsPart vl (some (a:Int))) (pu:IsPart vu (some (c:Int))) (hac:a≤c) (hc:c≤items.size)
    (hsz:items.size+new.size≤sizeLine) (h:Q () { s with heap:=s.heap.update l (Obj.mapSeq fun xs=>xs.extract 0 a++new++xs.extract c xs.size) }) :
    wpAny (model prog w) A (setItem (.ref l) (.ref sl) (.ref b)) Q E s:=by
  have hl:s.heap.IsList l items:=PySem.IsL.isList e
  have hb:s.heap.IsList b new:=PySem.IsL.isList e2
  obtain ⟨os,hos,hcs,hds⟩:=id hs
  have hTs:s.TypeIs (.ref sl) "slice":=⟨os,hos,hcs⟩
  have hstep:¬((rawPart none == rawInt 0)=true):=Bool.false_ne_true
  have hsame:Builtin.List.listSameRef (.ref l) (.ref b)=false:=by
    unfold Builtin.List.listSameRef
    exact beq_eq_false_iff_ne.mpr hne
  have hmax:(max (a:Int) (c:Int)).toNat=c:=by omega
  have hz':((fun xs:Array Value=>xs.extract 0 a++new++xs.extract c xs.size) items).size≤sizeLine+1:=by
    simp only [Array.size_append,Array.size_extract]
    omega
  unfold setItem
  try with_reducible refine wpAny_holding ?_
  first | refine wpAny_bind (wpAny_pure ?_) | skip
  refine wpAny_bind (wpAny_sequenceKey hl.typeIs (by decide) ?_)
  refine wpAny_bind (wpAny_callSpecial?_slot (name:=Str.ofString "__setitem__") hl.typeIs slot_list_setitem
    (wpAny_call_entry slot_list_setitem hl.typeIs entry_list_setitem ?_ (args_list_setitem _ _ _)))
  show wpAny _ _ (Builtin.List.listSubscript? (.ref sl) >>= _) _ _ s
  refine wpAny_bind ?_
  unfold Builtin.List.listSubscript?
  refine wpAny_bind (wpAny_specialOf hTs slice_no_index ?_)
  simp only [Option.isNone_none,if_true]
  refine wpAny_pure ?_
  show wpAny _ _ (typeOf (.ref sl) >>= _) _ _ s
  refine wpAny_bind (wpAny_typeOf hTs ?_)
  first
    | rw [if_neg (by decide)]
    | refine PySem.W.KFB.if_not (by decide) ?_
  rw [listSliceParts_eq]
  refine wpAny_bind (wpAny_bind (wpAny_field hos hds (x:=.none) rfl (wpAny_bind (wpAny_listPart .none ?_))))
  rw [if_neg hstep]
  refine wpAny_bind (wpAny_field hos hds (x:=vl) rfl (wpAny_bind (wpAny_listPart pl ?_)))
  refine wpAny_bind (wpAny_field hos hds (x:=vu) rfl (wpAny_bind (wpAny_listPart pu (wpAny_pure ?_))))
  first
    | simp only [hsame,Bool.false_eq_true,if_false]
    | refine PySem.W.KFB.if_not hsame ?_
    | (dsimp only
       rw [if_neg (by rw [hsame]; exact Bool.false_ne_true)])
  refine wpAny_bind (m:=Builtin.List.listAllItems (.ref b) "must assign iterable to extended slice") ?_
  unfold Builtin.List.listAllItems
  refine wpAny_bind (wpAny_typeOf hb.typeIs ?_)
  first
    | refine PySem.W.KFB.if_so (by decide) ?_
    | rw [if_pos (by decide)]
    | simp only [beq_self_eq_true,Bool.true_or,if_true]
  unfold Builtin.List.listItems
  refine wpAny_bind (wpAny_seqItems e2 rfl (wpAny_pure ?_))
  refine wpAny_bind (wpAny_bind (wpAny_seqItems e rfl (wpAny_pure ?_)))
  refine wpAny_bind (wpAny_of_eq ((sliceIndices_raw (some (a:Int)) (some (c:Int)) none items.size (by simp)).trans (congrArg (pure:Int×Int×Int→Sem (Int×Int×Int)) (Zgc hac hc))) ?_)
  show wpAny _ _ (if ((1:Int) == 1)=true then _ else _) _ _ s
  rw [if_pos (by decide)]
  refine wpAny_bind (wpAny_rule ?_)
  first
    | simp only [Zb6 hsz,Bool.false_eq_true,if_false]
    | refine PySem.W.KFB.if_not (Zb6 hsz) ?_
  first | refine wpAny_bind (wpAny_pure ?_) | skip
  show wpAny _ _ (updateSeq l (fun xs=>xs.extract 0 ((a:Int)).toNat++new++xs.extract (max (a:Int) (c:Int)).toNat xs.size) >>= _) _ _ s
  rw [hmax,Int.toNat_natCast]
  refine wpAny_bind (wpAny_updateSeq (hz:=Nat.le_trans (Nat.le_add_right _ _) hsz) (_hz':=hz') e rfl ?_)
  refine wpAny_bind (wpAny_letGo ?_)
  first
    | exact wpAny_bind (wpAny_pure (wpAny_pure ⟨.none,rfl,wpAny_pure h⟩))
    | exact wpAny_pure ⟨.none,rfl,wpAny_pure h⟩
end
section
variable {X:Cx}
end
end L2
namespace Att
open PySem PySem.W PySem.Calls PyProof.Rows
theorem Zc1 {P:Params} {h:Heap}:∀(ns:List Int) (vs:List Value),WellAll P h vs (ns.map WData.int)→IntsAre vs ns:=by
  intro ns
  induction ns with
  | nil=>
    intro vs w
    rw [List.map_nil] at w
    cases w
    exact .nil
  | cons n ns ih=>
    intro vs w
    rw [List.map_cons] at w
    cases w with
    | cons a b=>
      cases a
      exact .cons _ _ (ih _ b)
theorem ZgX {l:OpenLaw} {n:Nat} (hn:l.most=some n) {P:Params} {h:Heap} {args:List WData} {vals:List Value}
    (hpre:l.row.toRowW.claim.pre args=true) (hwl:WellAll P h vals args) :
    ∃a vs ns,vals=[Value.ref a]∧args=[WData.list (ns.map WData.int)]∧h.get? a=some { cls:=.type "list",data:=.seq vs.toArray }∧IntsAre vs ns∧ns.length≤n:=by
  have hsh:WShape.hasAll [] args [.list .int]=true:=(pre_splitW hpre).1
  have hc:l.pre.holds [] { args:=args }=true:=(pre_splitW hpre).2
  obtain ⟨d,r,rfl,h1,h2⟩:=hasAllW_cons hsh
  obtain rfl:=hasAllW_nil h2
  obtain ⟨xs,rfl,h3⟩:=hasW_list h1
  obtain ⟨ns,rfl⟩:=items_int h3
  have hlen:ns.length≤n:=by
    unfold OpenLaw.pre at hc
    have h4:(WTm.not (.lt (.lit (.int (n:Int))) (.len (.arg 0)))).holds [] { args:=[.list (ns.map .int)] }=true:=by
      have h4:=(holds_andW hc).1
      rw [hn] at h4
      exact h4
    have h5:=condW_of h4 (w_not (w_lt w_lit (w_len_list (w_arg rfl))))
    rw [List.length_map] at h5
    refine Nat.le_of_not_lt fun q=>?_
    have q':(n:Int)<((ns.length:Nat):Int):=by omega
    first
      | (rw [decide_eq_true q'] at h5; exact absurd h5 (by decide))
      | (simp at h5; omega)
  cases hwl with
  | cons w1 w2=>
    cases w2
    cases w1 with
    | list ho hall=>exact ⟨_,_,ns,rfl,rfl,ho,Zc1 ns _ hall,hlen⟩
theorem Zg0 (l:OpenLaw) (args:List WData):l.row.toRowW.claim.post args (.bool true) args=true:=
  postW_of (r:=l.row.toRowW) (X:=(true == true))
    (show WShape.has [] (.bool true) .bool=true by first | rfl | decide | simp [WShape.has,WShape.arms,WShape.armsAll])
    (show (WTm.eq .res (.lit (.bool true))).value [] { args:=args,res:=some (.bool true),after:=args }=some (.bool (true == true)) from w_eq_bool (w_res rfl) w_lit) rfl
theorem attach_call {l:OpenLaw} {n:Nat} {q:Program} {loose:List Str} {XP:(Str→Option Value)→Heap→Prop} {YP:World→Heap→Prop} {d:DefRec}
    (hn:l.most=some n) (hdf:d.params.defaults=[])
    (call:∀(w:World) (s₀ s₁:Shared) (mg mb:Str→Option Value) (fa:Addr) (o:Obj) (pm cd doc:Value) (a:Addr) (vs:List Value) (ns:List Int),
      Ground q loose [] XP w s₀ mg mb s₁.heap→YP w s₁.heap→
      s₁.heap.get? fa=some o→o.data=.func (docDef d.name d.params d.body d.scope pm cd doc)→s₁.heap.CodeRec cd d.name→mg d.name=some (.ref fa)→
      s₁.heap.get? a=some { cls:=.type "list",data:=.seq vs.toArray }→IntsAre vs ns→ns.length≤n→s₁.gens=#[]→
      codeAny (model l.prog w) callerA (.call (.ref fa) ⟨[.ref a],[]⟩) (fun r s'=>r=.ok (.ret (.bool true))∧OldK s₁.heap s'.heap∧s'.os=s₁.os∧AllBare s'.gens) s₁) :
    WalkO q loose XP YP l.row.toRowW d [] (fun f vs=>PySem.call f vs):=by
  intro w s₀ s₁ mg mb G Y fa o pm cd doc dV kV ho hd hcd hD hmg hg args vals as hpre hlay hrd hwl hlo
  obtain rfl:dV=.none:=Dflts.none hD hdf
  obtain rfl:kV=.none:=Dflts.noKw hD
  obtain ⟨a,vs,ns,rfl,rfl,hobj,hints,hlen⟩:=ZgX hn hpre hwl
  refine enter_call (codeAny_mono (call w s₀ s₁ mg mb fa o pm cd doc a vs ns G Y ho (fd_plain hd) hcd hmg hobj hints hlen hg) fun r s' hq=>?_)
  obtain ⟨rfl,h2,h3,h4⟩:=hq
  exact ⟨.inl ⟨.bool true,.bool true,[],rfl,fun _=>rfl,.bool true,Zg0 l _,fun _=>⟨List.Pairwise.nil,fun _ hm=>(nomatch hm)⟩⟩,h2,h3,h4⟩
section
variable {prog:Program} {w:World} {A:Around} {E:Value→Shared→Prop} {s:Shared} {K:Frag}
end
end Att
namespace L2
open PySem PySem.Spec PyProof.Rows
theorem Zd5:∀{vs:List Value} {ns:List Int},IntsAre vs ns→Vals (ns.map V.int) vs
  | _,_,.nil=>.nil
  | _,_,.cons n t h=>.cons ⟨t,rfl⟩ (Zd5 h)
def ZjD (H:Hp):Prop:=∀b,H b=none∨∃o xs,H b=some (.frz o (.lst xs))
theorem Ziq {P:Program} {w:World} {K:PySem.W.Frag} {mg mb:Str→Option Value} {CX:CXT} {k:Nat} {fa a:Addr} {fd:FuncData} {x:Str} {sp:Sp} {s₁:Shared} {vs:List Value} {ns:List Int}
    (KX:K.In s₁.heap) (hns:s₁.heap.Ns mainGlobals mg) (hb:s₁.heap.Ns builtinsNs mb) (hbb:∀x:Str,x≠"__name__"→mb x=bootBuiltins x) (hlim:s₁.heap.NoLimit) (hg:s₁.gens=#[])
    (ha:s₁.heap.get? a=some { cls:=.type "list",data:=.seq vs.toArray }) (hi:IntsAre vs ns) (hl:ns.length≤sizeLine) (hr:Room k callerA)
    (F:∀base:Heap,K.In base→base.Ns mainGlobals mg→FnOk P w K mg base CX k fa fd [x] sp) (hbind:∀(s:Shared) (u:Value),BindsTo s fd ⟨[u],[]⟩ [(x,u)])
    (hsp:∀H:Hp,ZjD H→SqL K H a (ns.map V.int)→sp [.ref a] H (fun v _=>v=.bl true) fun _ _ _=>False)
    (hCX:∀H e s',CX [] H s₁ (fun _ _ _=>False) e s'→False) :
    codeAny (model P w) callerA (.call (.ref fa) ⟨[.ref a],[]⟩) (fun r s'=>r=.ok (.ret (.bool true))∧OldK s₁.heap s'.heap∧s'.os=s₁.os∧AllBare s'.gens) s₁:=by
  have rv:=Zd5 hi
  have lenV:=hi.length
  have core:∀H:Hp,ZjD H→SqL K H a (ns.map V.int)→HOk P w H s₁.heap→(∀b,H b≠none→b=a)→(H a≠none→K.lookup a=none)→
      codeAny (model P w) callerA (.call (.ref fa) ⟨[.ref a],[]⟩) (fun r s'=>r=.ok (.ret (.bool true))∧OldK s₁.heap s'.heap∧s'.os=s₁.os∧AllBare s'.gens) s₁:=by
    intro H hO hS hok hA hK
    have base_of:∀{b:Addr} {o:Obj},s₁.heap.get? b=some o→H b=none→(ZeS s₁.heap H).get? b=some o:=fun e n=>Ziw e n
    have noA:∀{b:Addr} {o:Obj} {es:Array DictEntry} {ep:Nat},s₁.heap.get? b=some o→o.data=.dict es ep→H b=none:=fun {b o es ep} e d=>by
      cases q:H b with
      | none=>rfl
      | some u=>
        have e':b=a:=hA b (by rw [q]; simp)
        subst e'
        rw [ha] at e; cases e
        have d':Data.seq vs.toArray _=Data.dict es ep:=d
        cases d'
    have nsK:∀{b:Addr} {m:Str→Option Value},s₁.heap.Ns b m→(ZeS s₁.heap H).Ns b m:=fun {b m} ⟨o,es,ep,e,d,r⟩=>⟨o,es,ep,base_of e (noA e d),d,r⟩
    have hKb:K.In (ZeS s₁.heap H):=fun b o e=>base_of (KX b o e) (by
      cases q:H b with
      | none=>rfl
      | some u=>
        have e':b=a:=hA b (by rw [q]; simp)
        subst e'
        rw [hK (by rw [q]; simp)] at e; cases e)
    have hM:Mod K mg (ZeS s₁.heap H):=⟨hKb,nsK hns,⟨mb,nsK hb,hbb⟩,let ⟨mc,h1,h2⟩:=hlim; ⟨mc,nsK h1,h2⟩⟩
    have e0:ZjG P w K mg (ZeS s₁.heap H) callerA [] s₁ H:=⟨rfl,hM,fun b o e=>Zjf e,Nat.le_of_eq (Zhi _ _),trivial,fun b hb=>absurd (show b∈([]:List Addr) from hb) (by simp),hok,.of_eq hg⟩
    refine codeAny_mono ((F _ hKb (nsK hns)).run callerA [] s₁ H ⟨[.ref a],[]⟩ [.ref a] [.ref a] _ _ hr e0 (hbind s₁ (.ref a)) (.cons rfl .nil) (hsp H hO hS)) fun r s' h=>?_
    cases r with
    | error e=>exact (hCX H e s' h).elim
    | ok fl=>
      cases fl with
      | next=>exact False.elim h
      | brk=>exact False.elim h
      | cont=>exact False.elim h
      | ret u=>
        obtain ⟨v,H',os,bare,un,hok',r',q⟩:=h
        have q':v=.bl true:=q
        subst q'
        obtain rfl:u=Value.bool true:=r'
        refine ⟨rfl,OldK.of_keep fun b o e=>?_,os,bare⟩
        cases q:H b with
        | none=>exact un.keep b o e q (by intro z; exact absurd (show b∈([]:List Addr) from z) (by simp)) (by simp)
        | some u=>
          rcases hO b with z | ⟨ob,xs,z⟩
          · rw [q] at z; cases z
          · have z2:=un.frzs b ob _ z
            obtain ⟨e1,_⟩:=hok b _ z
            obtain ⟨e2,_⟩:=hok' b _ z2
            rw [e] at e1; cases e1
            exact e2
  cases hk:K.lookup a with
  | some o=>
    have e:=KX a o hk
    rw [ha] at e
    cases e
    refine core (fun _=>none) (fun _=>.inl rfl) (.inr ⟨_,vs.toArray,_,hk,rfl,rfl,rfl,by rw [List.size_toArray,lenV]; exact hl,by simpa using rv⟩) (fun b u z=>by have z':(none:Option HO)=some u:=z; cases z') (fun b z=>absurd rfl z) fun z=>absurd rfl z
  | none=>
    refine core (fun b=>if b=a then some (.frz { cls:=.type "list",data:=.seq vs.toArray } (.lst (ns.map V.int))) else none) (fun b=>?_) (.inl (.inr ⟨{ cls:=.type "list",data:=.seq vs.toArray },if_pos rfl⟩)) (fun b u z=>?_) (fun b z=>?_) fun _=>hk
    · by_cases hb:b=a
      · exact .inr ⟨_,_,if_pos hb⟩
      · exact .inl (if_neg hb)
    · by_cases hb:b=a
      · have z':=(if_pos hb).symm.trans z
        cases z'
        subst hb
        exact ⟨ha,by rw [List.length_map]; exact hl,vs,_,rv,ha⟩
      · have z':=(if_neg hb).symm.trans z
        cases z'
    · by_cases hb:b=a
      · exact hb
      · exact absurd (if_neg hb) z
end L2
namespace L2
open PySem PySem.Spec PyProof.Rows
theorem ZiS {l:PySem.W.OpenLaw} {n k:Nat} {q:Program} {loose:List Str} {XP:(Str→Option Value)→Heap→Prop} {YP:World→Heap→Prop} {d:DefRec} {K:Params→PySem.W.Frag} {CX:World→CXT} {sp:World→Sp} {x:Str}
    (hn:l.most=some n) (hn2:n≤sizeLine) (hdf:d.params.defaults=[]) (hr:Room k callerA)
    (hY:∀(w:World) (h:Heap),YP w h→(K w.params).In h)
    (F:∀(w:World) (mg:Str→Option Value) (fa:Addr) (h:Heap),(K w.params).In h→h.Ns mainGlobals mg→mg d.name=some (.ref fa)→
      ∃fd:FuncData,(∀(s:Shared) (u:Value),BindsTo s fd ⟨[u],[]⟩ [(x,u)])∧
        ∀base:Heap,(K w.params).In base→base.Ns mainGlobals mg→FnOk l.prog w (K w.params) mg base (CX w) k fa fd [x] (sp w))
    (hsp:∀(w:World) (H:Hp) (a:Addr) (ns:List Int),ns.length≤n→ZjD H→SqL (K w.params) H a (ns.map V.int)→sp w [.ref a] H (fun v _=>v=.bl true) fun _ _ _=>False)
    (hCX:∀(w:World) (H:Hp) (s:Shared) (e:Value) (s':Shared),CX w [] H s (fun _ _ _=>False) e s'→False) :
    PySem.W.WalkO q loose XP YP l.row.toRowW d [] (fun f vs=>PySem.call f vs):=by
  refine Att.attach_call hn hdf fun w s₀ s₁ mg mb fa o pm cd doc a vs ns G Y ho hd hcd hmg hobj hints hlen hg=>?_
  have KX:=hY w _ Y
  obtain ⟨fd,hb,hF⟩:=F w mg fa _ KX G.T.g hmg
  exact Ziq KX G.T.g G.T.b G.T.builtins G.T.nolimit hg hobj hints (Nat.le_trans hlen hn2) hr hF hb (fun H hO hS=>hsp w H a ns hlen hO hS) fun H e s'=>hCX w H s₁ e s'
end L2
namespace L2
open PySem PySem.Spec PyProof.Rows
def ZR (s:Stmt):Arguments:=match s with
  | .FunctionDef _ a _ _ _ _ _ _ _ _=>a
  | _=>{ posonlyargs:=[],args:=[],vararg:=none,kwonlyargs:=[],kw_defaults:=[],kwarg:=none,defaults:=[] }
def ZH (s:Stmt):List Stmt:=match s with
  | .FunctionDef _ _ b _ _ _ _ _ _ _=>b
  | _=>[]
def Zi (s:Stmt):Scope:=match s with
  | .FunctionDef _ _ _ _ _ _ sc _ _ _=>sc
  | _=>{ kind:=.function,names:=[],isGenerator:=false,isCoroutine:=false }
abbrev CX0:CXT:=fun _ _ _ _ _ _=>False
abbrev E0:XK:=fun _ _ _=>False
theorem Zln {X:Cx}:ZdT CX0 X E0:=fun _ _ _ _ _ _ _ h=>h.elim
structure Fun (K:PySem.W.Frag) (x qual:Str) (st:Stmt) (f:Addr) (fd:FuncData):Prop where
  ex:∃(oc:Value) (od:Option Addr) (kV doc pm:Value) (an:Option Addr) (cdv ct:Value) (osl:Array (Option Value)),
    fd=PySem.W.fnOf x qual (ZR st) (ZH st) (Zi st) .none kV doc pm an cdv ct∧K.lookup f=some ⟨oc,od,.func fd,osl⟩∧PySem.W.codeIn K cdv qual=true
  kp:PySem.W.keepIn K (.ref f)=true
section
variable {P:Program} {w:World} {K:PySem.W.Frag} {mg:Str→Option Value} {base:Heap}
theorem Fun.ok {x qual:Str} {st:Stmt} {f:Addr} {fd:FuncData} {N ps:List Str} {k:Nat} {sp:Sp} (F:Fun K x qual st f fd) (S:ZP N ps (Zi st)) (len:∀vs H Q E,sp vs H Q E→vs.length=ps.length)
    (hbody:∀(cdv:Value) (A:Around) (outer:List Env) (s:Shared) (H:Hp) (vs:List V) (Q:VK) (E:XK),Room k (A.deeper (envOfC qual (Zi st) s.heap.objs.size f cdv))→sp vs H Q E→
      ∃t,PSs (Zbd CX0 P w K mg base N qual (Zi st) f cdv A outer s H E).nox (ZH st) t∧t { nx:=fun _ H'=>Q .non H',rt:=Q } (Za0 N vs) H):FnOk P w K mg base CX0 (k+1) f fd ps sp:=by
  obtain ⟨oc,od,kV,doc,pm,an,cdv,ct,osl,rfl,lk,hcd⟩:=F.ex
  refine ZjX lk hcd S len fun A outer s H vs Q E hr hsp=>?_
  obtain ⟨t,h,q⟩:=hbody cdv A outer s H vs Q E hr hsp
  exact ⟨t,h.nox,q⟩
theorem Fun.binds {x qual:Str} {st:Stmt} {f:Addr} {fd:FuncData} {ps:List Str} (F:Fun K x qual st f fd)
    (h:∀(kV doc pm:Value) (an:Option Addr) (cdv ct:Value) (us:List Value),us.length=ps.length→bindArgs (PySem.W.fnOf x qual (ZR st) (ZH st) (Zi st) .none kV doc pm an cdv ct) ⟨us,[]⟩=pure (ps.zip us)):Binds K fd ps []:=by
  obtain ⟨oc,od,kV,doc,pm,an,cdv,ct,osl,rfl,lk,hcd⟩:=F.ex
  exact .all (h kV doc pm an cdv ct)
theorem zm {x qual:Str} {st:Stmt} {f:Addr} {oc:Value} {od an:Option Addr} {osl:Array (Option Value)} {kV doc pm cdv ct:Value} (l:K.lookup f=some ⟨oc,od,.func (PySem.W.fnOf x qual (ZR st) (ZH st) (Zi st) .none kV doc pm an cdv ct),osl⟩)
    (c:PySem.W.codeIn K cdv qual=true) (k:PySem.W.keepIn K (.ref f)=true):Fun K x qual st f (PySem.W.fnOf x qual (ZR st) (ZH st) (Zi st) .none kV doc pm an cdv ct):=⟨⟨oc,od,kV,doc,pm,an,cdv,ct,osl,rfl,l,c⟩,k⟩
end
section
variable {X:Cx}
end
end L2
namespace L2
open PySem PySem.Spec PyProof.Rows
section
variable {P:Program} {w:World} {K:PySem.W.Frag} {mg:Str→Option Value} {base:Heap}
def ZV (K:PySem.W.Frag) (mg:Str→Option Value) (x:Str) (st:Stmt) (ps:List Str):Prop:=
  ∃(f:Addr) (fd:FuncData),Fun K x x st f fd∧Binds K fd ps []∧mg x=some (.ref f)
def Def (P:Program) (w:World) (K:PySem.W.Frag) (mg:Str→Option Value) (base:Heap) (k:Nat) (x:Str) (ps:List Str) (sp:Sp):Prop:=
  ∃(f:Addr) (fd:FuncData),FnOk P w K mg base CX0 k f fd ps sp∧Binds K fd ps []∧PySem.W.keepIn K (.ref f)=true∧mg x=some (.ref f)
end
section
variable {X:Cx} {k:Nat} {x:Str} {ps:List Str} {sp:Sp} {p pos:Pos} {e:Expr} {es:List Expr} {t:TA}
theorem Zh4 {j:Nat} (D:Def X.prog X.w X.K X.mg X.base k x ps sp) (hr:Room j X.A) (hj:k≤j) (ha:PA X (e::es) t) (hg:Gl X x:=by rfl) (hdb:(x == ("__debug__":Str))=false:=by decide)
    (he:starEach (e::es) X.env=(false,eval e X.env)::starEach es X.env:=by rfl) (hpl:(backTo pos (starEach es X.env)).any (·.1)=false:=by rfl):PE X (.Call (.Name x p) (e::es) [] pos) (ZjL sp [] E0 t):=by
  obtain ⟨f,fd,F,b,kp,m⟩:=D
  exact Zgs F (hr.mono hj) hg m kp b .nil Zln ha hdb he hpl
theorem Zjc {i:Int} (h:∃t,X.mg x=some (.int i t)) (hg:Gl X x:=by rfl) (hd:(x == ("__debug__":Str))=false:=by decide):PE X (.Name x pos) (tC (.int i)):=by
  obtain ⟨t,h⟩:=h
  exact ZeB hg h ⟨t,rfl⟩ hd
def ZlW (_ j:Int):Prop:=0<j∧j.natAbs.log2<9000
theorem Zh6:OpR X (binaryOp .FloorDiv) (rI ZlW fun i j=>.int (i/j)):=opI fun i j _ _ _ _ _ hc q=>by
  have h1:(0:Int)<j:=hc.1
  exact floordiv_int (by omega) (by rw [Int.fdiv_eq_ediv_of_nonneg i (by omega)]; exact q) (.inl (PyProof.noPylong_of_log2 hc.2))
end
end L2
set_option maxHeartbeats 4000000
namespace L2
open PySem PySem.Spec PyProof.Rows
theorem zZ {scope:Scope} {env:Env} (h:∀x∈scope.names,x.2=.free→∃c,env.cells.lookup x.1=some c) :
    ∃cl:List (Str×Addr),closureFor scope env=pure cl∧(∀n c,(n,c)∈cl→env.cells.lookup n=some c)∧∀x∈scope.names,x.2=.free→∃c,(x.1,c)∈cl:=by
  have key:∀(names:List (Str×NameKind)) (acc:List (Str×Addr)),(∀x∈names,x.2=.free→∃c,env.cells.lookup x.1=some c)→(∀n c,(n,c)∈acc→env.cells.lookup n=some c)→
      ∃cl:List (Str×Addr),(forIn names acc fun (x:Str×NameKind) (cs:List (Str×Addr))=>if (x.2 == NameKind.free)=true then (do let c ←cellOf env x.1; pure (ForInStep.yield ((x.1,c)::cs)):Sem _) else pure (ForInStep.yield cs))=(pure cl:Sem _)∧
        (∀n c,(n,c)∈cl→env.cells.lookup n=some c)∧(∀p∈acc,p∈cl)∧∀x∈names,x.2=.free→∃c,(x.1,c)∈cl:=by
    intro names
    induction names with
    | nil=>intro acc _ ha; exact ⟨acc,rfl,ha,fun _ p=>p,fun x hx=>nomatch hx⟩
    | cons y r ih=>
      intro acc hx ha
      obtain ⟨n,k⟩:=y
      by_cases hk:k=.free
      · subst hk
        obtain ⟨c,hc⟩:=hx (n,.free) List.mem_cons_self rfl
        obtain ⟨cl,e,h1,h2,h3⟩:=ih ((n,c)::acc) (fun x z=>hx x (List.mem_cons_of_mem _ z)) (fun m d z=>by
          rcases List.mem_cons.mp z with z | z
          · cases z; exact hc
          · exact ha m d z)
        refine ⟨cl,?_,h1,fun p z=>h2 p (List.mem_cons_of_mem _ z),fun x z zf=>?_⟩
        · have ec:cellOf env n=pure c:=by unfold cellOf; rw [hc]
          rw [List.forIn_cons]
          simp only [beq_self_eq_true,if_true,ec,pure_bind]
          exact e
        · rcases List.mem_cons.mp z with z | z
          · cases z; exact ⟨c,h2 _ List.mem_cons_self⟩
          · exact h3 x z zf
      · obtain ⟨cl,e,h1,h2,h3⟩:=ih acc (fun x z=>hx x (List.mem_cons_of_mem _ z)) ha
        refine ⟨cl,?_,h1,h2,fun x z zf=>?_⟩
        · have hb:(k == NameKind.free)=false:=by simpa using hk
          rw [List.forIn_cons]
          simp only [hb,Bool.false_eq_true,if_false,pure_bind]
          exact e
        · rcases List.mem_cons.mp z with z | z
          · cases z; exact absurd zf hk
          · exact h3 x z zf
  obtain ⟨cl,e,h1,_,h3⟩:=key scope.names [] h (fun n c z=>nomatch z)
  refine ⟨cl,?_,h1,h3⟩
  simp only [closureFor]
  rw [e]
  rfl
def Cx.comp (X:Cx) (scope:Scope) (N':List Str) (cl:List (Str×Addr)) (C:Addr) (s₀:Shared) (H₀:Hp) (fp:List Addr):Cx where
  prog:=X.prog
  w:=X.w
  K:=X.K
  mg:=X.mg
  base:=X.base
  A:=X.A
  N:=N'
  s₀:=s₀
  H₀:=H₀
  env:=compEnvC scope cl C X.env
  outer:=X.stack
  stack:=X.stack
  ex:=fp
  fn:=fun _=>false
  calm:=X.calm
  pn:=[]
  xe:=fun _ _=>False
def inner (src:List Nat) (σ:St) (x:Option V):St:=x::src.map fun j=>(σ[j]?).join
theorem ZaU {α:Type} {l:List (Str×α)} {n:Str} {c:α} (h:(n,c)∈l):∃d,l.lookup n=some d:=by
  induction l with
  | nil=>cases h
  | cons y r ih=>
    obtain ⟨m,d⟩:=y
    by_cases e:n == m
    · exact ⟨d,by rw [List.lookup_cons,e]⟩
    · rcases List.mem_cons.mp h with z | z
      · cases z; exact absurd (beq_self_eq_true n) e
      · obtain ⟨d',q⟩:=ih z
        exact ⟨d',by rw [List.lookup_cons,Bool.eq_false_iff.mpr e]; exact q⟩
theorem zt {env:Env} {n:Str}:∀{names:List (Str×NameKind)} {k:NameKind},(∀y∈names,y.2≠.cell)→
    (names.map fun (n,k)=>if (k == NameKind.free && env.scope.kind == .function && env.kindOf n == some .cell) then (n,NameKind.cell) else (n,k)).lookup n=some k→(k=.cell∨k=.free)→(n,NameKind.free)∈names
  | [],_,_,h,_=>by simp at h
  | (m,j)::r,k,hc,h,hk=>by
    have nc:j≠.cell:=hc (m,j) List.mem_cons_self
    rw [List.map_cons] at h
    by_cases e:n == m
    · have en:n=m:=by simpa using e
      subst en
      by_cases cnd:(j == NameKind.free && env.scope.kind == .function && env.kindOf n == some .cell)=true
      · have:j=.free:=by
          simp only [Bool.and_eq_true,beq_iff_eq] at cnd
          exact cnd.1.1
        rw [this]
        exact List.mem_cons_self
      · simp only [cnd] at h
        rw [if_neg (by simp),List.lookup_cons,beq_self_eq_true] at h
        cases h
        rcases hk with rfl | rfl
        · exact absurd rfl nc
        · exact List.mem_cons_self
    · refine List.mem_cons_of_mem _ (zt (env:=env) (k:=k) (fun y hy=>hc y (List.mem_cons_of_mem _ hy)) ?_ hk)
      rw [List.lookup_cons] at h
      have e2:(n == (if (j == NameKind.free && env.scope.kind == .function && env.kindOf m == some .cell)=true then (m,NameKind.cell) else (m,j)).1)=false:=by
        split<;>exact Bool.eq_false_iff.mpr e
      rw [e2] at h
      exact h
theorem ZaN {env:Env}:∀{names:List (Str×NameKind)} {x:Str},names.lookup x=some .free→
    (names.map fun (n,k)=>if (k == NameKind.free && env.scope.kind == .function && env.kindOf n == some .cell) then (n,NameKind.cell) else (n,k)).lookup x=some .cell∨
    (names.map fun (n,k)=>if (k == NameKind.free && env.scope.kind == .function && env.kindOf n == some .cell) then (n,NameKind.cell) else (n,k)).lookup x=some .free
  | [],_,h=>by simp at h
  | (n,k)::r,x,h=>by
    have ih:=@ZaN env r x
    rw [List.map_cons]
    cases hx:x == n with
    | true=>
      simp only [List.lookup_cons,hx] at h
      cases h
      by_cases hc:(NameKind.free == NameKind.free && env.scope.kind == .function && env.kindOf n == some .cell)=true
      · left
        show List.lookup x ((if (NameKind.free == NameKind.free && env.scope.kind == .function && env.kindOf n == some .cell)=true then (n,NameKind.cell) else (n,NameKind.free))::_)=_
        rw [if_pos hc,List.lookup_cons,hx]
      · right
        show List.lookup x ((if (NameKind.free == NameKind.free && env.scope.kind == .function && env.kindOf n == some .cell)=true then (n,NameKind.cell) else (n,NameKind.free))::_)=_
        rw [if_neg hc,List.lookup_cons,hx]
    | false=>
      simp only [List.lookup_cons,hx] at h
      have e:∀t,List.lookup x ((if (k == NameKind.free && env.scope.kind == .function && env.kindOf n == some .cell)=true then (n,NameKind.cell) else (n,k))::t)=List.lookup x t:=fun t=>by
        split<;>rw [List.lookup_cons,hx]
      rcases ih h with q | q
      · exact .inl ((e _).trans q)
      · exact .inr ((e _).trans q)
section
variable {X:Cx} {x:Str} {px:Pos} {iter elt:Expr} {scope:Scope} {pos:Pos} {N':List Str} {src:List Nat} {wi:TI} {te:TE}
structure ZG (scope sc:Scope) (x:Str) (N N':List Str) (src:List Nat):Prop where
  kind:scope.kind=.function
  cell:∀y∈scope.names,y.2≠.cell
  loc:∀y∈scope.names,y.2=.local→scope.names.lookup y.1=some .local
  own:scope.names.lookup x=some .local
  free:∀y∈scope.names,y.2=.free→sc.names.lookup y.1=some .cell
  nd:N'.Nodup
  names:N'=x::src.map fun j=>N.getD j x
  all:∀j∈src,j<N.length
  fr:∀j∈src,sc.names.lookup (N.getD j x)=some .cell∧scope.names.lookup (N.getD j x)=some .free
theorem ZdI {pins:List (Addr×Obj)} {σ:St} {H:Hp} {s s':Shared} {C:Addr} {cl:List (Str×Addr)} {fp:List Addr} (I:Inv X pins σ H s) (S:ZG scope X.env.scope x X.N N' src)
    (hcl:∀n c,(n,c)∈cl→X.env.cells.lookup n=some c) (hcl2:∀y∈scope.names,y.2=.free→∃c,(y.1,c)∈cl) (hC:s.heap.objs.size≤C) (hfp:∀b∈fp,Zbl X pins H b) (hfl:∀b∈fp,b<s.heap.objs.size)
    (hn:∃m,s'.heap.Ns C m) (hk:∀b o,s.heap.get? b=some o→s'.heap.get? b=some o) (ho:s'.os=s.os) (hg:s'.gens=s.gens) :
    Inv (X.comp scope N' cl C s H fp) [] (inner src σ none) H s':=by
  have cll:∀n c,cl.lookup n=some c→X.env.cells.lookup n=some c:=fun n c e=>hcl n c (PySem.mem_of_lookup e)
  refine ⟨⟨I.ok.mod,S.kind,I.ok.glob,I.ok.blt,hC,fun y z c h1 h2=>I.ok.inj y z c (cll _ _ h1) (cll _ _ h2),fun y hy=>?_,fun y c h=>absurd (show false=true from h) (by decide),I.ok.hd,I.ok.frames,.inl rfl,fun b hb=>⟨Nat.ne_of_lt (Nat.lt_of_lt_of_le (hfl b hb) hC),fun y c e=>(hfp b hb).2.2.2.2.1 y c (cll y c e)⟩,
    I.bs,Nat.le_trans I.ok.bsz I.sz,fun b o e hb=>?_,fun b hb=>?_,I.stack,I.stkFree⟩,ho,?_,Un.kept hk,?_,fun y c e=>?_,I.hok.fresh hC,fun y c e=>I.freeC y c (cll y c e),fun p hp=>absurd (show p∈([]:List (Addr×Obj)) from hp) (by simp),I.hok.kept hk,?_⟩
  · have hy':(relabel scope X.env).names.lookup y=some .cell∨(relabel scope X.env).names.lookup y=some .free:=hy
    have:(y,NameKind.free)∈scope.names:=by
      rcases hy' with h | h
      · exact zt S.cell h (.inl rfl)
      · exact zt S.cell h (.inr rfl)
    obtain ⟨c,hc⟩:=hcl2 _ this rfl
    exact ZaU hc
  · rcases (hfp b hb).2.2.2.1 with z | z
    · exact I.ok.noex b o e z
    · exact absurd (Nat.lt_of_lt_of_le (Heap.lt_size e) (Nat.le_trans I.ok.bsz z)) (Nat.lt_irrefl _)
  · intro hs
    rcases List.mem_cons.mp (I.stkSub b hs) with z | z
    · exact (hfp b hb).2.1 z
    · exact (hfp b hb).2.2.1 z
  · rw [hg]; exact I.bare
  · obtain ⟨m,hm⟩:=hn
    refine ⟨m,hm,fun i y v h1 h2 h3=>?_⟩
    have h1':N'[i]?=some y:=h1
    rw [S.names] at h1'
    cases i with
    | zero=>cases (show (some none:Option (Option V))=some (some v) from h2)
    | succ k=>
      rw [List.getElem?_cons_succ,List.getElem?_map] at h1'
      have h2':(src.map fun j=>(σ[j]?).join)[k]?=some (some v):=h2
      rw [List.getElem?_map] at h2'
      cases e:src[k]? with
      | none=>rw [e] at h1'; cases h1'
      | some j=>
        rw [e] at h1' h2'
        have hj:=List.mem_of_getElem? e
        have ey:X.N.getD j x=y:=Option.some.inj h1'
        have ev:(σ[j]?).join=some v:=Option.some.inj h2'
        have eN:X.N[j]?=some y:=by
          have:=S.all j hj
          rw [List.getElem?_eq_getElem this]
          rw [List.getD_eq_getElem?_getD,List.getElem?_eq_getElem this] at ey
          exact congrArg some ey
        have eσ:σ[j]?=some (some v):=by
          cases q:σ[j]? with
          | none=>rw [q] at ev; cases ev
          | some z=>rw [q] at ev; exact congrArg some ev
        obtain ⟨k1,k2⟩:=S.fr j hj
        rw [ey] at k1 k2
        obtain ⟨mo,hmo,hl⟩:=I.loc
        obtain ⟨u,r,l⟩:=hl j y v eN eσ (.inr (.inl k1))
        refine ⟨u,r,?_⟩
        rcases l with ⟨z,_⟩ | ⟨_,c,hc,hcell⟩
        · have z':X.env.scope.names.lookup y=some .local:=z
          rw [k1] at z'; cases z'
        · obtain ⟨c',hc'⟩:=hcl2 _ (PySem.mem_of_lookup k2) rfl
          obtain ⟨d,hd⟩:=ZaU hc'
          have ed:d=c:=by
            have:=cll _ _ hd
            rw [hc] at this
            exact (Option.some.inj this).symm
          subst ed
          obtain ⟨o,e1,e2⟩:=hcell
          refine .inr ⟨?_,d,hd,o,hk _ _ e1,e2⟩
          rcases h3 with z | z | z
          · have z':(relabel scope X.env).names.lookup y=some .local:=z
            rcases ZaN (env:=X.env) k2 with w | w
            · have w':(relabel scope X.env).names.lookup y=some .cell:=w
              rw [w'] at z'; cases z'
            · have w':(relabel scope X.env).names.lookup y=some .free:=w
              rw [w'] at z'; cases z'
          · exact .inl z
          · exact .inr z
  · obtain ⟨v,o,e1,e2⟩:=I.cell y c (cll y c e)
    exact ⟨v,o,hk _ _ e1,e2⟩
  · show (inner src σ none).length=N'.length
    rw [S.names]
    unfold inner
    rw [List.length_cons,List.length_cons,List.length_map,List.length_map]
theorem ZfH {prog:Program} {w:World} {A:Around} {R:Result→Shared→Prop} {s:Shared} {elt target iter:Expr} {scope:Scope} {pos:Pos} {it acc:Value} {env:Env} (I:Nat→Shared→Prop)
    (turn:∀n s,I n s→wpAny (model prog w) A (pyNext it) (fun r s₁=>match r with
      | none=>R (.ok .next) s₁
      | some v=>wpAny (model prog w) A (letOwnedTupleGo target it v) (fun _ s₂=>wpAny (model prog w) A (assign target env v) (fun _ s₃=>wpAny (model prog w) A (eval elt env) (fun x s₄=>
          wpAny (model prog w) A (call (.builtin "list.append") [acc,x]) (fun _ s₅=>∃m,m<n∧I m s₅) (notedBy (model prog w) A env fun e s'=>R (.error e) s') s₄) (notedBy (model prog w) A env fun e s'=>R (.error e) s') s₃)
          (notedBy (model prog w) A env fun e s'=>R (.error e) s') s₂) (notedBy (model prog w) A env fun e s'=>R (.error e) s') s₁) (notedBy (model prog w) A env fun e s'=>R (.error e) s') s)
    (n:Nat) (h:I n s):codeAny (model prog w) A (.compLoop (.ListComp elt [⟨target,iter,[],0⟩] scope pos) 0 it acc env) R s:=by
  refine codeAny_loop rfl I (fun n s hI=>?_) n h
  show wpAny _ A ((compTurn (.ListComp elt [⟨target,iter,[],0⟩] scope pos) 0 it acc env).onRaise (fun x=>do noteFrame x env; theTreesLotGoes x)) _ _ s
  refine wpAny_noted ?_
  rw [compTurn_list1]
  refine wpAny_bind (wpAny_standAt (wpAny_bind (thn (turn n s hI) fun r s₁ h₁=>?_)))
  cases r with
  | none=>exact wpAny_pure h₁
  | some v=>
    refine wpAny_bind (thn h₁ fun _ s₂ h₂=>wpAny_bind (thn h₂ fun _ s₃ h₃=>?_))
    exact wpAny_bind (wpAny_bind (thn h₃ fun x s₄ h₄=>wpAny_bind (thn h₄ fun _ s₅ h₅=>wpAny_pure (wpAny_pure ⟨rfl,h₅⟩))))
def lcR (J:It) (src:List Nat) (σ:St) (te:TE) (H1:Hp) (Q:VK):Prop:=∃(n:Nat) (Pv:Nat→List V→Hp→Prop),n≤sizeLine∧Pv 0 [] H1∧
  (∀i ys H,i<n→Pv i ys H→J.go i H∧∀y H',J.yld i H y H'→te (inner src σ (some y)) H' fun z H2=>Pv (i+1) (ys++[z]) H2)∧
  ∀ys H,Pv n ys H→J.stop n H∧∀p,H p=none→Q (.ref p) (upd H p (.lst ys))
def tLc (wi:TI) (src:List Nat) (te:TE):TE:=fun σ H Q=>wi σ H fun J H1=>lcR J src σ te H1 Q
theorem HOk.lay {P:Program} {w:World} {H:Hp} {h:Heap} {a:Addr} {o:HO} (x:HOk P w H h) (hn:H a=none) (new:ObjOk P w (upd H a o) h a o):HOk P w (upd H a o) h:=fun b u e=>by
  by_cases hb:b=a
  · subst hb; rw [ZX] at e; cases e; exact new
  · rw [Zq hb] at e
    exact (x b u e).stay (fun c v _ q=>q) (fun c q=>by rw [Zq (ZE q hn)]; exact q) fun c xs q=>by rw [Zq (ZE q hn)]; exact q
theorem Un.lay {fs ex:List Addr} {H H1:Hp} {h h1:Heap} {a:Addr} {o:HO} (u:Un fs ex H H1 h h1) (hn:H1 a=none) (hh:h.get? a=none):Un fs ex H (upd H1 a o) h h1 where
  keep:=u.keep
  slot:=u.slot
  free:=fun b ob q n hx=>by rw [Zq (fun z=>by rw [z,hh] at q; cases q)]; exact u.free b ob q n hx
  there:=u.there
  tups:=fun b xs q=>by rw [Zq (ZE (u.tups b xs q) hn)]; exact u.tups b xs q
  frzs:=fun b ob xs q=>by rw [Zq (ZE (u.frzs b ob xs q) hn)]; exact u.frzs b ob xs q
  tbls:=fun b ps q=>by
    obtain ⟨m,e⟩:=u.tbls b ps q
    exact ⟨m,by rw [Zq (ZE e hn)]; exact e⟩
theorem Zip {pins:List (Addr×Obj)} {σ:St} {H:Hp} {s:Shared} {cl:List (Str×Addr)} {it:Addr} {fp:List Addr} {tn:Nat→Heap→Prop} {J:It} {n:Nat} {Pv:Nat→List V→Hp→Prop} {RR:Value→Addr→Result→Shared→Prop} {E:Value→Shared→Prop}
    (I:Inv X pins σ H s) (hcm:X.calm=true) (S:ZG scope X.env.scope x X.N N' src) (hcl:∀n c,(n,c)∈cl→X.env.cells.lookup n=some c) (hcl2:∀y∈scope.names,y.2=.free→∃c,(y.1,c)∈cl)
    (T:Zd0 X.prog X.w X.K (.Name x px) J fp it tn) (t0:tn 0 s.heap) (hfp:∀b∈fp,Zbl X pins H b)
    (helt:∀(cl:List (Str×Addr)) (C:Addr) (s₀:Shared) (H₀:Hp) (fp:List Addr),PE (X.comp scope N' cl C s₀ H₀ fp) elt te)
    (hn:n≤sizeLine) (p0:Pv 0 [] H) (turn:∀i ys H,i<n→Pv i ys H→J.go i H∧∀y H',J.yld i H y H'→te (inner src σ (some y)) H' fun z H2=>Pv (i+1) (ys++[z]) H2) (stop:∀ys H,Pv n ys H→J.stop n H)
    (hR:∀(D C:Addr) (o:Obj) (ys:List V) (H':Hp) (s':Shared),Pv n ys H'→H' D=none→Inv X (pins++[(C,o)]) σ (upd H' D (.lst ys)) s'→(∃m,s'.heap.Ns C m)→Zbl X pins (upd H' D (.lst ys)) C→RR (.ref D) C (.ok .next) s') :
    wpAny (model X.prog X.w) X.A (newList []) (fun acc s₃=>wpAny (model X.prog X.w) X.A (newFunctionEnv scope X.env.globals cl [] X.env.qual none .none (some X.env)) (fun cenv s₄=>
      codeAny (model X.prog X.w) X.A (.compStart (.ListComp elt [⟨.Name x px,iter,[],0⟩] scope pos) 0 (.ref it) acc { cenv with scope:=relabel scope X.env }) (RR acc cenv.locals) s₄) E s₃) E s:=by
  refine wpAny_newObj_type (wpAny_newFunctionEnv S.cell (by intro y hy; simp at hy) (fun h₁ hns₁ hsb₁=>?_) S.kind)
  dsimp only at hns₁ hsb₁ ⊢
  generalize hH2:s.heap.push { cls:=.type "list",dict:=none,data:=.seq ([]:List Value).toArray }=H2 at hns₁ hsb₁ ⊢
  have hC:H2.objs.size=s.heap.objs.size+1:=by rw [←hH2,Heap.size_push]
  have hDC:s.heap.objs.size≠H2.objs.size:=by rw [hC]; exact Nat.ne_of_lt (Nat.lt_succ_self _)
  have hCle:s.heap.objs.size≤H2.objs.size:=by rw [hC]; exact Nat.le_succ _
  have below:∀b,b<s.heap.objs.size→b≠H2.objs.size∧b≠s.heap.objs.size:=fun b hb=>⟨by rw [hC]; exact Nat.ne_of_lt (Nat.lt_succ_of_lt hb),Nat.ne_of_lt hb⟩
  have old:∀b o,s.heap.get? b=some o→h₁.get? b=some o:=fun b o e=>hsb₁.extBut b o (below b (Heap.lt_size e)).1 (Heap.get?_push_of_some _ (hH2 ▸ Heap.get?_push_of_some _ e))
  have hacc:h₁.PlainList s.heap.objs.size #[]:=⟨_,hsb₁.extBut _ _ hDC (Heap.get?_push_of_some _ (hH2 ▸ Heap.get?_push_size _ rfl))⟩
  have hfl:∀b∈fp,b<s.heap.objs.size:=fun b hb=>by
    obtain ⟨o,e,_⟩:=T.obj 0 _ t0 b hb
    exact Heap.lt_size e
  have fresh:∀a,s.heap.objs.size≤a→s.heap.get? a=none:=fun a ha=>by
    cases e:s.heap.get? a with
    | none=>rfl
    | some o'=>exact absurd (Heap.lt_size e) (Nat.not_lt.mpr ha)
  generalize eD:s.heap.objs.size=D at hDC hacc hCle below fresh hfl hC ⊢
  generalize eC:H2.objs.size=C at hDC hCle below hC hns₁ hsb₁ ⊢
  have I1:Inv (X.comp scope N' cl C s H fp) [] (inner src σ none) H { s with heap:=h₁,toks:=s.toks+([]:List (Str×Value)).length }:=
    ZdI I S hcl hcl2 (by rw [eD]; exact hCle) hfp (by rw [eD]; exact hfl) ⟨_,hns₁⟩ old rfl rfl
  have stat:∀{H':Hp} {pl:List (Addr×Obj)},(∀p∈pl,p.1=D)→(∀b∈fp,H' b=none)→∀b∈fp,Zbl (X.comp scope N' cl C s H fp) pl H' b:=fun {H' pl} hp hn b hb=>
    ⟨hn b hb,(below b (hfl b hb)).1,fun z=>by
      rcases List.mem_cons.mp (I.stkSub b z) with q | q
      · exact (hfp b hb).2.1 q
      · exact (hfp b hb).2.2.1 q,.inl hb,fun y c e=>(hfp b hb).2.2.2.2.1 y c (hcl y c (PySem.mem_of_lookup e)),fun p hq=>by
      rw [hp p (by rcases List.mem_append.mp hq with z | z; exact absurd (show p∈([]:List (Addr×Obj)) from z) (by simp); exact z)]
      exact Ne.symm (below b (hfl b hb)).2⟩
  have nD:D∉frs X.stack:=fun z=>by
    rcases List.mem_cons.mp (I.stkSub D z) with q | q
    · have:=I.lt; rw [←q,eD] at this; exact Nat.lt_irrefl _ this
    · exact I.nofs (a:=D) (by rw [eD]; exact Nat.le_refl _) q
  have nC:C∉X.fs:=I.nofs (by rw [eD]; exact hCle)
  have cellD:∀y c,cl.lookup y=some c→c<D:=fun y c e=>by
    obtain ⟨v,q⟩:=I.cell y c (hcl y c (PySem.mem_of_lookup e))
    have:=q.lt
    rw [eD] at this
    exact this
  have loop:∀s₃:Shared,s₃={ s with heap:=h₁,toks:=s.toks+([]:List (Str×Value)).length }→
      codeAny (model X.prog X.w) X.A (.compLoop (.ListComp elt [⟨.Name x px,iter,[],0⟩] scope pos) 0 (.ref it) (.ref D) (compEnvC scope cl C X.env)) (RR (.ref D) C) s₃:=by
    rintro s₃ rfl
    refine ZfH (fun k s'=>∃(i:Nat) (ys:List V) (its:List Value) (H':Hp) (xo:Option V),Inv (X.comp scope N' cl C s H fp) [] (inner src σ xo) H' s'∧tn i s'.heap∧(∀b∈fp,H' b=none)∧s'.heap.PlainList D its.toArray∧Vals ys its∧H' D=none∧
      Pv i ys H'∧ys.length=i∧i≤n∧k=n+1-i) ?_ (n+1) ⟨0,[],[],H,none,I1,T.keep _ _ _ t0 (fun b _ o e=>old b o e),fun b hb=>(hfp b hb).1,hacc,.nil,I.hok.fresh (by rw [eD]; exact Nat.le_refl _),p0,rfl,Nat.zero_le _,rfl⟩
    rintro k s' ⟨i,ys,its,H',xo,I3,t3,f3,l3,v3,d3,p3,e3,le3,rfl⟩
    by_cases hlt:i<n
    · obtain ⟨go,step⟩:=turn i ys H' hlt p3
      obtain ⟨nn,oD⟩:=id l3
      have I3p:Inv (X.comp scope N' cl C s H fp) [(D,{ cls:=.type "list",data:=.seq its.toArray nn })] (inner src σ xo) H' s':=
        I3.pins_of fun p hp=>by
          have ep:p=(D,{ cls:=.type "list",data:=.seq its.toArray nn }):=by simpa using hp
          subst ep
          exact ⟨oD,d3,hDC,nD,fun v z=>by cases z⟩
      refine thn (T.item (X.comp scope N' cl C s H fp) rfl rfl rfl hcm i _ s' _ H' _ I3p (stat (by simp) f3) t3 go) fun r s4 ⟨u,hr,h4⟩=>?_
      subst hr
      refine thn h4 fun _ s5 ⟨y,H5,I5,r5,y5,st5,fr5⟩=>?_
      have I5':=I5.pinned (stat (by simp) fr5) (T.obj _ _ st5)
      have hg:PG (X.comp scope N' cl C s H fp) (.Name x px) (ZbG 0):=
        ZaO S.nd (by show N'[0]?=some x; rw [S.names]; rfl) (.inl (lookup_relabel_local S.own)) (.inr (lookup_relabel_local S.own))
      refine wpAny_mono (hg _ s5 _ H5 y u (fun σ2 H2=>σ2=inner src σ (some y)∧H2=H5) I5' r5 ⟨rfl,rfl⟩) (fun _ s6 ⟨σ6,H6,I6,e6,e6'⟩=>?_) fun _ _ z=>False.elim z
      subst e6 e6'
      refine wpAny_mono (helt cl C s H fp _ s6 _ _ _ I6 (step y _ y5)) (fun v s7 ⟨z,H7,I7,r7,q7⟩=>?_) fun _ _ z=>False.elim z
      have o7:=I7.pin (D,{ cls:=.type "list",data:=.seq its.toArray nn }) (by simp)
      have hys:its.toArray.size≤sizeLine:=by
        have:=v3.length
        rw [List.size_toArray]
        omega
      refine wpAny_list_append_plain (hsz:=hys) (items:=its.toArray) (s:=s7) ⟨nn,o7.1⟩ fun h8 hl8 hs8=>?_
      refine ⟨n+1-(i+1),by omega,i+1,ys++[z],its++[v],H7,some y,?_,?_,?_,?_,v3.append (.cons r7 .nil),o7.2.1,q7,by rw [List.length_append,e3]<;>rfl,hlt,rfl⟩
      · have I7':Inv (X.comp scope N' cl C s H fp) [] (inner src σ (some y)) H7 s7:=I7.pins_of fun p hp=>absurd hp (by simp)
        exact I7'.turned (t':=s7.toks) (it:=D) (fun b o hb e=>(hs8.2 b hb).trans e) o7.2.1 hDC (.inr (by show s.heap.objs.size≤D; rw [eD]; exact Nat.le_refl _)) (fun y c e=>Nat.ne_of_lt (cellD y c e)) fun p hp=>absurd (show p∈([]:List (Addr×Obj)) from hp) (by simp)
      · refine T.keep _ _ _ st5 fun b hb o e=>(hs8.2 b (below b (hfl b hb)).2).trans ?_
        exact (I7.pin (b,o) (List.mem_append_right _ (List.mem_append_right _ (ZT hb e)))).1
      · intro b hb
        obtain ⟨o,e,_⟩:=T.obj _ _ st5 b hb
        exact (I7.pin (b,o) (List.mem_append_right _ (List.mem_append_right _ (ZT hb e)))).2.1
      · have:(its++[v]).toArray=its.toArray.push v:=by simp
        rw [this]; exact hl8
    · have ein:i=n:=by omega
      subst ein
      obtain ⟨nn,oD⟩:=id l3
      have I3p:Inv (X.comp scope N' cl C s H fp) [(D,{ cls:=.type "list",data:=.seq its.toArray nn })] (inner src σ xo) H' s':=
        I3.pins_of fun p hp=>by
          have ep:p=(D,{ cls:=.type "list",data:=.seq its.toArray nn }):=by simpa using hp
          subst ep
          exact ⟨oD,d3,hDC,nD,fun v z=>by cases z⟩
      refine thn (T.done (X.comp scope N' cl C s H fp) rfl rfl rfl hcm i _ s' _ H' _ I3p (stat (by simp) f3) t3 (stop ys H' p3)) fun r s4 ⟨hr,I4⟩=>?_
      subst hr
      have o4:=I4.pin (D,{ cls:=.type "list",data:=.seq its.toArray nn }) (by simp)
      have newI:Inv X pins σ (upd H' D (.lst ys)) s4:=I.call' (ch:=fp) I4.os (I4.base.lay d3 (fresh D (Nat.le_refl _))) (I4.hok.lay d3 ⟨by omega,its,nn,v3,o4.1⟩) I4.bare (fun b hb=>
        ⟨(hfp b hb).2.2.2.1,(hfp b hb).2.1,(hfp b hb).2.2.2.2.1,(hfp b hb).2.2.2.2.2⟩)
      obtain ⟨m,hm,_⟩:=I4.loc
      obtain ⟨o,es,ep,ho,hd,_⟩:=id hm
      refine hR D C o ys H' s4 p3 d3 (newI.pins_of fun p hp=>?_) ⟨m,hm⟩ (I.fpOk (by rw [eD]; exact hCle) (by rw [Zq (Ne.symm hDC)]; exact I4.free))
      rcases List.mem_append.mp hp with z | z
      · exact newI.pin p (List.mem_append_right _ z)
      · have ep:p=(C,o):=by simpa using z
        subst ep
        refine ⟨ho,by rw [Zq (Ne.symm hDC)]; exact I4.free,fun z=>?_,nC,fun v z=>?_⟩
        · have:=I.lt
          rw [eD,←z] at this
          exact absurd (Nat.lt_of_lt_of_le this hCle) (Nat.lt_irrefl _)
        · have z':o.data=.cell v:=z
          rw [hd] at z'; cases z'
  exact codeAny_compStart_list (loop _ rfl) (T.self _ 0 _ _ _ (T.keep _ _ _ t0 (fun b _ o e=>old b o e)) (loop _ rfl))
theorem Zh3 {sc:Scope} {N:List Str} (S:ZG scope sc x N N' src) (hsc:X.env.scope=sc) (hN:X.N=N) (hi:PI X (.Name x px) iter wi)
    (helt:∀(cl:List (Str×Addr)) (C:Addr) (s₀:Shared) (H₀:Hp) (fp:List Addr),PE (X.comp scope N' cl C s₀ H₀ fp) elt te) (hcm:X.calm=true:=by rfl) (hs:∀v,foldedSetIterable iter X.env v=pure v:=by intro _; rfl) :
    PE X (.ListComp elt [⟨.Name x px,iter,[],0⟩] scope pos) (tLc wi src te):=by
  subst hsc hN
  intro pins s σ H Q I h
  obtain ⟨cl,hclos,hcl,hcl2⟩:=zZ (scope:=scope) (env:=X.env) fun y hy hf=>I.ok.has y.1 (.inl (S.free y hy hf))
  rw [eval_ListComp]
  refine wpAny_comprehension_free (use:=none) rfl hs hclos S.kind S.loc ?_
  refine thn (hi pins s σ H _ I h) fun v s1 h1=>thn h1 fun itv s2 h2=>?_
  obtain ⟨it,fp,tn,J,H2,e,I2,T,st2,f2,n,Pv,hn,p0,turn,done⟩:=h2
  subst e
  refine Zip I2 hcm S hcl hcl2 T st2 f2 helt hn p0 turn (fun ys H p=>(done ys H p).1) fun D C o ys H' s' p d J' hm ho=>?_
  obtain ⟨m,hm⟩:=hm
  refine ⟨m,hm,fun h' hs'=>?_⟩
  have J2:Inv X pins σ (upd H' D (.lst ys)) s':=J'.pins_of fun q hq=>J'.pin q (List.mem_append_right _ (List.mem_append_left _ hq))
  obtain ⟨f0,f1,f2,f3,f4,f5⟩:=ho
  exact ⟨.ref D,_,J2.turned (t':=s'.toks) (it:=C) (fun b o hb e=>(hs'.2 b hb).trans e) f0 f1 f3 f4 f5,rfl,(done ys H' p).2 D d⟩
theorem Zli {sc:Scope} {N:List Str} {i:Nat} {y:Str} {py spos:Pos} (hnd:X.N.Nodup) (hi':X.N[i]?=some y) (S:ZG scope sc x N N' src) (hsc:X.env.scope=sc) (hN:X.N=N) (hi:PI X (.Name x px) iter wi)
    (helt:∀(cl:List (Str×Addr)) (C:Addr) (s₀:Shared) (H₀:Hp) (fp:List Addr),PE (X.comp scope N' cl C s₀ H₀ fp) elt te) (hsw:swapsWith (.ListComp elt [⟨.Name x px,iter,[],0⟩] scope pos) (some (.Name y py)) spos.line X.env=pure true:=by rfl)
    (hy:X.env.scope.names.lookup y=some .local:=by rfl) (hcm:X.calm=true:=by rfl) (hs:∀v,foldedSetIterable iter X.env v=pure v:=by intro _; rfl) :
    PS X (.Assign [.Name y py] (.ListComp elt [⟨.Name x px,iter,[],0⟩] scope pos) spos) (ZhO (tLc wi src te) (ZbG i)):=by
  subst hsc hN
  intro pins s σ H Dn I h
  obtain ⟨cl,hclos,hcl,hcl2⟩:=zZ (scope:=scope) (env:=X.env) fun y hy hf=>I.ok.has y.1 (.inl (S.free y hy hf))
  rw [exec_Assign_Name_used _ _ _ _ hsw]
  refine wpAny_bind (wpAny_standAt (wpAny_bind ?_))
  show wpAny _ X.A (do let _ ←comprehension (.ListComp elt [⟨.Name x px,iter,[],0⟩] scope pos) scope X.env _ (newList []) false (eval iter X.env) (some (assign (.Name y py) X.env))) _ _ s
  refine wpAny_bind (wpAny_mono (wpAny_comprehension_free (use:=some (assign (.Name y py) X.env)) (Q:=fun _ s'=>SP X pins Dn .next s') rfl hs hclos S.kind S.loc ?_) (fun _ s' hq=>wpAny_pure (wpAny_pure hq)) fun _ _ e=>e)
  refine thn (hi pins s σ H _ I h) fun v s1 h1=>thn h1 fun itv s2 h2=>?_
  obtain ⟨it,fp,tn,J,H2,e,I2,T,st2,f2,n,Pv,hn,p0,turn,done⟩:=h2
  subst e
  refine Zip I2 hcm S hcl hcl2 T st2 f2 helt hn p0 turn (fun ys H p=>(done ys H p).1) fun D C o ys H' s' p d J' hm ho=>?_
  show wpAny _ X.A (assign (.Name y py) X.env (.ref D)) _ _ _
  obtain ⟨m,hm⟩:=hm
  have hg:PG X (.Name y py) (ZbG i):=ZaO hnd hi' (.inl hy) (.inr hy)
  refine thn (hg _ s' σ _ (.ref D) (.ref D) (fun σ2 H3=>σ2=σ.set i (some (.ref D))∧H3=upd H' D (.lst ys)) J' rfl ⟨rfl,rfl⟩) fun _ s6 ⟨σ6,H6,I6,e6,e7⟩=>?_
  subst e6 e7
  have pc:=I6.pin (C,o) (by simp)
  have pc':=J'.pin (C,o) (by simp)
  refine ⟨m,hm.at fun q e=>?_,fun h' hs'=>?_⟩
  · rw [pc'.1] at e; cases e; exact pc.1
  have J2:Inv X pins (σ.set i (some (.ref D))) (upd H' D (.lst ys)) s6:=I6.pins_of fun q hq=>I6.pin q (List.mem_append_right _ (List.mem_append_left _ hq))
  obtain ⟨f0,f1,f2,f3,f4,f5⟩:=ho
  exact ⟨_,_,J2.turned (t':=s6.toks) (it:=C) (fun b o hb e=>(hs'.2 b hb).trans e) f0 f1 f3 f4 f5,(done ys H' p).2 D d⟩
end
end L2
namespace L2
open PySem PySem.Spec PyProof.Rows PySem.SeqAt
section
variable {X:Cx}
theorem Zhp {bs:List Bool}:(List.range bs.length).all (fun i=>bs.getD i false)=bs.all id:=by
  induction bs with
  | nil=>rfl
  | cons b r ih=>
    rw [List.length_cons,List.range_succ_eq_map,List.all_cons,List.all_map,List.all_cons]
    have:((fun i=>(b::r).getD i false)∘Nat.succ)=fun i=>r.getD i false:=by funext i; rfl
    rw [this,ih]
    rfl
theorem ZiK (hc:X.calm=true):CallR X (.builtin "all") (fun xs H Q=>∃(p:Addr) (bs:List Bool),xs=[.ref p]∧SqL X.K H p (bs.map V.bl)∧Q (.bl (bs.all id)) H):=by
  intro pins s σ H xs us Q I r h
  obtain ⟨p,bs,rfl,hq,q⟩:=h
  obtain ⟨u,rfl,rx⟩:=Zd6 r
  cases rx
  obtain ⟨its,r',pl,hz⟩:=I.list hq
  have hl:=r'.length
  rw [List.length_map] at hl
  refine call_all_walk (wpAny_pyIter_list pl.isList ?_)
  have hne:p≠s.heap.objs.size:=by
    obtain ⟨o,n,e,_⟩:=pl
    exact Nat.ne_of_lt (Heap.lt_size e)
  refine ⟨s.heap.objs.size,_,_,_,_,_,fun i=>bs.getD i false,rfl,Walks.list (A:=X.A.in1) (I.ok.hd hc) _ p hne its.toArray,⟨⟨_,Heap.get?_push_size _ rfl,rfl,rfl⟩,?_⟩,?_,fun h' tk hk=>?_⟩
  · obtain ⟨o,n,e,hc',hd,hs⟩:=pl
    exact ⟨o,Heap.get?_push_of_some _ e,hc',n,hs⟩
  · intro i v s2 Q2 E2 hp q2
    have hp':its[i]?=some v:=by simpa using hp
    have hi:i<bs.length:=by rw [hl]; exact (List.getElem?_eq_some_iff.mp hp').1
    obtain ⟨u,hu,ru⟩:=r'.get (i:=i) (x:=.bl (bs.getD i false)) (by rw [List.getElem?_map,List.getElem?_eq_getElem hi,List.getD_eq_getElem?_getD,List.getElem?_eq_getElem hi]; rfl)
    rw [hp'] at hu; cases hu
    cases ru
    exact wpAny_truthy_bool q2
  · refine ⟨.bl (bs.all id),H,(I.kept (t':=s.toks) fun b o e=>Heap.get?_push_of_some _ e).turned (it:=s.heap.objs.size) (fun b o hb e=>hk b o (by simpa using hb) e) (I.hok.fresh (Nat.le_refl _)) (Nat.ne_of_gt I.lt) (.inr I.sz) (fun x c e z=>?_) (fun q hq z=>?_),?_,q⟩
    · obtain ⟨v,w'⟩:=I.cell x c e
      exact absurd w'.lt (by rw [z]; exact Nat.lt_irrefl _)
    · exact absurd (Heap.lt_size (I.pin q hq).1) (by rw [z]; exact Nat.lt_irrefl _)
    · show Value.bool _=Value.bool _
      rw [List.size_toArray,←hl,Zhp]
mutual
inductive RdV (K:PySem.W.Frag) (H:Hp):V→PyData→Prop
  | non:RdV K H .non .none
  | bl (b:Bool):RdV K H (.bl b) (.bool b)
  | int (i:Int):RdV K H (.int i) (.int i)
  | str (x:Str):RdV K H (.str x) (.str x)
  | lst {a:Addr} {xs:List V} {ds:List PyData}:SqL K H a xs→RdVs K H xs ds→RdV K H (.ref a) (.list ds)
  | tup {a:Addr} {xs:List V} {ds:List PyData}:SqT K H a xs→RdVs K H xs ds→RdV K H (.ref a) (.tuple ds)
inductive RdVs (K:PySem.W.Frag) (H:Hp):List V→List PyData→Prop
  | nil:RdVs K H [] []
  | cons {x:V} {xs:List V} {d:PyData} {ds:List PyData}:RdV K H x d→RdVs K H xs ds→RdVs K H (x::xs) (d::ds)
end
mutual
theorem RdV.reads {pins:List (Addr×Obj)} {σ:St} {H:Hp} {s:Shared} (I:Inv X pins σ H s):∀{x:V} {d:PyData} {u:Value},RdV X.K H x d→RelV x u→∃as,Reads s.heap u d as
  | _,_,_,.non,r=>by cases r; exact ⟨_,.none⟩
  | _,_,_,.bl b,r=>by cases r; exact ⟨_,.bool b⟩
  | _,_,_,.int i,r=>by obtain ⟨t,rfl⟩:=r; exact ⟨_,.int i t⟩
  | _,_,_,.str x,r=>by obtain ⟨t,rfl⟩:=r; exact ⟨_,.str x t⟩
  | _,_,_,.lst h hs,r=>by
    cases r
    obtain ⟨its,rv,⟨o,n,e,hc,hd,hq⟩,_⟩:=I.list h
    obtain ⟨as,q⟩:=RdVs.reads I hs rv
    exact ⟨_,.list e hc hq (by simpa using q)⟩
  | _,_,_,.tup h hs,r=>by
    cases r
    obtain ⟨its,rv,⟨o,e,hc,n,hq⟩,_⟩:=I.tuple h
    obtain ⟨as,q⟩:=RdVs.reads I hs rv
    exact ⟨_,.tuple e hc hq (by simpa using q)⟩
theorem RdVs.reads {pins:List (Addr×Obj)} {σ:St} {H:Hp} {s:Shared} (I:Inv X pins σ H s):∀{xs:List V} {ds:List PyData} {us:List Value},RdVs X.K H xs ds→Vals xs us→∃as,ReadsAll s.heap us ds as
  | _,_,_,.nil,r=>by cases r; exact ⟨_,.nil⟩
  | _,_,_,.cons h hs,r=>by
    cases r with
    | cons r rr=>
      obtain ⟨as,q⟩:=RdV.reads I h r
      obtain ⟨bs,q2⟩:=RdVs.reads I hs rr
      exact ⟨_,.cons q q2⟩
end
theorem Zkq (hu:X.A.units+64<cLine):OpR X (compareOp .Eq) (fun x y H Q=>∃d e:PyData,RdV X.K H x d∧RdV X.K H y e∧shaped d=true∧shaped e=true∧noMix d e=true∧Q (.bl (same d e)) H):=by
  intro pins s σ H x y v u Q I rx ry h
  obtain ⟨d,e,hd,he,sd,se,hm,q⟩:=h
  obtain ⟨as,ra⟩:=hd.reads I rx
  obtain ⟨bs,rb⟩:=he.reads I ry
  exact eq_dataH_same ra rb sd se hu hm ⟨.bl _,H,I,rfl,q⟩
theorem Zko (hu:X.A.units+64<cLine):OpR X (compareOp .NotEq) (fun x y H Q=>∃d e:PyData,RdV X.K H x d∧RdV X.K H y e∧shaped d=true∧shaped e=true∧noMix d e=true∧Q (.bl (!same d e)) H):=by
  intro pins s σ H x y v u Q I rx ry h
  obtain ⟨d,e,hd,he,sd,se,hm,q⟩:=h
  obtain ⟨as,ra⟩:=hd.reads I rx
  obtain ⟨bs,rb⟩:=he.reads I ry
  exact ne_dataH_same ra rb sd se hu hm ⟨.bl _,H,I,rfl,q⟩
theorem Zcx:fillsNumberSlot (.type "tuple") "mul"=pure false:=
  PySem.fillsNumberSlot_seq (id:="tuple.__mul__") (r:=some (.builtin "tuple.__rmul__")) F.slot_tuple_mul.lookup (by decide +kernel) F.slot_tuple_rmul.lookup (by decide +kernel)
theorem Zev:seqRepeat? (.type "tuple")=pure (some (.builtin "tuple.__mul__")):=by
  unfold seqRepeat?
  rw [PySem.seqSlot_of (T:="tuple") (name:="__mul__") (id:="tuple.__mul__") F.slot_tuple_mul.lookup (by decide +kernel),PySem.seqSlot_of (T:="tuple") (name:="__rmul__") (id:="tuple.__rmul__") F.slot_tuple_rmul.lookup (by decide +kernel)]
  rfl
end
end L2
namespace L2
open PySem PySem.Spec PyProof.Rows Builtin
theorem ZdA (a:Int) (t:Tok) (l:Addr) (items:Array Value) (n:Nat) (dd:Option Addr) (sl:Array (Option Value)) :
    Meets (Builtin.«int.__rmul__» ⟨[.int a t,.ref l],[]⟩) (fun _ R s=>s.heap.get? l=some { cls:=.type "tuple",dict:=dd,data:=.seq items n,slots:=sl }∧R (.ok (.ret Value.notImplemented)) s):=
  .of_wp fun prog w A R s h=>by obtain ⟨hp,g,d,tk,os⟩:=s; obtain ⟨hl,h⟩:=h; wp_walk; exact ⟨_,rfl,h⟩
theorem ZdV (l:Addr) (items:Array Value) (n:Nat) (dd:Option Addr) (sl:Array (Option Value)) (u:Tok) :
    Meets (Builtin.«tuple.__mul__» ⟨[.ref l,.int 1 u],[]⟩) (fun _ R s=>s.heap.get? l=some { cls:=.type "tuple",dict:=dd,data:=.seq items n,slots:=sl }∧R (.ok (.ret (Value.ref l))) s):=
  .of_wp fun prog w A R s h=>by
    obtain ⟨hp,g,d,tk,os⟩:=s; obtain ⟨hl,h⟩:=h
    wp_walk
    exact ⟨_,rfl,h⟩
theorem Zde (l:Addr) (items:Array Value) (n:Nat) (dd:Option Addr) (sl:Array (Option Value)) (u:Tok) (h0:items.isEmpty=false) :
    Meets (Builtin.«tuple.__mul__» ⟨[.ref l,.int 0 u],[]⟩) (fun _ R s=>s.heap.get? l=some { cls:=.type "tuple",dict:=dd,data:=.seq items n,slots:=sl }∧R (.ok (.ret (Value.ref s.heap.objs.size))) { s with heap:=s.heap.push { cls:=.type "tuple",data:=.seq #[] } }):=
  .of_wp fun prog w A R s h=>by
    obtain ⟨hp,g,d,tk,os⟩:=s; obtain ⟨hl,h⟩:=h
    wp_walk
    exact ⟨_,rfl,h⟩
theorem Zdf (l:Addr) (items:Array Value) (n:Nat) (dd:Option Addr) (sl:Array (Option Value)) (x:Int) (u:Tok) (h0:items.isEmpty=false) (h1:2≤x) (h2:x<1000) (h3:items.size*x≤1000) :
    Meets (Builtin.«tuple.__mul__» ⟨[.ref l,.int x u],[]⟩) (fun _ R s=>s.heap.get? l=some { cls:=.type "tuple",dict:=dd,data:=.seq items n,slots:=sl }∧R (.ok (.ret (Value.ref s.heap.objs.size))) { s with heap:=s.heap.push { cls:=.type "tuple",data:=.seq (List.foldl (fun x1 x2=>x1++x2) #[] (List.replicate x.toNat items)) } }):=
  .of_wp fun prog w A R s h=>by
    obtain ⟨hp,g,d,tk,os⟩:=s; obtain ⟨hl,h⟩:=h
    have c1:¬(decide (x < -(2 ^ 63)) || decide (x≥2 ^ 63))=true:=by rw [decide_eq_false (by omega),decide_eq_false (by omega)]; decide
    have c2:¬(items.isEmpty || x == 1)=true:=by
      have:(x == 1)=false:=by simp; omega
      rw [h0,this]; decide
    have c3:¬(decide (x≤0) || items.isEmpty)=true:=by rw [h0,decide_eq_false (by omega)]; decide
    have c4:¬((items.size:Int)*x > (2 ^ 63-1)/8):=by omega
    have c5:¬Tuple.tupleTooMany ((items.size:Int)*x)=true:=by
      unfold Tuple.tupleTooMany
      rw [decide_eq_false (by rw [sizeLine_eq]; omega)]
      decide
    wp_walk
    rw [if_neg c1]
    wp_walk
    rw [if_neg c2]
    show wpAny (model prog w) A.in1 (if (decide (x≤0) || items.isEmpty)=true then _ else if (items.size:Int)*x > (2 ^ 63-1)/8 then _ else if Tuple.tupleTooMany ((items.size:Int)*x)=true then _ else _) _ _ _
    rw [if_neg c3,if_neg c4,if_neg c5]
    have hz:(List.foldl (fun x1 x2=>x1++x2) #[] (List.replicate x.toNat items)).size≤sizeLine:=by
      have:(List.replicate x.toNat items).foldl (fun x1 x2=>x1++x2) #[]=(List.replicate x.toNat items.toList).flatten.toArray:=by
        have:=Zbt items.toList x.toNat []
        simpa using this
      rw [this,List.size_toArray,ZeP,sizeLine_eq]
      have e:items.toList.length=items.size:=by simp
      rw [e]
      have e2:((x.toNat*items.size:Nat):Int)=(items.size:Int)*x:=by
        rw [Int.natCast_mul,Int.mul_comm]
        congr 1
        omega
      omega
    wp_walk
    exact ⟨_,rfl,h⟩
section
variable {X:Cx}
def Zlc (K:PySem.W.Frag):R2:=fun x y H Q=>∃(a:Addr) (k:Int) (xs:List V),x=.ref a∧y=.int k∧SqT K H a xs∧xs≠[]∧0≤k∧k<1000∧(xs.length:Int)*k≤1000∧
  (k=1→Q (.ref a) H)∧(k≠1→∀p,H p=none→Q (.ref p) (upd H p (.tup (List.replicate k.toNat xs).flatten)))
theorem op_repT:OpR X (binaryOp .Mult) (Zlc X.K):=by
  intro pins s σ H x y v u Q I rx ry h
  obtain ⟨a,k,xs,rfl,rfl,hH,hne,h0,h1,h2,q1,q2⟩:=h
  cases rx
  obtain ⟨t,rfl⟩:=ry
  obtain ⟨its,r,pl,hz⟩:=I.tuple hH
  obtain ⟨⟨oc,dd,data,sl⟩,e,hc,n,hd⟩:=pl
  simp only at hc hd
  subst hc hd
  have hl:=r.length
  have he:its.toArray.isEmpty=false:=by
    cases r with
    | nil=>exact absurd rfl hne
    | cons _ _=>rfl
  refine wpAny_binaryOp_repeat_ref (T:="tuple") (U:="int") (by decide) ⟨_,e,rfl⟩ (fun s'=>typeIs_int s' k t) Zcx F.fills_int_mul F.slot_int_rmul Zev F.slot_int_index.lookup
    (call_meets F.slot_int_rmul (typeIs_int s k t) F.entry_int_rmul (F.args_int_rmul_2 _ _) (ZdA k t a its.toArray n dd sl) ⟨e,rfl,⟨_,e,rfl⟩,?_⟩)
  by_cases k1:k=1
  · subst k1
    exact call_meets F.slot_tuple_mul ⟨_,e,rfl⟩ F.entry_tuple_mul (F.args_tuple_mul_2 _ _) (ZdV a its.toArray n dd sl t) ⟨e,.ref a,H,I,rfl,q1 rfl⟩
  · by_cases k0:k=0
    · subst k0
      refine call_meets F.slot_tuple_mul ⟨_,e,rfl⟩ F.entry_tuple_mul (F.args_tuple_mul_2 _ _) (Zde a its.toArray n dd sl t he) ⟨e,.ref s.heap.objs.size,_,I.laid (t':=s.toks) (o:=.tup []) (fun b ob q=>Heap.get?_push_of_some _ q) (Nat.le_refl _) ?_,rfl,?_⟩
      · exact ⟨Nat.zero_le _,[],.nil,IsTup.new _ _⟩
      · exact q2 k1 _ (I.hok.fresh (Nat.le_refl _))
    · refine call_meets F.slot_tuple_mul ⟨_,e,rfl⟩ F.entry_tuple_mul (F.args_tuple_mul_2 _ _) (Zdf a its.toArray n dd sl k t he (by omega) h1 (by rw [List.size_toArray,←hl]; exact h2)) ⟨e,?_⟩
      have hnew:List.foldl (fun x1 x2=>x1++x2) #[] (List.replicate k.toNat its.toArray)=(List.replicate k.toNat its).flatten.toArray:=by
        have:=Zbt its k.toNat []
        rw [List.nil_append] at this
        exact this
      rw [hnew]
      refine ⟨.ref s.heap.objs.size,_,I.laid (t':=s.toks) (o:=.tup (List.replicate k.toNat xs).flatten) (fun b ob q=>Heap.get?_push_of_some _ q) (Nat.le_refl _) ?_,rfl,q2 k1 _ (I.hok.fresh (Nat.le_refl _))⟩
      refine ⟨?_,_,r.rep k.toNat,IsTup.new _ _⟩
      rw [ZeP,sizeLine_eq]
      have e2:((k.toNat*xs.length:Nat):Int)=(xs.length:Int)*k:=by
        rw [Int.natCast_mul,Int.mul_comm]
        congr 1
        omega
      omega
end
end L2
namespace My
open PySem L2
end My
namespace L2.MM
open PySem PySem.Spec PyProof.Rows
theorem nr {α:Sort _} {a b:α} (h:a=b):a=b:=h
inductive D where
  | non | bl (b:Bool) | int (i:Int) | str (x:Str) | ty (n:String)
  | scr (ns:List Int) | tup (xs:List D) | lst (xs:List D) | ref (l:Nat)
  deriving Inhabited
inductive Zgf where
  | lst (xs:List D) | dK (kvs:List (Key×D)) | dT (kvs:List (List Key×D)) | ins (C:Str) (fs:List (Str×D))
abbrev Sto:=List Zgf
structure Bx where
  n:Nat
  m:Nat→Addr
  F:Addr→Prop
  os:List Addr
  ks:Addr→List Int→Prop
def Bx.ok (B:Bx) (a:Addr):Prop:=(∀i,i<B.n→B.m i≠a)∧¬B.F a∧a∉B.os
mutual
def RepV (B:Bx) (H:Hp):D→V→Prop
  | .non,v=>v=.non
  | .bl b,v=>v=.bl b
  | .int i,v=>v=.int i
  | .str x,v=>v=.str x
  | .ty n,v=>v=.ty n
  | .scr ns,v=>∃a,v=.ref a∧((∃o,H a=some (.frz o (.lst (ns.map V.int)))∧B.ok a)∨B.ks a ns)
  | .tup xs,v=>∃a vs,v=.ref a∧H a=some (.tup vs)∧B.ok a∧RepL B H xs vs
  | .lst xs,v=>∃a vs,v=.ref a∧H a=some (.lst vs)∧B.ok a∧RepL B H xs vs
  | .ref l,v=>l<B.n∧v=.ref (B.m l)
def RepL (B:Bx) (H:Hp):List D→List V→Prop
  | [],vs=>vs=[]
  | d::ds,vs=>∃v r,vs=v::r∧RepV B H d v∧RepL B H ds r
end
abbrev RepKV {κ:Type} (B:Bx) (H:Hp):List (κ×D)→List (κ×V)→Prop:=Paired fun p q=>p.1=q.1∧RepV B H p.2 q.2
structure ExtS (B B':Bx) (H H':Hp):Prop where
  n:B.n≤B'.n
  m:∀i,i<B.n→B'.m i=B.m i
  fr:∀i,B.n≤i→i<B'.n→H (B'.m i)=none
  keep:∀a o,H a=some o→(∀i,i<B.n→B.m i≠a)→a∉B.os→H' a=some o
  sm:∀a,H a≠none→H' a≠none
  os:∀a,a∈B'.os→a∈B.os∨H a=none
  F:B'.F=B.F
  ks:B'.ks=B.ks
structure ExtE (B B':Bx) (H H':Hp):Prop extends ExtS B B' H H' where
  osE:B'.os=B.os
  ko:∀a o,a∈B.os→(∀i,i<B.n→B.m i≠a)→H a=some o→H' a=some o
theorem ExtS.refl (B:Bx) (H:Hp):ExtS B B H H:=⟨Nat.le_refl _,fun _ _=>rfl,fun i h h'=>absurd h' (Nat.not_lt.mpr h),fun _ _ h _ _=>h,fun _ h=>h,fun _ h=>.inl h,rfl,rfl⟩
theorem ExtE.refl (B:Bx) (H:Hp):ExtE B B H H:=⟨ExtS.refl B H,rfl,fun _ _ _ _ h=>h⟩
section
variable {B B' B'':Bx} {H H' H'':Hp}
theorem Bx.ok.ext {a:Addr} {o:HO} (k:B.ok a) (E:ExtS B B' H H') (h:H a=some o):B'.ok a∧H' a=some o:=by
  refine ⟨⟨fun i hi e=>?_,by rw [E.F]; exact k.2.1,fun z=>?_⟩,E.keep a o h k.1 k.2.2⟩
  · by_cases q:i<B.n
    · rw [E.m i q] at e; exact k.1 i q e
    · have:=E.fr i (Nat.not_lt.mp q) hi
      rw [e,h] at this; cases this
  · rcases E.os a z with z | z
    · exact k.2.2 z
    · rw [h] at z; cases z
theorem ExtS.trans (E:ExtS B B' H H') (E':ExtS B' B'' H' H''):ExtS B B'' H H'' where
  n:=Nat.le_trans E.n E'.n
  m:=fun i hi=>(E'.m i (Nat.lt_of_lt_of_le hi E.n)).trans (E.m i hi)
  fr:=fun i h1 h2=>by
    by_cases q:i<B'.n
    · rw [E'.m i q]; exact E.fr i h1 q
    · cases z:H (B''.m i) with
      | none=>rfl
      | some o=>exact absurd (E'.fr i (Nat.not_lt.mp q) h2) (E.sm _ (by rw [z]; simp))
  keep:=fun a o h h1 h2=>by
    have h':=E.keep a o h h1 h2
    refine E'.keep a o h' (fun i hi e=>?_) (fun z=>?_)
    · by_cases q:i<B.n
      · rw [E.m i q] at e; exact h1 i q e
      · have:=E.fr i (Nat.not_lt.mp q) hi
        rw [e,h] at this; cases this
    · rcases E.os a z with z | z
      · exact h2 z
      · rw [h] at z; cases z
  sm:=fun a h=>E'.sm a (E.sm a h)
  os:=fun a h=>by
    rcases E'.os a h with z | z
    · exact E.os a z
    · right
      cases q:H a with
      | none=>rfl
      | some o=>exact absurd z (E.sm a (by rw [q]; simp))
  F:=E'.F.trans E.F
  ks:=E'.ks.trans E.ks
theorem ExtE.trans (E:ExtE B B' H H') (E':ExtE B' B'' H' H''):ExtE B B'' H H'' where
  toExtS:=E.toExtS.trans E'.toExtS
  osE:=E'.osE.trans E.osE
  ko:=fun a o ha h1 h=>by
    have h':=E.ko a o ha h1 h
    refine E'.ko a o (by rw [E.osE]; exact ha) (fun i hi e=>?_) h'
    by_cases q:i<B.n
    · rw [E.m i q] at e; exact h1 i q e
    · have:=E.fr i (Nat.not_lt.mp q) hi
      rw [e,h] at this; cases this
mutual
theorem RepV.ext (E:ExtS B B' H H'):∀{d:D} {v:V},RepV B H d v→RepV B' H' d v
  | .non,_,h=>h
  | .bl _,_,h=>h
  | .int _,_,h=>h
  | .str _,_,h=>h
  | .ty _,_,h=>h
  | .scr _,_,h=>by
    obtain ⟨a,e,h⟩:=h
    refine ⟨a,e,?_⟩
    rcases h with ⟨o,h,k⟩ | h
    · obtain ⟨k',h'⟩:=k.ext E h
      exact .inl ⟨o,h',k'⟩
    · exact .inr (by rw [E.ks]; exact h)
  | .tup _,_,h=>by
    obtain ⟨a,vs,e,h,k,l⟩:=h
    obtain ⟨k',h'⟩:=k.ext E h
    exact ⟨a,vs,e,h',k',RepL.ext E l⟩
  | .lst _,_,h=>by
    obtain ⟨a,vs,e,h,k,l⟩:=h
    obtain ⟨k',h'⟩:=k.ext E h
    exact ⟨a,vs,e,h',k',RepL.ext E l⟩
  | .ref l,_,h=>⟨Nat.lt_of_lt_of_le h.1 E.n,by rw [h.2,E.m l h.1]⟩
theorem RepL.ext (E:ExtS B B' H H'):∀{ds:List D} {vs:List V},RepL B H ds vs→RepL B' H' ds vs
  | [],_,h=>h
  | _::_,_,h=>by
    obtain ⟨v,r,e,hv,hr⟩:=h
    exact ⟨v,r,e,RepV.ext E hv,RepL.ext E hr⟩
end
theorem RepL.len:∀{ds:List D} {vs:List V},RepL B H ds vs→vs.length=ds.length
  | [],_,h=>by cases (show _=[] from h); rfl
  | _::_,_,h=>by
    obtain ⟨v,r,rfl,_,hr⟩:=h
    simp [RepL.len hr]
theorem RepL.app:∀{ds es:List D} {vs us:List V},RepL B H ds vs→RepL B H es us→RepL B H (ds++es) (vs++us)
  | [],_,_,_,h,q=>by cases (show _=[] from h); exact q
  | _::_,_,_,_,h,q=>by
    obtain ⟨v,r,rfl,hv,hr⟩:=h
    exact ⟨v,_,rfl,hv,RepL.app hr q⟩
theorem RepL.get:∀{ds:List D} {vs:List V} {i:Nat} {d:D},RepL B H ds vs→ds[i]?=some d→∃v,vs[i]?=some v∧RepV B H d v
  | [],_,_,_,_,e=>by simp at e
  | _::_,_,0,_,h,e=>by
    obtain ⟨v,r,rfl,hv,_⟩:=h
    simp at e; subst e
    exact ⟨v,rfl,hv⟩
  | _::_,_,i+1,_,h,e=>by
    obtain ⟨v,r,rfl,_,hr⟩:=h
    obtain ⟨w,q1,q2⟩:=RepL.get (i:=i) hr (by simpa using e)
    exact ⟨w,by simpa using q1,q2⟩
theorem RepL.take:∀{ds:List D} {vs:List V} (n:Nat),RepL B H ds vs→RepL B H (ds.take n) (vs.take n)
  | _,_,0,_=>by rw [List.take_zero,List.take_zero]; exact rfl
  | [],_,n+1,h=>by cases (show _=[] from h); exact rfl
  | _::_,_,n+1,h=>by
    obtain ⟨v,r,rfl,hv,hr⟩:=h
    exact ⟨v,_,rfl,hv,RepL.take n hr⟩
theorem RepL.drop:∀{ds:List D} {vs:List V} (n:Nat),RepL B H ds vs→RepL B H (ds.drop n) (vs.drop n)
  | _,_,0,h=>h
  | [],_,n+1,h=>by cases (show _=[] from h); exact rfl
  | _::_,_,n+1,h=>by
    obtain ⟨v,r,rfl,hv,hr⟩:=h
    exact RepL.drop n hr
theorem RepL.map {α:Type} {f:α→D} {g:α→V} (q:∀a,RepV B H (f a) (g a)):∀l:List α,RepL B H (l.map f) (l.map g)
  | []=>rfl
  | a::l=>⟨_,_,rfl,q a,RepL.map q l⟩
theorem RepKV.ext {κ:Type} (E:ExtS B B' H H'):∀{ks:List (κ×D)} {vs:List (κ×V)},RepKV B H ks vs→RepKV B' H' ks vs
  | _,_,.nil=>.nil
  | _,_,.cons h t=>.cons ⟨h.1,RepV.ext E h.2⟩ (RepKV.ext E t)
end
structure Mo where
  cl:Str→Addr
  K:PySem.W.Frag
def KL (K:PySem.W.Frag) (a:Addr) (ns:List Int):Prop:=∃(o:Obj) (its:Array Value) (n:Nat),K.lookup a=some o∧o.cls=.type "list"∧o.dict=none∧o.data=.seq its n∧its.size≤sizeLine∧Vals (ns.map V.int) its.toList
def CellOk (cl:Mo) (B:Bx) (H:Hp) (a:Addr):Zgf→Prop
  | .lst xs=>∃vs,H a=some (.lst vs)∧RepL B H xs vs
  | .dK kvs=>∃vs,H a=some (.dK vs)∧RepKV B H kvs vs
  | .dT kvs=>∃vs,H a=some (.dT vs)∧RepKV B H kvs vs
  | .ins C fs=>∃dx vs,H a=some (.ins (cl.cl C) dx vs)∧RepKV B H fs vs
structure Good (cl:Mo) (B:Bx) (θ:Sto) (H:Hp):Prop where
  len:θ.length=B.n
  inj:∀i j,i<B.n→j<B.n→B.m i=B.m j→i=j
  cel:∀i c,θ[i]?=some c→CellOk cl B H (B.m i) c
  cF:∀i,i<B.n→¬B.F (B.m i)∧B.m i∉B.os
  Fs:∀a,B.F a→H a≠none
  oS:∀a,a∈B.os→H a≠none
  oF:∀a,a∈B.os→¬B.F a
  kc:∀a ns,B.ks a ns→KL cl.K a ns
section
variable {cl:Mo} {B B' B'':Bx} {H H' H'':Hp} {θ θ':Sto}
theorem CellOk.ext {a:Addr} {c:Zgf} (k:CellOk cl B H a c) (E:ExtS B B' H H') (h:∀o,H a=some o→H' a=some o):CellOk cl B' H' a c:=by
  cases c with
  | lst xs=>obtain ⟨vs,e,r⟩:=k; exact ⟨vs,h _ e,r.ext E⟩
  | dK kvs=>obtain ⟨vs,e,r⟩:=k; exact ⟨vs,h _ e,r.ext E⟩
  | dT kvs=>obtain ⟨vs,e,r⟩:=k; exact ⟨vs,h _ e,r.ext E⟩
  | ins C fs=>obtain ⟨dx,vs,e,r⟩:=k; exact ⟨dx,vs,h _ e,r.ext E⟩
theorem CellOk.there {a:Addr} {c:Zgf} (k:CellOk cl B H a c):H a≠none:=by
  cases c with
  | lst xs=>obtain ⟨vs,e,r⟩:=k; rw [e]; simp
  | dK kvs=>obtain ⟨vs,e,r⟩:=k; rw [e]; simp
  | dT kvs=>obtain ⟨vs,e,r⟩:=k; rw [e]; simp
  | ins C fs=>obtain ⟨dx,vs,e,r⟩:=k; rw [e]; simp
theorem Good.there (G:Good cl B θ H) {i:Nat} (hi:i<B.n):H (B.m i)≠none:=by
  have:i < θ.length:=by rw [G.len]; exact hi
  exact (G.cel i _ (List.getElem?_eq_getElem this)).there
theorem Good.okNone (G:Good cl B θ H) {p:Addr} (h:H p=none):B.ok p:=
  ⟨fun i hi e=>G.there hi (by rw [e]; exact h),fun z=>G.Fs p z h,fun z=>G.oS p z h⟩
theorem Zaj (G:Good cl B θ H) {p:Addr} (h:H p=none) (o:HO):ExtE B B H (upd H p o):=by
  have ne:∀a u,H a=some u→upd H p o a=some u:=fun a u e=>by rw [Zq (ZE e h)]; exact e
  exact ⟨⟨Nat.le_refl _,fun _ _=>rfl,fun i h h'=>absurd h' (Nat.not_lt.mpr h),fun a u e _ _=>ne a u e,fun a e=>by
    cases q:H a with
    | none=>exact absurd q e
    | some u=>rw [ne a u q]; simp,fun _ h=>.inl h,rfl,rfl⟩,rfl,fun a u _ _ e=>ne a u e⟩
theorem Zci (G:Good cl B θ H) {p:Addr} (h:H p=none) (o:HO):Good cl B θ (upd H p o):=by
  have E:=Zaj G h o
  exact ⟨G.len,G.inj,fun i c e=>(G.cel i c e).ext E.toExtS fun u q=>by rw [Zq (ZE q h)]; exact q,G.cF,fun a z=>E.sm a (G.Fs a z),fun a z=>E.sm a (G.oS a z),G.oF,G.kc⟩
theorem Zi2 (G:Good cl B θ H) {p:Addr} (h:H p=none) {xs:List D} {vs:List V} (r:RepL B H xs vs):RepV B (upd H p (.lst vs)) (.lst xs) (.ref p):=
  ⟨p,vs,rfl,ZX,G.okNone h,r.ext (Zaj G h _).toExtS⟩
theorem Zi1 (G:Good cl B θ H) {p:Addr} (h:H p=none) {xs:List D} {vs:List V} (r:RepL B H xs vs):RepV B (upd H p (.tup vs)) (.tup xs) (.ref p):=
  ⟨p,vs,rfl,ZX,G.okNone h,r.ext (Zaj G h _).toExtS⟩
def Bx.push (B:Bx) (p:Addr):Bx:={ B with n:=B.n+1,m:=fun i=>if i=B.n then p else B.m i }
theorem ZdG (G:Good cl B θ H) {p:Addr} (h:H p=none) (o:HO):ExtE B (B.push p) H (upd H p o):=by
  have E:=Zaj G h o
  refine ⟨⟨Nat.le_succ _,fun i hi=>if_neg (Nat.ne_of_lt hi),fun i h1 h2=>?_,E.keep,E.sm,fun _ h=>.inl h,rfl,rfl⟩,rfl,E.ko⟩
  have e:i=B.n:=Nat.le_antisymm (Nat.le_of_lt_succ h2) h1
  show H (if i=B.n then p else B.m i)=none
  rw [if_pos e]; exact h
theorem Zhj (G:Good cl B θ H) {p:Addr} (h:H p=none) {o:HO} {c:Zgf} (k:CellOk cl (B.push p) (upd H p o) p c):Good cl (B.push p) (θ++[c]) (upd H p o):=by
  have E:=ZdG G h o
  have hm:∀i,i<B.n→(B.push p).m i=B.m i:=fun i hi=>if_neg (Nat.ne_of_lt hi)
  have hn:(B.push p).m B.n=p:=if_pos rfl
  have cs:∀i,i<(B.push p).n→i<B.n∨i=B.n:=fun i hi=>Nat.lt_succ_iff_lt_or_eq.mp hi
  have ok:=G.okNone h
  refine ⟨by rw [List.length_append,G.len]; rfl,fun i j hi hj e=>?_,fun i c' e=>?_,fun i hi=>?_,fun a z=>E.sm a (G.Fs a z),fun a z=>E.sm a (G.oS a z),G.oF,G.kc⟩
  · rcases cs i hi with a | a<;>rcases cs j hj with b | b
    · rw [hm i a,hm j b] at e; exact G.inj i j a b e
    · rw [hm i a,b,hn] at e; exact absurd e (ok.1 i a)
    · rw [hm j b,a,hn] at e; exact absurd e.symm (ok.1 j b)
    · rw [a,b]
  · by_cases q:i < θ.length
    · rw [List.getElem?_append_left q] at e
      rw [hm i (by rw [←G.len]; exact q)]
      exact (G.cel i c' e).ext E.toExtS fun u z=>by rw [Zq (ZE z h)]; exact z
    · have q':=Nat.not_lt.mp q
      rw [List.getElem?_append_right q'] at e
      have:i - θ.length=0:=by
        cases z:i - θ.length with
        | zero=>rfl
        | succ k=>rw [z] at e; simp at e
      rw [this] at e
      simp at e
      subst e
      have:i=B.n:=by rw [←G.len]; omega
      rw [this,hn]; exact k
  · rcases cs i hi with a | a
    · rw [hm i a]; exact G.cF i a
    · rw [a,hn]; exact ⟨ok.2.1,ok.2.2⟩
theorem ZeT (G:Good cl B θ H) {l:Nat} (hl:l<B.n) (o:HO):ExtE B B H (upd H (B.m l) o):=by
  have ne:∀a u,(∀i,i<B.n→B.m i≠a)→H a=some u→upd H (B.m l) o a=some u:=fun a u k e=>by rw [Zq (Ne.symm (k l hl))]; exact e
  exact ⟨⟨Nat.le_refl _,fun _ _=>rfl,fun i h h'=>absurd h' (Nat.not_lt.mpr h),fun a u e k _=>ne a u k e,fun a e=>by
    by_cases q:a=B.m l
    · rw [q,ZX]; simp
    · rw [Zq q]; exact e,fun _ h=>.inl h,rfl,rfl⟩,rfl,fun a u _ k e=>ne a u k e⟩
theorem ZfA (G:Good cl B θ H) {l:Nat} (hl:l<B.n) {o:HO} {c:Zgf} (k:CellOk cl B (upd H (B.m l) o) (B.m l) c):Good cl B (θ.set l c) (upd H (B.m l) o):=by
  have E:=ZeT G hl o
  refine ⟨by rw [List.length_set]; exact G.len,G.inj,fun i c' e=>?_,G.cF,fun a z=>E.sm a (G.Fs a z),fun a z=>E.sm a (G.oS a z),G.oF,G.kc⟩
  by_cases q:i=l
  · subst q
    rw [List.getElem?_set_self (by rw [G.len]; exact hl)] at e
    cases e; exact k
  · rw [List.getElem?_set_ne (Ne.symm q)] at e
    have hi:i<B.n:=by rw [←G.len]; exact (List.getElem?_eq_some_iff.mp e).1
    exact (G.cel i c' e).ext E.toExtS fun u z=>by rw [Zq (fun z'=>q (G.inj i l hi hl z'))]; exact z
end
inductive R (α:Type) where
  | ok (a:α) (θ:Sto) | ex (c:Str) (θ:Sto) | bad
def R.bind {α β:Type} (r:R α) (k:α→Sto→R β):R β:=match r with
  | .ok a θ=>k a θ
  | .ex c θ=>.ex c θ
  | .bad=>.bad
@[simp] theorem R.bind_ok {α β:Type} (a:α) (θ:Sto) (k:α→Sto→R β):(R.ok a θ).bind k=k a θ:=nr rfl
@[simp] theorem R.bind_ex {α β:Type} (c:Str) (θ:Sto) (k:α→Sto→R β):(R.ex c θ:R α).bind k=.ex c θ:=nr rfl
@[simp] theorem R.bind_bad {α β:Type} (k:α→Sto→R β):(R.bad:R α).bind k=.bad:=nr rfl
inductive Sl where
  | no | val (d:D) | own (xs:List D)
structure Frm (cl:Mo) (B:Bx) (θ:Sto) (ρ:List Sl) (σ:St) (H:Hp):Prop where
  good:Good cl B θ H
  len:ρ.length=σ.length
  val:∀(i:Nat) (d:D),ρ[i]?=some (Sl.val d)→∃v,σ[i]?=some (some v)∧RepV B H d v
  own:∀(i:Nat) (xs:List D),ρ[i]?=some (Sl.own xs)→∃a vs,σ[i]?=some (some (.ref a))∧a∈B.os∧H a=some (.lst vs)∧RepL B H xs vs
  ne:∀(i j:Nat) (xs ys:List D) (a:Addr),i≠j→ρ[i]?=some (Sl.own xs)→ρ[j]?=some (Sl.own ys)→σ[i]?=some (some (.ref a))→σ[j]?≠some (some (.ref a))
theorem Frm.ext {cl:Mo} {B B':Bx} {θ θ':Sto} {ρ:List Sl} {σ:St} {H H':Hp} (F:Frm cl B θ ρ σ H) (E:ExtE B B' H H') (G:Good cl B' θ' H'):Frm cl B' θ' ρ σ H' where
  good:=G
  len:=F.len
  val:=fun i d e=>let ⟨v,h1,h2⟩:=F.val i d e; ⟨v,h1,h2.ext E.toExtS⟩
  own:=fun i xs e=>by
    obtain ⟨a,vs,h1,h2,h3,h4⟩:=F.own i xs e
    exact ⟨a,vs,h1,by rw [E.osE]; exact h2,E.ko a _ h2 (fun i hi z=>(F.good.cF i hi).2 (by rw [z]; exact h2)) h3,h4.ext E.toExtS⟩
  ne:=F.ne
def ZdK (mg:Str→Option Value) (x:Str):Addr:=match mg x with
  | some (.ref a)=>a
  | _=>0
abbrev _root_.L2.Cx.cl (X:Cx):Mo:=⟨ZdK X.mg,X.K⟩
def XE (X:Cx) (σ:St) (B:Bx) (H:Hp) (c:Str) (θ':Sto):Prop:=False
theorem XE.trans {X:Cx} {σ:St} {B B':Bx} {H H':Hp} {c:Str} {θ':Sto} (h:XE X σ B H c θ') (E:ExtE B B' H H'):XE X σ B' H' c θ':=h
def wpR (X:Cx) (σ:St) {α β:Type} (Rel:Bx→Hp→α→β→Prop) (B:Bx) (H:Hp) (r:R α) (Q:β→Hp→Prop):Prop:=match r with
  | .ok a θ'=>∀B' H' b,ExtE B B' H H'→Good X.cl B' θ' H'→Rel B' H' a b→Q b H'
  | .ex c θ'=>XE X σ B H c θ'
  | .bad=>False
section
variable {X:Cx} {σ:St} {α β γ δ:Type} {Rel:Bx→Hp→α→β→Prop} {Rel':Bx→Hp→γ→δ→Prop} {B B':Bx} {H H':Hp}
theorem wpR.mono {r:R α} {Q Q':β→Hp→Prop} (h:wpR X σ Rel B H r Q) (hQ:∀b H',Q b H'→Q' b H'):wpR X σ Rel B H r Q':=by
  cases r with
  | ok a θ'=>exact fun B' H' b e g q=>hQ _ _ (h B' H' b e g q)
  | ex c θ'=>exact h
  | bad=>exact h
theorem wpR.trans {r:R α} {Q:β→Hp→Prop} (h:wpR X σ Rel B H r Q) (E:ExtE B B' H H'):wpR X σ Rel B' H' r Q:=by
  cases r with
  | ok a θ'=>exact fun B2 H2 b e g q=>h B2 H2 b (E.trans e) g q
  | ex c θ'=>exact XE.trans (c:=c) (θ':=θ') (σ:=σ) (X:=X) h E
  | bad=>exact h
theorem wpR.bind {r:R α} {k:α→Sto→R γ} {Q:δ→Hp→Prop} (h:wpR X σ Rel' B H (r.bind k) Q) :
    wpR X σ Rel B H r (fun b H1=>∃B1 θ1 a,ExtE B B1 H H1∧Good X.cl B1 θ1 H1∧Rel B1 H1 a b∧wpR X σ Rel' B1 H1 (k a θ1) Q):=by
  cases r with
  | ok a θ'=>exact fun B1 H1 b E g q=>⟨B1,θ',a,E,g,q,wpR.trans h E⟩
  | ex c θ'=>exact h
  | bad=>exact h
end
abbrev EM:=List Sl→Sto→R D
abbrev TMr:=List Sl→Sto→R Bool
abbrev AM:=List Sl→Sto→R (List D)
def EqB (_:Bx) (_:Hp) (a b:Bool):Prop:=a=b
def tM (X:Cx) (f:EM):TE:=fun σ H Q=>∃B θ ρ,Frm X.cl B θ ρ σ H∧wpR X σ RepV B H (f ρ θ) Q
def tMT (X:Cx) (f:TMr):TT:=fun σ H Q=>∃B θ ρ,Frm X.cl B θ ρ σ H∧wpR X σ EqB B H (f ρ θ) Q
def tMA (X:Cx) (f:AM):TA:=fun σ H Q=>∃B θ ρ,Frm X.cl B θ ρ σ H∧wpR X σ RepL B H (f ρ θ) Q
def ME (X:Cx) (e:Expr) (f:EM):Prop:=PE X e (tM X f)
def MT (X:Cx) (e:Expr) (f:TMr):Prop:=PT X e (tMT X f)
def MW (X:Cx) (e:Expr) (f:TMr):Prop:=PW X e (tMT X f)
def MA (X:Cx) (es:List Expr) (f:AM):Prop:=PA X es (tMA X f)
section
variable {X:Cx} {σ:St} {H:Hp} {γ δ:Type} {Rel':Bx→Hp→γ→δ→Prop}
theorem ZB {f:EM} {Q Q':VK} (h:tM X f σ H Q) (hQ:∀v H',Q v H'→Q' v H'):tM X f σ H Q':=let ⟨B,θ,ρ,F,w⟩:=h; ⟨B,θ,ρ,F,w.mono hQ⟩
theorem Za6 {f:TMr} {Q Q':Bool→Hp→Prop} (h:tMT X f σ H Q) (hQ:∀v H',Q v H'→Q' v H'):tMT X f σ H Q':=let ⟨B,θ,ρ,F,w⟩:=h; ⟨B,θ,ρ,F,w.mono hQ⟩
theorem zG {f:AM} {Q Q':List V→Hp→Prop} (h:tMA X f σ H Q) (hQ:∀v H',Q v H'→Q' v H'):tMA X f σ H Q':=let ⟨B,θ,ρ,F,w⟩:=h; ⟨B,θ,ρ,F,w.mono hQ⟩
variable {B:Bx} {θ:Sto} {ρ:List Sl}
theorem step {f:EM} {k:D→Sto→R γ} {Q:δ→Hp→Prop} (F:Frm X.cl B θ ρ σ H) (h:wpR X σ Rel' B H ((f ρ θ).bind k) Q) :
    tM X f σ H (fun v H1=>∃B1 θ1 d,ExtE B B1 H H1∧Frm X.cl B1 θ1 ρ σ H1∧RepV B1 H1 d v∧wpR X σ Rel' B1 H1 (k d θ1) Q):=
  ⟨B,θ,ρ,F,(wpR.bind (Rel:=RepV) h).mono fun v H1 ⟨B1,θ1,d,E,G,r,w⟩=>⟨B1,θ1,d,E,F.ext E G,r,w⟩⟩
theorem Zgn {f:TMr} {k:Bool→Sto→R γ} {Q:δ→Hp→Prop} (F:Frm X.cl B θ ρ σ H) (h:wpR X σ Rel' B H ((f ρ θ).bind k) Q) :
    tMT X f σ H (fun c H1=>∃B1 θ1,ExtE B B1 H H1∧Frm X.cl B1 θ1 ρ σ H1∧wpR X σ Rel' B1 H1 (k c θ1) Q):=
  ⟨B,θ,ρ,F,(wpR.bind (Rel:=EqB) h).mono fun v H1 ⟨B1,θ1,d,E,G,r,w⟩=>by cases (show d=v from r); exact ⟨B1,θ1,E,F.ext E G,w⟩⟩
theorem Zdj {f:AM} {k:List D→Sto→R γ} {Q:δ→Hp→Prop} (F:Frm X.cl B θ ρ σ H) (h:wpR X σ Rel' B H ((f ρ θ).bind k) Q) :
    tMA X f σ H (fun v H1=>∃B1 θ1 d,ExtE B B1 H H1∧Frm X.cl B1 θ1 ρ σ H1∧RepL B1 H1 d v∧wpR X σ Rel' B1 H1 (k d θ1) Q):=
  ⟨B,θ,ρ,F,(wpR.bind (Rel:=RepL) h).mono fun v H1 ⟨B1,θ1,d,E,G,r,w⟩=>⟨B1,θ1,d,E,F.ext E G,r,w⟩⟩
theorem Zw {α β:Type} {Rel:Bx→Hp→α→β→Prop} {a:α} {b:β} {Q:β→Hp→Prop} (G:Good X.cl B θ H) (r:Rel B H a b) (h:wpR X σ Rel B H (.ok a θ) Q):Q b H:=h B H b (ExtE.refl B H) G r
end
theorem PE.imp {X:Cx} {e:Expr} {t t':TE} (h:PE X e t) (hi:∀σ H Q,t' σ H Q→t σ H Q):PE X e t':=fun pins s σ H Q I q=>h pins s σ H Q I (hi σ H Q q)
theorem PT.imp {X:Cx} {e:Expr} {t t':TT} (h:PT X e t) (hi:∀σ H Q,t' σ H Q→t σ H Q):PT X e t':=fun pins s σ H Q I q=>h pins s σ H Q I (hi σ H Q q)
theorem PW.imp {X:Cx} {e:Expr} {t t':TT} (h:PW X e t) (hi:∀σ H Q,t' σ H Q→t σ H Q):PW X e t':=fun wh pins s σ H Q I q=>h wh pins s σ H Q I (hi σ H Q q)
theorem PA.imp {X:Cx} {es:List Expr} {t t':TA} (h:PA X es t) (hi:∀σ H Q,t' σ H Q→t σ H Q):PA X es t':=fun pos pins s σ H Q I q=>h pos pins s σ H Q I (hi σ H Q q)
theorem OpR.imp {X:Cx} {f:Value→Value→Sem Value} {r r':R2} (h:OpR X f r) (hi:∀x y H Q,r' x y H Q→r x y H Q):OpR X f r':=fun pins s σ H x y v u Q I rx ry q=>h pins s σ H x y v u Q I rx ry (hi x y H Q q)
theorem IxR.imp {X:Cx} {r r':R2} (h:IxR X r) (hi:∀x y H Q,r' x y H Q→r x y H Q):IxR X r':=fun pins s σ H x y v u Q v1 s1 I rx ry q=>h pins s σ H x y v u Q v1 s1 I rx ry (hi _ _ _ _ q)
theorem CallR.imp {X:Cx} {f:Value} {r r':List V→Hp→VK→Prop} (h:CallR X f r) (hi:∀xs H Q,r' xs H Q→r xs H Q):CallR X f r':=fun pins s σ H xs us Q I r q=>h pins s σ H xs us Q I r (hi _ _ _ q)
end L2.MM
namespace L2.MM
open PySem PySem.Spec PyProof.Rows
noncomputable section
variable {X:Cx}
def ZO (θ:Sto):D→Option (List D)
  | .lst xs=>some xs
  | .ref l=>match θ[l]? with
    | some (.lst xs)=>some xs
    | _=>none
  | _=>none
def seqOf (θ:Sto):D→Option (List D)
  | .tup xs=>some xs
  | .scr ns=>some (ns.map D.int)
  | d=>ZO θ d
theorem ZY {cl:Mo} {B:Bx} {θ:Sto} {H:Hp} (G:Good cl B θ H) {d:D} {v:V} {xs:List D} (r:RepV B H d v) (h:ZO θ d=some xs):∃a vs,v=.ref a∧H a=some (.lst vs)∧RepL B H xs vs:=by
  cases d with
  | lst ys=>
    obtain ⟨a,vs,e,h1,_,h2⟩:=r
    cases h
    exact ⟨a,vs,e,h1,h2⟩
  | ref l=>
    obtain ⟨hl,rfl⟩:=r
    simp only [ZO] at h
    split at h
    · rename_i ys e
      cases h
      obtain ⟨vs,q1,q2⟩:=G.cel l _ e
      exact ⟨_,vs,rfl,q1,q2⟩
    · cases h
  | _=>cases h
theorem Zaw {cl:Mo} {B:Bx} {θ:Sto} {H:Hp} (G:Good cl B θ H) {d:D} {v:V} {xs:List D} (r:RepV B H d v) (h:seqOf θ d=some xs) :
    ∃a vs,v=.ref a∧(SqL cl.K H a vs∨SqT cl.K H a vs)∧RepL B H xs vs:=by
  cases d with
  | tup ys=>
    obtain ⟨a,vs,e,h1,_,h2⟩:=r
    cases h
    exact ⟨a,vs,e,.inr (SqT.of h1),h2⟩
  | scr ns=>
    obtain ⟨a,e,h1⟩:=r
    cases h
    refine ⟨a,ns.map V.int,e,.inl ?_,RepL.map (f:=D.int) (g:=V.int) (fun _=>rfl) ns⟩
    rcases h1 with ⟨o,h1,_⟩ | h1
    · exact .inl (.inr ⟨o,h1⟩)
    · exact .inr (G.kc a ns h1)
  | lst ys=>
    obtain ⟨a,vs,e,h1,h2⟩:=ZY G r (show ZO θ (.lst ys)=some xs from h)
    exact ⟨a,vs,e,.inl (SqL.of h1),h2⟩
  | ref l=>
    obtain ⟨a,vs,e,h1,h2⟩:=ZY G r (show ZO θ (.ref l)=some xs from h)
    exact ⟨a,vs,e,.inl (SqL.of h1),h2⟩
  | _=>cases h
abbrev BIG:Nat:=100000
theorem Zy {n:Nat} (h:n≤BIG):n≤sizeLine:=Nat.le_trans h (by rw [sizeLine_eq]; decide)
def Zd (i:Nat):EM:=fun ρ θ=>match ρ[i]? with
  | some (Sl.val d)=>.ok d θ
  | _=>.bad
def mC (d:D):EM:=fun _ θ=>.ok d θ
section
variable {a b c e:Expr} {pos:Pos} {fa fb fc:EM} {ft fu:TMr}
theorem Zc (i:Nat) {x:Str} {pos:Pos} (hN:X.N[i]?=some x:=by rfl) (hv:Vis X.env.scope x:=by first | exact Or.inl rfl | exact Or.inr (Or.inl rfl) | exact Or.inr (Or.inr rfl))
    (hd:(x == ("__debug__":Str))=false:=by decide) (hcd:(x == ("__classdict__":Str))=false:=by decide):ME X (.Name x pos) (Zd i):=by
  refine PE.imp (ZeA hN hv hd hcd) fun σ H Q h=>?_
  obtain ⟨B,θ,ρ,F,w⟩:=h
  unfold Zd at w
  split at w
  · rename_i d e
    obtain ⟨v,h1,h2⟩:=F.val i d e
    exact ⟨v,h1,Zw F.good h2 w⟩
  · exact w.elim
theorem Zij {d:D} {v:V} (h:PE X e (tC v)) (r:∀B H,RepV B H d v):ME X e (mC d):=by
  refine PE.imp h fun σ H Q h=>?_
  obtain ⟨B,θ,ρ,F,w⟩:=h
  exact Zw F.good (r B H) w
theorem Ze {i j pos}:ME X (.Constant (.int i) j pos) (mC (.int i)):=Zij Zkl fun _ _=>rfl
theorem Zlx {i j pos}:ME X (.Constant (.bool i) j pos) (mC (.bl i)):=Zij Zlm fun _ _=>rfl
theorem Zo {i j pos}:ME X (.Constant (.str i) j pos) (mC (.str i)):=Zij ZhZ fun _ _=>rfl
theorem Zp {x:Str} {i:Int} (h:∃t,X.mg x=some (.int i t)) (hg:Gl X x:=by rfl) (hd:(x == ("__debug__":Str))=false:=by decide):ME X (.Name x pos) (mC (.int i)):=Zij (Zjc h hg hd) fun _ _=>rfl
theorem ZaR {x:Str} {y:Str} (h:∃t,X.mg x=some (.str y t)) (hg:Gl X x:=by rfl) (hd:(x == ("__debug__":Str))=false:=by decide):ME X (.Name x pos) (mC (.str y)):=by
  obtain ⟨t,h⟩:=h
  exact Zij (ZeB hg h (v:=.str y) ⟨t,rfl⟩ hd) fun _ _=>rfl
abbrev OM:=D→D→Sto→R D
def mOp (g:OM) (fa fb:EM):EM:=fun ρ θ=>(fa ρ θ).bind fun x θ=>(fb ρ θ).bind fun y θ=>g x y θ
def rM (X:Cx) (g:OM):R2:=fun x y H Q=>∃σ B θ d e,Good X.cl B θ H∧RepV B H d x∧RepV B H e y∧wpR X σ RepV B H (g d e θ) Q
theorem Zgl {g:OM} (σ:St) (H:Hp) (Q:VK) (h:tM X (mOp g fa fb) σ H Q):tOp (rM X g) (tM X fa) (tM X fb) σ H Q:=by
  obtain ⟨B,θ,ρ,F,w⟩:=h
  refine ZB (step F w) ?_
  rintro x' H1 ⟨B1,θ1,x,E1,F1,rx,w1⟩
  refine ZB (step F1 w1) ?_
  rintro y' H2 ⟨B2,θ2,y,E2,F2,ry,w2⟩
  exact ⟨σ,B2,θ2,x,y,F2.good,rx.ext E2.toExtS,ry,w2⟩
theorem Zj {op:Operator} {g:OM} (ho:OpR X (binaryOp op) (rM X g)) (ha:ME X a fa) (hb:ME X b fb):ME X (.BinOp a op b pos) (mOp g fa fb):=PE.imp (Zlk ho ha hb) Zgl
theorem Zf4 {op:CmpOp} {g:OM} (ho:OpR X (compareOp op) (rM X g)) (ha:ME X a fa) (hb:ME X b fb) (hm:behindInMarks op b=false:=by first | exact Zh9 _ | rfl):ME X (.Compare a [op] [b] pos) (mOp g fa fb):=PE.imp (Zjd ho ha hb hm) Zgl
theorem ZC {g:OM} (hr:IxR X (rM X g)) (ha:ME X a fa) (hb:ME X b fb) (hs:ZgP b:=by intro _ _; rfl):ME X (.Subscript a b pos) (mOp g fa fb):=PE.imp (Zll hr ha hb hs) Zgl
def Zl (f:EM):TMr:=fun ρ θ=>(f ρ θ).bind fun x θ=>match x with
  | .bl k=>.ok k θ
  | _=>.bad
theorem ZhN {f:EM} (σ:St) (H:Hp) (Q:Bool→Hp→Prop) (h:tMT X (Zl f) σ H Q):tM X f σ H (fun v H1=>∃k,v=.bl k∧Q k H1):=by
  obtain ⟨B,θ,ρ,F,w⟩:=h
  refine ZB (step F w) ?_
  rintro v H1 ⟨B1,θ1,x,E1,F1,rx,w1⟩
  cases x with
  | bl k=>exact ⟨k,rx,Zw (Rel:=EqB) F1.good rfl w1⟩
  | _=>exact w1.elim
theorem Zt {op:CmpOp} {g:OM} (ho:OpR X (compareOp op) (rM X g)) (ha:ME X a fa) (hb:ME X b fb) (hm:behindInMarks op b=false:=by first | exact Zh9 _ | rfl):MT X (.Compare a [op] [b] pos) (Zl (mOp g fa fb)):=by
  refine PT.imp (Zi6 ho ha hb hm) fun σ H Q h=>?_
  have q:=ZhN σ H Q h
  exact Zgl σ H _ q
def Zmz (g g':OM) (fa fb fc:EM):EM:=fun ρ θ=>(fa ρ θ).bind fun x θ=>(fb ρ θ).bind fun y θ=>(g x y θ).bind fun z θ=>match z with
  | .bl true=>(fc ρ θ).bind fun w θ=>g' y w θ
  | .bl false=>.ok (.bl false) θ
  | _=>.bad
def Zdg (θ:Sto):D→Option Bool
  | .non=>some false
  | .bl b=>some b
  | .int i=>some (i != 0)
  | .str x=>if x.length≤BIG then some ((x.length:Int) != 0) else none
  | d=>(seqOf θ d).map fun xs=>!xs.isEmpty
def Za8 (f:EM):TMr:=fun ρ θ=>(f ρ θ).bind fun x θ=>match Zdg θ x with
  | some k=>.ok k θ
  | none=>.bad
theorem RepL.emp {B:Bx} {H:Hp} {xs:List D} {vs:List V} (r:RepL B H xs vs):vs.isEmpty=xs.isEmpty:=by
  cases xs with
  | nil=>cases (show vs=[] from r); rfl
  | cons _ _=>obtain ⟨v,q,rfl,_,_⟩:=r; rfl
theorem ZiT {cl:Mo} {B:Bx} {θ:Sto} {H:Hp} (G:Good cl B θ H) {d:D} {v:V} {k:Bool} (r:RepV B H d v) (h:Zdg θ d=some k):TruV cl.K v H k:=by
  have sq:∀xs,seqOf θ d=some xs→((seqOf θ d).map fun xs=>!xs.isEmpty)=some k→TruV cl.K v H k:=fun xs e q=>by
    rw [e] at q
    cases q
    obtain ⟨a,vs,rfl,h1,h2⟩:=Zaw G r e
    show TruV cl.K (V.ref a) H (!xs.isEmpty)
    rw [←h2.emp]
    rcases h1 with h1 | h1
    · exact .inl ⟨vs,h1,rfl⟩
    · exact .inr (.inl ⟨vs,h1,rfl⟩)
  cases d with
  | non=>cases (show v=.non from r); cases h; rfl
  | bl b=>cases (show v=.bl b from r); cases h; rfl
  | int i=>cases (show v=.int i from r); cases h; rfl
  | str x=>
    cases (show v=.str x from r)
    simp only [Zdg] at h
    split at h
    · rename_i hz; cases h; exact ⟨Zy hz,rfl⟩
    · cases h
  | ty n=>simp [Zdg,seqOf,ZO] at h
  | scr ns=>exact sq _ rfl h
  | tup xs=>exact sq _ rfl h
  | lst xs=>exact sq _ rfl h
  | ref l=>
    cases e:seqOf θ (.ref l) with
    | none=>simp only [Zdg,e] at h; cases h
    | some xs=>exact sq xs e h
theorem Zac (ha:ME X a fa) (he:∀whole,isTrue a X.env whole=(do let v ←whole; standAt a.pos; holding [v] (truthy v)):=by intro _; rfl):MT X a (Za8 fa):=by
  refine PT.imp (ZhV ha he) fun σ H Q h=>?_
  obtain ⟨B,θ,ρ,F,w⟩:=h
  refine ZB (step F w) ?_
  rintro v H1 ⟨B1,θ1,x,E1,F1,rx,w1⟩
  cases e:Zdg θ1 x with
  | none=>rw [e] at w1; exact w1.elim
  | some k=>rw [e] at w1; exact ⟨k,ZiT F1.good rx e,Zw (Rel:=EqB) F1.good rfl w1⟩
def Zhf (f g:TMr):TMr:=fun ρ θ=>(f ρ θ).bind fun k θ=>if k=true then g ρ θ else .ok false θ
def mOr (f g:TMr):TMr:=fun ρ θ=>(f ρ θ).bind fun k θ=>if k=true then .ok true θ else g ρ θ
def Zfr (f:TMr):TMr:=fun ρ θ=>(f ρ θ).bind fun k θ=>.ok (!k) θ
theorem ZbP (ha:MT X a ft):MW X (.BoolOp .And [a] pos) ft:=Zi5 ha
theorem zo (ha:MT X a ft):MW X (.BoolOp .Or [a] pos) ft:=Zka ha
theorem Zf3 {rest:List Expr} (ha:MT X a ft) (hb:MW X (.BoolOp .And (b::rest) pos) fu):MW X (.BoolOp .And (a::b::rest) pos) (Zhf ft fu):=by
  refine PW.imp (Zkb ha hb) fun σ H Q h=>?_
  obtain ⟨B,θ,ρ,F,w⟩:=h
  refine Za6 (Zgn F w) ?_
  rintro k H1 ⟨B1,θ1,E1,F1,w1⟩
  cases k with
  | true=>rw [if_pos rfl] at w1 ⊢; exact ⟨B1,θ1,ρ,F1,w1⟩
  | false=>rw [if_neg Bool.false_ne_true] at w1 ⊢; exact Zw (Rel:=EqB) F1.good rfl w1
theorem ZbE {rest:List Expr} (ha:MT X a ft) (hb:MW X (.BoolOp .Or (b::rest) pos) fu):MW X (.BoolOp .Or (a::b::rest) pos) (mOr ft fu):=by
  refine PW.imp (Zlh ha hb) fun σ H Q h=>?_
  obtain ⟨B,θ,ρ,F,w⟩:=h
  refine Za6 (Zgn F w) ?_
  rintro k H1 ⟨B1,θ1,E1,F1,w1⟩
  cases k with
  | true=>rw [if_pos rfl] at w1 ⊢; exact Zw (Rel:=EqB) F1.good rfl w1
  | false=>rw [if_neg Bool.false_ne_true] at w1 ⊢; exact ⟨B1,θ1,ρ,F1,w1⟩
theorem MW.mt {e:Expr} {f:TMr} (h:MW X e f):MT X e f:=PW.pt h
theorem ZeH (ha:MT X a ft):MT X (.UnaryOp .Not a pos) (Zfr ft):=by
  refine PT.imp (Zkc ha) fun σ H Q h=>?_
  obtain ⟨B,θ,ρ,F,w⟩:=h
  refine Za6 (Zgn F w) ?_
  rintro k H1 ⟨B1,θ1,E1,F1,w1⟩
  exact Zw (Rel:=EqB) F1.good rfl w1
def Zin (f g:EM):EM:=fun ρ θ=>(f ρ θ).bind fun x θ=>match x with
  | .bl true=>g ρ θ
  | .bl false=>.ok (.bl false) θ
  | _=>.bad
theorem Zkx {op} (h:ME X a fa):ME X (.BoolOp op [a] pos) fa:=Zh1 h
theorem ZkA {rest:List Expr} (ha:ME X a fa) (hb:ME X (.BoolOp .And (b::rest) pos) fb):ME X (.BoolOp .And (a::b::rest) pos) (Zin fa fb):=by
  refine PE.imp (Zh5 ha hb) fun σ H Q h=>?_
  obtain ⟨B,θ,ρ,F,w⟩:=h
  refine ZB (step F w) ?_
  rintro v H1 ⟨B1,θ1,x,E1,F1,rx,w1⟩
  cases x with
  | bl k=>
    refine ⟨k,rx,?_⟩
    cases k with
    | true=>rw [if_pos rfl]; exact ⟨B1,θ1,ρ,F1,w1⟩
    | false=>rw [if_neg Bool.false_ne_true]; exact Zw F1.good (show RepV B1 H1 (.bl false) (.bl false) from rfl) w1
  | _=>exact w1.elim
def ZeO (t:TMr) (f g:EM):EM:=fun ρ θ=>(t ρ θ).bind fun k θ=>if k=true then f ρ θ else g ρ θ
theorem ZeK {c:Expr} (hc:MT X c ft) (ha:ME X a fa) (hb:ME X b fb):ME X (.IfExp c a b pos) (ZeO ft fa fb):=by
  refine PE.imp (Zfi hc ha hb) fun σ H Q h=>?_
  obtain ⟨B,θ,ρ,F,w⟩:=h
  refine Za6 (Zgn F w) ?_
  rintro k H1 ⟨B1,θ1,E1,F1,w1⟩
  cases k with
  | true=>rw [if_pos rfl] at w1 ⊢; exact ⟨B1,θ1,ρ,F1,w1⟩
  | false=>rw [if_neg Bool.false_ne_true] at w1 ⊢; exact ⟨B1,θ1,ρ,F1,w1⟩
def Zg:AM:=fun _ θ=>.ok [] θ
def Zb (f:EM) (g:AM):AM:=fun ρ θ=>(f ρ θ).bind fun x θ=>(g ρ θ).bind fun xs θ=>.ok (x::xs) θ
theorem Zf:MA X [] Zg:=PA.imp zl fun σ H Q h=>by
  obtain ⟨B,θ,ρ,F,w⟩:=h
  exact Zw (Rel:=RepL) F.good (show RepL B H [] [] from rfl) w
theorem Za {es:List Expr} {fs:AM} (ha:ME X e fa) (hr:MA X es fs) (hs:starEach (e::es) X.env=(false,eval e X.env)::starEach es X.env:=by rfl):MA X (e::es) (Zb fa fs):=by
  refine PA.imp (Z3 ha hr hs) fun σ H Q h=>?_
  obtain ⟨B,θ,ρ,F,w⟩:=h
  refine ZB (step F w) ?_
  rintro x' H1 ⟨B1,θ1,x,E1,F1,rx,w1⟩
  refine zG (Zdj F1 w1) ?_
  rintro xs' H2 ⟨B2,θ2,xs,E2,F2,rxs,w2⟩
  exact Zw (Rel:=RepL) F2.good (show RepL B2 H2 (x::xs) (x'::xs') from ⟨x',xs',rfl,rx.ext E2.toExtS,rxs⟩) w2
def zX (f:AM):EM:=fun ρ θ=>(f ρ θ).bind fun xs θ=>if xs.length≤BIG then .ok (.tup xs) θ else .bad
def zA (f:AM):EM:=fun ρ θ=>(f ρ θ).bind fun xs θ=>if xs.length≤BIG then .ok (.lst xs) θ else .bad
theorem Zco {σ:St} {B:Bx} {θ:Sto} {H:Hp} {xs:List D} {vs:List V} {Q:VK} (G:Good X.cl B θ H) (r:RepL B H xs vs) (w:wpR X σ RepV B H (.ok (.tup xs) θ) Q):∀p,H p=none→Q (.ref p) (upd H p (.tup vs)):=
  fun p hp=>w B _ _ (Zaj G hp _) (Zci G hp _) (Zi1 G hp r)
theorem ZaL {σ:St} {B:Bx} {θ:Sto} {H:Hp} {xs:List D} {vs:List V} {Q:VK} (G:Good X.cl B θ H) (r:RepL B H xs vs) (w:wpR X σ RepV B H (.ok (.lst xs) θ) Q):∀p,H p=none→Q (.ref p) (upd H p (.lst vs)):=
  fun p hp=>w B _ _ (Zaj G hp _) (Zci G hp _) (Zi2 G hp r)
theorem ZiR {σ:St} {B:Bx} {θ:Sto} {H:Hp} {xs:List D} {vs:List V} {Q:VK} (G:Good X.cl B θ H) (r:RepL B H xs vs) (w:wpR X σ RepV B H (.ok (.ref θ.length) (θ++[.lst xs])) Q):∀p,H p=none→Q (.ref p) (upd H p (.lst vs)):=
  fun p hp=>w (B.push p) _ _ (ZdG G hp _) (Zhj G hp ⟨vs,ZX,r.ext (ZdG G hp _).toExtS⟩) ⟨by rw [G.len]; exact Nat.lt_succ_self _,by rw [G.len]; show V.ref p=V.ref (if B.n=B.n then p else B.m B.n); rw [if_pos rfl]⟩
theorem zN {es:List Expr} {fs:AM} {x1} (h:MA X es fs):ME X (.Tuple es x1 pos) (zX fs):=by
  refine PE.imp (ZhY h) fun σ H Q h=>?_
  obtain ⟨B,θ,ρ,F,w⟩:=h
  refine zG (Zdj F w) ?_
  rintro xs' H2 ⟨B2,θ2,xs,E2,F2,rxs,w2⟩
  split at w2
  · rename_i hz
    exact ⟨by rw [rxs.len]; exact Zy hz,Zco F2.good rxs w2⟩
  · exact w2.elim
theorem zx {es:List Expr} {fs:AM} (h:MA X es fs):ME X (.List es pos) (zA fs):=by
  refine PE.imp (Zh2 h) fun σ H Q h=>?_
  obtain ⟨B,θ,ρ,F,w⟩:=h
  refine zG (Zdj F w) ?_
  rintro xs' H2 ⟨B2,θ2,xs,E2,F2,rxs,w2⟩
  split at w2
  · rename_i hz
    exact ⟨by rw [rxs.len]; exact Zy hz,ZaL F2.good rxs w2⟩
  · exact w2.elim
abbrev GM:=List D→Sto→R D
def mCB (g:GM) (f:AM):EM:=fun ρ θ=>(f ρ θ).bind fun xs θ=>g xs θ
def rC (X:Cx) (g:GM):List V→Hp→VK→Prop:=fun xs H Q=>∃σ B θ ds,Good X.cl B θ H∧RepL B H ds xs∧wpR X σ RepV B H (g ds θ) Q
theorem ZjK {g:GM} {fs:AM} (σ:St) (H:Hp) (Q:VK) (h:tM X (mCB g fs) σ H Q):tCB (rC X g) (tMA X fs) σ H Q:=by
  obtain ⟨B,θ,ρ,F,w⟩:=h
  refine zG (Zdj F w) ?_
  rintro xs' H2 ⟨B2,θ2,xs,E2,F2,rxs,w2⟩
  exact ⟨σ,B2,θ2,xs,F2.good,rxs,w2⟩
theorem ZQ {x:Str} {id:String} {p:Pos} {es:List Expr} {fs:AM} {g:GM} (hc:CallR X (.builtin id) (rC X g)) (hm:X.mg x=none) (hv:bootBuiltins x=some (.builtin id)) (ha:MA X (e::es) fs) (hg:Gl X x:=by rfl) (hn:x≠"__name__":=by decide) (hdb:(x == ("__debug__":Str))=false:=by decide)
    (he:starEach (e::es) X.env=(false,eval e X.env)::starEach es X.env:=by rfl) (hpl:(backTo pos (starEach es X.env)).any (·.1)=false:=by rfl):ME X (.Call (.Name x p) (e::es) [] pos) (mCB g fs):=
  PE.imp (Zdo hc hg hm hv ha hn hdb he hpl) ZjK
theorem ZI {x:Str} {T:String} {p:Pos} {es:List Expr} {fs:AM} {g:GM} (hc:CallR X (.type T) (rC X g)) (hm:X.mg x=none) (hv:bootBuiltins x=some (.type T)) (ha:MA X (e::es) fs) (hg:Gl X x:=by rfl) (hn:x≠"__name__":=by decide) (hdb:(x == ("__debug__":Str))=false:=by decide)
    (he:starEach (e::es) X.env=(false,eval e X.env)::starEach es X.env:=by rfl) (hpl:(backTo pos (starEach es X.env)).any (·.1)=false:=by rfl):ME X (.Call (.Name x p) (e::es) [] pos) (mCB g fs):=
  PE.imp (Zg2 hc hg hm hv ha hn hdb he hpl) ZjK
end
end
end L2.MM
namespace L2.MM
open PySem PySem.Spec PyProof.Rows PySem.SeqAt
noncomputable section
variable {X:Cx}
section
open Classical in
def opI (C:Int→Int→Prop) (g:Int→Int→D):OM:=fun x y θ=>match x,y with
  | .int i,.int j=>if C i j then .ok (g i j) θ else .bad
  | _,_=>.bad
open Classical in
@[simp] theorem ZlY (C:Int→Int→Prop) (g:Int→Int→D) (i j:Int) (θ:Sto):opI C g (.int i) (.int j) θ=if C i j then .ok (g i j) θ else .bad:=nr rfl
open Classical in
theorem Zcv {f:Value→Value→Sem Value} {C:Int→Int→Prop} {g:Int→Int→D} {gV:Int→Int→V} (h:OpR X f (rI C gV)) (r:∀B H i j,RepV B H (g i j) (gV i j)):OpR X f (rM X (opI C g)):=by
  refine OpR.imp h fun x y H Q q=>?_
  obtain ⟨σ,B,θ,d,e,G,rd,re,w⟩:=q
  unfold opI at w
  split at w
  · rename_i i j
    split at w
    · rename_i hc
      exact ⟨i,j,rd,re,hc,Zw G (r B H i j) w⟩
    · exact w.elim
  · exact w.elim
theorem ZhU {f:Value→Value→Sem Value} {g:Int→Int→V} (h:OpR X f (rI0 g)):OpR X f (rI (fun _ _=>True) g):=OpR.imp h fun x y H Q ⟨i,j,a,b,_,q⟩=>⟨i,j,a,b,q⟩
abbrev ZcH:OM:=opI (fun _ j=>0<j∧j<18446744073709551616) fun i j=>.int (i/j)
abbrev ZU:OM:=opI (fun _ j=>0<j) fun i j=>.int (i % j)
abbrev Zlj:OM:=opI ZkT fun i j=>.int (i ^ j.toNat)
abbrev ZlN:OM:=opI (fun _ _=>True) fun i j=>.int (Builtin.bitAnd i j)
abbrev ltM:OM:=opI (fun _ _=>True) fun i j=>.bl (decide (i<j))
abbrev gtM:OM:=opI (fun _ _=>True) fun i j=>.bl (decide (j<i))
theorem Zed:OpR X (binaryOp .FloorDiv) (rM X ZcH):=Zcv (OpR.imp Zh6 fun x y H Q ⟨i,j,a,b,c,q⟩=>⟨i,j,a,b,⟨c.1,by
  have h:j.natAbs<2 ^ 64:=by have:=c.1; have:=c.2; omega
  have h0:j.natAbs≠0:=by have:=c.1; omega
  have:=(Nat.log2_lt h0).mpr h
  omega⟩,q⟩) fun _ _ _ _=>rfl
theorem ZK:OpR X (binaryOp .Mod) (rM X ZU):=Zcv Zkp fun _ _ _ _=>rfl
theorem ZjR:OpR X (binaryOp .Pow) (rM X Zlj):=Zcv Zkn fun _ _ _ _=>rfl
theorem Zlu:OpR X (binaryOp .BitAnd) (rM X ZlN):=Zcv (ZhU Zkr) fun _ _ _ _=>rfl
theorem Zls:OpR X (compareOp .Lt) (rM X ltM):=Zcv (ZhU Zlo) fun _ _ i j=>by show _=V.bl _; congr
theorem ZdX:OpR X (compareOp .Gt) (rM X gtM):=Zcv (ZhU Zlp) fun _ _ i j=>by show _=V.bl _; congr
def Zz:OM:=fun x y θ=>match x,y with
  | .int i,.int j=>.ok (.int (i+j)) θ
  | .str i,.str j=>if i.length+j.length≤BIG then .ok (.str (i++j)) θ else .bad
  | .tup xs,.tup ys=>if xs.isEmpty=false∧xs.length+ys.length≤BIG then .ok (.tup (xs++ys)) θ else .bad
  | x,y=>match ZO θ x,ZO θ y with
    | some xs,some ys=>if xs.length+ys.length≤BIG then .ok (.lst (xs++ys)) θ else .bad
    | _,_=>.bad
@[simp] theorem ZlR (i j:Int) (θ:Sto):Zz (.int i) (.int j) θ=.ok (.int (i+j)) θ:=nr rfl
@[simp] theorem ZlQ (xs ys:List D) (θ:Sto):Zz (.tup xs) (.tup ys) θ=if xs.isEmpty=false∧xs.length+ys.length≤BIG then .ok (.tup (xs++ys)) θ else .bad:=nr rfl
theorem ZA:OpR X (binaryOp .Add) (rM X Zz):=by
  refine OpR.imp (op_add.or (op_add_str.or (op_catT.or Zh7))) fun x y H Q q=>?_
  obtain ⟨σ,B,θ,d,e,G,rd,re,w⟩:=q
  unfold Zz at w
  split at w
  · exact .inl ⟨_,_,rd,re,Zw G (show RepV B H (.int _) (.int _) from rfl) w⟩
  · split at w
    · rename_i hz
      exact .inr (.inl ⟨_,_,rd,re,Zy hz,Zw G (show RepV B H (.str _) (.str _) from rfl) w⟩)
    · exact w.elim
  · split at w
    · rename_i xs ys hz
      obtain ⟨a,vs,rfl,h1,k1,l1⟩:=rd
      obtain ⟨b,us,rfl,h2,k2,l2⟩:=re
      refine .inr (.inr (.inl ⟨a,b,vs,us,rfl,rfl,SqT.of h1,SqT.of h2,?_,?_,fun z=>?_,fun _=>Zco G (l1.app l2) w⟩))
      · intro z
        have:=l1.emp
        rw [z,hz.1] at this
        simp at this
      · rw [l1.len,l2.len]; exact Zy hz.2
      · have e0:ys=[]:=by
          have:=l2.emp
          rw [z] at this
          cases ys with
          | nil=>rfl
          | cons _ _=>simp at this
        subst e0
        rw [List.append_nil] at w
        exact Zw G (show RepV B H (.tup xs) (.ref a) from ⟨a,vs,rfl,h1,k1,l1⟩) w
    · exact w.elim
  · split at w
    · rename_i xs ys e1 e2
      split at w
      · rename_i hz
        obtain ⟨a,vs,rfl,h1,l1⟩:=ZY G rd e1
        obtain ⟨b,us,rfl,h2,l2⟩:=ZY G re e2
        exact .inr (.inr (.inr ⟨a,b,vs,us,rfl,rfl,h1,h2,by rw [l1.len,l2.len]; exact Zy hz,ZaL G (l1.app l2) w⟩))
      · exact w.elim
    · exact w.elim
def ZfL (i j:Int):Prop:=(-18446744073709551616<i∧i<18446744073709551616)∨(-18446744073709551616<j∧j<18446744073709551616)
instance {i j:Int}:Decidable (ZfL i j):=by unfold ZfL; infer_instance
def Zcz:OM:=fun x y θ=>match x,y with
  | .int i,.int j=>if ZfL i j then .ok (.int (i*j)) θ else .bad
  | .tup xs,.int k=>if xs.isEmpty=false∧0≤k∧k<1000∧(xs.length:Int)*k≤1000 then .ok (.tup (List.replicate k.toNat xs).flatten) θ else .bad
  | x,.int k=>match ZO θ x with
    | some xs=>if -1000000≤k∧k≤1000000∧xs.length*k.toNat≤BIG then .ok (.lst (List.replicate k.toNat xs).flatten) θ else .bad
    | _=>.bad
  | _,_=>.bad
@[simp] theorem Zlv (i j:Int) (θ:Sto):Zcz (.int i) (.int j) θ=if ZfL i j then .ok (.int (i*j)) θ else .bad:=nr rfl
@[simp] theorem Zie (xs:List D) (k:Int) (θ:Sto):Zcz (.tup xs) (.int k) θ=if xs.isEmpty=false∧0≤k∧k<1000∧(xs.length:Int)*k≤1000 then .ok (.tup (List.replicate k.toNat xs).flatten) θ else .bad:=nr rfl
theorem RepL.rep {B:Bx} {H:Hp} {xs:List D} {vs:List V} (r:RepL B H xs vs):∀k:Nat,RepL B H (List.replicate k xs).flatten (List.replicate k vs).flatten
  | 0=>rfl
  | k+1=>by
    rw [List.replicate_succ,List.replicate_succ,List.flatten_cons,List.flatten_cons]
    exact r.app (RepL.rep r k)
theorem Zdq:OpR X (binaryOp .Mult) (rM X Zcz):=by
  refine OpR.imp (op_mul.or (op_repT.or Zkm)) fun x y H Q q=>?_
  obtain ⟨σ,B,θ,d,e,G,rd,re,w⟩:=q
  unfold Zcz at w
  split at w
  · split at w
    · rename_i hc
      exact .inl ⟨_,_,rd,re,hc.imp (fun h=>⟨by have:=h.1; omega,by have:=h.2; omega⟩) (fun h=>⟨by have:=h.1; omega,by have:=h.2; omega⟩),Zw G (show RepV B H (.int _) (.int _) from rfl) w⟩
    · exact w.elim
  · split at w
    · rename_i xs k hz
      obtain ⟨a,vs,rfl,h1,k1,l1⟩:=rd
      obtain ⟨z1,z2,z3,z4⟩:=hz
      refine .inr (.inl ⟨a,k,vs,rfl,re,SqT.of h1,?_,z2,z3,by rw [l1.len]; exact z4,fun z=>?_,fun _=>Zco G (l1.rep _) w⟩)
      · intro z
        have:=l1.emp
        rw [z,z1] at this
        simp at this
      · subst z
        have e0:(List.replicate (1:Int).toNat xs).flatten=xs:=by simp
        rw [e0] at w
        exact Zw G (show RepV B H (.tup xs) (.ref a) from ⟨a,vs,rfl,h1,k1,l1⟩) w
    · exact w.elim
  · split at w
    · rename_i xs e1
      split at w
      · rename_i hz
        obtain ⟨a,vs,rfl,h1,l1⟩:=ZY G rd e1
        exact .inr (.inr ⟨a,_,vs,rfl,re,h1,by have:=hz.1; omega,by have:=hz.2.1; omega,by rw [l1.len]; exact Zy hz.2.2,ZaL G (l1.rep _) w⟩)
      · exact w.elim
    · exact w.elim
  · exact w.elim
def Zmy (f:EM):EM:=fun ρ θ=>(f ρ θ).bind fun x θ=>match x with
  | .int i=>.ok (.int (-i)) θ
  | _=>.bad
mutual
def dat:D→PyData
  | .bl b=>.bool b
  | .int i=>.int i
  | .str x=>.str x
  | .tup xs=>.tuple (Zbc xs)
  | .lst xs=>.list (Zbc xs)
  | _=>.none
def Zbc:List D→List PyData
  | []=>[]
  | d::r=>dat d::Zbc r
end
mutual
def zH:D→Bool
  | .non=>true
  | .bl _=>true
  | .int _=>true
  | .str _=>true
  | .tup xs=>zu xs
  | .lst xs=>zu xs
  | _=>false
def zu:List D→Bool
  | []=>true
  | d::r=>zH d && zu r
end
mutual
theorem rdv {B:Bx} {H:Hp} {K:PySem.W.Frag}:∀{d:D} {v:V},zH d=true→RepV B H d v→RdV K H v (dat d)
  | .non,_,_,r=>by cases (show _=V.non from r); exact .non
  | .bl b,_,_,r=>by cases (show _=V.bl b from r); exact .bl b
  | .int i,_,_,r=>by cases (show _=V.int i from r); exact .int i
  | .str x,_,_,r=>by cases (show _=V.str x from r); exact .str x
  | .tup xs,_,p,r=>by
    obtain ⟨a,vs,rfl,h,_,l⟩:=r
    exact .tup (SqT.of h) (Zi3 p l)
  | .lst xs,_,p,r=>by
    obtain ⟨a,vs,rfl,h,_,l⟩:=r
    exact .lst (SqL.of h) (Zi3 p l)
  | .ty _,_,p,_=>nomatch p
  | .scr _,_,p,_=>nomatch p
  | .ref _,_,p,_=>nomatch p
theorem Zi3 {B:Bx} {H:Hp} {K:PySem.W.Frag}:∀{ds:List D} {vs:List V},zu ds=true→RepL B H ds vs→RdVs K H vs (Zbc ds)
  | [],_,_,r=>by cases (show _=[] from r); exact .nil
  | d::ds,_,p,r=>by
    obtain ⟨v,q,rfl,hv,hq⟩:=r
    have p':zH d=true∧zu ds=true:=by simpa [zu] using p
    exact .cons (rdv p'.1 hv) (Zi3 p'.2 hq)
end
mutual
theorem Zfe:∀{d e:D},zH d=true→zH e=true→(same (dat d) (dat e)=true↔d=e):=fun {d e} p q=>by
  cases d with
  | ty _=>exact nomatch p
  | scr _=>exact nomatch p
  | ref _=>exact nomatch p
  | non=>cases e<;>simp_all [zH,dat,same]
  | bl _=>cases e<;>simp_all [zH,dat,same]
  | int _=>cases e<;>simp_all [zH,dat,same]
  | str _=>cases e<;>simp_all [zH,dat,same]
  | tup xs=>
    cases e with
    | tup ys=>
      simp only [dat,same,D.tup.injEq]
      exact Zcs p q
    | ty _=>exact nomatch q
    | scr _=>exact nomatch q
    | ref _=>exact nomatch q
    | _=>simp [dat,same]
  | lst xs=>
    cases e with
    | lst ys=>
      simp only [dat,same,D.lst.injEq]
      exact Zcs p q
    | ty _=>exact nomatch q
    | scr _=>exact nomatch q
    | ref _=>exact nomatch q
    | _=>simp [dat,same]
theorem Zcs:∀{ds es:List D},zu ds=true→zu es=true→(sameAll (Zbc ds) (Zbc es)=true↔ds=es)
  | [],[],_,_=>by simp [Zbc,sameAll]
  | [],_::_,_,_=>by simp [Zbc,sameAll]
  | _::_,[],_,_=>by simp [Zbc,sameAll]
  | d::ds,e::es,p,q=>by
    have p':zH d=true∧zu ds=true:=by simpa [zu] using p
    have q':zH e=true∧zu es=true:=by simpa [zu] using q
    simp only [Zbc,sameAll,Bool.and_eq_true,List.cons.injEq]
    rw [Zfe p'.1 q'.1,Zcs p'.2 q'.2]
end
def Zae (θ:Sto) (d:D):D:=match d with
  | .ref l=>match θ[l]? with
    | some (.lst xs)=>.lst xs
    | _=>.ref l
  | d=>d
theorem Zce {B:Bx} {θ:Sto} {H:Hp} {K:PySem.W.Frag} (G:Good X.cl B θ H) {d:D} {v:V} (r:RepV B H d v) (p:zH (Zae θ d)=true):RdV K H v (dat (Zae θ d)):=by
  cases d with
  | ref l=>
    unfold Zae at p ⊢
    simp only at p ⊢
    split at p
    · rename_i xs e
      obtain ⟨hl,rfl⟩:=r
      obtain ⟨vs,h1,h2⟩:=G.cel l _ e
      exact .lst (SqL.of h1) (Zi3 p h2)
    · exact nomatch p
  | _=>exact rdv p r
structure ZfM (x y:D):Prop where
  px:zH x=true
  py:zH y=true
  sx:shaped (dat x)=true
  sy:shaped (dat y)=true
  nm:noMix (dat x) (dat y)=true
open Classical in
def eqM:OM:=fun x y θ=>if ZfM (Zae θ x) (Zae θ y) then .ok (.bl (decide (Zae θ x=Zae θ y))) θ else .bad
open Classical in
def neM:OM:=fun x y θ=>if ZfM (Zae θ x) (Zae θ y) then .ok (.bl (!decide (Zae θ x=Zae θ y))) θ else .bad
open Classical in
theorem Zff {d e:D} (p:zH d=true) (q:zH e=true):same (dat d) (dat e)=decide (d=e):=by
  rw [Bool.eq_iff_iff,Zfe p q,decide_eq_true_iff]
open Classical in
theorem Zaa (hu:X.A.units+64<cLine):OpR X (compareOp .Eq) (rM X eqM):=by
  refine OpR.imp (Zkq hu) fun x y H Q q=>?_
  obtain ⟨σ,B,θ,d,e,G,rd,re,w⟩:=q
  unfold eqM at w
  split at w
  · rename_i c
    refine ⟨_,_,Zce G rd c.px,Zce G re c.py,c.sx,c.sy,c.nm,?_⟩
    rw [Zff c.px c.py]
    exact Zw G (show RepV B H (.bl _) (.bl _) from rfl) w
  · exact w.elim
open Classical in
theorem Zg5 (hu:X.A.units+64<cLine):OpR X (compareOp .NotEq) (rM X neM):=by
  refine OpR.imp (Zko hu) fun x y H Q q=>?_
  obtain ⟨σ,B,θ,d,e,G,rd,re,w⟩:=q
  unfold neM at w
  split at w
  · rename_i c
    refine ⟨_,_,Zce G rd c.px,Zce G re c.py,c.sx,c.sy,c.nm,?_⟩
    rw [Zff c.px c.py]
    exact Zw G (show RepV B H (.bl _) (.bl _) from rfl) w
  · exact w.elim
def Ze4:List D→Bool
  | []=>true
  | .int _::r=>Ze4 r
  | _=>false
def Ze3:List D→Bool
  | []=>true
  | .str _::r=>Ze3 r
  | _=>false
def memI (i:Int):List D→Bool
  | .int j::r=>decide (j=i) || memI i r
  | _=>false
def memS (x:Str):List D→Bool
  | .str y::r=>decide (y=x) || memS x r
  | _=>false
def inD (θ:Sto) (x y:D):Option Bool:=match seqOf θ y with
  | none=>none
  | some ys=>match x with
    | .int i=>if Ze4 ys=true then some (memI i ys) else none
    | .str z=>if Ze3 ys=true then some (memS z ys) else none
    | _=>none
def inM:OM:=fun x y θ=>match inD θ x y with
  | some k=>.ok (.bl k) θ
  | none=>.bad
def Zab:OM:=fun x y θ=>match inD θ x y with
  | some k=>.ok (.bl (!k)) θ
  | none=>.bad
theorem ZcY {B:Bx} {H:Hp}:∀{ys:List D} {vs:List V},Ze4 ys=true→RepL B H ys vs→vs.all Zai=true∧∀i:Int,inV (.int i) vs=memI i ys
  | [],_,_,r=>by cases (show _=[] from r); exact ⟨rfl,fun _=>rfl⟩
  | d::ys,_,h,r=>by
    cases d with
    | int j=>
      obtain ⟨v,q,rfl,hv,hq⟩:=r
      cases (show v=V.int j from hv)
      obtain ⟨h1,h2⟩:=ZcY (show Ze4 ys=true from h) hq
      refine ⟨by simp [Zai] at h1 ⊢; exact h1,fun i=>?_⟩
      have:=h2 i
      unfold inV at this ⊢
      rw [List.any_cons,this]
      show (j == i || memI i ys)=(decide (j=i) || memI i ys)
      rw [Bool.beq_eq_decide_eq]
    | _=>exact nomatch h
theorem ZcX {B:Bx} {H:Hp}:∀{ys:List D} {vs:List V},Ze3 ys=true→RepL B H ys vs→vs.all Zai=true∧∀i:Str,inV (.str i) vs=memS i ys
  | [],_,_,r=>by cases (show _=[] from r); exact ⟨rfl,fun _=>rfl⟩
  | d::ys,_,h,r=>by
    cases d with
    | str j=>
      obtain ⟨v,q,rfl,hv,hq⟩:=r
      cases (show v=V.str j from hv)
      obtain ⟨h1,h2⟩:=ZcX (show Ze3 ys=true from h) hq
      refine ⟨by simp [Zai] at h1 ⊢; exact h1,fun i=>?_⟩
      have:=h2 i
      unfold inV at this ⊢
      rw [List.any_cons,this]
      show (j == i || memS i ys)=(decide (j=i) || memS i ys)
      rw [Bool.beq_eq_decide_eq]
    | _=>exact nomatch h
theorem ZkH {cl:Mo} {B:Bx} {θ:Sto} {H:Hp} (G:Good cl B θ H) {d e:D} {x y:V} {k:Bool} (rd:RepV B H d x) (re:RepV B H e y) (h:inD θ d e=some k) :
    ∃p xs,y=.ref p∧(SqL cl.K H p xs∨SqT cl.K H p xs)∧Zai x=true∧xs.all Zai=true∧inV x xs=k:=by
  unfold inD at h
  split at h
  · cases h
  · rename_i ys e1
    obtain ⟨a,vs,rfl,h1,h2⟩:=Zaw G re e1
    split at h
    · split at h
      · rename_i i hz
        cases h
        cases (show x=V.int i from rd)
        obtain ⟨q1,q2⟩:=ZcY hz h2
        exact ⟨a,vs,rfl,h1,rfl,q1,q2 i⟩
      · cases h
    · split at h
      · rename_i i hz
        cases h
        cases (show x=V.str i from rd)
        obtain ⟨q1,q2⟩:=ZcX hz h2
        exact ⟨a,vs,rfl,h1,rfl,q1,q2 i⟩
      · cases h
    · cases h
theorem Zgt:OpR X (compareOp .NotIn) (rM X Zab):=by
  refine OpR.imp ZeC fun x y H Q q=>?_
  obtain ⟨σ,B,θ,d,e,G,rd,re,w⟩:=q
  unfold Zab at w
  split at w
  · rename_i k e1
    obtain ⟨p,xs,h1,h2,h3,h4,h5⟩:=ZkH G rd re e1
    exact ⟨p,xs,h1,h2,h3,h4,by rw [h5]; exact Zw G (show RepV B H (.bl _) (.bl _) from rfl) w⟩
  · exact w.elim
end
end
end L2.MM
namespace L2.MM
open PySem PySem.Spec PyProof.Rows PySem.SeqAt
noncomputable section
variable {X:Cx}
section
def ixD (θ:Sto) (x:D) (i:Int):Option D:=match x with
  | .str z=>if z.length≤BIG then (atI z.cps.toList i).map fun c=>.str ⟨#[c]⟩ else none
  | x=>(seqOf θ x).bind (atI · i)
def ixM:OM:=fun x y θ=>match y with
  | .int i=>match ixD θ x i with
    | some d=>.ok d θ
    | none=>.bad
  | _=>.bad
theorem RepL.atI {B:Bx} {H:Hp} {xs:List D} {vs:List V} {i:Int} {d:D} (r:RepL B H xs vs) (h:atI xs i=some d):∃v,atI vs i=some v∧RepV B H d v:=by
  unfold L2.atI at h ⊢
  rw [r.len]
  cases e:ixN xs.length i with
  | none=>rw [e] at h; cases h
  | some j=>
    rw [e] at h
    exact r.get h
theorem ZD:IxR X (rM X ixM):=by
  refine IxR.imp ZkG fun x y H Q q=>?_
  obtain ⟨σ,B,θ,d,e,G,rd,re,w⟩:=q
  unfold ixM at w
  split at w
  · rename_i i
    split at w
    · rename_i r e1
      have sq:(seqOf θ d).bind (L2.atI · i)=some r→rIx X.K x y H Q:=fun h=>by
        cases e2:seqOf θ d with
        | none=>rw [e2] at h; cases h
        | some xs=>
          rw [e2] at h
          obtain ⟨a,vs,rfl,h1,h2⟩:=Zaw G rd e2
          obtain ⟨v,h3,h4⟩:=h2.atI h
          have q:=Zw G h4 w
          rcases h1 with h1 | h1
          · exact .inl ⟨a,vs,i,v,rfl,re,h1,h3,q⟩
          · exact .inr (.inl ⟨a,vs,i,v,rfl,re,h1,h3,q⟩)
      cases d with
      | str z=>
        simp only [ixD] at e1
        split at e1
        · rename_i hz
          cases e2:L2.atI z.cps.toList i with
          | none=>rw [e2] at e1; cases e1
          | some c=>
            rw [e2] at e1
            cases e1
            exact .inr (.inr ⟨z,i,c,rd,re,Zy hz,e2,Zw G (show RepV B H (.str _) (.str _) from rfl) w⟩)
        · cases e1
      | non=>exact sq e1
      | bl _=>exact sq e1
      | int _=>exact sq e1
      | ty _=>exact sq e1
      | scr _=>exact sq e1
      | tup _=>exact sq e1
      | lst _=>exact sq e1
      | ref _=>exact sq e1
    · exact w.elim
  · exact w.elim
abbrev PM:=List Sl→Sto→R (Option Int)
def EqO (_:Bx) (_:Hp) (a b:Option Int):Prop:=a=b
def tMO (X:Cx) (f:PM):TO:=fun σ H Q=>∃B θ ρ,Frm X.cl B θ ρ σ H∧wpR X σ EqO B H (f ρ θ) Q
def MO (X:Cx) (e:Option Expr) (f:PM):Prop:=PO X e (tMO X f)
theorem Zfc {f:PM} {σ:St} {H:Hp} {Q Q':Option Int→Hp→Prop} (h:tMO X f σ H Q) (hQ:∀v H',Q v H'→Q' v H'):tMO X f σ H Q':=let ⟨B,θ,ρ,F,w⟩:=h; ⟨B,θ,ρ,F,w.mono hQ⟩
theorem ZjM {σ:St} {H:Hp} {γ δ:Type} {Rel':Bx→Hp→γ→δ→Prop} {B:Bx} {θ:Sto} {ρ:List Sl} {f:PM} {k:Option Int→Sto→R γ} {Q:δ→Hp→Prop} (F:Frm X.cl B θ ρ σ H) (h:wpR X σ Rel' B H ((f ρ θ).bind k) Q) :
    tMO X f σ H (fun c H1=>∃B1 θ1,ExtE B B1 H H1∧Frm X.cl B1 θ1 ρ σ H1∧wpR X σ Rel' B1 H1 (k c θ1) Q):=
  ⟨B,θ,ρ,F,(wpR.bind (Rel:=EqO) h).mono fun v H1 ⟨B1,θ1,d,E,G,r,w⟩=>by cases (show d=v from r); exact ⟨B1,θ1,E,F.ext E G,w⟩⟩
def Z8:PM:=fun _ θ=>.ok none θ
def zR (f:EM):PM:=fun ρ θ=>(f ρ θ).bind fun x θ=>match x with
  | .int i=>.ok (some i) θ
  | _=>.bad
theorem PO.imp {e:Option Expr} {t t':TO} (h:PO X e t) (hi:∀σ H Q,t' σ H Q→t σ H Q):PO X e t':=fun pins s σ H Q I q=>h pins s σ H Q I (hi σ H Q q)
theorem Zbq:MO X none Z8:=PO.imp Zi8 fun σ H Q h=>by
  obtain ⟨B,θ,ρ,F,w⟩:=h
  exact Zw (Rel:=EqO) F.good rfl w
theorem Zbp {e:Expr} {f:EM} (h:ME X e f):MO X (some e) (zR f):=PO.imp (Zi7 h) fun σ H Q h=>by
  obtain ⟨B,θ,ρ,F,w⟩:=h
  refine ZB (step F w) ?_
  rintro v H1 ⟨B1,θ1,x,E1,F1,rx,w1⟩
  cases x with
  | int i=>exact ⟨i,rx,Zw (Rel:=EqO) F1.good rfl w1⟩
  | _=>exact w1.elim
def ZeV {α:Type} (xs:List α) (lo hi:Option Int):List α:=(xs.drop (HT.sIx xs.length 0 lo)).take (HT.sIx xs.length xs.length hi-HT.sIx xs.length 0 lo)
theorem RepL.cut {B:Bx} {H:Hp} {xs:List D} {vs:List V} (r:RepL B H xs vs) (lo hi:Option Int):RepL B H (ZeV xs lo hi) (ZfF vs lo hi):=by
  unfold ZeV ZfF
  rw [r.len]
  exact (r.drop _).take _
def Zaq (θ:Sto) (x:D) (lo hi:Option Int):Option D:=match x with
  | .tup xs=>if HT.sIx xs.length 0 lo=0∧HT.sIx xs.length xs.length hi=xs.length then none else some (.tup (ZeV xs lo hi))
  | x=>(ZO θ x).map fun xs=>.lst (ZeV xs lo hi)
def mSl (f:EM) (lo hi:PM):EM:=fun ρ θ=>(f ρ θ).bind fun x θ=>(lo ρ θ).bind fun l θ=>(hi ρ θ).bind fun h θ=>match Zaq θ x l h with
  | some d=>.ok d θ
  | none=>.bad
theorem ZaC {e:Expr} {lo hi:Option Expr} {f:EM} {fl fh:PM} {pos p2:Pos} (he:ME X e f) (hl:MO X lo fl) (hh:MO X hi fh):ME X (.Subscript e (.Slice lo hi none p2) pos) (mSl f fl fh):=by
  refine PE.imp (Zh0 (sl_list.or Zj6) he hl hh) fun σ H Q h=>?_
  obtain ⟨B,θ,ρ,F,w⟩:=h
  refine ZB (step F w) ?_
  rintro v H1 ⟨B1,θ1,x,E1,F1,rx,w1⟩
  refine Zfc (ZjM F1 w1) ?_
  rintro l H2 ⟨B2,θ2,E2,F2,w2⟩
  refine Zfc (ZjM F2 w2) ?_
  rintro u H3 ⟨B3,θ3,E3,F3,w3⟩
  have rx3:=rx.ext (E2.trans E3).toExtS
  have lst:∀d,(ZO θ3 x).map (fun xs=>D.lst (ZeV xs l u))=some d→wpR X σ RepV B3 H3 (R.ok d θ3) Q→Zlb X.K v l u H3 Q:=fun d h w=>by
    cases e2:ZO θ3 x with
    | none=>rw [e2] at h; cases h
    | some xs=>
      rw [e2] at h
      cases h
      obtain ⟨a,vs,rfl,h1,h2⟩:=ZY F3.good rx3 e2
      exact ⟨a,vs,rfl,SqL.of h1,ZaL F3.good (h2.cut l u) w⟩
  split at w3
  · rename_i d e1
    cases x with
    | tup xs=>
      simp only [Zaq] at e1
      split at e1
      · cases e1
      · rename_i hw
        cases e1
        obtain ⟨a,vs,rfl,h1,k1,l1⟩:=rx3
        exact .inr ⟨a,vs,rfl,SqT.of h1,by rw [l1.len]; exact hw,Zco F3.good (l1.cut l u) w3⟩
    | non=>exact .inl (lst d e1 w3)
    | bl _=>exact .inl (lst d e1 w3)
    | int _=>exact .inl (lst d e1 w3)
    | str _=>exact .inl (lst d e1 w3)
    | ty _=>exact .inl (lst d e1 w3)
    | scr _=>exact .inl (lst d e1 w3)
    | lst _=>exact .inl (lst d e1 w3)
    | ref _=>exact .inl (lst d e1 w3)
  · exact w3.elim
def ZjQ {α:Type} (xs:List α) (lo hi st:Option Int):List α:=(sliceRange (sliceBounds lo hi st xs.length).1 (sliceBounds lo hi st xs.length).2.1 (sliceBounds lo hi st xs.length).2.2).filterMap (xs[·]?)
def Zm6 (f:EM) (lo hi st:PM):EM:=fun ρ θ=>(f ρ θ).bind fun x θ=>(lo ρ θ).bind fun l θ=>(hi ρ θ).bind fun h θ=>(st ρ θ).bind fun s θ=>match ZO θ x with
  | some xs=>if s≠some 0∧(ZjQ xs l h s).length≤BIG then .ok (.lst (ZjQ xs l h s)) θ else .bad
  | none=>.bad
def ZZ:GM:=fun ds θ=>match ds with
  | [.str z]=>if z.length≤BIG then .ok (.int z.length) θ else .bad
  | [d]=>match seqOf θ d with
    | some xs=>.ok (.int xs.length) θ
    | none=>.bad
  | _=>.bad
theorem RepL.one {B:Bx} {H:Hp} {d:D} {vs:List V} (r:RepL B H [d] vs):∃v,vs=[v]∧RepV B H d v:=by
  obtain ⟨v,q,rfl,hv,hq⟩:=r
  cases (show q=[] from hq)
  exact ⟨v,rfl,hv⟩
theorem zS:CallR X (.builtin "len") (rC X ZZ):=by
  refine CallR.imp (call_len_str.or ZeX) fun vs H Q q=>?_
  obtain ⟨σ,B,θ,ds,G,r,w⟩:=q
  unfold ZZ at w
  split at w
  · split at w
    · rename_i z hz
      obtain ⟨v,rfl,rv⟩:=r.one
      cases (show v=V.str z from rv)
      exact .inl ⟨z,rfl,Zy hz,Zw G (show RepV B H (.int _) (.int _) from rfl) w⟩
    · exact w.elim
  · split at w
    · rename_i xs e1
      obtain ⟨v,rfl,rv⟩:=r.one
      obtain ⟨a,us,rfl,h1,h2⟩:=Zaw G rv e1
      exact .inr ⟨a,us,rfl,h1,by rw [h2.len]; exact Zw G (show RepV B H (.int _) (.int _) from rfl) w⟩
    · exact w.elim
  · exact w.elim
def ZjU:List D→Option (List Int)
  | []=>some []
  | .int i::r=>(ZjU r).map (i::·)
  | _=>none
def ZcL:List D→Option (List Bool)
  | []=>some []
  | .bl i::r=>(ZcL r).map (i::·)
  | _=>none
@[simp] theorem bls_map (ns:List Bool):ZcL (ns.map D.bl)=some ns:=by
  induction ns with
  | nil=>rfl
  | cons n r ih=>simp [ZcL,ih]
theorem ZiM:∀{ds:List D} {ns:List Bool},ZcL ds=some ns→ds=ns.map D.bl
  | [],_,h=>by cases h; rfl
  | d::r,ns,h=>by
    cases d with
    | bl i=>
      simp only [ZcL] at h
      cases e:ZcL r with
      | none=>rw [e] at h; cases h
      | some ms=>rw [e] at h; cases h; rw [ZiM e]; rfl
    | _=>cases h
theorem ZgK {B:Bx} {H:Hp}:∀{ns:List Bool} {vs:List V},RepL B H (ns.map D.bl) vs→vs=ns.map V.bl
  | [],_,r=>r
  | n::ns,_,r=>by
    obtain ⟨v,q,rfl,hv,hq⟩:=r
    cases (show v=V.bl n from hv)
    rw [ZgK hq]; rfl
def Zm5:GM:=fun ds θ=>match ds with
  | [d]=>match (ZO θ d).bind ZjU with
    | some ns=>.ok (.int ns.sum) θ
    | none=>.bad
  | _=>.bad
def Zhq:GM:=fun ds θ=>match ds with
  | [d]=>match (ZO θ d).bind ZcL with
    | some ns=>.ok (.bl (ns.all id)) θ
    | none=>.bad
  | _=>.bad
theorem ZlM (hc:X.calm=true:=by rfl):CallR X (.builtin "all") (rC X Zhq):=by
  refine CallR.imp (ZiK hc) fun vs H Q q=>?_
  obtain ⟨σ,B,θ,ds,G,r,w⟩:=q
  unfold Zhq at w
  split at w
  · rename_i d
    split at w
    · rename_i ns e1
      obtain ⟨v,rfl,rv⟩:=r.one
      cases e2:ZO θ d with
      | none=>rw [e2] at e1; cases e1
      | some xs=>
        rw [e2] at e1
        obtain ⟨a,us,rfl,h1,h2⟩:=ZY G rv e2
        rw [ZiM (show ZcL xs=some ns from e1)] at h2
        rw [ZgK h2] at h1
        exact ⟨a,ns,rfl,SqL.of h1,Zw G (show RepV B H (.bl _) (.bl _) from rfl) w⟩
    · exact w.elim
  · exact w.elim
def Zcp:GM:=fun ds θ=>match ds with
  | [.tup xs]=>.ok (.tup xs) θ
  | [d]=>match ZO θ d with
    | some xs=>.ok (.tup xs) θ
    | none=>.bad
  | _=>.bad
theorem ZeY:CallR X (.type "tuple") (rC X Zcp):=by
  refine CallR.imp ZdY fun vs H Q q=>?_
  obtain ⟨σ,B,θ,ds,G,r,w⟩:=q
  unfold Zcp at w
  split at w
  · rename_i xs
    obtain ⟨v,rfl,rv⟩:=r.one
    obtain ⟨a,us,rfl,h1,k1,l1⟩:=id rv
    exact ⟨a,us,rfl,.inr ⟨SqT.of h1,Zw G rv w⟩⟩
  · split at w
    · rename_i xs e1
      obtain ⟨v,rfl,rv⟩:=r.one
      obtain ⟨a,us,rfl,h1,h2⟩:=ZY G rv e1
      exact ⟨a,us,rfl,.inl ⟨SqL.of h1,Zco G h2 w⟩⟩
    · exact w.elim
  · exact w.elim
def Zap:GM:=fun ds θ=>match ds with
  | [.int i]=>if i.natAbs.log2<1920 then .ok (.str (toString i)) θ else .bad
  | _=>.bad
theorem Zbe:CallR X (.type "str") (rC X Zap):=by
  refine CallR.imp ZeW fun vs H Q q=>?_
  obtain ⟨σ,B,θ,ds,G,r,w⟩:=q
  unfold Zap at w
  split at w
  · split at w
    · rename_i i hz
      obtain ⟨v,rfl,rv⟩:=r.one
      cases (show v=V.int i from rv)
      exact ⟨i,rfl,hz,Zw G (show RepV B H (.str _) (.str _) from rfl) w⟩
    · exact w.elim
  · exact w.elim
inductive Ty | non | bl | int | str | lst | tup
end
end
end L2.MM
namespace L2.MM
open PySem PySem.Spec PyProof.Rows PySem.SeqAt
noncomputable section
variable {X:Cx}
inductive Src where
  | seq (d:D) | rng (lo:Int) (n:Nat)
def Src.items (θ:Sto):Src→Option (List D)
  | .seq d=>seqOf θ d
  | .rng lo n=>some ((List.range n).map fun (i:Nat)=>D.int (lo+(i:Int)))
def SrcRep (K:PySem.W.Frag) (B:Bx) (H:Hp):Src→It→Prop
  | .seq d,J=>∃a,RepV B H d (.ref a)∧J=(match d with | .tup _=>Itt K a | _=>Itl K a)
  | .rng lo n,J=>J=Itr lo n
abbrev IM:=List Sl→Sto→R Src
section
def tMI (X:Cx) (f:IM):TI:=fun σ H Q=>∃B θ ρ,Frm X.cl B θ ρ σ H∧wpR X σ (SrcRep X.K) B H (f ρ θ) Q
def MI (X:Cx) (tg iter:Expr) (f:IM):Prop:=PI X tg iter (tMI X f)
theorem PI.imp {tg iter:Expr} {t t':TI} (h:PI X tg iter t) (hi:∀σ H Q,t' σ H Q→t σ H Q):PI X tg iter t':=fun pins s σ H Q I q=>h pins s σ H Q I (hi σ H Q q)
theorem SrcRep.ext {K:PySem.W.Frag} {B B':Bx} {H H':Hp} {S:Src} {J:It} (r:SrcRep K B H S J) (E:ExtS B B' H H'):SrcRep K B' H' S J:=by
  cases S with
  | seq d=>obtain ⟨a,h,e⟩:=r; exact ⟨a,h.ext E,e⟩
  | rng lo n=>exact r
theorem Zcq {cl:Mo} {B:Bx} {θ:Sto} {H:Hp} {S:Src} {J:It} {xs:List D} (G:Good cl B θ H) (r:SrcRep cl.K B H S J) (h:S.items θ=some xs) :
    (∀i d,xs[i]?=some d→J.go i H∧∀x H',J.yld i H x H'→H'=H∧RepV B H d x)∧J.stop xs.length H:=by
  cases S with
  | rng lo n=>
    cases (show J=Itr lo n from r)
    cases h
    refine ⟨fun i d e=>?_,by show n≤_; simp⟩
    rw [List.getElem?_map] at e
    by_cases hi:i<n
    · rw [List.getElem?_range hi] at e
      cases e
      exact ⟨hi,fun x H' y=>⟨y.1,y.2⟩⟩
    · rw [List.getElem?_eq_none (by simpa using hi)] at e
      cases e
  | seq d=>
    obtain ⟨a,rv,e⟩:=r
    cases d with
    | tup ys=>
      obtain ⟨a',vs,e1,h1,_,h2⟩:=rv
      cases e1
      cases h
      simp only at e
      subst e
      refine ⟨fun i d e=>?_,⟨vs,SqT.of h1,by rw [h2.len]; exact Nat.le_refl _⟩⟩
      obtain ⟨v,q1,q2⟩:=h2.get e
      refine ⟨⟨vs,v,SqT.of h1,q1⟩,fun x H' y=>⟨y.1,?_⟩⟩
      have:=y.2 vs (SqT.of h1)
      rw [q1] at this
      cases this
      exact q2
    | scr ns=>
      cases h
      obtain ⟨a',vs',e1,h1,_⟩:=Zaw G rv (show seqOf θ (.scr ns)=some (ns.map D.int) from rfl)
      cases e1
      simp only at e
      subst e
      have hS:SqL cl.K H a (ns.map V.int):=by
        obtain ⟨a',e1,h1⟩:=rv
        cases e1
        rcases h1 with ⟨o,h1,_⟩ | h1
        · exact .inl (.inr ⟨o,h1⟩)
        · exact .inr (G.kc a ns h1)
      have h2:RepL B H (ns.map D.int) (ns.map V.int):=RepL.map (f:=D.int) (g:=V.int) (fun _=>rfl) ns
      refine ⟨fun i d e=>?_,⟨ns.map V.int,hS,by simp⟩⟩
      obtain ⟨v,q1,q2⟩:=h2.get e
      refine ⟨⟨_,v,hS,q1⟩,fun x H' y=>⟨y.1,?_⟩⟩
      have:=y.2 _ hS
      rw [q1] at this
      cases this
      exact q2
    | lst ys=>
      obtain ⟨a',vs,e1,h1,h2⟩:=ZY G rv (show ZO θ (.lst ys)=some xs from h)
      cases e1
      simp only at e
      subst e
      refine ⟨fun i d e=>?_,⟨vs,SqL.of h1,by rw [h2.len]; exact Nat.le_refl _⟩⟩
      obtain ⟨v,q1,q2⟩:=h2.get e
      refine ⟨⟨vs,v,SqL.of h1,q1⟩,fun x H' y=>⟨y.1,?_⟩⟩
      have:=y.2 vs (SqL.of h1)
      rw [q1] at this
      cases this
      exact q2
    | ref l=>
      obtain ⟨a',vs,e1,h1,h2⟩:=ZY G rv (show ZO θ (.ref l)=some xs from h)
      cases e1
      simp only at e
      subst e
      refine ⟨fun i d e=>?_,⟨vs,SqL.of h1,by rw [h2.len]; exact Nat.le_refl _⟩⟩
      obtain ⟨v,q1,q2⟩:=h2.get e
      refine ⟨⟨vs,v,SqL.of h1,q1⟩,fun x H' y=>⟨y.1,?_⟩⟩
      have:=y.2 vs (SqL.of h1)
      rw [q1] at this
      cases this
      exact q2
    | non=>cases h
    | bl _=>cases h
    | int _=>cases h
    | str _=>cases h
    | ty _=>cases h
def ZmG (K:PySem.W.Frag) (tl:TE):TI:=fun σ H R=>tl σ H fun x H1=>∃a,x=.ref a∧(((∃xs,SqL K H1 a xs)∧R (Itl K a) H1)∨((∃xs,SqT K H1 a xs)∧R (Itt K a) H1))
theorem Zki {tg l:Expr} {tl:TE} (hl:PE X l tl):PI X tg l (ZmG X.K tl):=by
  intro pins s σ H R I h
  refine thn (hl pins s σ H _ I h) fun v s1 ⟨x,H1,I1,r1,q1⟩=>?_
  obtain ⟨a,e,q1⟩:=q1
  subst e
  cases r1
  rcases q1 with ⟨⟨xs,hq⟩,q⟩ | ⟨⟨xs,hq⟩,q⟩
  · obtain ⟨its,rv,p,hz⟩:=I1.list hq
    refine wpAny_pyIter_list p.isList ?_
    refine ⟨s1.heap.objs.size,[s1.heap.objs.size],_,_,H1,rfl,I1.kept (t':=s1.toks) fun b o e=>Heap.get?_push_of_some _ e,ZgS a _,⟨_,Heap.get?_push_size _ rfl,rfl,rfl⟩,fun b hb=>?_,q⟩
    have e:b=s1.heap.objs.size:=by simpa using hb
    subst e
    exact I1.fpOk (Nat.le_refl _) (I1.hok.fresh (Nat.le_refl _))
  · obtain ⟨its,rv,p,hz⟩:=I1.tuple hq
    refine wpAny_pyIter_tuple (show s1.heap.IsTuple a its.toArray from p) ?_
    refine ⟨s1.heap.objs.size,[s1.heap.objs.size],_,_,H1,rfl,I1.kept (t':=s1.toks) fun b o e=>Heap.get?_push_of_some _ e,ZfN a _,⟨_,Heap.get?_push_size _ rfl,rfl,rfl⟩,fun b hb=>?_,q⟩
    have e:b=s1.heap.objs.size:=by simpa using hb
    subst e
    exact I1.fpOk (Nat.le_refl _) (I1.hok.fresh (Nat.le_refl _))
def mIn (f:EM):IM:=fun ρ θ=>(f ρ θ).bind fun d θ=>match seqOf θ d with
  | some _=>.ok (.seq d) θ
  | none=>.bad
theorem Zih {tg l:Expr} {f:EM} (h:ME X l f):MI X tg l (mIn f):=by
  refine PI.imp (Zki h) fun σ H R q=>?_
  obtain ⟨B,θ,ρ,F,w⟩:=q
  refine ZB (step F w) ?_
  rintro v H1 ⟨B1,θ1,d,E1,F1,rd,w1⟩
  split at w1
  · rename_i xs e
    obtain ⟨a,vs,rfl,h1,h2⟩:=Zaw F1.good rd e
    refine ⟨a,rfl,?_⟩
    have fin:=fun J (hJ:SrcRep X.K B1 H1 (.seq d) J)=>Zw (Rel:=SrcRep X.K) F1.good hJ w1
    cases d with
    | tup ys=>
      obtain ⟨a',us,e1,g1,_,_⟩:=id rd
      cases e1
      exact .inr ⟨⟨us,SqT.of g1⟩,fin _ ⟨a,rd,rfl⟩⟩
    | scr ns=>
      have hS:SqL X.K H1 a (ns.map V.int):=by
        obtain ⟨a',e1,g1⟩:=id rd
        cases e1
        rcases g1 with ⟨o,g1,_⟩ | g1
        · exact .inl (.inr ⟨o,g1⟩)
        · exact .inr (F1.good.kc a ns g1)
      exact .inl ⟨⟨_,hS⟩,fin _ ⟨a,rd,rfl⟩⟩
    | lst ys=>
      obtain ⟨a',us,e1,g1,_⟩:=ZY F1.good rd (show ZO θ1 (.lst ys)=some xs from e)
      cases e1
      exact .inl ⟨⟨us,SqL.of g1⟩,fin _ ⟨a,rd,rfl⟩⟩
    | ref l=>
      obtain ⟨a',us,e1,g1,_⟩:=ZY F1.good rd (show ZO θ1 (.ref l)=some xs from e)
      cases e1
      exact .inl ⟨⟨us,SqL.of g1⟩,fin _ ⟨a,rd,rfl⟩⟩
    | non=>cases e
    | bl _=>cases e
    | int _=>cases e
    | str _=>cases e
    | ty _=>cases e
  · exact w1.elim
def Zad (f:AM):IM:=fun ρ θ=>(f ρ θ).bind fun ds θ=>match ds with
  | [.int j]=>if -1000000≤j∧j≤1000000 then .ok (.rng 0 j.toNat) θ else .bad
  | _=>.bad
theorem ZaB {tg a:Expr} {f:AM} {p pos:Pos} (hm:X.mg "range"=none) (ha:MA X [a] f) (hg:Gl X "range":=by rfl) (hs:starEach [a] X.env=[(false,eval a X.env)]:=by rfl):MI X tg (.Call (.Name "range" p) [a] [] pos) (Zad f):=by
  refine PI.imp (Zg1 hg hm ha hs) fun σ H R q=>?_
  obtain ⟨B,θ,ρ,F,w⟩:=q
  refine zG (Zdj F w) ?_
  rintro vs H1 ⟨B1,θ1,ds,E1,F1,rd,w1⟩
  split at w1
  · rename_i j
    split at w1
    · rename_i hj
      obtain ⟨v,rfl,rv⟩:=rd.one
      cases (show v=V.int j from rv)
      exact ⟨j,rfl,by have:=hj.1; omega,by have:=hj.2; omega,Zw (Rel:=SrcRep X.K) F1.good (show SrcRep X.K B1 H1 (.rng 0 j.toNat) _ from rfl) w1⟩
    · exact w1.elim
  · exact w1.elim
def Z0 (src:List Nat) (ρ:List Sl) (x:D):List Sl:=Sl.val x::src.map fun (j:Nat)=>match ρ[j]? with
  | some (Sl.val d)=>Sl.val d
  | _=>Sl.no
theorem Frm.inner {B:Bx} {θ:Sto} {ρ:List Sl} {σ:St} {H:Hp} (F:Frm X.cl B θ ρ σ H) (src:List Nat) {x:D} {v:V} (r:RepV B H x v):Frm X.cl B θ (Z0 src ρ x) (L2.inner src σ (some v)) H:=by
  have key:∀(i:Nat) (s:Sl),(Z0 src ρ x)[i]?=some s→s=.no∨∃d,s=.val d∧∃v',(L2.inner src σ (some v))[i]?=some (some v')∧RepV B H d v':=fun i s e=>by
    cases i with
    | zero=>simp [Z0] at e; subst e; exact .inr ⟨x,rfl,v,by simp [L2.inner],r⟩
    | succ i=>
      simp only [Z0,List.getElem?_cons_succ,List.getElem?_map] at e
      simp only [L2.inner,List.getElem?_cons_succ,List.getElem?_map]
      cases q:src[i]? with
      | none=>rw [q] at e; cases e
      | some j=>
        rw [q] at e
        simp only [Option.map_some,Option.some.injEq] at e
        split at e
        · rename_i d ed
          subst e
          obtain ⟨v',h1,h2⟩:=F.val j d ed
          exact .inr ⟨d,rfl,v',by simp [h1],h2⟩
        · exact .inl e.symm
  refine ⟨F.good,by simp [Z0,L2.inner],fun i d e=>?_,fun i xs e=>?_,fun i j xs ys a _ e _=>?_⟩
  · rcases key i _ e with z | ⟨d',z,v',h1,h2⟩
    · cases z
    · cases z; exact ⟨v',h1,h2⟩
  · rcases key i _ e with z | ⟨d',z,_⟩<;>cases z
  · rcases key i _ e with z | ⟨d',z,_⟩<;>cases z
open Classical in
def ZcW (S:Src) (all:List D) (elt:D→Sto→R D):List D→List D→Sto→R D
  | [],acc,θ=>if S.items θ=some all∧acc.length≤BIG then .ok (.lst acc) θ else .bad
  | x::r,acc,θ=>if S.items θ=some all then (elt x θ).bind fun y θ=>ZcW S all elt r (acc++[y]) θ else .bad
def ZbF (fi:IM) (src:List Nat) (elt:EM):EM:=fun ρ θ=>(fi ρ θ).bind fun S θ=>match S.items θ with
  | some xs=>if xs.length≤BIG then ZcW S xs (fun x θ=>elt (Z0 src ρ x) θ) xs [] θ else .bad
  | none=>.bad
open Classical in
theorem Zgm {fi:IM} {src:List Nat} {elt:EM} (σ:St) (H:Hp) (Q:VK) (h:tM X (ZbF fi src elt) σ H Q):tLc (tMI X fi) src (tM X elt) σ H Q:=by
  obtain ⟨B,θ,ρ,F,w⟩:=h
  refine ⟨B,θ,ρ,F,(wpR.bind (Rel:=SrcRep X.K) w).mono ?_⟩
  rintro J H1 ⟨B1,θ1,S,E1,G1,rJ,w1⟩
  split at w1
  · rename_i xs e1
    split at w1
    · rename_i hz
      refine ⟨xs.length,fun i ys H'=>∃B' θ' acc,ExtE B1 B' H1 H'∧Good X.cl B' θ' H'∧RepL B' H' acc ys∧wpR X σ RepV B' H' (ZcW S xs (fun x θ=>elt (Z0 src ρ x) θ) (xs.drop i) acc θ') Q,Zy hz,?_,?_,?_⟩
      · exact ⟨B1,θ1,[],ExtE.refl _ _,G1,rfl,w1⟩
      · rintro i ys H' hi ⟨B2,θ2,acc,E2,G2,racc,w2⟩
        rw [List.drop_eq_getElem_cons hi] at w2
        unfold ZcW at w2
        split at w2
        · rename_i e2
          obtain ⟨g1,g2⟩:=(Zcq G2 (rJ.ext E2.toExtS) e2).1 i xs[i] (List.getElem?_eq_getElem hi)
          refine ⟨g1,fun y H3 hy=>?_⟩
          obtain ⟨rfl,ry⟩:=g2 y H3 hy
          have F2:=(F.ext (E1.trans E2) G2).inner src ry
          refine ⟨B2,θ2,_,F2,(wpR.bind (Rel:=RepV) w2).mono ?_⟩
          rintro z H4 ⟨B4,θ4,d,E4,G4,rd,w4⟩
          exact ⟨B4,θ4,acc++[d],E2.trans E4,G4,(racc.ext E4.toExtS).app ⟨z,[],rfl,rd,rfl⟩,w4⟩
        · exact w2.elim
      · rintro ys H' ⟨B2,θ2,acc,E2,G2,racc,w2⟩
        rw [List.drop_length] at w2
        unfold ZcW at w2
        split at w2
        · rename_i e2
          exact ⟨(Zcq G2 (rJ.ext E2.toExtS) e2.1).2,ZaL G2 racc w2⟩
        · exact w2.elim
    · exact w1.elim
  · exact w1.elim
theorem Zlw {x:Str} {px pos:Pos} {iter elt:Expr} {scope:Scope} {N':List Str} {src:List Nat} {sc:Scope} {N:List Str} {fi:IM} {fe:EM} (S:ZG scope sc x N N' src) (hsc:X.env.scope=sc) (hN:X.N=N) (hi:MI X (.Name x px) iter fi)
    (helt:∀(cl:List (Str×Addr)) (C:Addr) (s₀:Shared) (H₀:Hp) (fp:List Addr),ME (X.comp scope N' cl C s₀ H₀ fp) elt fe) (hcm:X.calm=true:=by rfl) (hs:∀v,foldedSetIterable iter X.env v=pure v:=by intro _; rfl) :
    ME X (.ListComp elt [⟨.Name x px,iter,[],0⟩] scope pos) (ZbF fi src fe):=
  PE.imp (Zh3 (te:=tM X fe) S hsc hN hi (fun cl C s₀ H₀ fp=>helt cl C s₀ H₀ fp) hcm hs) Zgm
inductive Fl where
  | nx | rt (d:D) | bk | ct
abbrev SM:=List Sl→Sto→R (Fl×List Sl)
def ZgI (Dn:Ends) (B:Bx) (σ:St) (H:Hp):Fl→Prop
  | .nx=>Dn.nx σ H
  | .bk=>Dn.bk σ H
  | .ct=>Dn.ct σ H
  | .rt d=>∀v,RepV B H d v→Dn.rt v H
def wpS (X:Cx) (σ:St) (B:Bx) (H:Hp) (r:R (Fl×List Sl)) (Dn:Ends):Prop:=match r with
  | .ok (fl,ρ') θ'=>∀B' H' σ',ExtS B B' H H'→Frm X.cl B' θ' ρ' σ' H'→ZgI Dn B' σ' H' fl
  | .ex c θ'=>XE X σ B H c θ'
  | .bad=>False
def tMS (X:Cx) (f:SM):TS:=fun Dn σ H=>∃B θ ρ,Frm X.cl B θ ρ σ H∧wpS X σ B H (f ρ θ) Dn
def MS (X:Cx) (st:Stmt) (f:SM):Prop:=PS X st (tMS X f)
def MSs (X:Cx) (sts:List Stmt) (f:SM):Prop:=PSs X sts (tMS X f)
theorem PS.imp {st:Stmt} {t t':TS} (h:PS X st t) (hi:∀D σ H,t' D σ H→t D σ H):PS X st t':=fun pins s σ H D I q=>h pins s σ H D I (hi D σ H q)
theorem PSs.imp {st:List Stmt} {t t':TS} (h:PSs X st t) (hi:∀D σ H,t' D σ H→t D σ H):PSs X st t':=fun pins s σ H D I q=>h pins s σ H D I (hi D σ H q)
theorem wpS.trans {σ σ':St} {B B':Bx} {H H':Hp} {r:R (Fl×List Sl)} {Dn:Ends} (h:wpS X σ B H r Dn) (E:ExtS B B' H H'):wpS X σ' B' H' r Dn:=by
  cases r with
  | ok a θ'=>exact fun B2 H2 σ2 e g=>h B2 H2 σ2 (E.trans e) g
  | ex c θ'=>exact h
  | bad=>exact h
theorem wpS.bind {α β:Type} {Rel:Bx→Hp→α→β→Prop} {σ:St} {B:Bx} {H:Hp} {r:R α} {k:α→Sto→R (Fl×List Sl)} {Dn:Ends} (h:wpS X σ B H (r.bind k) Dn) :
    wpR X σ Rel B H r (fun b H1=>∃B1 θ1 a,ExtE B B1 H H1∧Good X.cl B1 θ1 H1∧Rel B1 H1 a b∧wpS X σ B1 H1 (k a θ1) Dn):=by
  cases r with
  | ok a θ'=>exact fun B1 H1 b E g q=>⟨B1,θ',a,E,g,q,wpS.trans h E.toExtS⟩
  | ex c θ'=>exact h
  | bad=>exact h
theorem Zb3 {σ:St} {H:Hp} {B:Bx} {θ:Sto} {ρ:List Sl} {f:EM} {k:D→Sto→R (Fl×List Sl)} {Dn:Ends} (F:Frm X.cl B θ ρ σ H) (h:wpS X σ B H ((f ρ θ).bind k) Dn) :
    tM X f σ H (fun v H1=>∃B1 θ1 d,ExtE B B1 H H1∧Frm X.cl B1 θ1 ρ σ H1∧RepV B1 H1 d v∧wpS X σ B1 H1 (k d θ1) Dn):=
  ⟨B,θ,ρ,F,(wpS.bind (Rel:=RepV) h).mono fun v H1 ⟨B1,θ1,d,E,G,r,w⟩=>⟨B1,θ1,d,E,F.ext E G,r,w⟩⟩
theorem Zj4 {σ:St} {H:Hp} {B:Bx} {θ:Sto} {ρ:List Sl} {f:TMr} {k:Bool→Sto→R (Fl×List Sl)} {Dn:Ends} (F:Frm X.cl B θ ρ σ H) (h:wpS X σ B H ((f ρ θ).bind k) Dn) :
    tMT X f σ H (fun c H1=>∃B1 θ1,ExtE B B1 H H1∧Frm X.cl B1 θ1 ρ σ H1∧wpS X σ B1 H1 (k c θ1) Dn):=
  ⟨B,θ,ρ,F,(wpS.bind (Rel:=EqB) h).mono fun v H1 ⟨B1,θ1,d,E,G,r,w⟩=>by cases (show d=v from r); exact ⟨B1,θ1,E,F.ext E G,w⟩⟩
theorem Zc3 {σ:St} {B:Bx} {H:Hp} {θ:Sto} {ρ:List Sl} {fl:Fl} {Dn:Ends} (F:Frm X.cl B θ ρ σ H) (h:wpS X σ B H (.ok (fl,ρ) θ) Dn):ZgI Dn B σ H fl:=h B H σ (ExtS.refl B H) F
def zK:SM:=fun ρ θ=>.ok (.nx,ρ) θ
def Zdh (r:R (Fl×List Sl)) (k:SM):R (Fl×List Sl):=r.bind fun p θ=>match p with
  | (.nx,ρ)=>k ρ θ
  | p=>.ok p θ
def Zv (f g:SM):SM:=fun ρ θ=>Zdh (f ρ θ) g
theorem ze:MSs X [] zK:=PSs.imp Zgp fun D σ H h=>by
  obtain ⟨B,θ,ρ,F,w⟩:=h
  exact Zc3 F w
theorem wpS.seq {σ:St} {B:Bx} {H:Hp} {r:R (Fl×List Sl)} {g:SM} {Dn:Ends} (w:wpS X σ B H (Zdh r g) Dn):wpS X σ B H r { Dn with nx:=tMS X g Dn }:=by
  cases r with
  | ex c θ'=>exact w
  | bad=>exact w
  | ok p θ'=>
    obtain ⟨fl,ρ'⟩:=p
    intro B' H' σ' E F
    cases fl with
    | nx=>exact ⟨B',θ',ρ',F,wpS.trans w E⟩
    | bk=>exact w B' H' σ' E F
    | ct=>exact w B' H' σ' E F
    | rt d=>exact w B' H' σ' E F
theorem Zh {st:Stmt} {rest:List Stmt} {f g:SM} (h1:MS X st f) (h2:MSs X rest g):MSs X (st::rest) (Zv f g):=PSs.imp (Zfg h1 h2) fun D σ H h=>by
  obtain ⟨B,θ,ρ,F,w⟩:=h
  exact ⟨B,θ,ρ,F,wpS.seq w⟩
theorem Zm {st:Stmt} {f:SM} (h1:MS X st f):MSs X [st] f:=Zc4 h1
def Zft:SM:=fun _ _=>.bad
theorem ZaA {st:Stmt}:MS X st Zft:=fun _ _ _ _ _ _ h=>by obtain ⟨_,_,_,_,w⟩:=h; exact w.elim
def Zil (f:EM):SM:=fun ρ θ=>(f ρ θ).bind fun _ θ=>.ok (.nx,ρ) θ
theorem Zjm {e:Expr} {f:EM} {pos:Pos} (he:ME X e f) (hs:swapsWith e none pos.line X.env=pure false:=by rfl):MS X (.Expr e pos) (Zil f):=PS.imp (Zgq he hs) fun D σ H h=>by
  obtain ⟨B,θ,ρ,F,w⟩:=h
  refine ZB (Zb3 F w) ?_
  rintro v H1 ⟨B1,θ1,d,E1,F1,rd,w1⟩
  exact Zc3 F1 w1
def zY (f:EM):SM:=fun ρ θ=>(f ρ θ).bind fun d θ=>.ok (.rt d,ρ) θ
theorem Z2 {e:Expr} {f:EM} {pos:Pos} (he:ME X e f):MS X (.Return (some e) pos) (zY f):=PS.imp (Zkd he) fun D σ H h=>by
  obtain ⟨B,θ,ρ,F,w⟩:=h
  refine ZB (Zb3 F w) ?_
  rintro v H1 ⟨B1,θ1,d,E1,F1,rd,w1⟩
  exact Zc3 F1 w1 v rd
def mIf (t:TMr) (f g:SM):SM:=fun ρ θ=>(t ρ θ).bind fun k θ=>if k=true then f ρ θ else g ρ θ
theorem zj {c:Expr} {a b:List Stmt} {t:TMr} {f g:SM} {pos:Pos} (hc:MT X c t) (ha:MSs X a f) (hb:MSs X b g):MS X (.If c a b pos) (mIf t f g):=PS.imp (ZjP hc ha hb) fun D σ H h=>by
  obtain ⟨B,θ,ρ,F,w⟩:=h
  refine Za6 (Zj4 F w) ?_
  rintro k H1 ⟨B1,θ1,E1,F1,w1⟩
  cases k with
  | true=>rw [if_pos rfl] at w1 ⊢; exact ⟨B1,θ1,ρ,F1,w1⟩
  | false=>rw [if_neg Bool.false_ne_true] at w1 ⊢; exact ⟨B1,θ1,ρ,F1,w1⟩
theorem Frm.set {B:Bx} {θ:Sto} {ρ:List Sl} {σ:St} {H:Hp} (F:Frm X.cl B θ ρ σ H) (i:Nat) {d:D} {v:V} (r:RepV B H d v):Frm X.cl B θ (ρ.set i (.val d)) (σ.set i (some v)) H:=by
  have oth:∀(j:Nat) (s:Sl),(ρ.set i (Sl.val d))[j]?=some s→(j=i∧s=.val d∧j < σ.length)∨(j≠i∧ρ[j]?=some s):=fun j s e=>by
    by_cases q:j=i
    · subst q
      have hl:j < ρ.length:=by
        have:=(List.getElem?_eq_some_iff.mp e).1
        simpa using this
      rw [List.getElem?_set_self hl] at e
      cases e
      exact .inl ⟨rfl,rfl,by rw [←F.len]; exact hl⟩
    · rw [List.getElem?_set_ne (Ne.symm q)] at e
      exact .inr ⟨q,e⟩
  refine ⟨F.good,by simp [F.len],fun j e h=>?_,fun j xs h=>?_,fun j k xs ys a hne h1 h2 h3=>?_⟩
  · rcases oth j _ h with ⟨rfl,z,hl⟩ | ⟨q,z⟩
    · cases z; exact ⟨v,by rw [List.getElem?_set_self hl],r⟩
    · rw [List.getElem?_set_ne (Ne.symm q)]; exact F.val j e z
  · rcases oth j _ h with ⟨rfl,z,hl⟩ | ⟨q,z⟩
    · cases z
    · rw [List.getElem?_set_ne (Ne.symm q)]; exact F.own j xs z
  · rcases oth j _ h1 with ⟨_,z,_⟩ | ⟨q1,z1⟩
    · cases z
    · rcases oth k _ h2 with ⟨_,z,_⟩ | ⟨q2,z2⟩
      · cases z
      · rw [List.getElem?_set_ne (Ne.symm q1)] at h3
        rw [List.getElem?_set_ne (Ne.symm q2)]
        exact F.ne j k xs ys a hne z1 z2 h3
def Zx (i:Nat) (f:EM):SM:=fun ρ θ=>(f ρ θ).bind fun d θ=>.ok (.nx,ρ.set i (.val d)) θ
theorem Zr (i:Nat) {x:Str} {e:Expr} {f:EM} {pos pos':Pos} (hN:X.N.Nodup) (he:ME X e f) (hi:X.N[i]?=some x:=by rfl) (hx:Loc X.env.scope x:=by first | exact Or.inl rfl | exact Or.inr rfl)
    (hs:swapsWith e (some (.Name x pos')) pos.line X.env=pure false:=by rfl) (hf:X.fn x=true∨X.env.scope.names.lookup x=some .local:=by first | exact .inl rfl | exact .inr rfl):MS X (.Assign [.Name x pos'] e pos) (Zx i f):=
  PS.imp (Zey hN hi hx he hs hf) fun D σ H h=>by
  obtain ⟨B,θ,ρ,F,w⟩:=h
  refine ZB (Zb3 F w) ?_
  rintro v H1 ⟨B1,θ1,d,E1,F1,rd,w1⟩
  exact w1 B1 H1 _ (ExtS.refl _ _) (F1.set i rd)
theorem Zif (i:Nat) {x y:Str} {px py pos spos:Pos} {iter elt:Expr} {scope:Scope} {N':List Str} {src:List Nat} {sc:Scope} {N:List Str} {fi:IM} {fe:EM} (hnd:X.N.Nodup) (S:ZG scope sc x N N' src) (hsc:X.env.scope=sc) (hN:X.N=N) (hi:MI X (.Name x px) iter fi)
    (helt:∀(cl:List (Str×Addr)) (C:Addr) (s₀:Shared) (H₀:Hp) (fp:List Addr),ME (X.comp scope N' cl C s₀ H₀ fp) elt fe) (hi':X.N[i]?=some y:=by rfl)
    (hsw:swapsWith (.ListComp elt [⟨.Name x px,iter,[],0⟩] scope pos) (some (.Name y py)) spos.line X.env=pure true:=by rfl)
    (hy:X.env.scope.names.lookup y=some .local:=by rfl) (hcm:X.calm=true:=by rfl) (hs:∀v,foldedSetIterable iter X.env v=pure v:=by intro _; rfl) :
    MS X (.Assign [.Name y py] (.ListComp elt [⟨.Name x px,iter,[],0⟩] scope pos) spos) (Zx i (ZbF fi src fe)):=
  PS.imp (Zli (te:=tM X fe) hnd hi' S hsc hN hi (fun cl C s₀ H₀ fp=>helt cl C s₀ H₀ fp) hsw hy hcm hs) fun D σ H h=>by
  obtain ⟨B,θ,ρ,F,w⟩:=h
  refine Zgm σ H _ (ZB (Zb3 F w) ?_)
  rintro v H1 ⟨B1,θ1,d,E1,F1,rd,w1⟩
  exact w1 B1 H1 _ (ExtS.refl _ _) (F1.set i rd)
end
end
end L2.MM
namespace L2.MM
open PySem PySem.Spec PyProof.Rows PySem.SeqAt
noncomputable section
variable {X:Cx}
def ZgA (k:SM):Fl×List Sl→Sto→R (Fl×List Sl)
  | (.nx,ρ),θ=>k ρ θ
  | (.ct,ρ),θ=>k ρ θ
  | (.bk,ρ),θ=>.ok (.nx,ρ) θ
  | (.rt d,ρ),θ=>.ok (.rt d,ρ) θ
theorem wpS.loop {σ:St} {B:Bx} {H:Hp} {r:R (Fl×List Sl)} {k:SM} {Dn:Ends} (w:wpS X σ B H (r.bind (ZgA k)) Dn) :
    wpS X σ B H r { Dn with nx:=fun σ' H'=>∃B' θ' ρ',ExtS B B' H H'∧Frm X.cl B' θ' ρ' σ' H'∧wpS X σ' B' H' (k ρ' θ') Dn,ct:=fun σ' H'=>∃B' θ' ρ',ExtS B B' H H'∧Frm X.cl B' θ' ρ' σ' H'∧wpS X σ' B' H' (k ρ' θ') Dn,bk:=Dn.nx }:=by
  cases r with
  | ex c θ'=>exact w
  | bad=>exact w
  | ok p θ'=>
    obtain ⟨fl,ρ'⟩:=p
    intro B' H' σ' E F
    cases fl with
    | nx=>exact ⟨B',θ',ρ',E,F,wpS.trans w E⟩
    | ct=>exact ⟨B',θ',ρ',E,F,wpS.trans w E⟩
    | bk=>exact w B' H' σ' E F
    | rt d=>exact w B' H' σ' E F
abbrev TgM:=D→List Sl→Option (List Sl)
def tMG (X:Cx) (g:TgM):TG:=fun v σ H Q=>∃B θ ρ d ρ',Frm X.cl B θ ρ σ H∧RepV B H d v∧g d ρ=some ρ'∧∀σ',Frm X.cl B θ ρ' σ' H→Q σ' H
def MG (X:Cx) (tg:Expr) (g:TgM):Prop:=PG X tg (tMG X g)
theorem PG.imp {tg:Expr} {t t':TG} (h:PG X tg t) (hi:∀v σ H Q,t' v σ H Q→t v σ H Q):PG X tg t':=fun pins s σ H v u Q I r q=>h pins s σ H v u Q I r (hi v σ H Q q)
def gNm (i:Nat):TgM:=fun d ρ=>some (ρ.set i (.val d))
theorem Zc7 (i:Nat) {x:Str} {pos:Pos} (hN:X.N.Nodup) (hi:X.N[i]?=some x:=by rfl) (hx:Loc X.env.scope x:=by first | exact Or.inl rfl | exact Or.inr rfl) (hf:X.fn x=true∨X.env.scope.names.lookup x=some .local:=by first | exact .inl rfl | exact .inr rfl):MG X (.Name x pos) (gNm i):=
  PG.imp (ZaO hN hi hx hf) fun v σ H Q h=>by
  obtain ⟨B,θ,ρ,d,ρ',F,r,e,q⟩:=h
  cases e
  exact q _ (F.set i r)
open Classical in
def forL (S:Src) (all:List D) (tg:TgM) (body:SM):List D→SM
  | []=>fun ρ θ=>if S.items θ=some all then .ok (.nx,ρ) θ else .bad
  | x::r=>fun ρ θ=>if S.items θ=some all then (match tg x ρ with
    | none=>.bad
    | some ρ1=>(body ρ1 θ).bind (ZgA (forL S all tg body r))) else .bad
def Zfs (fi:IM) (tg:TgM) (body:SM):SM:=fun ρ θ=>(fi ρ θ).bind fun S θ=>match S.items θ with
  | some xs=>forL S xs tg body xs ρ θ
  | none=>.bad
open Classical in
theorem ZeI {tg iter:Expr} {body:List Stmt} {fi:IM} {g:TgM} {fb:SM} {pos:Pos} (hp:PassesOwn (model X.prog X.w) X.A X.env X.xe) (hi:MI X tg iter fi) (hg:MG X tg g) (hb:MSs X body fb) (hc:X.calm=true:=by rfl)
    (hs:∀x,foldedSetIterable iter X.env x=pure x:=by intro _; rfl):MS X (.For tg iter body [] pos) (Zfs fi g fb):=
  PS.imp (Zkf hp hc hi hg hb hs) fun Dn σ H h=>by
  obtain ⟨B,θ,ρ,F,w⟩:=h
  refine ⟨B,θ,ρ,F,(wpS.bind (Rel:=SrcRep X.K) w).mono ?_⟩
  rintro J H1 ⟨B1,θ1,S,E1,G1,rJ,w1⟩
  split at w1
  · rename_i xs e1
    refine ⟨fun i m σ H=>∃B θ ρ,Frm X.cl B θ ρ σ H∧SrcRep X.K B H S J∧m=xs.length-i∧i≤xs.length∧wpS X σ B H (forL S xs g fb (xs.drop i) ρ θ) Dn,⟨xs.length,B1,θ1,ρ,F.ext E1 G1,rJ,rfl,Nat.zero_le _,w1⟩,?_⟩
    rintro i m σ2 H2 ⟨B2,θ2,ρ2,F2,rJ2,rfl,hi2,w2⟩
    by_cases hlt:i<xs.length
    · rw [List.drop_eq_getElem_cons hlt] at w2
      unfold forL at w2
      split at w2
      · rename_i e2
        obtain ⟨g1,g2⟩:=(Zcq F2.good rJ2 e2).1 i xs[i] (List.getElem?_eq_getElem hlt)
        split at w2
        · exact w2.elim
        · rename_i ρ3 e3
          refine .inr ⟨g1,fun σ' H'=>∃B' θ' ρ',ExtS B2 B' H2 H'∧Frm X.cl B' θ' ρ' σ' H'∧wpS X σ' B' H' (forL S xs g fb (xs.drop (i+1)) ρ' θ') Dn,?_,fun x H' hy=>?_⟩
          · rintro σ' H' ⟨B',θ',ρ',E',F',w'⟩
            exact ⟨xs.length-(i+1),by omega,B',θ',ρ',F',rJ2.ext E',rfl,hlt,w'⟩
          · obtain ⟨rfl,rx⟩:=g2 x H' hy
            refine ⟨B2,θ2,ρ2,xs[i],ρ3,F2,rx,e3,fun σ' F'=>⟨B2,θ2,ρ3,F',?_⟩⟩
            have w3:=wpS.loop w2
            exact wpS.trans w3 (ExtS.refl _ _)
      · exact w2.elim
    · have e:i=xs.length:=by omega
      subst e
      rw [List.drop_length] at w2
      unfold forL at w2
      split at w2
      · rename_i e2
        exact .inl ⟨(Zcq F2.good rJ2 e2).2,Zc3 F2 w2⟩
      · exact w2.elim
  · exact w1.elim
theorem Frm.setOwn {cl:Mo} {B:Bx} {θ:Sto} {ρ:List Sl} {σ:St} {H:Hp} (F:Frm cl B θ ρ σ H) (i:Nat) {p:Addr} (hp:H p=none) {xs:List D} {vs:List V} (r:RepL B H xs vs) :
    ExtS B { B with os:=p::B.os } H (upd H p (.lst vs))∧Frm cl { B with os:=p::B.os } θ (ρ.set i (.own xs)) (σ.set i (some (.ref p))) (upd H p (.lst vs)):=by
  have E0:=Zaj F.good hp (.lst vs)
  have G0:=Zci F.good hp (.lst vs)
  have ok:=F.good.okNone hp
  have E:ExtS B { B with os:=p::B.os } H (upd H p (.lst vs)):=⟨E0.n,E0.m,E0.fr,E0.keep,E0.sm,fun a h=>by
    rcases List.mem_cons.mp h with rfl | h
    · exact .inr hp
    · exact .inl h,rfl,rfl⟩
  refine ⟨E,?_⟩
  have E1:ExtS B { B with os:=p::B.os } H (upd H p (.lst vs)):=E
  have G:Good cl { B with os:=p::B.os } θ (upd H p (.lst vs)):=⟨G0.len,G0.inj,fun j c e=>(F.good.cel j c e).ext E fun u q=>by rw [Zq (ZE q hp)]; exact q,fun j hj=>⟨(G0.cF j hj).1,fun z=>by
      rcases List.mem_cons.mp z with z | z
      · exact ok.1 j hj z
      · exact (G0.cF j hj).2 z⟩,G0.Fs,fun a z=>by
      rcases List.mem_cons.mp z with rfl | z
      · rw [ZX]; simp
      · exact G0.oS a z,fun a z=>by
      rcases List.mem_cons.mp z with rfl | z
      · exact ok.2.1
      · exact G0.oF a z,G0.kc⟩
  have oth:∀(j:Nat) (s:Sl),(ρ.set i (Sl.own xs))[j]?=some s→(j=i∧s=.own xs∧j < σ.length)∨(j≠i∧ρ[j]?=some s):=fun j s e=>by
    by_cases q:j=i
    · subst q
      have hl:j < ρ.length:=by
        have:=(List.getElem?_eq_some_iff.mp e).1
        simpa using this
      rw [List.getElem?_set_self hl] at e
      cases e
      exact .inl ⟨rfl,rfl,by rw [←F.len]; exact hl⟩
    · rw [List.getElem?_set_ne (Ne.symm q)] at e
      exact .inr ⟨q,e⟩
  have old:∀j ys,ρ[j]?=some (Sl.own ys)→∀a,σ[j]?=some (some (V.ref a))→a≠p:=fun j ys h a e z=>by
    obtain ⟨a',us,q1,q2,q3,q4⟩:=F.own j ys h
    rw [e] at q1
    cases q1
    rw [z,hp] at q3
    cases q3
  refine ⟨G,by simp [F.len],fun j d h=>?_,fun j ys h=>?_,fun j k ys zs a hne h1 h2 h3=>?_⟩
  · rcases oth j _ h with ⟨_,z,_⟩ | ⟨q,z⟩
    · cases z
    · rw [List.getElem?_set_ne (Ne.symm q)]
      obtain ⟨v,q1,q2⟩:=F.val j d z
      exact ⟨v,q1,q2.ext E⟩
  · rcases oth j _ h with ⟨rfl,z,hl⟩ | ⟨q,z⟩
    · cases z
      exact ⟨p,vs,by rw [List.getElem?_set_self hl],List.mem_cons_self,ZX,r.ext E⟩
    · rw [List.getElem?_set_ne (Ne.symm q)]
      obtain ⟨a,us,q1,q2,q3,q4⟩:=F.own j ys z
      exact ⟨a,us,q1,List.mem_cons_of_mem _ q2,by rw [Zq (ZE q3 hp)]; exact q3,q4.ext E⟩
  · rcases oth j _ h1 with ⟨rfl,z1,hl⟩ | ⟨q1,z1⟩
    · rcases oth k _ h2 with ⟨rfl,z2,_⟩ | ⟨q2,z2⟩
      · exact absurd rfl hne
      · rw [List.getElem?_set_self hl] at h3
        cases h3
        rw [List.getElem?_set_ne (Ne.symm q2)]
        exact fun z=>old k zs z2 _ z rfl
    · rw [List.getElem?_set_ne (Ne.symm q1)] at h3
      rcases oth k _ h2 with ⟨rfl,z2,hl⟩ | ⟨q2,z2⟩
      · rw [List.getElem?_set_self hl]
        intro z
        cases z
        exact old j ys z1 _ h3 rfl
      · rw [List.getElem?_set_ne (Ne.symm q2)]
        exact F.ne j k ys zs a hne z1 z2 h3
def ZeM (i:Nat) (f:AM):SM:=fun ρ θ=>(f ρ θ).bind fun xs θ=>if xs.length≤BIG then .ok (.nx,ρ.set i (.own xs)) θ else .bad
theorem Zj5 {σ:St} {H:Hp} {B:Bx} {θ:Sto} {ρ:List Sl} {f:AM} {k:List D→Sto→R (Fl×List Sl)} {Dn:Ends} (F:Frm X.cl B θ ρ σ H) (h:wpS X σ B H ((f ρ θ).bind k) Dn) :
    tMA X f σ H (fun v H1=>∃B1 θ1 d,ExtE B B1 H H1∧Frm X.cl B1 θ1 ρ σ H1∧RepL B1 H1 d v∧wpS X σ B1 H1 (k d θ1) Dn):=
  ⟨B,θ,ρ,F,(wpS.bind (Rel:=RepL) h).mono fun v H1 ⟨B1,θ1,d,E,G,r,w⟩=>⟨B1,θ1,d,E,F.ext E G,r,w⟩⟩
theorem Zg8 (i:Nat) {x:Str} {es:List Expr} {f:AM} {pos pos' lpos:Pos} (hN:X.N.Nodup) (he:MA X es f) (hi:X.N[i]?=some x:=by rfl) (hx:Loc X.env.scope x:=by first | exact Or.inl rfl | exact Or.inr rfl)
    (hs:swapsWith (.List es lpos) (some (.Name x pos')) pos.line X.env=pure false:=by rfl) (hf:X.fn x=true∨X.env.scope.names.lookup x=some .local:=by first | exact .inl rfl | exact .inr rfl):MS X (.Assign [.Name x pos'] (.List es lpos) pos) (ZeM i f):=
  PS.imp (Zey hN hi hx (Zh2 he) hs hf) fun D σ H h=>by
  obtain ⟨B,θ,ρ,F,w⟩:=h
  refine zG (Zj5 F w) ?_
  rintro vs H1 ⟨B1,θ1,xs,E1,F1,rd,w1⟩
  split at w1
  · rename_i hz
    refine ⟨by rw [rd.len]; exact Zy hz,fun p hp=>?_⟩
    obtain ⟨E2,F2⟩:=F1.setOwn i hp rd
    exact w1 _ _ _ E2 F2
  · exact w1.elim
theorem Frm.updOwn {cl:Mo} {B:Bx} {θ:Sto} {ρ:List Sl} {σ:St} {H:Hp} (F:Frm cl B θ ρ σ H) {i:Nat} {xs ys:List D} {us:List V} {a:Addr} (h:ρ[i]?=some (Sl.own xs)) (ha:σ[i]?=some (some (.ref a))) (r:RepL B H ys us) :
    ExtS B B H (upd H a (.lst us))∧Frm cl B θ (ρ.set i (.own ys)) σ (upd H a (.lst us)):=by
  obtain ⟨a',vs,q1,q2,q3,q4⟩:=F.own i xs h
  rw [ha] at q1
  cases q1
  have hc:∀j,j<B.n→B.m j≠a:=fun j hj z=>(F.good.cF j hj).2 (by rw [z]; exact q2)
  have E:ExtS B B H (upd H a (.lst us)):=⟨Nat.le_refl _,fun _ _=>rfl,fun i h h'=>absurd h' (Nat.not_lt.mpr h),fun b o e _ hb=>by rw [Zq (fun z=>hb (by rw [z]; exact q2))]; exact e,fun b e=>by
    by_cases q:b=a
    · rw [q,ZX]; simp
    · rw [Zq q]; exact e,fun _ h=>.inl h,rfl,rfl⟩
  have hl:i < ρ.length:=(List.getElem?_eq_some_iff.mp h).1
  have oth:∀(j:Nat) (s:Sl),(ρ.set i (Sl.own ys))[j]?=some s→(j=i∧s=.own ys)∨(j≠i∧ρ[j]?=some s):=fun j s e=>by
    by_cases q:j=i
    · subst q
      rw [List.getElem?_set_self hl] at e
      cases e
      exact .inl ⟨rfl,rfl⟩
    · rw [List.getElem?_set_ne (Ne.symm q)] at e
      exact .inr ⟨q,e⟩
  refine ⟨E,⟨⟨F.good.len,F.good.inj,fun j c e=>(F.good.cel j c e).ext E fun u q=>by
      have hj:j<B.n:=by rw [←F.good.len]; exact (List.getElem?_eq_some_iff.mp e).1
      rw [Zq (hc j hj)]; exact q,F.good.cF,fun b z=>E.sm b (F.good.Fs b z),fun b z=>E.sm b (F.good.oS b z),F.good.oF,F.good.kc⟩,by simp [F.len],fun j d e=>?_,fun j zs e=>?_,fun j k zs ws b hne h1 h2 h3=>?_⟩⟩
  · rcases oth j _ e with ⟨_,z⟩ | ⟨_,z⟩
    · cases z
    · obtain ⟨v,p1,p2⟩:=F.val j d z
      exact ⟨v,p1,p2.ext E⟩
  · rcases oth j _ e with ⟨rfl,z⟩ | ⟨q,z⟩
    · cases z
      exact ⟨a,us,ha,q2,ZX,r.ext E⟩
    · obtain ⟨b,ws,p1,p2,p3,p4⟩:=F.own j zs z
      refine ⟨b,ws,p1,p2,?_,p4.ext E⟩
      rw [Zq (fun z'=>F.ne i j xs zs a (Ne.symm q) h z ha (by rw [←z']; exact p1))]
      exact p3
  · have o1:∃zs',ρ[j]?=some (Sl.own zs'):=by
      rcases oth j _ h1 with ⟨rfl,_⟩ | ⟨_,z⟩
      · exact ⟨xs,h⟩
      · exact ⟨_,z⟩
    have o2:∃ws',ρ[k]?=some (Sl.own ws'):=by
      rcases oth k _ h2 with ⟨rfl,_⟩ | ⟨_,z⟩
      · exact ⟨xs,h⟩
      · exact ⟨_,z⟩
    obtain ⟨zs',o1⟩:=o1
    obtain ⟨ws',o2⟩:=o2
    exact F.ne j k zs' ws' b hne o1 o2 h3
def Zc9 (i:Nat) (f:EM):SM:=fun ρ θ=>(f ρ θ).bind fun d θ=>match ρ[i]? with
  | some (Sl.own xs)=>if xs.length<BIG then .ok (.nx,ρ.set i (.own (xs++[d]))) θ else .bad
  | _=>.bad
theorem Zhc (i:Nat) {x:Str} {e:Expr} {f:EM} {p apos pos pos':Pos} (he:ME X e f) (hN:X.N[i]?=some x:=by rfl) (hv:Vis X.env.scope x:=by first | exact Or.inl rfl | exact Or.inr (Or.inl rfl) | exact Or.inr (Or.inr rfl))
    (hd:(x == ("__debug__":Str))=false:=by decide) (hcd:(x == ("__classdict__":Str))=false:=by decide)
    (hpe:∀{to:TE},PE X (.Name x p) to→PE X (.Call (.Attribute (.Name x p) "append" apos) [e] [] pos) (tBM X.K "list" Zex to (Zdi (tM X f) ZfU)))
    (hs:swapsWith (.Call (.Attribute (.Name x p) "append" apos) [e] [] pos) none pos'.line X.env=pure false:=by rfl):MS X (.Expr (.Call (.Attribute (.Name x p) "append" apos) [e] [] pos) pos') (Zc9 i f):=
  PS.imp (Zgq (hpe (ZeA hN hv hd hcd)) hs) fun D σ H h=>by
  obtain ⟨B,θ,ρ,F,w⟩:=h
  have own:∃xs,ρ[i]?=some (Sl.own xs):=by
    unfold Zc9 at w
    cases q:f ρ θ with
    | bad=>rw [q] at w; exact w.elim
    | ex c θ'=>rw [q] at w; exact False.elim w
    | ok d θ'=>
      rw [q] at w
      simp only [R.bind_ok] at w
      split at w
      · rename_i xs e; exact ⟨xs,e⟩
      · exact w.elim
  obtain ⟨xs,hx⟩:=own
  obtain ⟨a,vs,q1,q2,q3,q4⟩:=F.own i xs hx
  refine ⟨.ref a,q1,.inl ⟨rfl,vs,SqL.of q3⟩,?_⟩
  refine ZB (Zb3 F w) ?_
  rintro y H1 ⟨B1,θ1,d,E1,F1,rd,w1⟩
  rw [hx] at w1
  simp only at w1
  split at w1
  · rename_i hz
    obtain ⟨a',us,p1,p2,p3,p4⟩:=F1.own i xs hx
    rw [q1] at p1
    cases p1
    refine ⟨a,us,y,rfl,rfl,p3,by rw [p4.len]; exact Nat.lt_of_lt_of_le hz (Zy (Nat.le_refl _)),?_⟩
    obtain ⟨E2,F2⟩:=F1.updOwn hx q1 (p4.app (show RepL B1 H1 [d] [y] from ⟨y,[],rfl,rd,rfl⟩))
    exact w1 _ _ _ E2 F2
  · exact w1.elim
def Zcc (i:Nat) (f:SM):SM:=fun ρ θ=>match ρ[i]? with
  | some (Sl.own xs)=>f (ρ.set i (.val (.lst xs))) θ
  | _=>f ρ θ
theorem ZfV {i:Nat} {f:SM} {D:Ends} {σ:St} {H:Hp} (h:tMS X (Zcc i f) D σ H):tMS X f D σ H:=by
  obtain ⟨B,θ,ρ,F,w⟩:=h
  unfold Zcc at w
  split at w
  · rename_i xs hx
    obtain ⟨a,vs,q1,q2,q3,q4⟩:=F.own i xs hx
    let B':Bx:={ B with os:=B.os.filter fun b=>decide (b≠a) }
    have sub:∀b,b∈B'.os→b∈B.os∧b≠a:=fun b hb=>by
      have:=List.mem_filter.mp hb
      exact ⟨this.1,of_decide_eq_true this.2⟩
    have E:ExtS B B' H H:=⟨Nat.le_refl _,fun _ _=>rfl,fun i h h'=>absurd h' (Nat.not_lt.mpr h),fun _ _ e _ _=>e,fun _ e=>e,fun b hb=>.inl (sub b hb).1,rfl,rfl⟩
    have hc:∀j,j<B.n→B.m j≠a:=fun j hj z=>(F.good.cF j hj).2 (by rw [z]; exact q2)
    have G:Good X.cl B' θ H:=⟨F.good.len,F.good.inj,fun j c e=>(F.good.cel j c e).ext E fun _ q=>q,fun j hj=>⟨(F.good.cF j hj).1,fun z=>(F.good.cF j hj).2 (sub _ z).1⟩,F.good.Fs,fun b z=>F.good.oS b (sub b z).1,fun b z=>F.good.oF b (sub b z).1,F.good.kc⟩
    have rv:RepV B' H (.lst xs) (.ref a):=⟨a,vs,rfl,q3,⟨hc,F.good.oF a q2,fun z=>(sub a z).2 rfl⟩,q4.ext E⟩
    have hl:i < ρ.length:=(List.getElem?_eq_some_iff.mp hx).1
    have oth:∀(j:Nat) (s:Sl),(ρ.set i (Sl.val (.lst xs)))[j]?=some s→(j=i∧s=.val (.lst xs))∨(j≠i∧ρ[j]?=some s):=fun j s e=>by
      by_cases q:j=i
      · subst q
        rw [List.getElem?_set_self hl] at e
        cases e
        exact .inl ⟨rfl,rfl⟩
      · rw [List.getElem?_set_ne (Ne.symm q)] at e
        exact .inr ⟨q,e⟩
    refine ⟨B',θ,_,⟨G,by simp [F.len],fun j d e=>?_,fun j ys e=>?_,fun j k ys zs b hne h1 h2 h3=>?_⟩,wpS.trans w E⟩
    · rcases oth j _ e with ⟨rfl,z⟩ | ⟨_,z⟩
      · cases z; exact ⟨_,q1,rv⟩
      · obtain ⟨v,p1,p2⟩:=F.val j d z
        exact ⟨v,p1,p2.ext E⟩
    · rcases oth j _ e with ⟨_,z⟩ | ⟨q,z⟩
      · cases z
      · obtain ⟨b,ws,p1,p2,p3,p4⟩:=F.own j ys z
        refine ⟨b,ws,p1,List.mem_filter.mpr ⟨p2,decide_eq_true fun z'=>?_⟩,p3,p4.ext E⟩
        subst z'
        exact F.ne i j xs ys b (Ne.symm q) hx z q1 p1
    · rcases oth j _ h1 with ⟨_,z⟩ | ⟨_,z1⟩
      · cases z
      · rcases oth k _ h2 with ⟨_,z⟩ | ⟨_,z2⟩
        · cases z
        · exact F.ne j k ys zs b hne z1 z2 h3
  · exact ⟨B,θ,ρ,F,w⟩
theorem Zhb (i:Nat) {st:Stmt} {f:SM} (h:MS X st f):MS X st (Zcc i f):=PS.imp h fun _ _ _ q=>ZfV q
def Z1 (n:Nat) (ds:List D):List Sl:=ds.map Sl.val++List.replicate (n-ds.length) Sl.no
def ZaE (np nn:Nat) (fb:SM):GM:=fun ds θ=>if ds.length=np then (fb (Z1 nn ds) θ).bind fun p θ=>match p.1 with
  | .nx=>.ok .non θ
  | .rt d=>.ok d θ
  | _=>.bad
  else .bad
def spM (X:Mo) (f:GM):Sp:=fun vs H Q E=>∃B θ ds,B.os=[]∧Good X B θ H∧RepL B H ds vs∧(match f ds θ with
  | .ok d θ'=>∀B' H' v,ExtE B B' H H'→Good X B' θ' H'→RepV B' H' d v→Q v H'
  | .ex c θ'=>False
  | .bad=>False)
def za (P:Program) (w:World) (K:PySem.W.Frag) (mg:Str→Option Value) (base:Heap) (k:Nat) (x:Str) (f:GM):Prop:=∃ps,Def P w K mg base k x ps (spM ⟨ZdK mg,K⟩ f)
theorem Zea {cl:Mo} {B:Bx} {θ:Sto} {H:Hp} {ds:List D} {vs:List V} {N:List Str} {nn:Nat} (G:Good cl B θ H) (r:RepL B H ds vs) (hn:N.length=nn):Frm cl B θ (Z1 nn ds) (Za0 N vs) H:=by
  subst hn
  have hl:=r.len
  have key:∀(i:Nat) (s:Sl),(Z1 N.length ds)[i]?=some s→s=.no∨∃d,s=.val d∧∃v,(Za0 N vs)[i]?=some (some v)∧RepV B H d v:=fun i s e=>by
    unfold Z1 at e
    by_cases q:i<ds.length
    · rw [List.getElem?_append_left (by simpa using q),List.getElem?_map,List.getElem?_eq_getElem q] at e
      cases e
      obtain ⟨v,h1,h2⟩:=r.get (List.getElem?_eq_getElem q)
      refine .inr ⟨_,rfl,v,?_,h2⟩
      unfold Za0
      rw [List.getElem?_append_left (by simpa [hl] using q),List.getElem?_map,h1]
      rfl
    · rw [List.getElem?_append_right (by simpa using q)] at e
      exact .inl (List.eq_of_mem_replicate (List.mem_of_getElem? e))
  refine ⟨G,by simp [Z1,Za0,hl],fun i d e=>?_,fun i xs e=>?_,fun i j xs ys a _ e _=>?_⟩
  · rcases key i _ e with z | ⟨d',z,v',h1,h2⟩
    · cases z
    · cases z; exact ⟨v',h1,h2⟩
  · rcases key i _ e with z | ⟨d',z,_⟩<;>cases z
  · rcases key i _ e with z | ⟨d',z,_⟩<;>cases z
theorem mfn {P:Program} {w:World} {K:PySem.W.Frag} {mg:Str→Option Value} {base:Heap} {x qual:Str} {st:Stmt} {N ps:List Str} {k:Nat} {fb:SM} {f:Addr} {fd:FuncData} (F:Fun K x qual st f fd) (S:ZP N ps (Zi st)) (np nn:Nat) (hp:ps.length=np) (hn:N.length=nn)
    (hbody:∀(cdv:Value) (A:Around) (outer:List Env) (s:Shared) (H:Hp) (E:XK),Room k (A.deeper (envOfC qual (Zi st) s.heap.objs.size f cdv))→MSs (Zbd CX0 P w K mg base N qual (Zi st) f cdv A outer s H E).nox (ZH st) fb) :
    FnOk P w K mg base CX0 (k+1) f fd ps (spM ⟨ZdK mg,K⟩ (ZaE np nn fb)):=by
  refine F.ok S ?_ ?_
  · rintro vs H Q E ⟨B,θ,ds,_,_,r,q⟩
    unfold ZaE at q
    split at q
    · rename_i h
      split at h
      · rename_i hl; rw [r.len,hl,hp]
      · cases h
    · exact q.elim
    · exact q.elim
  · intro cdv A outer s H vs Q E hr h
    obtain ⟨B,θ,ds,hos,G,r,q⟩:=h
    refine ⟨tMS (Zbd CX0 P w K mg base N qual (Zi st) f cdv A outer s H E).nox fb,hbody cdv A outer s H E hr,B,θ,Z1 nn ds,Zea G r hn,?_⟩
    unfold ZaE at q
    by_cases hl:ds.length=np
    · rw [if_pos hl] at q
      cases e:fb (Z1 nn ds) θ with
      | bad=>rw [e] at q; exact q.elim
      | ex c θ'=>rw [e] at q; exact q.elim
      | ok p θ'=>
        rw [e] at q
        obtain ⟨fl,ρ'⟩:=p
        intro B' H' σ' E' F'
        have hos':∀a,a∈B.os→False:=fun a ha=>by rw [hos] at ha; cases ha
        let B2:Bx:={ B' with os:=[] }
        have E2:ExtE B B2 H H':=⟨⟨E'.n,E'.m,E'.fr,E'.keep,E'.sm,fun a ha=>(nomatch ha),E'.F,E'.ks⟩,hos.symm,fun a o ha=>(hos' a ha).elim⟩
        have E3:ExtS B' B2 H' H':=⟨Nat.le_refl _,fun _ _=>rfl,fun i h h'=>absurd h' (Nat.not_lt.mpr h),fun _ _ e _ _=>e,fun _ e=>e,fun b hb=>(nomatch hb),rfl,rfl⟩
        have G2:Good ⟨ZdK mg,K⟩ B2 θ' H':=⟨F'.good.len,F'.good.inj,fun j c e=>(F'.good.cel j c e).ext E3 fun _ q=>q,fun j hj=>⟨(F'.good.cF j hj).1,fun z=>nomatch z⟩,F'.good.Fs,fun b z=>(nomatch z),fun b z=>(nomatch z),F'.good.kc⟩
        cases fl with
        | nx=>exact q B2 H' .non E2 G2 rfl
        | rt d=>exact fun v rv=>q B2 H' v E2 G2 (rv.ext E3)
        | bk=>exact q.elim
        | ct=>exact q.elim
    · rw [if_neg hl] at q
      exact q.elim
theorem Zb9 {P:Program} {w:World} {K:PySem.W.Frag} {mg:Str→Option Value} {base:Heap} {x:Str} {st:Stmt} {N ps:List Str} {k:Nat} {fb:SM} (D0:ZV K mg x st ps) (S:ZP N ps (Zi st)) (np nn:Nat) (hp:ps.length=np) (hn:N.length=nn)
    (hbody:∀(f:Addr) (cdv:Value) (A:Around) (outer:List Env) (s:Shared) (H:Hp) (E:XK),Room k (A.deeper (envOfC x (Zi st) s.heap.objs.size f cdv))→MSs (Zbd CX0 P w K mg base N x (Zi st) f cdv A outer s H E).nox (ZH st) fb):za P w K mg base (k+1) x (ZaE np nn fb):=by
  obtain ⟨f,fd,F,b,m⟩:=D0
  exact ⟨ps,f,fd,mfn F S np nn hp hn (hbody f),b,F.kp,m⟩
def Bx.inC (B:Bx):Bx:={ B with F:=fun a=>B.F a∨a∈B.os,os:=[] }
theorem inC_ok {B:Bx} {a:Addr}:B.inC.ok a↔B.ok a:=by
  constructor
  · rintro ⟨h1,h2,h3⟩
    exact ⟨h1,fun z=>h2 (.inl z),fun z=>h2 (.inr z)⟩
  · rintro ⟨h1,h2,h3⟩
    exact ⟨h1,fun z=>z.elim h2 h3,fun z=>nomatch z⟩
mutual
theorem RepV.same {B B':Bx} {H:Hp} (hn:B'.n=B.n) (hm:B'.m=B.m) (hk:B'.ks=B.ks) (ho:∀a,B.ok a→B'.ok a):∀{d:D} {v:V},RepV B H d v→RepV B' H d v
  | .non,_,h=>h
  | .bl _,_,h=>h
  | .int _,_,h=>h
  | .str _,_,h=>h
  | .ty _,_,h=>h
  | .scr _,_,h=>by
    obtain ⟨a,e,h⟩:=h
    refine ⟨a,e,?_⟩
    rcases h with ⟨o,h,k⟩ | h
    · exact .inl ⟨o,h,ho a k⟩
    · exact .inr (by rw [hk]; exact h)
  | .tup _,_,h=>by obtain ⟨a,vs,e,h,k,l⟩:=h; exact ⟨a,vs,e,h,ho a k,RepL.same hn hm hk ho l⟩
  | .lst _,_,h=>by obtain ⟨a,vs,e,h,k,l⟩:=h; exact ⟨a,vs,e,h,ho a k,RepL.same hn hm hk ho l⟩
  | .ref l,_,h=>⟨by rw [hn]; exact h.1,by rw [hm]; exact h.2⟩
theorem RepL.same {B B':Bx} {H:Hp} (hn:B'.n=B.n) (hm:B'.m=B.m) (hk:B'.ks=B.ks) (ho:∀a,B.ok a→B'.ok a):∀{ds:List D} {vs:List V},RepL B H ds vs→RepL B' H ds vs
  | [],_,h=>h
  | _::_,_,h=>by obtain ⟨v,r,e,hv,hr⟩:=h; exact ⟨v,r,e,RepV.same hn hm hk ho hv,RepL.same hn hm hk ho hr⟩
end
theorem RepKV.same {κ:Type} {B B':Bx} {H:Hp} (hn:B'.n=B.n) (hm:B'.m=B.m) (hk:B'.ks=B.ks) (ho:∀a,B.ok a→B'.ok a):∀{ks:List (κ×D)} {vs:List (κ×V)},RepKV B H ks vs→RepKV B' H ks vs
  | _,_,.nil=>.nil
  | _,_,.cons h t=>.cons ⟨h.1,RepV.same hn hm hk ho h.2⟩ (RepKV.same hn hm hk ho t)
theorem CellOk.same {cl:Mo} {B B':Bx} {H:Hp} {a:Addr} {c:Zgf} (hn:B'.n=B.n) (hm:B'.m=B.m) (hk:B'.ks=B.ks) (ho:∀a,B.ok a→B'.ok a) (k:CellOk cl B H a c):CellOk cl B' H a c:=by
  cases c with
  | lst xs=>obtain ⟨vs,e,r⟩:=k; exact ⟨vs,e,r.same hn hm hk ho⟩
  | dK kvs=>obtain ⟨vs,e,r⟩:=k; exact ⟨vs,e,r.same hn hm hk ho⟩
  | dT kvs=>obtain ⟨vs,e,r⟩:=k; exact ⟨vs,e,r.same hn hm hk ho⟩
  | ins C fs=>obtain ⟨dx,vs,e,r⟩:=k; exact ⟨dx,vs,e,r.same hn hm hk ho⟩
theorem ZdD {cl:Mo} {B:Bx} {θ:Sto} {H:Hp} (G:Good cl B θ H):Good cl B.inC θ H:=
  ⟨G.len,G.inj,fun i c e=>CellOk.same (B:=B) (B':=B.inC) rfl rfl rfl (fun a=>inC_ok.mpr) (G.cel i c e),fun i hi=>⟨fun z=>z.elim (G.cF i hi).1 (G.cF i hi).2,fun z=>nomatch z⟩,fun a z=>z.elim (G.Fs a) (G.oS a),fun a z=>(nomatch z),fun a z=>(nomatch z),G.kc⟩
theorem Zfj {cl:Mo} {B B':Bx} {θ θ':Sto} {H H':Hp} (G:Good cl B θ H) (E:ExtE B.inC B' H H') (G':Good cl B' θ' H') :
    ExtE B { B' with F:=B.F,os:=B.os } H H'∧Good cl { B' with F:=B.F,os:=B.os } θ' H'∧∀d v,RepV B' H' d v→RepV { B' with F:=B.F,os:=B.os } H' d v:=by
  have hF:B'.F=fun a=>B.F a∨a∈B.os:=E.F
  have ho:∀a,B'.ok a→Bx.ok { B' with F:=B.F,os:=B.os } a:=fun a ⟨h1,h2,h3⟩=>by
    rw [hF] at h2
    exact ⟨h1,fun z=>h2 (.inl z),fun z=>h2 (.inr z)⟩
  have keep:∀a o,H a=some o→(∀i,i<B.n→B.m i≠a)→H' a=some o:=fun a o h k=>E.keep a o h k (fun z=>nomatch z)
  refine ⟨⟨⟨E.n,E.m,E.fr,fun a o h k _=>keep a o h k,E.sm,fun a h=>.inl h,rfl,E.ks⟩,rfl,fun a o _ k h=>keep a o h k⟩,⟨G'.len,G'.inj,fun i c e=>CellOk.same (B:=B') (B':={ B' with F:=B.F,os:=B.os }) rfl rfl rfl ho (G'.cel i c e),fun i hi=>?_,fun a z=>E.sm a (G.Fs a z),fun a z=>E.sm a (G.oS a z),G.oF,G'.kc⟩,fun d v r=>RepV.same (B:=B') (B':={ B' with F:=B.F,os:=B.os }) rfl rfl rfl ho r⟩
  have:=(G'.cF i hi).1
  rw [hF] at this
  exact ⟨fun z=>this (.inl z),fun z=>this (.inr z)⟩
theorem Zjw {f:GM} {σ:St} {B:Bx} {θ:Sto} {H:Hp} {ds:List D} {vs:List V} {Q:VK} {E:XK} (G:Good X.cl B θ H) (r:RepL B H ds vs) (w:wpR X σ RepV B H (f ds θ) Q):spM X.cl f vs H Q E:=by
  refine ⟨B.inC,θ,ds,rfl,ZdD G,RepL.same (B:=B) (B':=B.inC) rfl rfl rfl (fun a=>inC_ok.mpr) r,?_⟩
  cases e:f ds θ with
  | bad=>rw [e] at w; exact w
  | ex c θ'=>rw [e] at w; exact w
  | ok d θ'=>
    rw [e] at w
    intro B' H' v E' G' rv
    obtain ⟨h1,h2,h3⟩:=Zfj G E' G'
    exact w _ H' v h1 h2 (h3 d v rv)
theorem Zk {k j:Nat} {x:Str} {f:GM} {p pos:Pos} {e:Expr} {es:List Expr} {fs:AM} (D0:za X.prog X.w X.K X.mg X.base k x f) (hr:Room j X.A) (hj:k≤j) (ha:MA X (e::es) fs) (hg:Gl X x:=by rfl) (hdb:(x == ("__debug__":Str))=false:=by decide)
    (he:starEach (e::es) X.env=(false,eval e X.env)::starEach es X.env:=by rfl) (hpl:(backTo pos (starEach es X.env)).any (·.1)=false:=by rfl):ME X (.Call (.Name x p) (e::es) [] pos) (mCB f fs):=by
  obtain ⟨ps,D0⟩:=D0
  refine PE.imp (Zh4 D0 hr hj ha hg hdb he hpl) fun σ H Q h=>?_
  obtain ⟨B,θ,ρ,F,w⟩:=h
  refine zG (Zdj F w) ?_
  rintro vs H1 ⟨B1,θ1,ds,E1,F1,rd,w1⟩
  rw [List.append_nil]
  exact Zjw F1.good rd w1
end
end L2.MM
namespace L2.MM
open PySem PySem.Spec PyProof.Rows PySem.SeqAt
noncomputable section
def Zgo (K:PySem.W.Frag):Sp:=fun vs H Q _=>∃(a:Addr) (ns:List Int),vs=[.ref a]∧ZjD H∧SqL K H a (ns.map V.int)∧ns.length≤63∧∀H',Q (.bl true) H'
theorem Zjr {P:Program} {w:World} {K:PySem.W.Frag} {mg:Str→Option Value} {base:Heap} {k:Nat} {f:Addr} {fd:FuncData} {ps:List Str} {g:GM} (h:∀ns:List Int,ns.length≤63→∃θ',g [.scr ns] []=.ok (.bl true) θ')
    (F:FnOk P w K mg base CX0 k f fd ps (spM ⟨ZdK mg,K⟩ g)):FnOk P w K mg base CX0 k f fd ps (Zgo K):=by
  refine F.imp ?_
  rintro vs H Q E ⟨a,ns,rfl,hO,hS,hl,q⟩
  obtain ⟨θ',e⟩:=h ns hl
  refine ⟨⟨0,fun _=>0,fun _=>False,[],KL K⟩,[],[.scr ns],rfl,⟨rfl,fun i j hi=>absurd hi (Nat.not_lt_zero _),fun i c h=>by simp at h,fun i hi=>absurd hi (Nat.not_lt_zero _),fun a h=>h.elim,fun a h=>(nomatch h),fun a h=>(nomatch h),fun a ns h=>h⟩,?_,?_⟩
  · refine ⟨.ref a,[],rfl,⟨a,rfl,?_⟩,rfl⟩
    rcases hS with (h1 | ⟨o,h1⟩) | h1
    · rcases hO a with z | ⟨o,xs,z⟩
      · rw [z] at h1; cases h1
      · rw [z] at h1; cases h1
    · exact .inl ⟨o,h1,fun i hi=>absurd hi (Nat.not_lt_zero _),fun z=>z,fun z=>(nomatch z)⟩
    · exact .inr h1
  · rw [e]
    intro B' H' v _ _ rv
    cases (show v=V.bl true from rv)
    exact q H'
end
end L2.MM
namespace L2.MM
open PySem PySem.Spec PyProof.Rows PySem.SeqAt
noncomputable section
section
variable {i j k:Nat} {ρ:List Sl} {θ:Sto} {f g h:EM} {fs:AM} {t u:TMr}
@[simp] theorem zq:Zd i ρ θ=match ρ[i]? with | some (Sl.val d)=>.ok d θ | _=>.bad:=nr rfl
@[simp] theorem x_c {d:D}:mC d ρ θ=.ok d θ:=nr rfl
@[simp] theorem Zb0 {o:OM}:mOp o f g ρ θ=(f ρ θ).bind fun x θ=>(g ρ θ).bind fun y θ=>o x y θ:=nr rfl
@[simp] theorem Zhx:Zl f ρ θ=(f ρ θ).bind fun x θ=>match x with | .bl k=>.ok k θ | _=>.bad:=nr rfl
@[simp] theorem ZmP:Za8 f ρ θ=(f ρ θ).bind fun x θ=>match Zdg θ x with | some k=>.ok k θ | none=>.bad:=nr rfl
@[simp] theorem ZmW:Zhf t u ρ θ=(t ρ θ).bind fun k θ=>if k=true then u ρ θ else .ok false θ:=nr rfl
@[simp] theorem Zm4:mOr t u ρ θ=(t ρ θ).bind fun k θ=>if k=true then .ok true θ else u ρ θ:=nr rfl
@[simp] theorem ZmQ:Zfr t ρ θ=(t ρ θ).bind fun k θ=>.ok (!k) θ:=nr rfl
def ZlO (g:Sto→R D):D→Sto→R D
  | .bl true,θ=>g θ
  | .bl false,θ=>.ok (.bl false) θ
  | _,_=>.bad
@[simp] theorem ZlZ {g:Sto→R D} {k:Bool}:ZlO g (.bl k) θ=if k=true then g θ else .ok (.bl false) θ:=by cases k<;>rfl
@[simp] theorem Zl8:Zin f g ρ θ=(f ρ θ).bind (ZlO (g ρ)):=by
  show (f ρ θ).bind _=_
  congr 1
  funext x θ
  cases x<;>first | rfl | (rename_i b; cases b<;>rfl)
@[simp] theorem ZkX {p:Prop} [Decidable p] {m:Bool}:(if p then R.ok m θ else R.ok false θ)=R.ok (decide p && m) θ:=by by_cases h:p<;>simp [h]
@[simp] theorem Zly {p:Prop} [Decidable p] {m:Bool}:(if p then R.ok true θ else R.ok m θ)=R.ok (decide p || m) θ:=by by_cases h:p<;>simp [h]
@[simp] theorem ZmR:Zmy f ρ θ=(f ρ θ).bind fun x θ=>match x with | .int i=>.ok (.int (-i)) θ | _=>.bad:=nr rfl
@[simp] theorem ZmT:ZeO t f g ρ θ=(t ρ θ).bind fun k θ=>if k=true then f ρ θ else g ρ θ:=nr rfl
@[simp] theorem Za5:Zg ρ θ=.ok [] θ:=nr rfl
@[simp] theorem z7:Zb f fs ρ θ=(f ρ θ).bind fun x θ=>(fs ρ θ).bind fun xs θ=>.ok (x::xs) θ:=nr rfl
@[simp] theorem ZmO:zX fs ρ θ=(fs ρ θ).bind fun xs θ=>if xs.length≤BIG then .ok (.tup xs) θ else .bad:=nr rfl
@[simp] theorem Zhz:zA fs ρ θ=(fs ρ θ).bind fun xs θ=>if xs.length≤BIG then .ok (.lst xs) θ else .bad:=nr rfl
@[simp] theorem ZhB {o:GM}:mCB o fs ρ θ=(fs ρ θ).bind fun xs θ=>o xs θ:=nr rfl
@[simp] theorem Zm3 {lo hi:PM}:mSl f lo hi ρ θ=(f ρ θ).bind fun x θ=>(lo ρ θ).bind fun l θ=>(hi ρ θ).bind fun h θ=>match Zaq θ x l h with
  | some d=>.ok d θ
  | none=>.bad:=nr rfl
@[simp] theorem Zl6:Zad fs ρ θ=(fs ρ θ).bind fun ds θ=>match ds with
  | [.int j]=>if -1000000≤j∧j≤1000000 then .ok (.rng 0 j.toNat) θ else .bad
  | _=>.bad:=by
  unfold Zad; exact nr rfl
variable {a b:SM} {Fl':Fl×List Sl}
@[simp] theorem Zl5:zK ρ θ=.ok (.nx,ρ) θ:=nr rfl
@[simp] theorem ZmV:Zft ρ θ=.bad:=nr rfl
@[simp] theorem Zs {ρ':List Sl}:Zdh (.ok (.nx,ρ') θ) a=a ρ' θ:=nr rfl
@[simp] theorem Zd2 {ρ':List Sl} {d:D}:Zdh (.ok (.rt d,ρ') θ) a=.ok (.rt d,ρ') θ:=nr rfl
@[simp] theorem zb:Zv a b ρ θ=Zdh (a ρ θ) b:=nr rfl
@[simp] theorem Zl7:Zil f ρ θ=(f ρ θ).bind fun _ θ=>.ok (.nx,ρ) θ:=nr rfl
@[simp] theorem Zhy:zY f ρ θ=(f ρ θ).bind fun d θ=>.ok (.rt d,ρ) θ:=nr rfl
@[simp] theorem zF:mIf t a b ρ θ=(t ρ θ).bind fun k θ=>if k=true then a ρ θ else b ρ θ:=nr rfl
@[simp] theorem ZbZ:Zx i f ρ θ=(f ρ θ).bind fun d θ=>.ok (.nx,ρ.set i (.val d)) θ:=nr rfl
@[simp] theorem ZkZ:ZeM i fs ρ θ=(fs ρ θ).bind fun xs θ=>if xs.length≤BIG then .ok (.nx,ρ.set i (.own xs)) θ else .bad:=nr rfl
@[simp] theorem Zk2:Zc9 i f ρ θ=(f ρ θ).bind fun d θ=>match ρ[i]? with
  | some (Sl.own xs)=>if xs.length<BIG then .ok (.nx,ρ.set i (.own (xs++[d]))) θ else .bad
  | _=>.bad:=nr rfl
@[simp] theorem Zk1:Zcc i a ρ θ=match ρ[i]? with | some (Sl.own xs)=>a (ρ.set i (.val (.lst xs))) θ | _=>a ρ θ:=nr rfl
@[simp] theorem Zcn {ρ':List Sl}:ZgA a (.nx,ρ') θ=a ρ' θ:=nr rfl
@[simp] theorem Zd3 {ρ':List Sl} {d:D}:ZgA a (.rt d,ρ') θ=.ok (.rt d,ρ') θ:=nr rfl
@[simp] theorem ZmU {d:D}:gNm i d ρ=some (ρ.set i (.val d)):=nr rfl
@[simp] theorem Zgg {np nn:Nat} {ds:List D}:ZaE np nn a ds θ=if ds.length=np then (a (Z1 nn ds) θ).bind fun p θ=>match p.1 with | .nx=>.ok .non θ | .rt d=>.ok d θ | _=>.bad else .bad:=nr rfl
@[simp] theorem ZlX {n:Nat} {ds:List D}:Z1 n ds=ds.map Sl.val++List.replicate (n-ds.length) Sl.no:=nr rfl
@[simp] theorem ZjI {xs:List D}:seqOf θ (.lst xs)=some xs:=nr rfl
@[simp] theorem ZkU {b:Bool}:Zdg θ (.bl b)=some b:=nr rfl
@[simp] theorem ZjZ {ns:List Int}:Zdg θ (.scr ns)=some (!(ns.map D.int).isEmpty):=nr rfl
@[simp] theorem Zj0 {n:Int}:Zae θ (.int n)=.int n:=nr rfl
@[simp] theorem ZhA {xs:List D} {n:Int}:ixM (.lst xs) (.int n) θ=match atI xs n with | some d=>.ok d θ | none=>.bad:=nr rfl
@[simp] theorem Zk0 {xs:List Int} {n:Int}:ixM (.scr xs) (.int n) θ=match atI (xs.map D.int) n with | some d=>.ok d θ | none=>.bad:=nr rfl
@[simp] theorem ZmS {xs:List D}:ZZ [.lst xs] θ=.ok (.int xs.length) θ:=nr rfl
@[simp] theorem ZkV {xs:List Int}:ZZ [.scr xs] θ=.ok (.int (xs.map D.int).length) θ:=nr rfl
@[simp] theorem ZjJ {xs:List D}:Zhq [.lst xs] θ=match ZcL xs with | some ns=>.ok (.bl (ns.all id)) θ | none=>.bad:=nr rfl
end
mutual
def pl:Nat→D→Bool
  | _,.non=>true
  | _,.bl _=>true
  | _,.int _=>true
  | _,.str x=>PyData.strOk x
  | k+1,.tup xs=>pls k xs
  | k+1,.lst xs=>pls k xs
  | _,_=>false
def pls:Nat→List D→Bool
  | _,[]=>true
  | k,d::r=>pl k d && pls k r
end
mutual
def noB:D→Bool
  | .bl _=>false
  | .tup xs=>Zcy xs
  | .lst xs=>Zcy xs
  | _=>true
def Zcy:List D→Bool
  | []=>true
  | d::r=>noB d && Zcy r
end
mutual
theorem Zgr:∀(k:Nat) (d:D),pl k d=true→zH d=true∧(dat d).canLay0=true∧(dat d).depth≤k
  | _,.non,_=>⟨rfl,rfl,Nat.zero_le _⟩
  | _,.bl _,_=>⟨rfl,rfl,Nat.zero_le _⟩
  | _,.int _,_=>⟨rfl,rfl,Nat.zero_le _⟩
  | k,.str x,h=>⟨rfl,by cases k<;>simpa [pl,dat,PyData.canLay0] using h,Nat.zero_le _⟩
  | k+1,.tup xs,h=>by
    obtain ⟨a,b,c⟩:=ZfX k xs (by simpa [pl] using h)
    exact ⟨a,b,by simp only [dat,PyData.depth]; omega⟩
  | k+1,.lst xs,h=>by
    obtain ⟨a,b,c⟩:=ZfX k xs (by simpa [pl] using h)
    exact ⟨a,b,by simp only [dat,PyData.depth]; omega⟩
  | 0,.tup xs,h=>by simp [pl] at h
  | 0,.lst xs,h=>by simp [pl] at h
  | 0,.ty _,h=>by simp [pl] at h
  | 0,.scr _,h=>by simp [pl] at h
  | 0,.ref _,h=>by simp [pl] at h
  | _+1,.ty _,h=>by simp [pl] at h
  | _+1,.scr _,h=>by simp [pl] at h
  | _+1,.ref _,h=>by simp [pl] at h
theorem ZfX:∀(k:Nat) (ds:List D),pls k ds=true→zu ds=true∧PyData.canLayAll0 (Zbc ds)=true∧PyData.depthAll (Zbc ds)≤k
  | _,[],_=>⟨rfl,rfl,Nat.zero_le _⟩
  | k,d::r,h=>by
    have h':pl k d=true∧pls k r=true:=by simpa [pls] using h
    obtain ⟨a,b,c⟩:=Zgr k d h'.1
    obtain ⟨a',b',c'⟩:=ZfX k r h'.2
    exact ⟨by simp [zu,a,a'],by simp [Zbc,PyData.canLayAll0,b,b'],by simp only [Zbc,PyData.depthAll]; omega⟩
end
mutual
theorem Zgv:∀(d e:D),noB d=true→noB e=true→noMix (dat d) (dat e)=true:=fun d e p q=>by
  cases d with
  | bl _=>simp [noB] at p
  | tup xs=>
    cases e with
    | bl _=>simp [noB] at q
    | tup ys=>simp only [dat,noMix]; exact Zdu xs ys p q
    | _=>simp [dat,noMix]
  | lst xs=>
    cases e with
    | bl _=>simp [noB] at q
    | lst ys=>simp only [dat,noMix]; exact Zdu xs ys p q
    | _=>simp [dat,noMix]
  | _=>cases e<;>simp_all [noB,dat,noMix]
theorem Zdu:∀(ds es:List D),Zcy ds=true→Zcy es=true→noMixAll (Zbc ds) (Zbc es)=true
  | [],[],_,_=>rfl
  | [],_::_,_,_=>rfl
  | _::_,[],_,_=>rfl
  | d::ds,e::es,p,q=>by
    have p':noB d=true∧Zcy ds=true:=by simpa [Zcy] using p
    have q':noB e=true∧Zcy es=true:=by simpa [Zcy] using q
    simp only [Zbc,noMixAll,Bool.and_eq_true]
    exact ⟨Zgv d e p'.1 q'.1,Zdu ds es p'.2 q'.2⟩
end
theorem Zeb {k:Nat} {d:D} (h:pl k d=true) (hk:k≤64):shaped (dat d)=true:=by
  obtain ⟨_,b,c⟩:=Zgr k d h
  unfold shaped
  rw [b,decide_eq_true (by omega)]
  rfl
theorem ZdJ {x y:D} (h1:pl 9 x=true) (h2:pl 9 y=true) (h3:noB x=true) (h4:noB y=true):ZfM x y:=
  ⟨(Zgr _ _ h1).1,(Zgr _ _ h2).1,Zeb h1 (by decide),Zeb h2 (by decide),Zgv x y h3 h4⟩
section
open Classical
theorem Zgb {x y:D} {θ:Sto} (h:ZfM (Zae θ x) (Zae θ y)):eqM x y θ=.ok (.bl (decide (Zae θ x=Zae θ y))) θ:=if_pos h
theorem Zib {x y:D} {θ:Sto} (h:ZfM (Zae θ x) (Zae θ y)):neM x y θ=.ok (.bl (!decide (Zae θ x=Zae θ y))) θ:=if_pos h
end
@[simp] theorem ZmH (a b:Int) (θ:Sto):eqM (.int a) (.int b) θ=.ok (.bl (decide (a=b))) θ:=by
  rw [Zgb (ZdJ rfl rfl rfl rfl)]
  simp
@[simp] theorem Zmx (a b:Int) (θ:Sto):neM (.int a) (.int b) θ=.ok (.bl (!decide (a=b))) θ:=by
  rw [Zib (ZdJ rfl rfl rfl rfl)]
  simp
end
end L2.MM
namespace L2.MM
open PySem PySem.Spec PyProof.Rows PySem.SeqAt My
noncomputable section
@[simp] theorem ZmN:BIG=100000:=nr rfl
def il (ns:List Int):D:=.lst (ns.map D.int)
def itp (ns:List Int):D:=.tup (ns.map D.int)
section
variable {θ:Sto} {a b ns ms:List Int} {i j:Int}
@[simp] theorem ZlJ:D.lst (ns.map D.int)=il ns:=nr rfl
@[simp] theorem Zm2 (x y:Int):D.lst [.int x,.int y]=il [x,y]:=nr rfl
@[simp] theorem Zm1 (x y z w v:Int):D.lst [.int x,.int y,.int z,.int w,.int v]=il [x,y,z,w,v]:=nr rfl
@[simp] theorem Zm0 (x y z w v u:Int):D.lst [.int x,.int y,.int z,.int w,.int v,.int u]=il [x,y,z,w,v,u]:=nr rfl
@[simp] theorem ZmZ (x y z w v u t:Int):D.lst [.int x,.int y,.int z,.int w,.int v,.int u,.int t]=il [x,y,z,w,v,u,t]:=nr rfl
theorem ZjA {α β:Type} (f:α→β) (xs:List α) (n:Int):atI (xs.map f) n=(atI xs n).map f:=by
  unfold L2.atI
  rw [List.length_map]
  cases ixN xs.length n with
  | none=>rfl
  | some k=>simp
theorem ZlC:ixM (il a) (.int i) θ=match atI a i with | some z=>.ok (.int z) θ | none=>.bad:=by
  unfold il
  rw [ZhA,ZjA]
  cases atI a i<;>rfl
theorem ZdR {α:Type} {xs:List α} {n:Nat} {x:α} (h:xs[n]?=some x):atI xs (n:Int)=some x:=Ze0 h
theorem ZiN {xs:List Int} {i:Int} (h0:0≤i) (h:i<xs.length):atI xs i=some (xs.getD i.toNat 0):=by
  have c:i=((i.toNat:Nat):Int):=by omega
  rw [c]
  refine Ze0 ?_
  have d:i.toNat<xs.length:=by omega
  rw [List.getD_eq_getElem?_getD,Int.toNat_natCast,List.getElem?_eq_getElem d]
  rfl
def gt (a:List Int) (i:Nat):Int:=a.getD i 0
theorem ZdC (h0:0≤i) (h:i<a.length):ixM (il a) (.int i) θ=.ok (.int (gt a i.toNat)) θ:=by rw [ZlC,ZiN h0 h]; rfl
@[simp] theorem ZmF {x:Int} {r:List Int}:ixM (il (x::r)) (.int 0) θ=.ok (.int x) θ:=ZdC (a:=x::r) (i:=0) (by decide) (by rw [List.length_cons]; omega)
@[simp] theorem ZmE {x y:Int} {r:List Int}:ixM (il (x::y::r)) (.int 1) θ=.ok (.int y) θ:=ZdC (a:=x::y::r) (i:=1) (by decide) (by rw [List.length_cons,List.length_cons]; omega)
@[simp] theorem ZlB:Zcp [il a] θ=.ok (itp a) θ:=nr rfl
@[simp] theorem ZmC {k:Int}:Zcz (itp a) (.int k) θ=if a.isEmpty=false∧0≤k∧k<1000∧(a.length:Int)*k≤1000 then .ok (itp (List.replicate k.toNat a).flatten) θ else .bad:=by
  unfold itp
  rw [Zie,List.length_map]
  have:(List.replicate k.toNat (a.map D.int)).flatten=(List.replicate k.toNat a).flatten.map D.int:=by
    rw [List.map_flatten,List.map_replicate]
  rw [this]
  simp
end
theorem ZhP {n d:Nat} {k:Int} (h:0≤k):HT.sIx n d (some k)=min k.toNat n:=by
  have c:k=((k.toNat:Nat):Int):=by omega
  rw [c]
  exact HT.sIx_nat n d k.toNat
theorem ZiH {α:Type} (xs:List α) {k:Int} (h:0≤k):ZeV xs none (some k)=xs.take k.toNat:=by
  unfold ZeV
  rw [HT.sIx_none,ZhP h,List.drop_zero,Nat.sub_zero,←List.take_take,List.take_length]
theorem ZiI {α:Type} (xs:List α) {k:Int} (h:0≤k):ZeV xs (some k) none=xs.drop k.toNat:=by
  unfold ZeV
  rw [HT.sIx_none,ZhP h]
  by_cases q:k.toNat≤xs.length
  · rw [Nat.min_eq_left q,List.take_of_length_le]
    rw [List.length_drop]
    exact Nat.le_refl _
  · rw [Nat.min_eq_right (by omega),List.drop_length,List.drop_eq_nil_of_le (by omega)]
    simp
section
variable {θ:Sto} {ρ:List Sl}
@[simp] theorem ZgY {lo:Int} {n:Nat}:(Src.rng lo n).items θ=some ((List.range n).map fun (i:Nat)=>D.int (lo+(i:Int))):=nr rfl
@[simp] theorem ZgW {d:D}:(Src.seq d).items θ=seqOf θ d:=nr rfl
open Classical in
theorem ZcI {S:Src} {all:List D} {elt:D→Sto→R D} {θ:Sto} (f:D→D) (hS:S.items θ=some all):∀(xs acc:List D),(∀x∈xs,elt x θ=.ok (f x) θ)→(acc.length+xs.length≤BIG)→ZcW S all elt xs acc θ=.ok (.lst (acc++xs.map f)) θ
  | [],acc,_,hl=>by
    unfold ZcW
    rw [if_pos ⟨hS,by simpa using hl⟩]
    simp
  | x::r,acc,h,hl=>by
    unfold ZcW
    rw [if_pos hS,h x List.mem_cons_self]
    rw [R.bind_ok,ZcI f hS r (acc++[f x]) (fun y hy=>h y (List.mem_cons_of_mem _ hy)) (by simp at hl ⊢; omega)]
    simp
theorem Zhe {fi:IM} {src:List Nat} {elt:EM} {lo:Int} {n:Nat} {θ':Sto} (f:Int→D) (hi:fi ρ θ=.ok (.rng lo n) θ') (hn:n≤BIG) (he:∀i:Nat,i<n→elt (Z0 src ρ (.int (lo+i))) θ'=.ok (f (lo+i)) θ') :
    ZbF fi src elt ρ θ=.ok (.lst ((List.range n).map fun (i:Nat)=>f (lo+i))) θ':=by
  unfold ZbF
  rw [hi,R.bind_ok]
  simp only [ZgY]
  rw [if_pos (by simpa using hn),ZcI (fun d=>match d with | .int k=>f k | d=>d) rfl]
  · simp
  · intro x hx
    obtain ⟨i,hi,rfl⟩:=List.mem_map.mp hx
    exact he i (List.mem_range.mp hi)
  · simpa using hn
theorem Zhd {fi:IM} {src:List Nat} {elt:EM} {d:D} {xs:List D} {θ':Sto} (f:D→D) (hi:fi ρ θ=.ok (.seq d) θ') (hd:seqOf θ' d=some xs) (hn:xs.length≤BIG) (he:∀x∈xs,elt (Z0 src ρ x) θ'=.ok (f x) θ') :
    ZbF fi src elt ρ θ=.ok (.lst (xs.map f)) θ':=by
  unfold ZbF
  rw [hi,R.bind_ok]
  simp only [ZgW,hd]
  rw [if_pos hn,ZcI (S:=.seq d) f hd xs [] he (by simpa using hn)]
  simp
@[simp] theorem ZlA {src:List Nat} {x:D}:Z0 src ρ x=Sl.val x::src.map fun (j:Nat)=>match ρ[j]? with | some (Sl.val d)=>Sl.val d | _=>Sl.no:=nr rfl
end
end
end L2.MM
namespace My
open PySem L2 L2.MM
noncomputable section
def ZgL:SM:=(zY (ZeO (Zl (mOp neM (mOp ZlN (Zd 0) (Zd 1)) (mC (.int 0)))) (mC (.int 1)) (mC (.int 0))))
def Za1:GM:=ZaE 2 2 ZgL
def ZbY:SM:=(mIf (Za8 (Zd 0)) (zY (mOp ixM (Zd 0) (mOp ZU (Zd 1) (mCB ZZ (Zb (Zd 0) Zg))))) zK)
def ZdQ:SM:=(Zv ZbY
  (zY (mC (.int 0))))
def ZcD:GM:=ZaE 2 2 ZdQ
def ZgM:SM:=(Zv (Zx 2 (mOp ZU (mOp Zz (mCB ZcD (Zb (Zd 0) (Zb (Zd 1) Zg))) (mOp Zcz (mC (.int 104729)) (mOp Zz (Zd 1) (mC (.int 1))))) (mC (.int 4294967291))))
  (Zv (Zx 2 (mOp ZU (mOp Zcz (Zd 2) (mC (.int 48271))) (mC (.int 4294967279))))
  (zY (mOp ZU (mOp Zz (mOp Zcz (mOp ZcH (Zd 2) (mC (.int 64))) (mC (.int 69621))) (Zd 2)) (mC (.int 4294967231))))))
def ZJ:GM:=ZaE 2 3 ZgM
def ZaJ:SM:=(mIf (Zl (mOp eqM (Zd 3) (mC (.int 0)))) (Zx 3 (mOp Zz (mC (.int 4)) (mOp ZU (mCB ZJ (Zb (Zd 0) (Zb (mOp Zz (Zd 1) (mC (.int 2))) Zg))) (mC (.int 65532))))) zK)
def z6:SM:=(mIf (Zhf (Zl (mOp eqM (mOp ZU (mOp ZcH (Zd 2) (mC (.int 2))) (mC (.int 2))) (mC (.int 1)))) (Zl (mOp gtM (mOp ZU (mCB ZJ (Zb (Zd 0) (Zb (mOp Zz (Zd 1) (mC (.int 1))) Zg))) (mC (.int 3))) (mC (.int 0))))) (Zv (Zx 3 (mOp ixM (zA (Zb (mC (.int 4)) (Zb (mC (.int 5)) (Zb (mC (.int 16)) (Zb (mC (.int 536)) (Zb (mC (.int 65535)) (Zb (mC (.int 0)) Zg))))))) (mOp ZU (mCB ZJ (Zb (Zd 0) (Zb (mOp Zz (Zd 1) (mC (.int 3))) Zg))) (mC (.int 6)))))
    ZaJ) zK)
def Zby:SM:=(mIf (Zl (mOp eqM (mOp ZU (Zd 6) (mC (.int 3))) (mC (.int 0)))) (Zx 6 (mOp ixM (zA (Zb (mC (.int 0)) (Zb (mC (.int 1)) (Zb (mC (.int 4294967295)) (Zb (mC (.int 4294967294)) (Zb (mC (.int 2147483648)) (Zb (mC (.int 65535)) (Zb (mC (.int 65536)) Zg)))))))) (mOp ZU (mOp ZcH (Zd 6) (mC (.int 3))) (mC (.int 7))))) zK)
def ZcQ:SM:=(Zfs (Zad (Zb (mC (.int 2)) Zg)) (gNm 5) (Zv (Zx 6 (mCB ZJ (Zb (Zd 0) (Zb (mOp Zz (mOp Zz (Zd 1) (mC (.int 4))) (Zd 5)) Zg))))
    (Zv Zby
    (Zc9 4 (Zd 6)))))
def Zbx:SM:=(mIf (Zl (mOp eqM (Zd 8) (mC (.int 7)))) (Zx 8 (mOp ZU (mCB ZJ (Zb (Zd 0) (Zb (mOp Zz (Zd 1) (mC (.int 8))) Zg))) (mC (.int 17)))) zK)
def Zbw:SM:=(mIf (Zl (mOp eqM (mOp ZU (mCB ZJ (Zb (Zd 0) (Zb (mOp Zz (Zd 1) (mC (.int 27))) Zg))) (mC (.int 5))) (mC (.int 0)))) (Zx 9 (mOp Zcz (zX (Zb (mC (.int 255)) Zg)) (Zd 8))) zK)
def ZgN:SM:=(Zv (Zx 2 (mOp ZU (mCB ZJ (Zb (Zd 0) (Zb (Zd 1) Zg))) (mC (.int 32))))
  (Zv (Zx 3 (mC (.int 0)))
  (Zv z6
  (Zv (ZeM 4 Zg)
  (Zv ZcQ
  (Zv (Zx 7 (zX (Zb (mOp ZU (mCB ZJ (Zb (Zd 0) (Zb (mOp Zz (Zd 1) (mC (.int 6))) Zg))) (mC (.int 65536))) Zg)))
  (Zv (Zx 7 (mOp Zz (Zd 7) (zX (Zb (mOp ZU (mCB ZJ (Zb (Zd 0) (Zb (mOp Zz (Zd 1) (mC (.int 7))) Zg))) (mC (.int 65536))) Zg))))
  (Zv (Zx 8 (mOp ixM (zA (Zb (mC (.int 0)) (Zb (mC (.int 1)) (Zb (mC (.int 15)) (Zb (mC (.int 16)) (Zb (mC (.int 7)) Zg)))))) (mOp ZU (mCB ZJ (Zb (Zd 0) (Zb (mOp Zz (Zd 1) (mC (.int 9))) Zg))) (mC (.int 5)))))
  (Zv Zbx
  (Zv (Zx 9 (mCB Zcp (Zb (ZbF (Zad (Zb (Zd 8) Zg)) [0,1] (mOp ZU (mOp ZcH (mCB ZJ (Zb (Zd 1) (Zb (mOp Zz (mOp Zz (Zd 2) (mC (.int 10))) (Zd 0)) Zg))) (mC (.int 7))) (mC (.int 256)))) Zg)))
  (Zv Zbw
  (Zv (Zx 10 (mOp ZU (mCB ZJ (Zb (Zd 0) (Zb (mOp Zz (Zd 1) (mC (.int 28))) Zg))) (mC (.int 65536))))
  (Zcc 4 (zY (mOp Zz (Zd 7) (zX (Zb (mOp ixM (Zd 4) (mC (.int 0))) (Zb (mOp ixM (Zd 4) (mC (.int 1))) (Zb (Zd 2) (Zb (Zd 10) (Zb (Zd 3) (Zb (Zd 9) Zg))))))))))))))))))))))
def Zeh:GM:=ZaE 2 11 ZgN
end
end My
namespace My
open PySem L2 L2.MM
noncomputable section
def cell (ns:List Int) (k:Int):Int:=if ns.length=0 then 0 else ns.getD (k % (ns.length:Int)).toNat 0
def mix (ns:List Int) (k:Int):Int:=
  ((cell ns k+104729*(k+1)) % 4294967291*48271 % 4294967279/64*69621+(cell ns k+104729*(k+1)) % 4294967291*48271 % 4294967279) % 4294967231
theorem Zig (ns:List Int) (k:Int):0≤mix ns k∧mix ns k<4294967231:=by
  unfold mix; omega
theorem Zjz {ns:List Int} {k:Int} (h:0<ns.length):atI (ns.map D.int) (k % (ns.length:Int))=some (.int (cell ns k)):=by
  have a:=Int.emod_nonneg k (show (ns.length:Int)≠0 by omega)
  have b:=Int.emod_lt_of_pos k (show (0:Int)<ns.length by omega)
  have c:(k % (ns.length:Int))=(((k % (ns.length:Int)).toNat:Nat):Int):=by omega
  rw [c]
  refine Ze0 ?_
  have d:(k % (ns.length:Int)).toNat<ns.length:=by omega
  rw [List.getElem?_map,List.getElem?_eq_getElem d]
  unfold cell
  rw [if_neg (by omega),List.getD_eq_getElem?_getD,List.getElem?_eq_getElem d]
  rfl
@[simp] theorem Zmk (ns:List Int) (k:Int) (θ:Sto):ZcD [.scr ns,.int k] θ=.ok (.int (cell ns k)) θ:=by
  by_cases h:ns.length=0
  · have:ns=[]:=List.eq_nil_of_length_eq_zero h
    subst this
    simp [ZcD,ZdQ,ZbY,cell]
  · have h1:ns.isEmpty=false:=by cases ns with
      | nil=>exact absurd rfl h
      | cons _ _=>rfl
    have h2:0<ns.length:=by omega
    simp [ZcD,ZdQ,ZbY,h1,h2,Zjz (k:=k) h2]
@[simp] theorem ZmX (ns:List Int) (k:Int) (θ:Sto):ZJ [.scr ns,.int k] θ=.ok (.int (mix ns k)) θ:=by
  simp [ZJ,ZgM,ZfL,mix]
end
end My
namespace My
open PySem L2 L2.MM
noncomputable section
structure Seg where
  src:Int
  goal:Int
  num:Int
  ans:Int
  flags:Int
  win:Int
  most:Int
  data:List Int
def Seg.d (s:Seg):D:=.tup [.int s.src,.int s.goal,.int s.num,.int s.ans,.int s.flags,.int s.win,.int s.most,itp s.data]
structure Seg.Ok (s:Seg):Prop where
  src:0≤s.src∧s.src≤65535
  goal:0≤s.goal∧s.goal≤65535
  num:0≤s.num∧s.num≤4294967295
  ans:0≤s.ans∧s.ans≤4294967295
  flags:0≤s.flags∧s.flags≤31
  win:0≤s.win∧s.win≤65535
  most:s.most=0∨(4≤s.most∧s.most≤65535∧s.flags/2 % 2=1)
  data:(∀z∈s.data,0≤z∧z≤255)∧s.data.length≤16
section
variable {s:Seg} {θ:Sto}
@[simp] theorem d1:ixM s.d (.int 1) θ=.ok (.int s.goal) θ:=nr rfl
@[simp] theorem d2:ixM s.d (.int 2) θ=.ok (.int s.num) θ:=nr rfl
@[simp] theorem d3:ixM s.d (.int 3) θ=.ok (.int s.ans) θ:=nr rfl
@[simp] theorem d4:ixM s.d (.int 4) θ=.ok (.int s.flags) θ:=nr rfl
@[simp] theorem d5:ixM s.d (.int 5) θ=.ok (.int s.win) θ:=nr rfl
end
def two (k:Int):List Int:=[k/256 % 256,k % 256]
def ZkJ (k:Int):List Int:=two (k/65536)++two k
def hd (s:Seg):Int:=if s.most=0 then 80 else 96
def ZlP (s:Seg):List Int:=two s.src++two s.goal++(ZkJ s.num++ZkJ s.ans)++[hd s,s.flags]++two s.win
@[simp] theorem two_len (k:Int):(two k).length=2:=rfl
@[simp] theorem ZlI (k:Int):(ZkJ k).length=4:=rfl
@[simp] theorem ZkY (s:Seg):(ZlP s).length=16:=rfl
structure Seg.Put (s:Seg):Prop where
  flags:0≤s.flags∧s.flags≤255
  data:(∀z∈s.data,0≤z∧z≤255)∧s.data.length≤100
def bit (f k:Int):Int:=if Builtin.bitAnd f k=0 then 0 else 1
@[simp] theorem ZmY (f k:Int) (θ:Sto):Za1 [.int f,.int k] θ=.ok (.int (bit f k)) θ:=by
  by_cases h:Builtin.bitAnd f k=0<;>simp [Za1,ZgL,bit,h]
theorem Zjy:∀n:Fin 32,bit (n.val:Int) 1=(n.val:Int) % 2∧bit (n.val:Int) 2=(n.val:Int)/2 % 2∧bit (n.val:Int) 4=(n.val:Int)/4 % 2∧bit (n.val:Int) 8=(n.val:Int)/8 % 2∧bit (n.val:Int) 16=(n.val:Int)/16 % 2:=by decide
theorem ZmI {f:Int} (h:0≤f∧f≤31):bit f 1=f % 2∧bit f 2=f/2 % 2∧bit f 4=f/4 % 2∧bit f 8=f/8 % 2∧bit f 16=f/16 % 2:=by
  have:=Zjy ⟨f.toNat,by omega⟩
  simp only at this
  rw [show ((f.toNat:Nat):Int)=f by omega] at this
  exact this
end
end My
namespace My
open PySem L2 L2.MM
noncomputable section
def ZbR (ns:List Int) (b:Int):Int:=if mix ns b % 32/2 % 2=1∧0<mix ns (b+1) % 3 then (if gt [4,5,16,536,65535,0] (mix ns (b+3) % 6).toNat=0 then 4+mix ns (b+2) % 65532 else gt [4,5,16,536,65535,0] (mix ns (b+3) % 6).toNat) else 0
def ZbD (n:Int):Int:=if n % 3=0 then gt [0,1,4294967295,4294967294,2147483648,65535,65536] (n/3 % 7).toNat else n
def Z6 (ns:List Int) (b:Int):Int:=if gt [0,1,15,16,7] (mix ns (b+9) % 5).toNat=7 then mix ns (b+8) % 17 else gt [0,1,15,16,7] (mix ns (b+9) % 5).toNat
def ZbW (ns:List Int) (b:Int):List Int:=if mix ns (b+27) % 5=0 then List.replicate (Z6 ns b).toNat 255 else (List.range (Z6 ns b).toNat).map fun (k:Nat)=>mix ns (b+10+(k:Int))/7 % 256
def Zbk (ns:List Int) (b:Int):Seg:=⟨mix ns (b+6) % 65536,mix ns (b+7) % 65536,ZbD (mix ns (b+4)),ZbD (mix ns (b+5)),mix ns b % 32,mix ns (b+28) % 65536,ZbR ns b,ZbW ns b⟩
theorem Zhg {P:Nat→Prop} {n:Nat} (h:n<5) (h0:P 0) (h1:P 1) (h2:P 2) (h3:P 3) (h4:P 4):P n:=by
  match n,h with
  | 0,_=>exact h0
  | 1,_=>exact h1
  | 2,_=>exact h2
  | 3,_=>exact h3
  | 4,_=>exact h4
theorem Zeg {P:Nat→Prop} {n:Nat} (h:n<7) (h0:P 0) (h1:P 1) (h2:P 2) (h3:P 3) (h4:P 4) (h5:P 5) (h6:P 6):P n:=by
  match n,h with
  | 0,_=>exact h0
  | 1,_=>exact h1
  | 2,_=>exact h2
  | 3,_=>exact h3
  | 4,_=>exact h4
  | 5,_=>exact h5
  | 6,_=>exact h6
theorem Zet (ns:List Int) (b:Int):0≤Z6 ns b∧Z6 ns b≤16:=by
  unfold Z6
  have h:(mix ns (b+9) % 5).toNat<5:=by omega
  have:0≤gt [0,1,15,16,7] (mix ns (b+9) % 5).toNat∧gt [0,1,15,16,7] (mix ns (b+9) % 5).toNat≤16:=Zhg (P:=fun n=>0≤gt [0,1,15,16,7] n∧gt [0,1,15,16,7] n≤16) h (by decide) (by decide) (by decide) (by decide) (by decide)
  split
  · omega
  · exact this
theorem ZkO (ns:List Int) (b:Int):(Zbk ns b).Ok:=by
  have nm:∀n,0≤n∧n<4294967231→0≤ZbD n∧ZbD n≤4294967295:=fun n hn=>by
    unfold ZbD
    split
    · have h:(n/3 % 7).toNat<7:=by omega
      exact Zeg (P:=fun n=>0≤gt [0,1,4294967295,4294967294,2147483648,65535,65536] n∧gt [0,1,4294967295,4294967294,2147483648,65535,65536] n≤4294967295) h (by decide) (by decide) (by decide) (by decide) (by decide) (by decide) (by decide)
    · omega
  have sz:=Zet ns b
  refine ⟨by simp only [Zbk]; omega,by simp only [Zbk]; omega,nm _ (Zig _ _),nm _ (Zig _ _),by simp only [Zbk]; omega,by simp only [Zbk]; omega,?_,?_,?_⟩
  · show ZbR ns b=0∨(4≤ZbR ns b∧ZbR ns b≤65535∧mix ns b % 32/2 % 2=1)
    unfold ZbR
    split
    · rename_i c
      right
      have h:(mix ns (b+3) % 6).toNat<7:=by omega
      have:gt [4,5,16,536,65535,0] (mix ns (b+3) % 6).toNat=0∨(4≤gt [4,5,16,536,65535,0] (mix ns (b+3) % 6).toNat∧gt [4,5,16,536,65535,0] (mix ns (b+3) % 6).toNat≤65535):=
        Zeg (P:=fun n=>gt [4,5,16,536,65535,0] n=0∨(4≤gt [4,5,16,536,65535,0] n∧gt [4,5,16,536,65535,0] n≤65535)) h (by decide) (by decide) (by decide) (by decide) (by decide) (by decide) (by decide)
      split
      · exact ⟨by omega,by omega,c.1⟩
      · rename_i c2
        have:=this.resolve_left c2
        exact ⟨this.1,this.2,c.1⟩
    · exact .inl rfl
  · show ∀z∈ZbW ns b,0≤z∧z≤255
    unfold ZbW
    split
    · intro z hz
      have:=List.eq_of_mem_replicate hz
      omega
    · intro z hz
      obtain ⟨k,_,rfl⟩:=List.mem_map.mp hz
      omega
  · show (ZbW ns b).length≤16
    unfold ZbW
    split<;>simp<;>omega
theorem ZfS (ns:List Int) (b:Int) (r:List Sl) (θ:Sto):z6 (.val (.scr ns)::.val (.int b)::.val (.int (mix ns b % 32))::.val (.int 0)::r) θ=.ok (.nx,.val (.scr ns)::.val (.int b)::.val (.int (mix ns b % 32))::.val (.int (ZbR ns b))::r) θ:=by
  have g:=ZdC (a:=[4,5,16,536,65535,0]) (i:=mix ns (b+3) % 6) (θ:=θ) (by omega) (by simp; omega)
  unfold ZbR
  generalize gt [4,5,16,536,65535,0] (mix ns (b+3) % 6).toNat=m at *
  by_cases c1:mix ns b % 32/2 % 2=1
  · by_cases c2:0<mix ns (b+1) % 3
    · by_cases c3:m=0
      · simp [z6,ZaJ,c1,c2,c3,g]
      · simp [z6,ZaJ,c1,c2,c3,g]
    · simp [z6,ZaJ,c1,c2]
  · simp [z6,ZaJ,c1]
theorem ZgT (n:Int) (a0 a1 a2 a3 a4 a5:Sl) (r:List Sl) (θ:Sto):Zby (a0::a1::a2::a3::a4::a5::.val (.int n)::r) θ=.ok (.nx,a0::a1::a2::a3::a4::a5::.val (.int (ZbD n))::r) θ:=by
  have g:=ZdC (a:=[0,1,4294967295,4294967294,2147483648,65535,65536]) (i:=n/3 % 7) (θ:=θ) (by omega) (by simp; omega)
  unfold ZbD
  generalize gt [0,1,4294967295,4294967294,2147483648,65535,65536] (n/3 % 7).toNat=m at *
  by_cases c:n % 3=0
  · simp [Zby,c,g]
  · simp [Zby,c]
theorem ZfR (ns:List Int) (b:Int) (a2 a3:Sl) (r:List Sl) (θ:Sto):ZcQ (.val (.scr ns)::.val (.int b)::a2::a3::.own []::.no::.no::r) θ =
    .ok (.nx,.val (.scr ns)::.val (.int b)::a2::a3::.own [.int (ZbD (mix ns (b+4))),.int (ZbD (mix ns (b+5)))]::.val (.int 1)::.val (.int (ZbD (mix ns (b+5))))::r) θ:=by
  simp [ZcQ,Zfs,forL,ZgT,List.range_succ,show b+4+1=b+5 by omega]
theorem ZfQ (ns:List Int) (b:Int) (a2 a3 a4 a5 a6 a7:Sl) (r:List Sl) (θ:Sto):Zbx (.val (.scr ns)::.val (.int b)::a2::a3::a4::a5::a6::a7::.val (.int (gt [0,1,15,16,7] (mix ns (b+9) % 5).toNat))::r) θ =
    .ok (.nx,.val (.scr ns)::.val (.int b)::a2::a3::a4::a5::a6::a7::.val (.int (Z6 ns b))::r) θ:=by
  unfold Z6
  generalize gt [0,1,15,16,7] (mix ns (b+9) % 5).toNat=m at *
  by_cases c:m=7
  · simp [Zbx,c]
  · simp [Zbx,c]
theorem ZhQ (n:Nat) (x:Int):(List.replicate n [x]).flatten=List.replicate n x:=by
  induction n with
  | zero=>rfl
  | succ n ih=>rw [List.replicate_succ,List.flatten_cons,ih]; rfl
theorem ZfT (ns:List Int) (b:Int) (a2 a3 a4 a5 a6 a7:Sl) (r:List Sl) (θ:Sto):Zbw (.val (.scr ns)::.val (.int b)::a2::a3::a4::a5::a6::a7::.val (.int (Z6 ns b))::.val (itp ((List.range (Z6 ns b).toNat).map fun (k:Nat)=>mix ns (b+10+(k:Int))/7 % 256))::r) θ =
    .ok (.nx,.val (.scr ns)::.val (.int b)::a2::a3::a4::a5::a6::a7::.val (.int (Z6 ns b))::.val (itp (ZbW ns b))::r) θ:=by
  have sz:=Zet ns b
  have f1:D.tup [.int 255]=itp [255]:=rfl
  unfold ZbW
  by_cases c:mix ns (b+27) % 5=0
  · simp [Zbw,c,f1,ZhQ,show Z6 ns b<1000 by omega,show Z6 ns b≤1000 by omega,sz.1]
  · simp [Zbw,c]
theorem Zk3 (ns:List Int) (b:Int) (θ:Sto):Zeh [.scr ns,.int b] θ=.ok (Zbk ns b).d θ:=by
  have sz:=Zet ns b
  have g:=ZdC (a:=[0,1,15,16,7]) (i:=mix ns (b+9) % 5) (θ:=θ) (by omega) (by simp; omega)
  have cp:=fun ρ (h0:ρ[0]?=some (Sl.val (D.scr ns))) (h1:ρ[1]?=some (Sl.val (D.int b))) (h2:ρ[8]?=some (Sl.val (D.int (Z6 ns b))))=>Zhe (ρ:=ρ) (θ:=θ) (fi:=Zad (Zb (Zd 8) Zg)) (src:=[0,1])
    (elt:=mOp ZU (mOp ZcH (mCB ZJ (Zb (Zd 1) (Zb (mOp Zz (mOp Zz (Zd 2) (mC (.int 10))) (Zd 0)) Zg))) (mC (.int 7))) (mC (.int 256))) (lo:=0) (n:=(Z6 ns b).toNat) (θ':=θ) (fun k=>.int (mix ns (b+10+k)/7 % 256))
    (by simp [h2]; omega) (by simp; omega) (by intro i hi; simp [h0,h1])
  have e:(fun (i:Nat)=>D.int (mix ns (b+10+(0+(i:Int)))/7 % 256))=D.int∘fun (i:Nat)=>mix ns (b+10+(i:Int))/7 % 256:=by
    funext i
    simp
  simp [Zeh,ZgN,ZfS,ZfR,g,ZfQ]
  rw [cp _ rfl rfl rfl]
  rw [show (List.range (Z6 ns b).toNat).map (fun (i:Nat)=>D.int (mix ns (b+10+(0+(i:Int)))/7 % 256))=((List.range (Z6 ns b).toNat).map fun (i:Nat)=>mix ns (b+10+(i:Int))/7 % 256).map D.int by rw [e,List.map_map]]
  simp only [ZlJ]
  simp [ZfT,Zbk,Seg.d]
end
end My
namespace My
open PySem L2 L2.MM
noncomputable section
inductive Err where
  | none | refused | reset | time
  deriving DecidableEq
def Err.s:Err→Str
  | .none=>"" | .refused=>"refused" | .reset=>"reset" | .time=>"time"
@[simp] theorem Zmj:("":Str)=Err.none.s:=nr rfl
end
end My
namespace My
open PySem L2 L2.MM
noncomputable section
theorem Zjh (x y z:Int) (θ:Sto):Zab (.int x) (.tup [.int y,.int z]) θ=.ok (.bl (!decide (x=y∨x=z))) θ:=by
  have e:inD θ (.int x) (.tup [.int y,.int z])=some (decide (y=x) || (decide (z=x) || false)):=rfl
  have e2:(decide (y=x) || (decide (z=x) || false))=decide (x=y∨x=z):=by
    rw [Bool.eq_iff_iff]
    simp only [Bool.or_eq_true,decide_eq_true_eq,Bool.false_eq_true,or_false]
    constructor
    · rintro (h | h)
      · exact .inl h.symm
      · exact .inr h.symm
    · rintro (h | h)
      · exact .inl h.symm
      · exact .inr h.symm
  unfold Zab
  rw [e,e2]
theorem Zjx {α:Type} (xs:List α):ZcL (xs.map fun _=>D.bl true)=some (List.replicate xs.length true):=by
  induction xs with
  | nil=>rfl
  | cons x xs ih=>rw [List.map_cons,ZcL,ih]; rfl
theorem ZiP (n:Nat):(List.replicate n true).all id=true:=by
  induction n with
  | zero=>rfl
  | succ n ih=>rw [List.replicate_succ,List.all_cons,ih]; rfl
end
end My
namespace My
open PySem L2 L2.MM
noncomputable section
theorem Zi9 (n:Nat) (xs:List Int):pls n (xs.map D.int)=true:=by
  induction xs with
  | nil=>simp [pls]
  | cons x r ih=>simp [pls,ih,pl]
theorem Zia (xs:List Int):Zcy (xs.map D.int)=true:=by
  induction xs with
  | nil=>simp [Zcy]
  | cons x r ih=>simp [Zcy,ih,noB]
theorem Zkg (n:Nat) (s:Seg):pl (n+2) s.d=true:=by
  unfold Seg.d
  simp only [pl,pls,pl,Bool.true_and,Bool.and_true]
  unfold itp
  simp only [pl]
  exact Zi9 _ _
theorem Zjj (s:Seg):noB s.d=true:=by
  unfold Seg.d
  simp only [noB,Zcy,Bool.true_and,Bool.and_true]
  unfold itp
  simp only [noB]
  exact Zia _
end
end My
namespace L2.MM
open PySem PySem.Spec PyProof.Rows
def Zf8 (θ:Sto):D→Option (Nat×List D)
  | .ref l=>match θ[l]? with
    | some (.lst xs)=>some (l,xs)
    | _=>none
  | _=>none
section
variable {B:Bx} {H:Hp}
theorem ZeQ {cl:Mo} {θ:Sto} (G:Good cl B θ H) {d:D} {v:V} {l:Nat} {xs:List D} (r:RepV B H d v) (h:Zf8 θ d=some (l,xs)):l<B.n∧v=.ref (B.m l)∧∃vs,H (B.m l)=some (.lst vs)∧RepL B H xs vs:=by
  cases d with
  | ref k=>
    simp only [Zf8] at h
    split at h
    · rename_i xs' e
      cases h
      obtain ⟨hl,rfl⟩:=r
      obtain ⟨vs,h1,h2⟩:=G.cel _ _ e
      exact ⟨hl,rfl,vs,h1,h2⟩
    · cases h
  | _=>cases h
end
section
variable {X:Cx}
def Zim (fo fe:EM):EM:=fun ρ θ=>(fo ρ θ).bind fun d θ=>match Zf8 θ d with
  | none=>.bad
  | some _=>(fe ρ θ).bind fun y θ=>match Zf8 θ d with
    | some (l,xs)=>if xs.length<BIG then .ok .non (θ.set l (.lst (xs++[y]))) else .bad
    | none=>.bad
theorem Zjo {o e:Expr} {fo fe:EM} {apos pos:Pos} (hpe:PE X (.Call (.Attribute o "append" apos) [e] [] pos) (tBM X.K "list" Zex (tM X fo) (Zdi (tM X fe) ZfU))):ME X (.Call (.Attribute o "append" apos) [e] [] pos) (Zim fo fe):=by
  refine PE.imp hpe fun σ H Q h=>?_
  obtain ⟨B,θ,ρ,F,w⟩:=h
  refine ZB (step F w) ?_
  rintro v H1 ⟨B1,θ1,d,E1,F1,rd,w1⟩
  split at w1
  · exact w1.elim
  · rename_i q ed
    obtain ⟨l,xs⟩:=q
    obtain ⟨hl,rfl,vs,h1,h2⟩:=ZeQ F1.good rd ed
    refine ⟨.inl ⟨rfl,vs,SqL.of h1⟩,?_⟩
    refine ZB (step F1 w1) ?_
    rintro y H2 ⟨B2,θ2,dy,E2,F2,ry,w2⟩
    split at w2
    · rename_i l2 xs2 ed2
      obtain ⟨hl2,e2,vs2,h3,h4⟩:=ZeQ F2.good (rd.ext E2.toExtS) ed2
      have e3:B1.m l=B2.m l2:=by injection e2
      split at w2
      · rename_i hb
        refine ⟨B1.m l,vs2,y,rfl,rfl,by rw [e3]; exact h3,by rw [h4.len]; exact Nat.lt_of_lt_of_le hb (Zy (Nat.le_refl _)),?_⟩
        rw [e3]
        have E4:=ZeT F2.good hl2 (.lst (vs2++[y]))
        have G4:=ZfA F2.good hl2 (o:=.lst (vs2++[y])) (c:=.lst (xs2++[dy])) ⟨_,ZX,(h4.app (show RepL B2 H2 [dy] [y] from ⟨y,[],rfl,ry,rfl⟩)).ext E4.toExtS⟩
        exact w2 _ _ _ E4 G4 (show RepV _ _ .non .non from rfl)
      · exact w2.elim
    · exact w2.elim
end
end L2.MM
namespace L2.MM
open PySem PySem.Spec PyProof.Rows
section
variable {X:Cx}
def Zhr:OM:=fun x y θ=>match ZO θ x,ZO θ y with
  | some xs,some ys=>if xs.length+ys.length≤BIG then .ok (.ref θ.length) (θ++[.lst (xs++ys)]) else .bad
  | _,_=>.bad
theorem Zkv:OpR X (binaryOp .Add) (rM X Zhr):=by
  refine OpR.imp Zh7 fun x y H Q q=>?_
  obtain ⟨σ,B,θ,d,e,G,rd,re,w⟩:=q
  unfold Zhr at w
  split at w
  · rename_i xs ys e1 e2
    split at w
    · rename_i hz
      obtain ⟨a,vs,rfl,h1,l1⟩:=ZY G rd e1
      obtain ⟨b,us,rfl,h2,l2⟩:=ZY G re e2
      exact ⟨a,b,vs,us,rfl,rfl,h1,h2,by rw [l1.len,l2.len]; exact Zy hz,ZiR G (l1.app l2) w⟩
    · exact w.elim
  · exact w.elim
def Za9 (fo fi fv:EM):SM:=fun ρ θ=>(fv ρ θ).bind fun v θ=>(fo ρ θ).bind fun d θ=>(fi ρ θ).bind fun y θ=>match y,Zf8 θ d with
  | .int i,some (l,xs)=>match ixN xs.length i with
    | some k=>.ok (.nx,ρ) (θ.set l (.lst (xs.set k v)))
    | none=>.bad
  | _,_=>.bad
theorem RepL.setAt {B:Bx} {H:Hp}:∀{ds:List D} {vs:List V} {d:D} {v:V} (k:Nat),RepL B H ds vs→RepV B H d v→RepL B H (ds.set k d) (vs.set k v)
  | [],vs,d,v,k,r,_=>by cases (show vs=[] from r); exact rfl
  | e::ds,vs,d,v,0,r,rv=>by
    obtain ⟨u,us,rfl,r1,r2⟩:=r
    exact ⟨v,us,rfl,rv,r2⟩
  | e::ds,vs,d,v,k+1,r,rv=>by
    obtain ⟨u,us,rfl,r1,r2⟩:=r
    exact ⟨u,us.set k v,rfl,r1,RepL.setAt k r2 rv⟩
theorem ZaQ {o i value:Expr} {fo fi fv:EM} {pos pos':Pos} (ho:ME X o fo) (hi:ME X i fi) (hv:ME X value fv) (hps:PS X (.Assign [.Subscript o i pos'] value pos) (ZhO (tM X fv) (ZlG (tM X fo) (tM X fi) ZjN))):MS X (.Assign [.Subscript o i pos'] value pos) (Za9 fo fi fv):=
  PS.imp hps fun D σ H h=>by
  obtain ⟨B,θ,ρ,F,w⟩:=h
  refine ZB (Zb3 F w) ?_
  rintro v H1 ⟨B1,θ1,dv,E1,F1,rv,w1⟩
  refine ZB (Zb3 F1 w1) ?_
  rintro x H2 ⟨B2,θ2,d,E2,F2,rd,w2⟩
  refine ZB (Zb3 F2 w2) ?_
  rintro y H3 ⟨B3,θ3,dy,E3,F3,ry,w3⟩
  split at w3
  · rename_i n l xs ed
    obtain ⟨hl,rfl,vs,h1,h2⟩:=ZeQ F3.good (rd.ext E3.toExtS) ed
    split at w3
    · rename_i k ek
      have rv3:=(rv.ext E2.toExtS).ext E3.toExtS
      have E4:=ZeT F3.good hl (.lst (vs.set k v))
      have G4:=ZfA F3.good hl (o:=.lst (vs.set k v)) (c:=.lst (xs.set k dv)) ⟨_,ZX,(h2.setAt k rv3).ext E4.toExtS⟩
      have:=w3 _ _ _ E4.toExtS (F3.ext E4 G4)
      exact ⟨B3.m l,vs,n,k,rfl,ry,h1,by rw [h2.len]; exact ek,this⟩
    · exact w3.elim
  · exact w3.elim
end
end L2.MM
namespace L2.MM
open PySem PySem.Spec PyProof.Rows PySem.W
section
variable {P:Program} {w:World} {H H':Hp} {h h':Heap} {a:Addr} {o:HO}
theorem obj_there (x:ObjOk P w H h a o):∃u,h.get? a=some u:=by
  cases o with
  | lst xs=>obtain ⟨_,_,_,_,e⟩:=x; exact ⟨_,e⟩
  | tup xs=>obtain ⟨_,_,_,ob,e,_⟩:=x; exact ⟨_,e⟩
  | dK kvs=>obtain ⟨_,_,_,_,o,_,_,e,_⟩:=x; exact ⟨_,e⟩
  | dT kvs=>obtain ⟨_,_,_,_,o,_,_,e,_⟩:=x; exact ⟨_,e⟩
  | set S n=>obtain ⟨o,_,_,_,e,_⟩:=x; exact ⟨_,e⟩
  | ins C dx fs=>obtain ⟨_,_,_,e,_⟩:=x; exact ⟨_,e⟩
  | own y=>obtain ⟨_,e⟩:=x; exact ⟨_,e⟩
  | xd fs=>obtain ⟨_,⟨_,_,_,e,_⟩,_⟩:=x; exact ⟨_,e⟩
  | rng lo hi=>obtain ⟨_,_,_,e⟩:=x; exact ⟨_,e⟩
  | frz ob u=>obtain ⟨e,_⟩:=x; exact ⟨_,e⟩
  | tbl ps=>exact ⟨_,(show h.get? a=some _ from x)⟩
  | met f y=>exact ⟨_,(show h.get? a=some _ from x)⟩
  | ext φ=>obtain ⟨_,⟨_,e⟩,_⟩:=x; exact ⟨_,e⟩
theorem Zbb (x:HOk P w H h) (k:∀b u o,H b=some o→h.get? b=some u→h'.get? b=some u):HOk P w H h':=fun b o e=>
  (x b o e).stay (fun c u hc q=>hc.elim (fun z=>k c u o (by rw [z]; exact e) q) (fun z=>k c u _ z q)) (fun _ q=>q) fun _ _ q=>q
end
structure FlyT (base:Heap) (l:List Env) (x T:Addr) (C:Addr) (fl:Value) (h:Heap):Prop where
  bx:base.get? x=none
  bT:base.get? T=none
  st:base.StaysIn h
  fun_:h.FunFrames base l
  tr:∃oe vs oT ts a0,h.get? x=some oe∧oe.cls=.ref C∧vs[0]?=some a0∧oe.data=.fields vs∧vs[1]?=some (.ref T)∧T≠x∧h.get? T=some oT∧oT.data=.fields ts∧ts[3]?=some fl
structure FlyS (P:Program) (w:World) (base:Heap) (l:List Env) (H:Hp) (s:Heap) (x T C:Addr) (fl:Value) (H':Hp) (h:Heap):Prop where
  un:Un (frs l) [] H H' s h
  hok:HOk P w H' h
  nx:s.get? x=none
  nT:s.get? T=none
  ux:H' x=none
  uT:H' T=none
  fly:FlyT base l x T C fl h
section
variable {P:Program} {w:World} {base:Heap} {l:List Env} {H H':Hp} {s h h':Heap} {x T C:Addr} {fl fl':Value}
abbrev hid (h:Heap) (l:List Env) (x T:Addr):Heap:=hideAll h (frs l++[x,T])
theorem FlyT.nfr (f:FlyT base l x T C fl h):x∉frs l∧T∉frs l:=by
  obtain ⟨oe,vs,oT,ts,a0,h1,h2,h3,h4,h5,h6,h7,h8,h9⟩:=f.tr
  refine ⟨fun z=>?_,fun z=>?_⟩
  · obtain ⟨_,o,ho,hn⟩:=f.fun_.mem z
    rw [h1] at ho; cases ho
    exact hn vs h4
  · obtain ⟨_,o,ho,hn⟩:=f.fun_.mem z
    rw [h7] at ho; cases ho
    exact hn ts h8
theorem Zfy (f:FlyT base l x T C fl h):base.StaysIn (hid h l x T):=fun b o e=>by
  refine hideAll_get _ (f.st b o e) fun z=>?_
  rcases List.mem_append.mp z with z | z
  · have:=(f.fun_.mem z).1
    rw [e] at this; cases this
  · simp only [List.mem_cons,List.not_mem_nil,or_false] at z
    rcases z with rfl | rfl
    · rw [f.bx] at e; cases e
    · rw [f.bT] at e; cases e
theorem Zda (f:FlyT base l x T C fl h):∃a0,(hid h l x T).StaysIn h∧(hid h l x T).get? x=none∧h.FunFrames (hid h l x T) l∧h.TracedAtW (hid h l x T) x (.ref C) a0 fl:=by
  obtain ⟨oe,vs,oT,ts,a0,h1,h2,h3,h4,h5,h6,h7,h8,h9⟩:=f.tr
  exact ⟨a0,fun b o e=>of_hideAll _ e,hideAll_none _ (by simp),funFrames_hide f.fun_ (fun env he b hb=>List.mem_append_left _ (List.mem_filterMap.mpr ⟨env,he,hb⟩)),oe,vs,T,oT,ts,h1,⟨h2,h3⟩,h4,h5,hideAll_none _ (by simp),h6,h7,h8,h9⟩
theorem FlyS.move {a0:Value} {l':List Env} (F:FlyS P w base l H s x T C fl H' h) (hfr:∀b∈frs l,H b=none) (hl:∀b∈frs l,b∈frs l'∨s.get? b=none) (k1:(hid h l x T).StaysIn h') (k2:h'.FunFrames (hid h l x T) l') (k3:h'.TracedAtW (hid h l x T) x (.ref C) a0 fl') (k4:h.UpToSlots h') (hsub:∀b∈frs l',b∈frs l) (ku:∀b∈frs l,s.get? b=none∨b∈frs l' ) (hh:∀b∈frs l,H' b=none) :
    ∃T',FlyS P w base l' H s x T' C fl' H' h':=by
  have hb:=Zfy F.fly
  have nf:=F.fly.nfr
  obtain ⟨oe,vs,T',oT,ts,h1,⟨h2,h3⟩,h4,h5,h6,h7,h8,h9,h10⟩:=k3
  have inB:∀b o,h.get? b=some o→b∉frs l→b≠x→b≠T→h'.get? b=some o:=fun b o e n1 n2 n3=>k1 b o (hideAll_get _ e (by simp [n1,n2,n3]))
  have nT':T'∉frs l':=fun z=>by
    obtain ⟨_,o,ho,hn⟩:=k2.mem z
    rw [h8] at ho; cases ho
    exact hn ts h9
  have frk:∀b o,b∈frs l→h.get? b=some o→∃sl,h'.get? b=some { o with slots:=sl }:=fun b o z e=>by
    obtain ⟨_,o',ho',hn⟩:=F.fly.fun_.mem z
    rw [e] at ho'; cases ho'
    exact k4 b o e hn
  have gone:T'=T∨h.get? T'=none∨(T'∈frs l):=by
    by_cases z:T'=T
    · exact .inl z
    · by_cases y:T'∈frs l
      · exact .inr (.inr y)
      · right; left
        cases e:h.get? T' with
        | none=>rfl
        | some o=>
          have:=hideAll_get (frs l++[x,T]) e (by simp [z,y,h7])
          rw [this] at h6; cases h6
  have nfl:T'∉frs l:=fun z=>by
    obtain ⟨_,o,ho,hn⟩:=F.fly.fun_.mem z
    obtain ⟨sl,q⟩:=frk T' o z ho
    rw [h8] at q; cases q
    exact hn ts h9
  refine ⟨T',⟨⟨fun b o e n hb' _=>?_,fun b o e n hb' _=>?_,fun b o e n _=>F.un.free b o e n (by simp),fun b o e _=>?_,F.un.tups,F.un.frzs,F.un.tbls⟩,?_,F.nx,?_,F.ux,?_,⟨F.fly.bx,?_,fun b o e=>k1 b o (hb b o e),funFrames_base hb k2,oe,vs,oT,ts,a0,h1,h2,h3,h4,h5,h7,h8,h9,h10⟩⟩⟩
  · have nb:b∉frs l:=fun z=>(hl b z).elim hb' (fun y=>by rw [e] at y; cases y)
    exact inB b o (F.un.keep b o e n nb (by simp)) nb (fun z=>by rw [z,F.nx] at e; cases e) (fun z=>by rw [z,F.nT] at e; cases e)
  · obtain ⟨sl,q⟩:=F.un.slot b o e n (hsub b hb') (by simp)
    obtain ⟨sl2,q2⟩:=frk b _ (hsub b hb') q
    exact ⟨sl2,q2⟩
  · obtain ⟨o',q⟩:=F.un.there b o e (by simp)
    by_cases z:b∈frs l
    · obtain ⟨sl,q2⟩:=frk b o' z q
      exact ⟨_,q2⟩
    · exact ⟨o',inB b o' q z (fun z=>by rw [z,F.nx] at e; cases e) (fun z=>by rw [z,F.nT] at e; cases e)⟩
  · refine Zbb F.hok fun b u o e q=>inB b u q (fun z=>by rw [hh b z] at e; cases e) (fun z=>by rw [z,F.ux] at e; cases e) (fun z=>by rw [z,F.uT] at e; cases e)
  · rcases gone with z | z | z
    · rw [z]; exact F.nT
    · cases e:s.get? T' with
      | none=>rfl
      | some o=>obtain ⟨o',q⟩:=F.un.there T' o e (by simp); rw [z] at q; cases q
    · exact absurd z nfl
  · rcases gone with z | z | z
    · rw [z]; exact F.uT
    · cases e:H' T' with
      | none=>rfl
      | some o=>obtain ⟨u,q⟩:=obj_there (F.hok T' o e); rw [z] at q; cases q
    · exact absurd z nfl
  · cases e:base.get? T' with
    | none=>rfl
    | some o=>have:=hb T' o e; rw [this] at h6; cases h6
end
end L2.MM
namespace L2.MM
open PySem PySem.Spec PyProof.Rows PySem.W
def CX1 (P:Program) (w:World) (base:Heap) (C:Addr):CXT:=fun outer H s E e s'=>∃x T H',e=.ref x∧s'.os=s.os∧AllBare s'.gens∧FlyS P w base outer H s.heap x T C .none H' s'.heap∧E (.ref C) none H'
section
variable {P:Program} {w:World} {K:PySem.W.Frag} {mg:Str→Option Value} {base:Heap} {N:List Str} {qual:Str} {scope:Scope} {f C:Addr} {cd:Value} {A:Around} {outer:List Env} {s:Shared} {H:Hp} {E:XK} {CX:CXT}
theorem Zf7 {pins:List (Addr×Obj)} {σ:St} {H1:Hp} {s1:Shared} {e:Addr} {vs:List Value} {h':Heap} {M:Model} {E':Value→Shared→Prop} (I:Inv (Zbd CX P w K mg base N qual scope f cd A outer s H E) pins σ H1 s1) (hx:Heap.MadeExcOf s1.heap h' e (.ref C) vs) (hE:E (.ref C) none H1) :
    wpAny M (A.deeper (envOfC qual scope s.heap.objs.size f cd)) (leaving (envOfC qual scope s.heap.objs.size f cd) (.ref e)) (fun _ s''=>CX1 P w base C outer H s E (.ref e) s'') E' { s1 with heap:=h' }:=by
  obtain ⟨X,hX⟩:∃X,X=Zbd CX P w K mg base N qual scope f cd A outer s H E:=⟨_,rfl⟩
  rw [←hX] at I
  have eb:X.base=base:=by rw [hX]; rfl
  have es:X.stack=envOfC qual scope s.heap.objs.size f cd::outer:=by rw [hX]; rfl
  have ef:X.fs=frs outer:=by rw [hX]; rfl
  have e0:X.s₀=s:=by rw [hX]; rfl
  have eH:X.H₀=H:=by rw [hX]; rfl
  have eX:X.ex=[]:=by rw [hX]; rfl
  have eP:X.prog=P:=by rw [hX]; rfl
  have ew:X.w=w:=by rw [hX]; rfl
  have eL:X.env.locals=s.heap.objs.size:=by rw [hX]; rfl
  have hfr:(A.deeper (envOfC qual scope s.heap.objs.size f cd)).frames=some (envOfC qual scope s.heap.objs.size f cd::outer):=by
    have:=I.ok.frames
    rw [es] at this
    rw [hX] at this
    exact this
  have stk:=I.stack
  rw [es,eb] at stk
  obtain ⟨L,hL⟩:∃q,q=s.heap.objs.size:=⟨_,rfl⟩
  have fl:frs (envOfC qual scope s.heap.objs.size f cd::outer)=s.heap.objs.size::frs outer:=rfl
  obtain ⟨B,hB⟩:∃B,B=hideAll s1.heap (frs (envOfC qual scope s.heap.objs.size f cd::outer)):=⟨_,rfl⟩
  have bk:=I.bk
  rw [eb] at bk
  have stB:base.StaysIn B:=fun b o q=>by
    rw [hB]
    refine hideAll_get _ (bk b o q) fun hm=>?_
    have:=(stk.mem hm).1
    rw [q] at this; cases this
  have fnB:s1.heap.FunFrames B (envOfC qual scope s.heap.objs.size f cd::outer):=by
    rw [hB]
    exact funFrames_hide stk fun env he b hb=>List.mem_filterMap.mpr ⟨env,he,hb⟩
  refine wpAny_leaves_madeW (base:=B) (h:=s1.heap) hfr rfl (fun b o q=>by rw [hB] at q; exact of_hideAll _ q) fnB hx fun hh t x1 x2 x3 x4=>?_
  obtain ⟨k1,k2,k3,oe,vs',T,oT,ts,h1,⟨h2,h3⟩,h4,h5,h6,h7,h8,h9,h10⟩:=x1
  have inB:∀b o,s1.heap.get? b=some o→b∉s.heap.objs.size::frs outer→hh.get? b=some o:=fun b o q n=>k1 b o (by rw [hB,fl]; exact hideAll_get _ q n)
  have nfr:∀b,b∈s.heap.objs.size::frs outer→s1.heap.get? b=none→False:=fun b hb q=>by
    obtain ⟨_,o,ho,_⟩:=stk.mem (b:=b) hb
    rw [q] at ho; cases ho
  have u:Un (frs outer) [] H H1 s.heap s1.heap:=by
    have:=I.base
    rw [ef,eX,e0,eH] at this
    exact this
  have nT:s1.heap.get? T=none:=by
    cases q:s1.heap.get? T with
    | none=>rfl
    | some o=>
      by_cases z:T∈s.heap.objs.size::frs outer
      · obtain ⟨_,o',ho',hn⟩:=stk.mem (b:=T) z
        obtain ⟨sl,y⟩:=x4 T o' (hx.keeps T o' ho') hn
        rw [h8] at y; cases y
        exact absurd h9 (hn ts)
      · have:B.get? T=some o:=by rw [hB,fl]; exact hideAll_get _ q z
        rw [this] at h6; cases h6
  have hok:HOk P w H1 s1.heap:=by
    have:=I.hok
    rw [eP,ew] at this
    exact this
  have fre:∀b∈s.heap.objs.size::frs outer,H1 b=none:=fun b hb=>by
    have:=I.stkFree b
    rw [es] at this
    exact this hb
  have ltL:∀b o,s.heap.get? b=some o→b≠s.heap.objs.size:=fun b o q=>Nat.ne_of_lt (Heap.lt_size q)
  have sl4:∀b o,b∈frs outer→s1.heap.get? b=some o→∃sl,hh.get? b=some { o with slots:=sl }:=fun b o hb q=>by
    obtain ⟨_,o',ho',hn⟩:=stk.mem (b:=b) (List.mem_cons_of_mem _ hb)
    rw [q] at ho'; cases ho'
    exact x4 b o (hx.keeps b o q) hn
  refine ⟨e,T,H1,rfl,?_,?_,⟨⟨fun b o q n hb _=>?_,fun b o q n hb _=>?_,fun b o q n _=>u.free b o q n (by simp),fun b o q _=>?_,u.tups,u.frzs,u.tbls⟩,?_,?_,?_,?_,?_,⟨?_,?_,fun b o q=>k1 b o (stB b o q),funFrames_base stB k3,oe,vs',oT,ts,.ref t,h1,h2,h3,h4,h5,h7,h8,h9,h10⟩⟩,hE⟩
  · have:=I.os
    rw [e0] at this
    exact this
  · exact I.bare
  · exact inB b o (u.keep b o q n hb (by simp)) (fun z=>(List.mem_cons.mp z).elim (ltL b o q) hb)
  · obtain ⟨sl,y⟩:=u.slot b o q n hb (by simp)
    obtain ⟨sl2,y2⟩:=sl4 b _ hb y
    exact ⟨sl2,y2⟩
  · obtain ⟨o',y⟩:=u.there b o q (by simp)
    by_cases z:b∈frs outer
    · obtain ⟨sl,y2⟩:=sl4 b o' z y
      exact ⟨_,y2⟩
    · exact ⟨o',inB b o' y (fun z'=>(List.mem_cons.mp z').elim (ltL b o q) z)⟩
  · refine Zbb hok fun b v o q y=>inB b v y (fun z=>by rw [fre b z] at q; cases q)
  · cases q:s.heap.get? e with
    | none=>rfl
    | some o=>obtain ⟨o',y⟩:=u.there e o q (by simp); rw [hx.new] at y; cases y
  · cases q:s.heap.get? T with
    | none=>rfl
    | some o=>obtain ⟨o',y⟩:=u.there T o q (by simp); rw [nT] at y; cases y
  · cases q:H1 e with
    | none=>rfl
    | some o=>obtain ⟨o',y⟩:=obj_there (hok e o q); rw [hx.new] at y; cases y
  · cases q:H1 T with
    | none=>rfl
    | some o=>obtain ⟨o',y⟩:=obj_there (hok T o q); rw [nT] at y; cases y
  · cases q:base.get? e with
    | none=>rfl
    | some o=>have:=stB e o q; rw [k2] at this; cases this
  · cases q:base.get? T with
    | none=>rfl
    | some o=>have:=stB T o q; rw [h6] at this; cases this
theorem Zax {x txt:Str} {j np cpos pos tpos} {B Bn newId nid initId inN:String} {bm bmN:List Value} (O:OwnCls x C bm newId mg base) (Fn:ExcBaseFacts Bn newId inN bmN) (hBn:bm.contains (.type Bn)=true) (FB:ExcBaseFacts B nid initId bm)
    (hg:Gl (Zbd (CX1 P w base C) P w K mg base N qual scope f cd A outer s H E) x:=by rfl) (hd:(x == ("__debug__":Str))=false:=by decide) :
    PS (Zbd (CX1 P w base C) P w K mg base N qual scope f cd A outer s H E) (.Raise (some (.Call (.Name x np) [.Constant (.str txt) j tpos] [] cpos)) none pos) (fun _ _ H1=>E (.ref C) none H1):=by
  intro pins s1 σ H1 D I hE
  obtain ⟨tl,Nn,nm,q,bs,hdct,sn,sub,ab,col,dd,k0,k1,k2,k3,k5,mN,hC,hN,hni,T⟩:=O.obj
  refine wpAny_Raise_call_subU (C:=C) (nm:=nm) (q:=q) (N:=Nn) (bs:=bs) (bm:=tl) (hdct:=hdct) (sn:=sn) (sub:=sub) (ab:=ab) (col:=col) (dd:=dd) (k0:=k0) (k1:=k1) (k2:=k2) (k3:=k3) (k5:=k5)
    Fn hBn FB (mN:=mN) (T.hasType FB.hasBase) (I.ok.hd rfl) rfl hni (Zbr I hg O.bound ⟨rfl,?_⟩ hd)
  have pa:PA (Zbd (CX1 P w base C) P w K mg base N qual scope f cd A outer s H E) [.Constant (.str txt) j tpos] (Zdi (tC (.str txt)) ZfU):=Z3 ZhZ zl
  have h:=pa cpos pins s1 σ H1 (fun vs H2=>vs.length≤1∧E (.ref C) none H2) I (by exact ⟨by simp,hE⟩)
  refine Calls.evalArgs_plain (wpAny_mono h (fun vs s2 h2=>?_) fun _ _ y=>y)
  obtain ⟨ws,H2,I2,r,hl,hE2⟩:=h2
  have b2:=I2.bk
  refine ⟨rfl,?_,b2 _ _ hC,hN.keeps b2,T.keeps b2,fun h' e hx=>Zf7 I2 hx hE2⟩
  have:=r.length
  show vs.length≤sizeLine
  have:vs.length≤1:=by omega
  refine Nat.le_trans this ?_
  decide
end
end L2.MM
namespace L2.MM
open PySem PySem.Spec PyProof.Rows PySem.W PySem.SeqAt
noncomputable section
def spX (X:Mo) (C:Addr) (f:GM):Sp:=fun vs H Q E=>∃B θ ds,B.os=[]∧Good X B θ H∧RepL B H ds vs∧(match f ds θ with
  | .ok d θ'=>∀B' H' v,ExtE B B' H H'→Good X B' θ' H'→RepV B' H' d v→Q v H'
  | .ex _ θ'=>∀B' H',ExtE B B' H H'→Good X B' θ' H'→E (.ref C) none H'
  | .bad=>False)
end
end L2.MM
namespace L2.MM
open PySem PySem.Spec PyProof.Rows PySem.W PySem.Calls
section
variable {prog:Program} {w:World} {A:Around} {E:Value→Shared→Prop} {h:Heap} {g:Array GenState} {d:Drawn} {tk:Nat} {os:OsState}
variable {nm q:Str} {C N:Addr} {bs bm:List Value} {hdct:Bool} {sn:List Str} {sub:List Value} {ab:Bool} {col:Option Bool} {dd:Option Addr} {k0 k1 k2 k3 k5:Option Value} {newId:String}
theorem Ziu {x:Addr} {oe:Obj} {Q:Value→Shared→Prop} (he:h.get? x=some oe) (hcls:oe.cls=.ref C) (hq:Q (.bool true) ⟨h,g,d,tk,os⟩) :
    wpAny (model prog w) A (call (.builtin "isinstance") [.ref x,.ref C]) Q E ⟨h,g,d,tk,os⟩:=by
  refine call_isinstance_of ?_ (by intro e; cases e)
  unfold Builtin.«isinstance.nested»
  have hb:(Value.ref C == Value.ref C)=true:=by simp
  repeat (first | (with_reducible refine wpAny_loadPart_at he ?_; rw [hcls]) | wp_step)
  exact hq
theorem Zit {x:Addr} {oe:Obj} {T:String} {Q:Value→Shared→Prop} (he:h.get? x=some oe) (hcls:oe.cls=.ref C) (hC:h.get? C=some (excClassObj nm q C N bs bm hdct sn sub ab col dd k0 k1 k2 k3 k5 newId)) (hty:typeOf (.type T)=pure (.type "type")) (hb:bm.contains (.type T)=true) (hq:Q (.bool true) ⟨h,g,d,tk,os⟩) :
    wpAny (model prog w) A (call (.builtin "isinstance") [.ref x,.type T]) Q E ⟨h,g,d,tk,os⟩:=by
  refine call_isinstance_of ?_ (by intro e; cases e)
  have hc:(Value.ref C::bm).contains (.type T)=true:=by rw [List.contains_cons,hb,Bool.or_true]
  have hne:(Value.ref C == Value.type T)=false:=by simp
  unfold Builtin.«isinstance.nested»
  repeat (first | (with_reducible refine wpAny_loadPart_at he ?_; rw [hcls]) | (with_reducible refine wpAny_isSubtype_exc hC ?_; rw [hc]) | (refine wpAny_bind (m:=typeOf (.type T)) (wpAny_of_eq hty ?_)) | wp_step)
  exact hq
variable {nm' q':Str} {W N':Addr} {bs' bm':List Value} {hdct':Bool} {sn':List Str} {sub':List Value} {ab':Bool} {col':Option Bool} {dd':Option Addr} {k0' k1' k2' k3' k5':Option Value} {newId':String}
theorem ZeL {e:Addr} {oe:Obj} {Q:Bool→Shared→Prop} (hC:h.get? C=some (excClassObj nm q C N bs bm hdct sn sub ab col dd k0 k1 k2 k3 k5 newId)) (hW:h.get? W=some (excClassObj nm' q' W N' bs' bm' hdct' sn' sub' ab' col' dd' k0' k1' k2' k3' k5' newId'))
    (he:h.get? e=some oe) (hcls:oe.cls=.ref C) (hbase:bm'.contains (.type "BaseException")=true) (hin:bm.contains (.ref W)=true) (hq:Q true ⟨h,g,d,tk,os⟩):wpAny (model prog w) A (excMatches (.ref e) (.ref W)) Q E ⟨h,g,d,tk,os⟩:=by
  have hcB:(Value.ref W::bm').contains (.type "BaseException")=true:=by rw [List.contains_cons,hbase,Bool.or_true]
  have hcC:(Value.ref C::bm).contains (.ref W)=true:=by rw [List.contains_cons,hin,Bool.or_true]
  have f:=tc_notTuple
  unfold excMatches
  repeat (first | (with_reducible refine wpAny_loadPart_at he ?_; rw [hcls]) | with_reducible refine wpAny_loadPart_at hW ?_ | (with_reducible refine wpAny_isSubtype_exc hW ?_; rw [hcB]) | (with_reducible refine wpAny_isSubtype_exc hC ?_; rw [hcC]) | wp_step)
  exact hq
variable {s:Shared} {env:Env}
theorem Zfz {e:Addr} {t:Expr} {n:Str} {b₀:Stmt} {suite:List Stmt} {pos:Pos} {rest:List ExceptHandler} {Q:Flow→Shared→Prop} (hbase:bm'.contains (.type "BaseException")=true) (hin:bm.contains (.ref W)=true)
    (h:wpAny (model prog w) (A.mark (some (.ref e))) (eval t env) (fun c s₁=>c=.ref W∧s₁.heap.get? C=some (excClassObj nm q C N bs bm hdct sn sub ab col dd k0 k1 k2 k3 k5 newId)∧s₁.heap.get? W=some (excClassObj nm' q' W N' bs' bm' hdct' sn' sub' ab' col' dd' k0' k1' k2' k3' k5' newId')∧(∃oe,s₁.heap.get? e=some oe∧oe.cls=.ref C)∧
      wpAny (model prog w) (A.mark (some (.ref e))) (setFlight (.ref e) none) (fun _ s₂=>
          wpAny (model prog w) (A.mark (some (.ref e))) (storeName env n (.ref e)) (fun _ s₃=>
            wpAny (model prog w) (A.mark (some (.ref e))) (execs (b₀::suite) env)
              (fun f s₄=>wpAny (model prog w) A (do bindName env n .none; unbindBehindTheSuite env n pos) (fun _ s₅=>Q f s₅) E s₄)
              (AsSuiteRaised (model prog w) (A.mark (some (.ref e))) env n pos (notedBy (model prog w) (A.mark (some (.ref e))) env (cameBackBy (model prog w) A env E))) s₃) (notedBy (model prog w) (A.mark (some (.ref e))) env (cameBackBy (model prog w) A env E)) s₂) (notedBy (model prog w) (A.mark (some (.ref e))) env (cameBackBy (model prog w) A env E)) s₁) (notedBy (model prog w) (A.mark (some (.ref e))) env (cameBackBy (model prog w) A env E)) s) :
    wpAny (model prog w) A (handleBy (.ref e) env (.ExceptHandler (some t) (some n) (b₀::suite) pos::rest)) Q E s:=by
  refine wpAny_handleBy_cons (codeAny_handlers_test (wpAny_mono h (fun c s₁ h₁=>?_) fun _ _ y=>y)) (by intro q; cases q)
  obtain ⟨rfl,hC,hW,⟨oe,he,hcls⟩,hk⟩:=h₁
  obtain ⟨hh,g,d,tk,os⟩:=s₁
  exact ZeL hC hW he hcls hbase hin (codeAny_handlers_suite_as hk)
end
end L2.MM
namespace L2.MM
open PySem PySem.Spec PyProof.Rows PySem.W PySem.Calls
section
variable {X:Cx} {pins:List (Addr×Obj)} {σ:St} {H:Hp} {s:Shared}
theorem ZhC {M:Model} {A:Around} {E:Value→Shared→Prop} {i:Nat} {x:Str} {pos:Pos} {Q:Unit→Shared→Prop} (I:Inv X pins σ H s) (hN:X.N.Nodup) (hi:X.N[i]?=some x) (hk:X.env.scope.names.lookup x=some .local)
    (h:∀s',Inv X pins (σ.set i none) H s'→Q () s'):wpAny M A (do bindName X.env x .none; unbindBehindTheSuite X.env x pos) Q E s:=by
  obtain ⟨m,hn,hl⟩:=id I.loc
  have hcls:(X.env.scope.kind == .class || (X.env.scope.kind == .module && X.env.locals != X.env.globals))=false:=by rw [I.ok.kind]; rfl
  have hiσ:i < σ.length:=by rw [I.len]; exact (List.getElem?_eq_some_iff.mp hi).1
  have cne:=I.cne
  refine wpAny_nameGoes_keeps hk hn hcls fun h' v hn' hs=>?_
  obtain ⟨oL,_,_,hoL,_⟩:=id hn
  have ltb:∀b o,X.s₀.heap.get? b=some o→b≠X.env.locals:=fun b o e=>Nat.ne_of_lt (Nat.lt_of_lt_of_le (Heap.lt_size e) I.ok.above)
  refine h _ ⟨I.ok,I.os,I.bare,⟨fun b o e n hb hx=>(hs.2 b (ltb b o e)).trans (I.base.keep b o e n hb hx),fun b o e n hb hx=>?_,I.base.free,fun b o e hx=>?_,I.base.tups,I.base.frzs,I.base.tbls⟩,⟨_,hn',fun j y v' e1 e2 e3=>?_⟩,fun y c e=>?_,I.free,I.freeC,fun p hp=>?_,?_,by simpa using I.len⟩
  · obtain ⟨sl,e1⟩:=I.base.slot b o e n hb hx
    exact ⟨sl,(hs.2 b (ltb b o e)).trans e1⟩
  · obtain ⟨o',e1⟩:=I.base.there b o e hx
    exact ⟨o',(hs.2 b (ltb b o e)).trans e1⟩
  · by_cases hj:j=i
    · subst hj
      rw [List.getElem?_set_self hiσ] at e2
      cases e2
    · rw [List.getElem?_set_ne (Ne.symm hj)] at e2
      obtain ⟨u',r',q⟩:=hl j y v' e1 e2 e3
      refine ⟨u',r',?_⟩
      rcases q with ⟨k,e⟩ | ⟨k,c,e,z⟩
      · refine .inl ⟨k,?_⟩
        have:y≠x:=fun e=>hj (Zb7 hN e1 (e ▸ hi))
        simp [this,e]
      · exact .inr ⟨k,c,e,z.sameBut hs (cne y c e)⟩
  · obtain ⟨w',z⟩:=I.cell y c e
    exact ⟨w',z.sameBut hs (cne y c e)⟩
  · obtain ⟨e,n,ne,nf,d⟩:=I.pin p hp
    exact ⟨(hs.2 p.1 ne).trans e,n,ne,nf,d⟩
  · exact Zbb I.hok fun b u o e q=>(hs.2 b (fun z=>by rw [z,I.free] at e; cases e)).trans q
theorem Zi0 {M:Model} {A:Around} {E:Value→Shared→Prop} {i:Nat} {x:Str} {v:V} {u:Value} {Q:Unit→Shared→Prop} (I:Inv X pins σ H s) (hN:X.N.Nodup) (hi:X.N[i]?=some x) (hk:X.env.scope.names.lookup x=some .local) (r:RelV v u)
    (h:∀s',Inv X pins (σ.set i (some v)) H s'→Heap.SameBut X.env.locals s.heap s'.heap→Q () s'):wpAny M A (storeName X.env x u) Q E s:=by
  obtain ⟨m,hn,hl⟩:=id I.loc
  have hcls:(X.env.scope.kind == .class || (X.env.scope.kind == .module && X.env.locals != X.env.globals))=false:=by rw [I.ok.kind]; rfl
  have hiσ:i < σ.length:=by rw [I.len]; exact (List.getElem?_eq_some_iff.mp hi).1
  have cne:=I.cne
  refine wpAny_storeName_local hk hn (fun h' hn' hs=>?_) hcls
  have ltb:∀b o,X.s₀.heap.get? b=some o→b≠X.env.locals:=fun b o e=>Nat.ne_of_lt (Nat.lt_of_lt_of_le (Heap.lt_size e) I.ok.above)
  refine h _ ⟨I.ok,I.os,I.bare,⟨fun b o e n hb hx=>(hs.2 b (ltb b o e)).trans (I.base.keep b o e n hb hx),fun b o e n hb hx=>?_,I.base.free,fun b o e hx=>?_,I.base.tups,I.base.frzs,I.base.tbls⟩,⟨_,hn',fun j y v' e1 e2 e3=>?_⟩,fun y c e=>?_,I.free,I.freeC,fun p hp=>?_,?_,by simpa using I.len⟩ hs
  · obtain ⟨sl,e1⟩:=I.base.slot b o e n hb hx
    exact ⟨sl,(hs.2 b (ltb b o e)).trans e1⟩
  · obtain ⟨o',e1⟩:=I.base.there b o e hx
    exact ⟨o',(hs.2 b (ltb b o e)).trans e1⟩
  · by_cases hj:j=i
    · subst hj
      rw [hi] at e1; cases e1
      rw [List.getElem?_set_self hiσ] at e2
      cases e2
      exact ⟨u,r,.inl ⟨hk,by simp⟩⟩
    · rw [List.getElem?_set_ne (Ne.symm hj)] at e2
      obtain ⟨u',r',q⟩:=hl j y v' e1 e2 e3
      refine ⟨u',r',?_⟩
      rcases q with ⟨k,e⟩ | ⟨k,c,e,z⟩
      · refine .inl ⟨k,?_⟩
        have:y≠x:=fun e=>hj (Zb7 hN e1 (e ▸ hi))
        simp [this,e]
      · exact .inr ⟨k,c,e,z.sameBut hs (cne y c e)⟩
  · obtain ⟨w',z⟩:=I.cell y c e
    exact ⟨w',z.sameBut hs (cne y c e)⟩
  · obtain ⟨e,n,ne,nf,d⟩:=I.pin p hp
    exact ⟨(hs.2 p.1 ne).trans e,n,ne,nf,d⟩
  · exact Zbb I.hok fun b u o e q=>(hs.2 b (fun z=>by rw [z,I.free] at e; cases e)).trans q
def ZaW (X:Cx) (x:Addr) (oe:Obj):Cx:={ X with A:=X.A.mark (some (.ref x)),calm:=false,pn:=X.pn++[(x,oe)],xe:=fun _ _=>False }
theorem ZdB {x:Addr} {oe:Obj} (I:Inv X pins σ H s) (he:s.heap.get? x=some oe) (hu:H x=none) (hn:x≠X.env.locals) (hf:x∉X.fs) (hd:∀v,oe.data≠.cell v):Inv (ZaW X x oe) pins σ H s:=by
  refine ⟨⟨I.ok.mod,I.ok.kind,I.ok.glob,I.ok.blt,I.ok.above,I.ok.inj,I.ok.has,I.ok.cab,fun z=>absurd (show false=true from z) (by decide),I.ok.frames,I.ok.stk,I.ok.exf,I.ok.bs,I.ok.bsz,I.ok.noex,I.ok.exfs,I.ok.funs,I.ok.frf⟩,I.os,I.bare,I.base,I.loc,I.cell,I.free,I.freeC,fun p hp=>?_,I.hok,I.len⟩
  have hp:p∈(X.pn++[(x,oe)])++pins:=hp
  rcases List.mem_append.mp hp with hp | hp
  · rcases List.mem_append.mp hp with hp | hp
    · exact I.pin p (List.mem_append_left _ hp)
    · have:p=(x,oe):=by simpa using hp
      subst this
      exact ⟨he,hu,hn,hf,hd⟩
  · exact I.pin p (List.mem_append_right _ hp)
theorem Zf0 {x:Addr} {oe:Obj} (ok:X.Ok) (I:Inv (ZaW X x oe) pins σ H s):Inv X pins σ H s:=by
  refine ⟨ok,I.os,I.bare,I.base,I.loc,I.cell,I.free,I.freeC,fun p hp=>?_,I.hok,I.len⟩
  have hp:p∈X.pn++pins:=hp
  refine I.pin p ?_
  show p∈(X.pn++[(x,oe)])++pins
  rcases List.mem_append.mp hp with hp | hp
  · exact List.mem_append_left _ (List.mem_append_left _ hp)
  · exact List.mem_append_right _ hp
end
section
variable {X:Cx} {x C Nn:Addr} {oe:Obj} {nm q:Str} {bs bm:List Value} {hdct:Bool} {sn:List Str} {sub:List Value} {ab:Bool} {col:Option Bool} {dd:Option Addr} {k0 k1 k2 k3 k5:Option Value} {newId:String}
theorem ZfK (hcls:oe.cls=.ref C) (hC:X.base.get? C=some (excClassObj nm q C Nn bs bm hdct sn sub ab col dd k0 k1 k2 k3 k5 newId)) (hb:bm.contains (.type "ValueError")=true) :
    CallR (ZaW X x oe) (.builtin "isinstance") (fun xs H Q=>(xs=[.ref x,.ref C]∨xs=[.ref x,.ty "ValueError"])∧Q (.bl true) H):=by
  intro pins s σ H xs us Q I r q
  obtain ⟨q1,q2⟩:=q
  have he:s.heap.get? x=some oe:=(I.pin (x,oe) (by show _∈(X.pn++[(x,oe)])++pins; simp)).1
  have hC':=I.bk C _ hC
  have fin:EP (ZaW X x oe) pins σ Q (.bool true) s:=⟨.bl true,H,I,rfl,q2⟩
  obtain ⟨h,g,d,tk,os⟩:=s
  rcases q1 with rfl | rfl
  · have e:us=[.ref x,.ref C]:=by
      cases r with
      | cons r1 r2=>
        cases r2 with
        | cons r3 r4=>
          cases r4
          cases (show _=Value.ref x from r1)
          cases (show _=Value.ref C from r3)
          rfl
    rw [e]
    exact Ziu he hcls fin
  · have e:us=[.ref x,.type "ValueError"]:=by
      cases r with
      | cons r1 r2=>
        cases r2 with
        | cons r3 r4=>
          cases r4
          cases (show _=Value.ref x from r1)
          cases (show _=Value.type "ValueError" from r3)
          rfl
    rw [e]
    exact Zit he hcls hC' rfl hb fin
end
end L2.MM
namespace L2.MM
open PySem PySem.Spec PyProof.Rows PySem.W PySem.Calls
section
variable {X:Cx} {pins:List (Addr×Obj)} {σ:St} {H H':Hp} {s:Shared} {xx T C W:Addr} {l:List Env}
theorem FlyS.here {h h':Heap} {fl fl' a0:Value} (I:Inv X pins σ H s) (F:FlyS X.prog X.w X.base X.stack H s.heap xx T C fl H' h) (k1:(hid h X.stack xx T).StaysIn h') (k2:h'.FunFrames (hid h X.stack xx T) X.stack) (k3:h'.TracedAtW (hid h X.stack xx T) xx (.ref C) a0 fl') (k4:h.UpToSlots h') :
    ∃T',FlyS X.prog X.w X.base X.stack H s.heap xx T' C fl' H' h':=
  F.move I.stkFree (fun b hb=>.inl hb) k1 k2 k3 k4 (fun b hb=>hb) (fun b hb=>.inr hb) (fun b hb=>by
    obtain ⟨_,o,ho,_⟩:=I.stack.mem hb
    exact F.un.free b o ho (I.stkFree b hb) (by simp))
theorem FlyS.inv {s':Shared} {fl:Value} (I:Inv X pins σ H s) (ho:s'.os=s.os) (hb:AllBare s'.gens) (F:FlyS X.prog X.w X.base X.stack H s.heap xx T C fl H' s'.heap):Inv X pins σ H' s':=
  I.call' (ch:=[]) ho F.un F.hok hb (fun b z=>absurd z (by simp))
variable {nm q:Str} {Nn:Addr} {bs bm:List Value} {hdct:Bool} {sn:List Str} {sub:List Value} {ab:Bool} {col:Option Bool} {dd:Option Addr} {k0 k1 k2 k3 k5:Option Value} {newId:String}
variable {nm' q':Str} {N':Addr} {bs' bm':List Value} {hdct':Bool} {sn':List Str} {sub':List Value} {ab':Bool} {col':Option Bool} {dd':Option Addr} {k0' k1' k2' k3' k5':Option Value} {newId':String}
theorem ZiJ {s':Shared} {E:Value→Shared→Prop} {n rn WE cn:Str} {ie ir:Nat} {D:Ends} {np p1 p2 p3 p4 p5 p6 p7 p8 p9 p10 p11 hp:Pos} (I:Inv X pins σ H s) (ho:s'.os=s.os) (hb:AllBare s'.gens) (F:FlyS X.prog X.w X.base X.stack H s.heap xx T C .none H' s'.heap)
    (hstk:X.stack=X.env::X.outer) (hfrm:X.env.frame=some X.env.locals)
    (hC:X.base.get? C=some (excClassObj nm q C Nn bs bm hdct sn sub ab col dd k0 k1 k2 k3 k5 newId)) (hW:X.base.get? W=some (excClassObj nm' q' W N' bs' bm' hdct' sn' sub' ab' col' dd' k0' k1' k2' k3' k5' newId'))
    (hbase:bm'.contains (.type "BaseException")=true) (hin:bm.contains (.ref W)=true) (hV:bm.contains (.type "ValueError")=true)
    (hN:X.N.Nodup) (hie:X.N[ie]?=some n) (hir:X.N[ir]?=some rn) (hnl:X.env.scope.names.lookup n=some .local) (hrl:Loc X.env.scope rn) (hfn:X.fn rn=true)
    (gW:Gl X WE) (mW:X.mg WE=some (.ref W)) (gC:Gl X cn) (mC:X.mg cn=some (.ref C)) (gI:Gl X "isinstance") (mI:X.mg "isinstance"=none) (gV:Gl X "ValueError") (mV:X.mg "ValueError"=none)
    (d1:(WE == ("__debug__":Str))=false) (d2:(cn == ("__debug__":Str))=false) (d3:(n == ("__debug__":Str))=false) (d4:(n == ("__classdict__":Str))=false)
    (hsw:∀Y:Cx,Y.env=X.env→swapsWith (.BoolOp .And [.Call (.Name "isinstance" p2) [.Name n p3,.Name cn p4] [] p5,.Call (.Name "isinstance" p6) [.Name n p7,.Name "ValueError" p8] [] p9] p10) (some (.Name rn p1)) p11.line Y.env=pure false)
    (hD:D.nx (((σ.set ie (some (.ref xx))).set ir (some (.bl true))).set ie none) H') :
    wpAny (model X.prog X.w) X.A (noteFrame (.ref xx) X.env) (fun _ s₂=>wpAny (model X.prog X.w) X.A (setFlight (.ref xx) none) (fun _ s₃=>wpAny (model X.prog X.w) X.A (handleBy (.ref xx) X.env
      [.ExceptHandler (some (.Name WE np)) (some n) [.Assign [.Name rn p1] (.BoolOp .And [.Call (.Name "isinstance" p2) [.Name n p3,.Name cn p4] [] p5,.Call (.Name "isinstance" p6) [.Name n p7,.Name "ValueError" p8] [] p9] p10) p11] hp]) (SP X pins D) E s₃) E s₂) E s':=by
  have hfr:X.A.frames=some (X.env::X.outer):=by rw [←hstk]; exact I.ok.frames
  obtain ⟨a0,f1,f2,f3,f4⟩:=Zda F.fly
  refine wpAny_looks_onW (base:=hid s'.heap X.stack xx T) hfr hfrm ⟨f1,f2,by rw [←hstk]; exact f3,f4⟩ fun h4 hh hu=>?_
  obtain ⟨g1,g2,g3,g4⟩:=hh
  rw [←hstk] at g3
  obtain ⟨T4,F4⟩:=F.here I g1 g3 g4 hu
  obtain ⟨a1,f1,f2,f3,f4⟩:=Zda F4.fly
  refine wpAny_landsW (base:=hid h4 X.stack xx T4) (l:=X.stack) ⟨f1,f2,f3,f4⟩ fun h5 hh hu=>?_
  obtain ⟨g1,g2,g3,g4⟩:=hh
  obtain ⟨T5,F5⟩:=F4.here I g1 g3 g4.at hu
  obtain ⟨oe,vs,oT,ts,a2,e1,e2,e3,e4,e5,e6,e7,e8,e9⟩:=F5.fly.tr
  have I5:Inv X pins σ H' { s' with heap:=h5 }:=F5.inv (s':={ s' with heap:=h5 }) I ho hb
  have nfr:=F5.fly.nfr.1
  have nL:xx≠X.env.locals:=fun z=>nfr (by rw [z,hstk]; show _∈List.filterMap _ _; simp [hfrm])
  have nfs:xx∉X.fs:=fun z=>nfr (by rw [hstk]; show _∈List.filterMap _ _; rw [List.filterMap_cons,hfrm]; exact List.mem_cons_of_mem _ z)
  have J5:=ZdB I5 e1 F5.ux nL nfs (fun v z=>by rw [e4] at z; cases z)
  refine Zfz (C:=C) (W:=W) (N:=Nn) (nm:=nm) (q:=q) (bs:=bs) (bm:=bm) (hdct:=hdct) (sn:=sn) (sub:=sub) (ab:=ab) (col:=col) (dd:=dd) (k0:=k0) (k1:=k1) (k2:=k2) (k3:=k3) (k5:=k5) (newId:=newId) (N':=N') (nm':=nm') (q':=q') (bs':=bs') (bm':=bm') (hdct':=hdct') (sn':=sn') (sub':=sub') (ab':=ab') (col':=col') (dd':=dd') (k0':=k0') (k1':=k1') (k2':=k2') (k3':=k3') (k5':=k5') (newId':=newId') hbase hin ?_
  refine Zbr (X:=ZaW X xx oe) J5 gW mW ⟨rfl,I5.bk C _ hC,I5.bk W _ hW,⟨oe,e1,e2⟩,?_⟩ d1
  obtain ⟨a3,f1,f2,f3,f4⟩:=Zda F5.fly
  refine lands_againW (base:=hid h5 X.stack xx T5) (l:=X.stack) ⟨f1,f2,f3,f4⟩ fun h6 hh hu=>?_
  obtain ⟨g1,g2,g3,g4⟩:=hh
  obtain ⟨T6,F6⟩:=F5.here I g1 g3 g4.at hu
  have I6:Inv X pins σ H' { s' with heap:=h6 }:=F6.inv (s':={ s' with heap:=h6 }) I ho hb
  obtain ⟨oe6,vs6,oT6,ts6,a6,e1,e2,e3,e4,e5,e6,e7,e8,e9⟩:=F6.fly.tr
  refine Zi0 (v:=.ref xx) I6 hN hie hnl rfl (fun s7 I7 hs7=>?_)
  have x7:s7.heap.get? xx=some oe6:=(hs7.2 xx nL).trans e1
  have J7:=ZdB I7 x7 F6.ux nL nfs (fun v z=>by rw [e4] at z; cases z)
  have hlen:ie < σ.length:=by rw [I.len]; exact (List.getElem?_eq_some_iff.mp hie).1
  have rule:PS (ZaW X xx oe6) (.Assign [.Name rn p1] (.BoolOp .And [.Call (.Name "isinstance" p2) [.Name n p3,.Name cn p4] [] p5,.Call (.Name "isinstance" p6) [.Name n p7,.Name "ValueError" p8] [] p9] p10) p11) _:=
    Zey hN hir hrl (Zh5 (Zdo (ZfK e2 hC hV) gI mI PyProof.Rows.boot_isinstance (Z3 (ZeA hie (.inl hnl) d3 d4) (Z3 (ZeB (v:=.ref C) gC mC rfl d2) zl)))
      (Zh1 (Zdo (ZfK e2 hC hV) gI mI PyProof.Rows.boot_isinstance (Z3 (ZeA hie (.inl hnl) d3 d4) (Z3 (Zje (v:=.ty "ValueError") gV mV (by decide +kernel) rfl) zl))))) (hsw (ZaW X xx oe6) rfl) (.inl hfn)
  have run:=Zc4 rule pins s7 (σ.set ie (some (.ref xx))) H' { nx:=fun σ8 H8=>σ8=(σ.set ie (some (.ref xx))).set ir (some (.bl true))∧H8=H',rt:=fun _ _=>False } J7
    (by
      have gs:(σ.set ie (some (V.ref xx)))[ie]?=some (some (.ref xx)):=List.getElem?_set_self hlen
      exact ⟨.ref xx,gs,.inl rfl,true,rfl,.ref xx,gs,.inr rfl,rfl,rfl⟩)
  refine wpAny_mono run (fun f s8 q=>?_) fun _ _ z=>z.elim
  cases f with
  | next=>
    obtain ⟨σ8,H8,J8,rfl,rfl⟩:=q
    have I8:=Zf0 I.ok J8
    exact ZhC I8 hN hie hnl fun s9 I9=>⟨_,_,I9,hD⟩
  | brk=>obtain ⟨_,_,_,z⟩:=q; exact z.elim
  | cont=>obtain ⟨_,_,_,z⟩:=q; exact z.elim
  | ret u=>obtain ⟨_,_,_,_,_,z⟩:=q; exact z.elim
end
end L2.MM
namespace L2.MM
open PySem PySem.Spec PyProof.Rows PySem.W PySem.Calls PySem.SeqAt
noncomputable section
def ZaK (P:Program) (w:World) (K:PySem.W.Frag) (mg:Str→Option Value) (base:Heap) (k:Nat) (C:Addr) (x:Str) (f:GM):Prop:=∃ps fa fd,FnOk P w K mg base (CX1 P w base C) k fa fd ps (spX ⟨ZdK mg,K⟩ C f)∧Binds K fd ps []∧PySem.W.keepIn K (.ref fa)=true∧mg x=some (.ref fa)
structure ZjF (base:Heap) (mg:Str→Option Value) (C W:Addr) (cn WE:Str):Prop where
  ex:∃(nm q:Str) (Nn:Addr) (bs bm:List Value) (hdct:Bool) (sn:List Str) (sub:List Value) (ab:Bool) (col:Option Bool) (dd:Option Addr) (k0 k1 k2 k3 k5:Option Value) (newId:String) (nm' q':Str) (N':Addr) (bs' bm':List Value) (hdct':Bool) (sn':List Str) (sub':List Value) (ab':Bool) (col':Option Bool) (dd':Option Addr) (k0' k1' k2' k3' k5':Option Value) (newId':String),
    base.get? C=some (excClassObj nm q C Nn bs bm hdct sn sub ab col dd k0 k1 k2 k3 k5 newId)∧base.get? W=some (excClassObj nm' q' W N' bs' bm' hdct' sn' sub' ab' col' dd' k0' k1' k2' k3' k5' newId')∧
    bm'.contains (.type "BaseException")=true∧bm.contains (.ref W)=true∧bm.contains (.type "ValueError")=true
  mW:mg WE=some (.ref W)
  mC:mg cn=some (.ref C)
  mI:mg "isinstance"=none
  mV:mg "ValueError"=none
section
variable {X:Cx}
theorem Frm.no {B:Bx} {θ:Sto} {ρ:List Sl} {σ:St} {H:Hp} (F:Frm X.cl B θ ρ σ H) (i:Nat) (y:Option V):Frm X.cl B θ (ρ.set i .no) (σ.set i y) H:=by
  have oth:∀(j:Nat) (s:Sl),(ρ.set i Sl.no)[j]?=some s→s=.no∨(j≠i∧ρ[j]?=some s):=fun j s e=>by
    by_cases q:j=i
    · subst q
      have hl:j < ρ.length:=by
        have:=(List.getElem?_eq_some_iff.mp e).1
        simpa using this
      rw [List.getElem?_set_self hl] at e
      cases e; exact .inl rfl
    · rw [List.getElem?_set_ne (Ne.symm q)] at e
      exact .inr ⟨q,e⟩
  refine ⟨F.good,by simp [F.len],fun j d e=>?_,fun j xs e=>?_,fun j k xs ys a hjk e1 e2 e3=>?_⟩
  · rcases oth j _ e with z | ⟨n,z⟩
    · cases z
    · obtain ⟨v,h1,h2⟩:=F.val j d z
      exact ⟨v,by rw [List.getElem?_set_ne (Ne.symm n)]; exact h1,h2⟩
  · rcases oth j _ e with z | ⟨n,z⟩
    · cases z
    · obtain ⟨a,vs,h1,h2⟩:=F.own j xs z
      exact ⟨a,vs,by rw [List.getElem?_set_ne (Ne.symm n)]; exact h1,h2⟩
  · rcases oth j _ e1 with z | ⟨n,z⟩
    · cases z
    · rcases oth k _ e2 with z' | ⟨n',z'⟩
      · cases z'
      · rw [List.getElem?_set_ne (Ne.symm n)] at e3
        rw [List.getElem?_set_ne (Ne.symm n')]
        exact F.ne j k xs ys a hjk z z' e3
end
end
end L2.MM
namespace L2.MM
open PySem PySem.Spec PyProof.Rows PySem.W PySem.Calls PySem.SeqAt
abbrev ZcT:List Value:=[.type "ValueError",.type "Exception",.type "BaseException",.type "object"]
abbrev ZlL (W:Addr):List Value:=[.ref W,.type "ValueError",.type "Exception",.type "BaseException",.type "object"]
abbrev ZlK (C W:Addr):List Value:=[.ref C,.ref W,.type "ValueError",.type "Exception",.type "BaseException",.type "object"]
section
variable {K:PySem.W.Frag} {h:Heap} {mg:Str→Option Value} {C W:Addr} {bb:List Value} {n:String} {cn WE:Str}
theorem ZcF (q:excIn K C bb n=true):∃(nm qn:Str) (bs tl:List Value) (ns:Addr) (hd:Bool) (sn:List Str) (sub:List Value) (ab:Bool) (col:Option Bool) (dd:Option Addr) (k0 k1 k2 k3 k5:Option Value),
    K.lookup C=some (excClassObj nm qn C ns bs tl hd sn sub ab col dd k0 k1 k2 k3 k5 n)∧tailIn K bb tl=true∧nsOkIn K ns=true∧nsIn K ns "__init__"=some none:=by
  unfold excIn at q
  split at q
  · next dd cd sl ho=>
    split at q
    · next C' tl k0 k1 k2 k3 n' k5 e1 e2=>
      have q':=q
      rw [Bool.and_eq_true,Bool.and_eq_true,Bool.and_eq_true,Bool.and_eq_true,Bool.and_eq_true] at q'
      obtain ⟨⟨⟨⟨⟨y1,y2⟩,y3⟩,y4⟩,y5⟩,y6⟩:=q'
      have z1:C'=C:=by simpa using y1
      have z2:n'=n:=by simpa using y2
      have z3:cd.hasDel=false:=by simpa using y3
      subst z1 z2
      cases cd
      simp only at e1 z3 y5 y6
      subst e1 z3
      cases sl
      simp only at e2
      subst e2
      exact ⟨_,_,_,tl,_,_,_,_,_,_,dd,k0,k1,k2,k3,k5,ho,y4,y5,by simpa using y6⟩
    · exact absurd q (by decide)
  · exact absurd q (by decide)
theorem Zjv (X:K.In h) (G:h.Ns mainGlobals mg) (a:nsIn K mainGlobals cn=some (some (.ref C))) (q:excIn K C bb n=true):OwnCls cn C bb n mg h:=by
  obtain ⟨nm,qn,bs,tl,ns,hd,sn,sub,ab,col,dd,k0,k1,k2,k3,k5,y1,y2,y3,y4⟩:=ZcF q
  have g:=mg_of X G a
  have t:=tail_of_in X y2
  have i:=nsMap_none_of_in X y3 y4
  exact { bound:=g,obj:=⟨tl,ns,nm,qn,bs,hd,sn,sub,ab,col,dd,k0,k1,k2,k3,k5,h.nsMap ns,X C _ y1,.of_isNs (isNs_of_in X y3),i,t⟩ }
theorem Zju {dC dW:Option Addr} {cC cW:ClassData} {sC sW:Array (Option Value)} (X:K.In h) (G:h.Ns mainGlobals mg) (a:nsIn K mainGlobals cn=some (some (.ref C))) (q:excIn K C bb n=true) (l:K.lookup C=some ⟨.type "type",dC,.cls cC,sC⟩) (m:cC.mro=[.ref C,.ref W,.type "ValueError",.type "Exception",.type "BaseException",.type "object"])
    (a':nsIn K mainGlobals WE=some (some (.ref W))) (q':excIn K W bb n=true) (l':K.lookup W=some ⟨.type "type",dW,.cls cW,sW⟩) (m':cW.mro=[.ref W,.type "ValueError",.type "Exception",.type "BaseException",.type "object"])
    (zI:nsIn K mainGlobals "isinstance"=some none) (zV:nsIn K mainGlobals "ValueError"=some none):ZjF h mg C W cn WE:=by
  obtain ⟨nm,qn,bs,tl,ns,hd,sn,sub,ab,col,dd,k0,k1,k2,k3,k5,y1,y2,y3,y4⟩:=ZcF q
  obtain ⟨nm',qn',bs',tl',ns',hd',sn',sub',ab',col',dd',k0',k1',k2',k3',k5',w1,w2,w3,w4⟩:=ZcF q'
  have e:tl=[.ref W,.type "ValueError",.type "Exception",.type "BaseException",.type "object"]:=by
    have z:=Option.some.inj (y1.symm.trans l)
    injection z with z1 z2 z3 z4
    injection z3 with z5
    rw [←z5] at m
    injection m
  have e':tl'=[.type "ValueError",.type "Exception",.type "BaseException",.type "object"]:=by
    have z:=Option.some.inj (w1.symm.trans l')
    injection z with z1 z2 z3 z4
    injection z3 with z5
    rw [←z5] at m'
    injection m'
  subst e e'
  refine ⟨⟨nm,qn,ns,bs,_,hd,sn,sub,ab,col,dd,k0,k1,k2,k3,k5,n,nm',qn',ns',bs',_,hd',sn',sub',ab',col',dd',k0',k1',k2',k3',k5',n,X _ _ y1,X _ _ w1,by decide,by simp,by simp⟩,mg_of X G a',mg_of X G a,mg_none_of X G zI,mg_none_of X G zV⟩
end
end L2.MM
namespace L2.MM
open PySem PySem.Spec PyProof.Rows PySem.W PySem.Calls PySem.SeqAt
noncomputable section
def wpX (X:Cx) (σ:St) (B:Bx) (H:Hp) (ρ:List Sl) (r:R (Fl×List Sl)) (D:Ends) (EQ:Hp→Prop):Prop:=match r with
  | .ok (fl,ρ') θ'=>∀B' H' σ',ExtS B B' H H'→Frm X.cl B' θ' ρ' σ' H'→ZgI D B' σ' H' fl
  | .ex _ θ'=>∀B' H',ExtS B B' H H'→Frm X.cl B' θ' ρ σ H'→EQ H'
  | .bad=>False
section
variable {X:Cx}
theorem wpX.trans {σ:St} {B B':Bx} {H H':Hp} {ρ:List Sl} {r:R (Fl×List Sl)} {D:Ends} {EQ:Hp→Prop} (h:wpX X σ B H ρ r D EQ) (E:ExtS B B' H H'):wpX X σ B' H' ρ r D EQ:=by
  cases r with
  | ok a θ'=>exact fun B2 H2 σ2 e g=>h B2 H2 σ2 (E.trans e) g
  | ex c θ'=>exact fun B2 H2 e g=>h B2 H2 (E.trans e) g
  | bad=>exact h
def ZjY (X:Cx) (C:Addr) (pins:List (Addr×Obj)) (σ:St) (EQ:Hp→Prop) (Ex:Value→Shared→Prop):Prop:=
  ∀(s1:Shared) (H1:Hp) (s':Shared) (xx T:Addr) (H':Hp),Inv X pins σ H1 s1→s'.os=s1.os→AllBare s'.gens→FlyS X.prog X.w X.base X.stack H1 s1.heap xx T C .none H' s'.heap→EQ H'→Ex (.ref xx) s'
def MX (X:Cx) (C:Addr) (st:Stmt) (f:SM):Prop:=∀(pins:List (Addr×Obj)) (s:Shared) (σ:St) (H:Hp) (D:Ends) (EQ:Hp→Prop) (Ex:Value→Shared→Prop),Inv X pins σ H s→ZjY X C pins σ EQ Ex→
  (∃B θ ρ,Frm X.cl B θ ρ σ H∧wpX X σ B H ρ (f ρ θ) D EQ)→wpAny (model X.prog X.w) X.A (exec st X.env) (SP X pins D) Ex s
theorem Zjk {C:Addr} {st:Stmt} {f:SM} (h:MX X C st f) (pins:List (Addr×Obj)) (s:Shared) (σ:St) (H:Hp) (D:Ends) (EQ:Hp→Prop) (Ex:Value→Shared→Prop) (I:Inv X pins σ H s) (R:ZjY X C pins σ EQ Ex)
    (q:∃B θ ρ,Frm X.cl B θ ρ σ H∧wpX X σ B H ρ (f ρ θ) D EQ):wpAny (model X.prog X.w) X.A (execs [st] X.env) (SP X pins D) Ex s:=by
  refine wpAny_execs_cons (thn (h pins s σ H D EQ Ex I R q) fun f s1 q=>?_)
  cases f with
  | next=>exact wpAny_execs_nil q
  | ret v=>exact q
  | brk=>exact q
  | cont=>exact q
def Zfq (ie ir:Nat) (fb:SM):SM:=fun ρ θ=>match fb ρ θ with
  | .ok p θ'=>.ok p θ'
  | .ex _ θ'=>.ok (.nx,(ρ.set ie .no).set ir (.val (.bl true))) θ'
  | .bad=>.bad
theorem Zjl (ie ir:Nat) {j:Nat} {n rn WE cn:Str} {fb:SM} {C W:Addr} {st:Stmt} {np p1 p2 p3 p4 p5 p6 p7 p8 p9 p10 p11 hp tp:Pos} (hx0:X.xe=fun _ _=>False)
    (hb:MX X C st fb) (EK:ZjF X.base X.mg C W cn WE) (hstk:X.stack=X.env::X.outer) (hfrm:X.env.frame=some X.env.locals)
    (hN:X.N.Nodup) (hne:ie≠ir) (hie:X.N[ie]?=some n:=by rfl) (hir:X.N[ir]?=some rn:=by rfl) (hnl:X.env.scope.names.lookup n=some .local:=by rfl) (hrl:Loc X.env.scope rn:=by first | exact Or.inl rfl | exact Or.inr rfl) (hfr:X.fn rn=true:=by rfl)
    (gW:Gl X WE:=by rfl) (gC:Gl X cn:=by rfl) (gI:Gl X "isinstance":=by rfl) (gV:Gl X "ValueError":=by rfl)
    (d1:(WE == ("__debug__":Str))=false:=by decide) (d2:(cn == ("__debug__":Str))=false:=by decide) (d3:(n == ("__debug__":Str))=false:=by decide) (d4:(n == ("__classdict__":Str))=false:=by decide)
    (hsw:∀Y:Cx,Y.env=X.env→swapsWith (.BoolOp .And [.Call (.Name "isinstance" p2) [.Name n p3,.Name cn p4] [] p5,.Call (.Name "isinstance" p6) [.Name n p7,.Name "ValueError" p8] [] p9] p10) (some (.Name rn p1)) p11.line Y.env=pure false:=by intro _ _; rfl) :
    MS X (.Try [st] [.ExceptHandler (some (.Name WE np)) (some n) [.Assign [.Name rn p1] (.BoolOp .And [.Call (.Name "isinstance" p2) [.Name n p3,.Name cn p4] [] p5,.Call (.Name "isinstance" p6) [.Name n p7,.Name "ValueError" p8] [] p9] p10) p11] hp] [] [] tp) (Zfq ie ir fb):=by
  intro pins s σ H D I h
  obtain ⟨B,θ,ρ,F,w⟩:=h
  refine wpAny_Try_except ?_
  obtain ⟨nm,q,Nn,bs,bm,hdct,sn,sub,ab,col,dd,k0,k1,k2,k3,k5,newId,nm',q',N',bs',bm',hdct',sn',sub',ab',col',dd',k0',k1',k2',k3',k5',newId',hC,hW,hbase,hin,hV⟩:=EK.ex
  refine wpAny_mono (Zjk hb pins s σ H D (fun H'=>D.nx ((σ.set ie none).set ir (some (.bl true))) H') _ I (fun s1 H1 s' xx T H' I1 hos hbare Fl hE=>ZiJ I1 hos hbare Fl hstk hfrm hC hW hbase hin hV hN hie hir hnl hrl hfr gW EK.mW gC EK.mC gI EK.mI gV EK.mV d1 d2 d3 d4 hsw (by
      have e1:((σ.set ie (some (V.ref xx))).set ir (some (.bl true))).set ie none=(σ.set ie none).set ir (some (.bl true)):=by
        rw [List.set_comm _ _ (Ne.symm hne),List.set_set]
      rw [e1]
      exact hE)) ⟨B,θ,ρ,F,?_⟩) (fun f s1 q=>?_) fun _ _ z=>z
  · unfold Zfq at w
    cases e:fb ρ θ with
    | bad=>rw [e] at w; exact w
    | ok p θ'=>rw [e] at w; exact w
    | ex c θ'=>
      rw [e] at w
      intro B' H' E' F'
      exact w B' H' _ E' ((F'.no ie none).set ir (v:=.bl true) rfl)
  · cases f with
    | next=>exact wpAny_execs_nil q
    | ret v=>exact q
    | brk=>exact q
    | cont=>exact q
end
end
end L2.MM
namespace L2
open PySem PySem.Spec PyProof.Rows
section
variable {X:Cx} {x:Str} {px:Pos} {iter elt tst:Expr} {scope:Scope} {pos:Pos} {N':List Str} {src:List Nat} {wi:TI} {te:TE} {tc:TT}
theorem Zck {prog:Program} {w:World} {A:Around} {R:Result→Shared→Prop} {s:Shared} {elt target iter tst:Expr} {scope:Scope} {pos:Pos} {it acc:Value} {env:Env} (I:Nat→Shared→Prop)
    (turn:∀n s,I n s→wpAny (model prog w) A (pyNext it) (fun r s₁=>match r with
      | none=>R (.ok .next) s₁
      | some v=>wpAny (model prog w) A (letOwnedTupleGo target it v) (fun _ s₂=>wpAny (model prog w) A (assign target env v) (fun _ s₃=>wpAny (model prog w) A (isTrue tst env (eval tst env)) (fun ok s₃₅=>if ok=true then wpAny (model prog w) A (eval elt env) (fun x s₄=>
          wpAny (model prog w) A (call (.builtin "list.append") [acc,x]) (fun _ s₅=>∃m,m<n∧I m s₅) (notedBy (model prog w) A env fun e s'=>R (.error e) s') s₄) (notedBy (model prog w) A env fun e s'=>R (.error e) s') s₃₅ else ∃m,m<n∧I m s₃₅)
          (notedBy (model prog w) A env fun e s'=>R (.error e) s') s₃) (notedBy (model prog w) A env fun e s'=>R (.error e) s') s₂) (notedBy (model prog w) A env fun e s'=>R (.error e) s') s₁) (notedBy (model prog w) A env fun e s'=>R (.error e) s') s)
    (n:Nat) (h:I n s):codeAny (model prog w) A (.compLoop (.ListComp elt [⟨target,iter,[tst],0⟩] scope pos) 0 it acc env) R s:=by
  refine codeAny_loop rfl I (fun n s hI=>?_) n h
  show wpAny _ A ((compTurn (.ListComp elt [⟨target,iter,[tst],0⟩] scope pos) 0 it acc env).onRaise (fun x=>do noteFrame x env; theTreesLotGoes x)) _ _ s
  refine wpAny_noted ?_
  rw [compTurn_list]
  refine wpAny_bind (wpAny_standAt (wpAny_bind (thn (turn n s hI) fun r s₁ h₁=>?_)))
  cases r with
  | none=>exact wpAny_pure h₁
  | some v=>
    refine wpAny_bind (thn h₁ fun _ s₂ h₂=>wpAny_bind (thn h₂ fun _ s₃ h₃=>?_))
    refine wpAny_bind (thn (wpAny_tests_one h₃) fun ok s₄ h₄=>?_)
    cases ok with
    | false=>
      rw [if_neg (by decide)] at h₄
      exact wpAny_pure ⟨rfl,h₄⟩
    | true=>
      rw [if_pos rfl] at h₄
      exact wpAny_bind (wpAny_bind (thn h₄ fun x s₅ h₅=>wpAny_bind (thn h₅ fun _ s₆ h₆=>wpAny_pure (wpAny_pure ⟨rfl,h₆⟩))))
def ZmA (J:It) (src:List Nat) (σ:St) (tc:TT) (te:TE) (H1:Hp) (Q:VK):Prop:=∃(n:Nat) (Pv:Nat→List V→Hp→Prop),n≤sizeLine∧Pv 0 [] H1∧
  (∀i ys H,i<n→Pv i ys H→J.go i H∧∀y H',J.yld i H y H'→tc (inner src σ (some y)) H' fun b H1=>if b=true then te (inner src σ (some y)) H1 fun z H2=>Pv (i+1) (ys++[z]) H2 else Pv (i+1) ys H1)∧
  ∀ys H,Pv n ys H→J.stop n H∧∀p,H p=none→Q (.ref p) (upd H p (.lst ys))
def Zk8 (wi:TI) (src:List Nat) (tc:TT) (te:TE):TE:=fun σ H Q=>wi σ H fun J H1=>ZmA J src σ tc te H1 Q
theorem Zjq {pins:List (Addr×Obj)} {σ:St} {H:Hp} {s:Shared} {cl:List (Str×Addr)} {it:Addr} {fp:List Addr} {tn:Nat→Heap→Prop} {J:It} {n:Nat} {Pv:Nat→List V→Hp→Prop} {RR:Value→Addr→Result→Shared→Prop} {E:Value→Shared→Prop}
    (I:Inv X pins σ H s) (hcm:X.calm=true) (S:ZG scope X.env.scope x X.N N' src) (hcl:∀n c,(n,c)∈cl→X.env.cells.lookup n=some c) (hcl2:∀y∈scope.names,y.2=.free→∃c,(y.1,c)∈cl)
    (T:Zd0 X.prog X.w X.K (.Name x px) J fp it tn) (t0:tn 0 s.heap) (hfp:∀b∈fp,Zbl X pins H b)
    (helt:∀(cl:List (Str×Addr)) (C:Addr) (s₀:Shared) (H₀:Hp) (fp:List Addr),PE (X.comp scope N' cl C s₀ H₀ fp) elt te)
    (htst:∀(cl:List (Str×Addr)) (C:Addr) (s₀:Shared) (H₀:Hp) (fp:List Addr),PT (X.comp scope N' cl C s₀ H₀ fp) tst tc)
    (hn:n≤sizeLine) (p0:Pv 0 [] H) (turn:∀i ys H,i<n→Pv i ys H→J.go i H∧∀y H',J.yld i H y H'→tc (inner src σ (some y)) H' fun b H1=>if b=true then te (inner src σ (some y)) H1 fun z H2=>Pv (i+1) (ys++[z]) H2 else Pv (i+1) ys H1) (stop:∀ys H,Pv n ys H→J.stop n H)
    (hR:∀(D C:Addr) (o:Obj) (ys:List V) (H':Hp) (s':Shared),Pv n ys H'→H' D=none→Inv X (pins++[(C,o)]) σ (upd H' D (.lst ys)) s'→(∃m,s'.heap.Ns C m)→Zbl X pins (upd H' D (.lst ys)) C→RR (.ref D) C (.ok .next) s') :
    wpAny (model X.prog X.w) X.A (newList []) (fun acc s₃=>wpAny (model X.prog X.w) X.A (newFunctionEnv scope X.env.globals cl [] X.env.qual none .none (some X.env)) (fun cenv s₄=>
      codeAny (model X.prog X.w) X.A (.compStart (.ListComp elt [⟨.Name x px,iter,[tst],0⟩] scope pos) 0 (.ref it) acc { cenv with scope:=relabel scope X.env }) (RR acc cenv.locals) s₄) E s₃) E s:=by
  refine wpAny_newObj_type (wpAny_newFunctionEnv S.cell (by intro y hy; simp at hy) (fun h₁ hns₁ hsb₁=>?_) S.kind)
  dsimp only at hns₁ hsb₁ ⊢
  generalize hH2:s.heap.push { cls:=.type "list",dict:=none,data:=.seq ([]:List Value).toArray }=H2 at hns₁ hsb₁ ⊢
  have hC:H2.objs.size=s.heap.objs.size+1:=by rw [←hH2,Heap.size_push]
  have hDC:s.heap.objs.size≠H2.objs.size:=by rw [hC]; exact Nat.ne_of_lt (Nat.lt_succ_self _)
  have hCle:s.heap.objs.size≤H2.objs.size:=by rw [hC]; exact Nat.le_succ _
  have below:∀b,b<s.heap.objs.size→b≠H2.objs.size∧b≠s.heap.objs.size:=fun b hb=>⟨by rw [hC]; exact Nat.ne_of_lt (Nat.lt_succ_of_lt hb),Nat.ne_of_lt hb⟩
  have old:∀b o,s.heap.get? b=some o→h₁.get? b=some o:=fun b o e=>hsb₁.extBut b o (below b (Heap.lt_size e)).1 (Heap.get?_push_of_some _ (hH2 ▸ Heap.get?_push_of_some _ e))
  have hacc:h₁.PlainList s.heap.objs.size #[]:=⟨_,hsb₁.extBut _ _ hDC (Heap.get?_push_of_some _ (hH2 ▸ Heap.get?_push_size _ rfl))⟩
  have hfl:∀b∈fp,b<s.heap.objs.size:=fun b hb=>by
    obtain ⟨o,e,_⟩:=T.obj 0 _ t0 b hb
    exact Heap.lt_size e
  have fresh:∀a,s.heap.objs.size≤a→s.heap.get? a=none:=fun a ha=>by
    cases e:s.heap.get? a with
    | none=>rfl
    | some o'=>exact absurd (Heap.lt_size e) (Nat.not_lt.mpr ha)
  generalize eD:s.heap.objs.size=D at hDC hacc hCle below fresh hfl hC ⊢
  generalize eC:H2.objs.size=C at hDC hCle below hC hns₁ hsb₁ ⊢
  have I1:Inv (X.comp scope N' cl C s H fp) [] (inner src σ none) H { s with heap:=h₁,toks:=s.toks+([]:List (Str×Value)).length }:=
    ZdI I S hcl hcl2 (by rw [eD]; exact hCle) hfp (by rw [eD]; exact hfl) ⟨_,hns₁⟩ old rfl rfl
  have stat:∀{H':Hp} {pl:List (Addr×Obj)},(∀p∈pl,p.1=D)→(∀b∈fp,H' b=none)→∀b∈fp,Zbl (X.comp scope N' cl C s H fp) pl H' b:=fun {H' pl} hp hn b hb=>
    ⟨hn b hb,(below b (hfl b hb)).1,fun z=>by
      rcases List.mem_cons.mp (I.stkSub b z) with q | q
      · exact (hfp b hb).2.1 q
      · exact (hfp b hb).2.2.1 q,.inl hb,fun y c e=>(hfp b hb).2.2.2.2.1 y c (hcl y c (PySem.mem_of_lookup e)),fun p hq=>by
      rw [hp p (by rcases List.mem_append.mp hq with z | z; exact absurd (show p∈([]:List (Addr×Obj)) from z) (by simp); exact z)]
      exact Ne.symm (below b (hfl b hb)).2⟩
  have nD:D∉frs X.stack:=fun z=>by
    rcases List.mem_cons.mp (I.stkSub D z) with q | q
    · have:=I.lt; rw [←q,eD] at this; exact Nat.lt_irrefl _ this
    · exact I.nofs (a:=D) (by rw [eD]; exact Nat.le_refl _) q
  have nC:C∉X.fs:=I.nofs (by rw [eD]; exact hCle)
  have cellD:∀y c,cl.lookup y=some c→c<D:=fun y c e=>by
    obtain ⟨v,q⟩:=I.cell y c (hcl y c (PySem.mem_of_lookup e))
    have:=q.lt
    rw [eD] at this
    exact this
  have loop:∀s₃:Shared,s₃={ s with heap:=h₁,toks:=s.toks+([]:List (Str×Value)).length }→
      codeAny (model X.prog X.w) X.A (.compLoop (.ListComp elt [⟨.Name x px,iter,[tst],0⟩] scope pos) 0 (.ref it) (.ref D) (compEnvC scope cl C X.env)) (RR (.ref D) C) s₃:=by
    rintro s₃ rfl
    refine Zck (fun k s'=>∃(i:Nat) (ys:List V) (its:List Value) (H':Hp) (xo:Option V),Inv (X.comp scope N' cl C s H fp) [] (inner src σ xo) H' s'∧tn i s'.heap∧(∀b∈fp,H' b=none)∧s'.heap.PlainList D its.toArray∧Vals ys its∧H' D=none∧
      Pv i ys H'∧ys.length≤i∧i≤n∧k=n+1-i) ?_ (n+1) ⟨0,[],[],H,none,I1,T.keep _ _ _ t0 (fun b _ o e=>old b o e),fun b hb=>(hfp b hb).1,hacc,.nil,I.hok.fresh (by rw [eD]; exact Nat.le_refl _),p0,Nat.le_refl _,Nat.zero_le _,rfl⟩
    rintro k s' ⟨i,ys,its,H',xo,I3,t3,f3,l3,v3,d3,p3,e3,le3,rfl⟩
    by_cases hlt:i<n
    · obtain ⟨go,step⟩:=turn i ys H' hlt p3
      obtain ⟨nn,oD⟩:=id l3
      have I3p:Inv (X.comp scope N' cl C s H fp) [(D,{ cls:=.type "list",data:=.seq its.toArray nn })] (inner src σ xo) H' s':=
        I3.pins_of fun p hp=>by
          have ep:p=(D,{ cls:=.type "list",data:=.seq its.toArray nn }):=by simpa using hp
          subst ep
          exact ⟨oD,d3,hDC,nD,fun v z=>by cases z⟩
      refine thn (T.item (X.comp scope N' cl C s H fp) rfl rfl rfl hcm i _ s' _ H' _ I3p (stat (by simp) f3) t3 go) fun r s4 ⟨u,hr,h4⟩=>?_
      subst hr
      refine thn h4 fun _ s5 ⟨y,H5,I5,r5,y5,st5,fr5⟩=>?_
      have I5':=I5.pinned (stat (by simp) fr5) (T.obj _ _ st5)
      have hg:PG (X.comp scope N' cl C s H fp) (.Name x px) (ZbG 0):=
        ZaO S.nd (by show N'[0]?=some x; rw [S.names]; rfl) (.inl (lookup_relabel_local S.own)) (.inr (lookup_relabel_local S.own))
      refine wpAny_mono (hg _ s5 _ H5 y u (fun σ2 H2=>σ2=inner src σ (some y)∧H2=H5) I5' r5 ⟨rfl,rfl⟩) (fun _ s6 ⟨σ6,H6,I6,e6,e6'⟩=>?_) fun _ _ z=>False.elim z
      subst e6 e6'
      refine wpAny_mono (htst cl C s H fp _ s6 _ _ _ I6 (step y _ y5)) (fun b s65 ⟨H65,I65,q65⟩=>?_) fun _ _ z=>False.elim z
      have hys:its.toArray.size≤sizeLine:=by
        have:=v3.length
        rw [List.size_toArray]
        omega
      cases b with
      | true=>
        rw [if_pos rfl] at q65 ⊢
        refine wpAny_mono (helt cl C s H fp _ s65 _ _ _ I65 q65) (fun v s7 ⟨z,H7,I7,r7,q7⟩=>?_) fun _ _ z=>False.elim z
        have o7:=I7.pin (D,{ cls:=.type "list",data:=.seq its.toArray nn }) (by simp)
        refine wpAny_list_append_plain (hsz:=hys) (items:=its.toArray) (s:=s7) ⟨nn,o7.1⟩ fun h8 hl8 hs8=>?_
        refine ⟨n+1-(i+1),by omega,i+1,ys++[z],its++[v],H7,some y,?_,?_,?_,?_,v3.append (.cons r7 .nil),o7.2.1,q7,by rw [List.length_append]; exact Nat.succ_le_succ e3,hlt,rfl⟩
        · have I7':Inv (X.comp scope N' cl C s H fp) [] (inner src σ (some y)) H7 s7:=I7.pins_of fun p hp=>absurd hp (by simp)
          exact I7'.turned (t':=s7.toks) (it:=D) (fun b o hb e=>(hs8.2 b hb).trans e) o7.2.1 hDC (.inr (by show s.heap.objs.size≤D; rw [eD]; exact Nat.le_refl _)) (fun y c e=>Nat.ne_of_lt (cellD y c e)) fun p hp=>absurd (show p∈([]:List (Addr×Obj)) from hp) (by simp)
        · refine T.keep _ _ _ st5 fun b hb o e=>(hs8.2 b (below b (hfl b hb)).2).trans ?_
          exact (I7.pin (b,o) (List.mem_append_right _ (List.mem_append_right _ (ZT hb e)))).1
        · intro b hb
          obtain ⟨o,e,_⟩:=T.obj _ _ st5 b hb
          exact (I7.pin (b,o) (List.mem_append_right _ (List.mem_append_right _ (ZT hb e)))).2.1
        · have:(its++[v]).toArray=its.toArray.push v:=by simp
          rw [this]; exact hl8
      | false=>
        rw [if_neg (by decide)] at q65 ⊢
        have o7:=I65.pin (D,{ cls:=.type "list",data:=.seq its.toArray nn }) (by simp)
        refine ⟨n+1-(i+1),by omega,i+1,ys,its,H65,some y,I65.pins_of fun p hp=>absurd hp (by simp),?_,?_,⟨nn,o7.1⟩,v3,o7.2.1,q65,Nat.le_succ_of_le e3,hlt,rfl⟩
        · refine T.keep _ _ _ st5 fun b hb o e=>?_
          exact (I65.pin (b,o) (List.mem_append_right _ (List.mem_append_right _ (ZT hb e)))).1
        · intro b hb
          obtain ⟨o,e,_⟩:=T.obj _ _ st5 b hb
          exact (I65.pin (b,o) (List.mem_append_right _ (List.mem_append_right _ (ZT hb e)))).2.1
    · have ein:i=n:=by omega
      subst ein
      obtain ⟨nn,oD⟩:=id l3
      have I3p:Inv (X.comp scope N' cl C s H fp) [(D,{ cls:=.type "list",data:=.seq its.toArray nn })] (inner src σ xo) H' s':=
        I3.pins_of fun p hp=>by
          have ep:p=(D,{ cls:=.type "list",data:=.seq its.toArray nn }):=by simpa using hp
          subst ep
          exact ⟨oD,d3,hDC,nD,fun v z=>by cases z⟩
      refine thn (T.done (X.comp scope N' cl C s H fp) rfl rfl rfl hcm i _ s' _ H' _ I3p (stat (by simp) f3) t3 (stop ys H' p3)) fun r s4 ⟨hr,I4⟩=>?_
      subst hr
      have o4:=I4.pin (D,{ cls:=.type "list",data:=.seq its.toArray nn }) (by simp)
      have newI:Inv X pins σ (upd H' D (.lst ys)) s4:=I.call' (ch:=fp) I4.os (I4.base.lay d3 (fresh D (Nat.le_refl _))) (I4.hok.lay d3 ⟨by omega,its,nn,v3,o4.1⟩) I4.bare (fun b hb=>
        ⟨(hfp b hb).2.2.2.1,(hfp b hb).2.1,(hfp b hb).2.2.2.2.1,(hfp b hb).2.2.2.2.2⟩)
      obtain ⟨m,hm,_⟩:=I4.loc
      obtain ⟨o,es,ep,ho,hd,_⟩:=id hm
      refine hR D C o ys H' s4 p3 d3 (newI.pins_of fun p hp=>?_) ⟨m,hm⟩ (I.fpOk (by rw [eD]; exact hCle) (by rw [Zq (Ne.symm hDC)]; exact I4.free))
      rcases List.mem_append.mp hp with z | z
      · exact newI.pin p (List.mem_append_right _ z)
      · have ep:p=(C,o):=by simpa using z
        subst ep
        refine ⟨ho,by rw [Zq (Ne.symm hDC)]; exact I4.free,fun z=>?_,nC,fun v z=>?_⟩
        · have:=I.lt
          rw [eD,←z] at this
          exact absurd (Nat.lt_of_lt_of_le this hCle) (Nat.lt_irrefl _)
        · have z':o.data=.cell v:=z
          rw [hd] at z'; cases z'
  exact codeAny_compStart_list (loop _ rfl) (T.self _ 0 _ _ _ (T.keep _ _ _ t0 (fun b _ o e=>old b o e)) (loop _ rfl))
theorem Zkk {sc:Scope} {N:List Str} (S:ZG scope sc x N N' src) (hsc:X.env.scope=sc) (hN:X.N=N) (hi:PI X (.Name x px) iter wi)
    (helt:∀(cl:List (Str×Addr)) (C:Addr) (s₀:Shared) (H₀:Hp) (fp:List Addr),PE (X.comp scope N' cl C s₀ H₀ fp) elt te) (htst:∀(cl:List (Str×Addr)) (C:Addr) (s₀:Shared) (H₀:Hp) (fp:List Addr),PT (X.comp scope N' cl C s₀ H₀ fp) tst tc) (hcm:X.calm=true:=by rfl) (hs:∀v,foldedSetIterable iter X.env v=pure v:=by intro _; rfl) :
    PE X (.ListComp elt [⟨.Name x px,iter,[tst],0⟩] scope pos) (Zk8 wi src tc te):=by
  subst hsc hN
  intro pins s σ H Q I h
  obtain ⟨cl,hclos,hcl,hcl2⟩:=zZ (scope:=scope) (env:=X.env) fun y hy hf=>I.ok.has y.1 (.inl (S.free y hy hf))
  rw [eval_ListComp]
  refine wpAny_comprehension_free (use:=none) rfl hs hclos S.kind S.loc ?_
  refine thn (hi pins s σ H _ I h) fun v s1 h1=>thn h1 fun itv s2 h2=>?_
  obtain ⟨it,fp,tn,J,H2,e,I2,T,st2,f2,n,Pv,hn,p0,turn,done⟩:=h2
  subst e
  refine Zjq I2 hcm S hcl hcl2 T st2 f2 helt htst hn p0 turn (fun ys H p=>(done ys H p).1) fun D C o ys H' s' p d J' hm ho=>?_
  obtain ⟨m,hm⟩:=hm
  refine ⟨m,hm,fun h' hs'=>?_⟩
  have J2:Inv X pins σ (upd H' D (.lst ys)) s':=J'.pins_of fun q hq=>J'.pin q (List.mem_append_right _ (List.mem_append_left _ hq))
  obtain ⟨f0,f1,f2,f3,f4,f5⟩:=ho
  exact ⟨.ref D,_,J2.turned (t':=s'.toks) (it:=C) (fun b o hb e=>(hs'.2 b hb).trans e) f0 f1 f3 f4 f5,rfl,(done ys H' p).2 D d⟩
end
end L2
namespace L2.MM
open PySem PySem.Spec PyProof.Rows PySem.W PySem.SeqAt
noncomputable section
open Classical in
def ZaZ (S:Src) (all:List D) (tst:D→Sto→R Bool) (elt:D→Sto→R D):List D→List D→Sto→R D
  | [],acc,θ=>if S.items θ=some all∧acc.length≤BIG then .ok (.lst acc) θ else .bad
  | x::r,acc,θ=>if S.items θ=some all then (tst x θ).bind fun b θ=>if b=true then (elt x θ).bind fun y θ=>ZaZ S all tst elt r (acc++[y]) θ else ZaZ S all tst elt r acc θ else .bad
def ZbU (fi:IM) (src:List Nat) (tst:TMr) (elt:EM):EM:=fun ρ θ=>(fi ρ θ).bind fun S θ=>match S.items θ with
  | some xs=>if xs.length≤BIG then ZaZ S xs (fun x θ=>tst (Z0 src ρ x) θ) (fun x θ=>elt (Z0 src ρ x) θ) xs [] θ else .bad
  | none=>.bad
section
variable {X:Cx}
open Classical in
theorem ZhL {fi:IM} {src:List Nat} {tst:TMr} {elt:EM} (σ:St) (H:Hp) (Q:VK) (h:tM X (ZbU fi src tst elt) σ H Q):Zk8 (tMI X fi) src (tMT X tst) (tM X elt) σ H Q:=by
  obtain ⟨B,θ,ρ,F,w⟩:=h
  refine ⟨B,θ,ρ,F,(wpR.bind (Rel:=SrcRep X.K) w).mono ?_⟩
  rintro J H1 ⟨B1,θ1,S,E1,G1,rJ,w1⟩
  split at w1
  · rename_i xs e1
    split at w1
    · rename_i hz
      refine ⟨xs.length,fun i ys H'=>∃B' θ' acc,ExtE B1 B' H1 H'∧Good X.cl B' θ' H'∧RepL B' H' acc ys∧wpR X σ RepV B' H' (ZaZ S xs (fun x θ=>tst (Z0 src ρ x) θ) (fun x θ=>elt (Z0 src ρ x) θ) (xs.drop i) acc θ') Q,Zy hz,?_,?_,?_⟩
      · exact ⟨B1,θ1,[],ExtE.refl _ _,G1,rfl,w1⟩
      · rintro i ys H' hi ⟨B2,θ2,acc,E2,G2,racc,w2⟩
        rw [List.drop_eq_getElem_cons hi] at w2
        unfold ZaZ at w2
        split at w2
        · rename_i e2
          obtain ⟨g1,g2⟩:=(Zcq G2 (rJ.ext E2.toExtS) e2).1 i xs[i] (List.getElem?_eq_getElem hi)
          refine ⟨g1,fun y H3 hy=>?_⟩
          obtain ⟨rfl,ry⟩:=g2 y H3 hy
          have F2:=(F.ext (E1.trans E2) G2).inner src ry
          refine ⟨B2,θ2,_,F2,(wpR.bind (Rel:=EqB) w2).mono ?_⟩
          rintro b H4 ⟨B4,θ4,d,E4,G4,rd,w4⟩
          cases (show d=b from rd)
          cases b with
          | true=>
            rw [if_pos rfl] at w4 ⊢
            have F4:=F2.ext E4 G4
            refine ⟨B4,θ4,_,F4,(wpR.bind (Rel:=RepV) w4).mono ?_⟩
            rintro z H5 ⟨B5,θ5,d5,E5,G5,rd5,w5⟩
            exact ⟨B5,θ5,acc++[d5],(E2.trans E4).trans E5,G5,(racc.ext (E4.trans E5).toExtS).app ⟨z,[],rfl,rd5,rfl⟩,w5⟩
          | false=>
            rw [if_neg (by decide)] at w4 ⊢
            exact ⟨B4,θ4,acc,E2.trans E4,G4,racc.ext E4.toExtS,w4⟩
        · exact w2.elim
      · rintro ys H' ⟨B2,θ2,acc,E2,G2,racc,w2⟩
        rw [List.drop_length] at w2
        unfold ZaZ at w2
        split at w2
        · rename_i e2
          exact ⟨(Zcq G2 (rJ.ext E2.toExtS) e2.1).2,ZaL G2 racc w2⟩
        · exact w2.elim
    · exact w1.elim
  · exact w1.elim
theorem Zkz {x:Str} {px pos:Pos} {iter elt tst:Expr} {scope:Scope} {N':List Str} {src:List Nat} {sc:Scope} {N:List Str} {fi:IM} {ft:TMr} {fe:EM} (S:ZG scope sc x N N' src) (hsc:X.env.scope=sc) (hN:X.N=N) (hi:MI X (.Name x px) iter fi)
    (helt:∀(cl:List (Str×Addr)) (C:Addr) (s₀:Shared) (H₀:Hp) (fp:List Addr),MT (X.comp scope N' cl C s₀ H₀ fp) tst ft∧ME (X.comp scope N' cl C s₀ H₀ fp) elt fe) (hcm:X.calm=true:=by rfl) (hs:∀v,foldedSetIterable iter X.env v=pure v:=by intro _; rfl) :
    ME X (.ListComp elt [⟨.Name x px,iter,[tst],0⟩] scope pos) (ZbU fi src ft fe):=
  PE.imp (Zkk (te:=tM X fe) (tc:=tMT X ft) S hsc hN hi (fun cl C s₀ H₀ fp=>(helt cl C s₀ H₀ fp).2) (fun cl C s₀ H₀ fp=>(helt cl C s₀ H₀ fp).1) hcm hs) ZhL
end
end
end L2.MM
namespace L2.MM
open PySem PySem.Spec PyProof.Rows PySem.W PySem.SeqAt
noncomputable section
section
variable {X:Cx}
theorem Zd4:∀{ts:List Str} {us:List Value},Vals (ts.map V.str) us→∃l:List (Str×Tok),strValues l=us∧l.map (·.1)=ts
  | [],us,h=>by
    cases h
    exact ⟨[],rfl,rfl⟩
  | t::ts,us,h=>by
    cases h with
    | cons h1 h2=>
      obtain ⟨l,e1,e2⟩:=Zd4 h2
      obtain ⟨k,rfl⟩:=h1
      exact ⟨(t,k)::l,by rw [←e1]; rfl,by rw [←e2]; rfl⟩
theorem Zd7:∀(l:List (Str×Tok)),Vals ((l.map (·.1)).map V.str) (strValues l)
  | []=>.nil
  | (t,k)::l=>.cons ⟨k,rfl⟩ (Zd7 l)
def ZjO:V→List V→Hp→VK→Prop:=fun x vs H Q=>∃sep b ts,x=.str sep∧vs=[.ref b]∧H b=some (.lst (ts.map V.str))∧JoinOk sep ts=true∧Q (.str (Txt.join sep ts)) H
theorem Zc6:MtR X "str.join" ZjO:=by
  intro pins s σ H x vs v us Q I rx rv h
  obtain ⟨sep,b,ts,rfl,rfl,hb,hok,q⟩:=h
  obtain ⟨t,rfl⟩:=rx
  obtain ⟨u,rfl,ru⟩:=rv.one
  cases ru
  obtain ⟨z,its,n,r,hl,e⟩:=I.lstM hb
  obtain ⟨l,e1,e2⟩:=Zd4 r
  subst e1
  refine SC.join (l:=l) (texts:=ts) ⟨_,e,rfl,n,rfl⟩ e2 hok fun t' k=>?_
  exact ⟨.str (Txt.join sep ts),H,I.kept (t':=k) fun _ _ q=>q,⟨t',rfl⟩,q⟩
def Zd9:List D→Option (List Str)
  | []=>some []
  | .str x::r=>(Zd9 r).map (x::·)
  | _::_=>none
theorem Zd8 {B:Bx} {H:Hp}:∀{ds:List D} {vs:List V} {ts:List Str},RepL B H ds vs→Zd9 ds=some ts→vs=ts.map V.str
  | [],vs,ts,r,h=>by
    cases h
    cases (show vs=[] from r)
    rfl
  | d::ds,vs,ts,r,h=>by
    obtain ⟨v,q,rfl,hv,hq⟩:=r
    cases d with
    | str x=>
      simp only [Zd9,Option.map_eq_some_iff] at h
      obtain ⟨r',h1,rfl⟩:=h
      cases (show v=V.str x from hv)
      rw [Zd8 hq h1]
      rfl
    | _=>cases h
def Zah (fo fe:EM):EM:=fun ρ θ=>(fo ρ θ).bind fun d θ=>match d with
  | .str sep=>(fe ρ θ).bind fun y θ=>match (ZO θ y).bind Zd9 with
    | some ts=>if JoinOk sep ts=true then .ok (.str (Txt.join sep ts)) θ else .bad
    | none=>.bad
  | _=>.bad
theorem Zc8 {o e:Expr} {fo fe:EM} {apos pos:Pos} (hpe:PE X (.Call (.Attribute o "join" apos) [e] [] pos) (tBM X.K "str" ZjO (tM X fo) (Zdi (tM X fe) ZfU))):ME X (.Call (.Attribute o "join" apos) [e] [] pos) (Zah fo fe):=by
  refine PE.imp hpe fun σ H Q h=>?_
  obtain ⟨B,θ,ρ,F,w⟩:=h
  refine ZB (step F w) ?_
  rintro v H1 ⟨B1,θ1,d,E1,F1,rd,w1⟩
  split at w1
  · rename_i sep
    cases (show v=V.str sep from rd)
    refine ⟨rfl,?_⟩
    refine ZB (step F1 w1) ?_
    rintro y H2 ⟨B2,θ2,dy,E2,F2,ry,w2⟩
    split at w2
    · rename_i ts et
      obtain ⟨ds,h1,h2⟩:=Option.bind_eq_some_iff.mp et
      obtain ⟨a,vs,rfl,h3,h4⟩:=ZY F2.good ry h1
      split at w2
      · rename_i hok
        refine ⟨sep,a,ts,rfl,rfl,?_,hok,Zw (Rel:=RepV) F2.good (show RepV B2 H2 (.str _) (.str _) from rfl) w2⟩
        rw [h3,Zd8 h4 h2]
      · exact w2.elim
    · exact w2.elim
  · exact w1.elim
theorem ZgV {A:Around} {E:Value→Shared→Prop} {P:Program} {w:World} {s:Shared} {x y:Str} {t u:Tok} {Q:Value→Shared→Prop} (ne:(y.length == 0)=false) (z1:x.length≤sizeLine) (z2:(Builtin.Str.partsBetween x (Builtin.Str.occurrences x y 0 x.length (x.length+1)) y.length).length≤sizeLine)
    (k:∀(l:List (Str×Tok)) (tk:Nat),l.map (·.1)=Txt.split x y→Q (.ref s.heap.objs.size) { s with toks:=tk,heap:=s.heap.push { cls:=.type "list",data:=.seq (strValues l).toArray } }) :
    wpAny (model P w) A (call (.builtin "str.split") [.str x t,.str y u]) Q E s:=by
  have one:Txt.split x y=[x]→Q (.ref s.heap.objs.size) { s with toks:=s.toks,heap:=s.heap.push { cls:=.type "list",data:=.seq (strValues [(x,t)]).toArray } }:=fun e=>k [(x,t)] s.toks e.symm
  by_cases c:(decide (x.length<y.length) || decide (Builtin.Str.strKind x<Builtin.Str.strKind y))=true
  · exact call_meets F.slot_str_split (typeIs_str _ _ _) F.entry_str_split (F.args_str_split_2 _ _) (meets_str_split_cannot_occur x y t u c) (one (by unfold Txt.split; rw [if_pos c]))
  · have c':=eq_false_of_ne_true c
    by_cases d:(Builtin.Str.occurrences x y 0 x.length (x.length+1)).isEmpty=true
    · exact call_meets F.slot_str_split (typeIs_str _ _ _) F.entry_str_split (F.args_str_split_2 _ _) (meets_str_split_not_found x y t u c' ne d) (one (by unfold Txt.split; rw [if_neg c,if_pos d]))
    · have d':=eq_false_of_ne_true d
      have e:Txt.split x y=Builtin.Str.partsBetween x (Builtin.Str.occurrences x y 0 x.length (x.length+1)) y.length:=by unfold Txt.split; rw [if_neg c,if_neg d]
      have k':=k (numbered s.toks (Builtin.Str.partsBetween x (Builtin.Str.occurrences x y 0 x.length (x.length+1)) y.length)) (s.toks+(Builtin.Str.partsBetween x (Builtin.Str.occurrences x y 0 x.length (x.length+1)) y.length).length) (by rw [e]; exact numbered_texts _ _)
      rw [←strsFrom_eq] at k'
      exact call_meets F.slot_str_split (typeIs_str _ _ _) F.entry_str_split (F.args_str_split_2 _ _) (meets_str_split_sep x y t u c' ne d' z1 z2) k'
def ZhS:V→List V→Hp→VK→Prop:=fun x vs H Q=>∃a b,x=.str a∧vs=[.str b]∧(b.length == 0)=false∧a.length≤sizeLine∧(Builtin.Str.partsBetween a (Builtin.Str.occurrences a b 0 a.length (a.length+1)) b.length).length≤sizeLine∧(Txt.split a b).length≤sizeLine∧∀p,H p=none→Q (.ref p) (upd H p (.lst ((Txt.split a b).map V.str)))
theorem Zfm:MtR X "str.split" ZhS:=by
  intro pins s σ H x vs v us Q I rx rv h
  obtain ⟨a,b,rfl,rfl,ne,z1,z2,z3,q⟩:=h
  obtain ⟨t,rfl⟩:=rx
  obtain ⟨u,rfl,ru⟩:=rv.one
  obtain ⟨t',rfl⟩:=ru
  refine ZgV ne z1 z2 fun l tk e=>?_
  have r:=Zd7 l
  rw [e] at r
  exact ⟨.ref s.heap.objs.size,_,I.lnew (t':=tk) r (by rw [List.length_map]; exact z3),rfl,q _ I.fresh⟩
def ZaS (fo fe:EM):EM:=fun ρ θ=>(fo ρ θ).bind fun d θ=>match d with
  | .str a=>(fe ρ θ).bind fun y θ=>match y with
    | .str b=>if (b.length == 0)=false∧a.length≤BIG∧(Builtin.Str.partsBetween a (Builtin.Str.occurrences a b 0 a.length (a.length+1)) b.length).length≤BIG∧(Txt.split a b).length≤BIG then .ok (.lst ((Txt.split a b).map D.str)) θ else .bad
    | _=>.bad
  | _=>.bad
theorem Zec {B:Bx} {H:Hp}:∀ts:List Str,RepL B H (ts.map D.str) (ts.map V.str)
  | []=>rfl
  | t::ts=>⟨.str t,ts.map V.str,rfl,rfl,Zec ts⟩
theorem Zfp {o e:Expr} {fo fe:EM} {apos pos:Pos} (hpe:PE X (.Call (.Attribute o "split" apos) [e] [] pos) (tBM X.K "str" ZhS (tM X fo) (Zdi (tM X fe) ZfU))):ME X (.Call (.Attribute o "split" apos) [e] [] pos) (ZaS fo fe):=by
  refine PE.imp hpe fun σ H Q h=>?_
  obtain ⟨B,θ,ρ,F,w⟩:=h
  refine ZB (step F w) ?_
  rintro v H1 ⟨B1,θ1,d,E1,F1,rd,w1⟩
  split at w1
  · rename_i a
    cases (show v=V.str a from rd)
    refine ⟨rfl,?_⟩
    refine ZB (step F1 w1) ?_
    rintro y H2 ⟨B2,θ2,dy,E2,F2,ry,w2⟩
    split at w2
    · rename_i b
      cases (show y=V.str b from ry)
      split at w2
      · rename_i hc
        obtain ⟨c1,c2,c3,c4⟩:=hc
        exact ⟨a,b,rfl,rfl,c1,Zy c2,Zy c3,Zy c4,ZaL F2.good (Zec _) w2⟩
      · exact w2.elim
    · exact w2.elim
  · exact w1.elim
def ZhT:V→List V→Hp→VK→Prop:=fun x vs H Q=>∃a b i r,x=.str a∧vs=[.str b]∧Builtin.Str.occurrences a b 0 a.length 1=i::r∧Q (.int (i:Nat)) H
theorem Zfn:MtR X "str.index" ZhT:=by
  intro pins s σ H x vs v us Q I rx rv h
  obtain ⟨a,b,i,r,rfl,rfl,e,q⟩:=h
  obtain ⟨t,rfl⟩:=rx
  obtain ⟨u,rfl,ru⟩:=rv.one
  obtain ⟨t',rfl⟩:=ru
  exact SC.index e ⟨.int (i:Nat),H,I.kept (t':=s.toks+1) fun _ _ q=>q,⟨_,rfl⟩,q⟩
def ZaT (fo fe:EM):EM:=fun ρ θ=>(fo ρ θ).bind fun d θ=>match d with
  | .str a=>(fe ρ θ).bind fun y θ=>match y with
    | .str b=>match Builtin.Str.occurrences a b 0 a.length 1 with
      | i::_=>.ok (.int (i:Nat)) θ
      | []=>.bad
    | _=>.bad
  | _=>.bad
theorem Zef {o e:Expr} {fo fe:EM} {apos pos:Pos} (hpe:PE X (.Call (.Attribute o "index" apos) [e] [] pos) (tBM X.K "str" ZhT (tM X fo) (Zdi (tM X fe) ZfU))):ME X (.Call (.Attribute o "index" apos) [e] [] pos) (ZaT fo fe):=by
  refine PE.imp hpe fun σ H Q h=>?_
  obtain ⟨B,θ,ρ,F,w⟩:=h
  refine ZB (step F w) ?_
  rintro v H1 ⟨B1,θ1,d,E1,F1,rd,w1⟩
  split at w1
  · rename_i a
    cases (show v=V.str a from rd)
    refine ⟨rfl,?_⟩
    refine ZB (step F1 w1) ?_
    rintro y H2 ⟨B2,θ2,dy,E2,F2,ry,w2⟩
    split at w2
    · rename_i b
      cases (show y=V.str b from ry)
      split at w2
      · rename_i i r e
        exact ⟨a,b,i,r,rfl,rfl,e,Zw (Rel:=RepV) F2.good (show RepV B2 H2 (.int _) (.int _) from rfl) w2⟩
      · exact w2.elim
    · exact w2.elim
  · exact w1.elim
def Zfx:OM:=fun x y θ=>match x,y with
  | .str i,.str j=>.ok (.bl (!(Builtin.Str.occurrences j i 0 j.length 1).isEmpty)) θ
  | _,_=>.bad
theorem Zlt:OpR X (compareOp .In) (rM X Zfx):=by
  refine OpR.imp Zg3 fun x y H Q q=>?_
  obtain ⟨σ,B,θ,d,e,G,rd,re,w⟩:=q
  unfold Zfx at w
  split at w
  · rename_i i j
    cases (show x=V.str i from rd)
    cases (show y=V.str j from re)
    exact ⟨i,j,rfl,rfl,Zw (Rel:=RepV) G (show RepV B H (.bl _) (.bl _) from rfl) w⟩
  · exact w.elim
end
end
end L2.MM
namespace L2.MM
open PySem PySem.Spec PyProof.Rows PySem.W PySem.SeqAt
noncomputable section
section
variable {X:Cx}
def Zch:GM:=fun ds θ=>match ds with
  | [.str x]=>match PySem.intText? x with
    | some n=>if x.length≤640 then .ok (.int n) θ else .bad
    | none=>.bad
  | _=>.bad
theorem Zho:CallR X (.type "int") (fun xs H Q=>∃x n,xs=[.str x]∧PySem.intText? x=some n∧x.length≤640∧Q (.int n) H):=by
  intro pins s σ H xs us Q I r h
  obtain ⟨x,n,rfl,e,hl,q⟩:=h
  obtain ⟨u,rfl,ru⟩:=Zd6 r
  obtain ⟨t,rfl⟩:=ru
  exact KIN.call_text e hl ⟨.int n,H,I.kept (t':=s.toks+1) fun _ _ q=>q,⟨_,rfl⟩,q⟩
theorem ZiL:CallR X (.type "int") (rC X Zch):=by
  refine CallR.imp Zho fun vs H Q q=>?_
  obtain ⟨σ,B,θ,ds,G,r,w⟩:=q
  unfold Zch at w
  split at w
  · rename_i x
    split at w
    · rename_i n e
      split at w
      · rename_i hl
        obtain ⟨v,rfl,rv⟩:=r.one
        cases (show v=V.str x from rv)
        exact ⟨x,n,rfl,e,hl,Zw G (show RepV B H (.int _) (.int _) from rfl) w⟩
      · exact w.elim
    · exact w.elim
  · exact w.elim
def Its (x:Str):It:=⟨fun i _=>i<x.cps.size,fun i H y H'=>H'=H∧∃c,x.cps[i]?=some c∧y=.str ⟨#[c]⟩,fun i _=>x.cps.size≤i⟩
theorem ZgR {P:Program} {w:World} {K:PySem.W.Frag} {tg:Expr} (x:Str) (t:Tok) (it:Addr):Zd0 P w K tg (Its x) [it] it (fun i h=>h.IsStrIter it "str_ascii_iterator" x t i):=by
  refine ⟨by simp,fun i h st b hb=>?_,fun i h h' st k=>?_,?_,?_,?_⟩
  · have e:b=it:=by simpa using hb
    rw [e]
    obtain ⟨o,y,c,d⟩:=st
    exact ⟨o,y,fun v z=>by rw [d] at z; cases z⟩
  · obtain ⟨o,y,c⟩:=st
    exact ⟨o,k it (by simp) o y,c⟩
  · intro Y hP hw hK hc i pins s σ H E I hf st hg
    subst hP hw hK
    have hg':i<x.cps.size:=hg
    obtain ⟨f0,f1,f2,f3,f4,f5⟩:=hf it (by simp)
    obtain ⟨c,ec⟩:∃c,x.cps[i]?=some c:=⟨x.cps[i],Array.getElem?_eq_getElem hg'⟩
    refine wpAny_pyNext_ascii_item st ec fun h' st' sb=>?_
    have I1:Inv Y pins σ H { s with heap:=h',toks:=s.toks+1 }:=I.turned (t':=s.toks+1) (fun b o hb e=>(sb.2 b hb).trans e) f0 f1 f3 f4 f5
    obtain ⟨o,y1,y2,y3⟩:=id st'
    exact ⟨_,rfl,ZfB (s:={ s with heap:=h',toks:=s.toks+1 }) y1 y2 y3 (by decide) ⟨.str ⟨#[c]⟩,H,I1,⟨_,rfl⟩,⟨rfl,c,ec,rfl⟩,st',fun b hb=>(hf b hb).1⟩⟩
  · intro Y hP hw hK hc i pins s σ H E I hf st hg
    subst hP hw hK
    have hg':x.cps.size≤i:=hg
    obtain ⟨f0,f1,f2,f3,f4,f5⟩:=hf it (by simp)
    exact wpAny_pyNext_ascii_end (I.ok.hd hc) st (by simp [hg']) fun h' eb=>⟨rfl,I.turned (t':=s.toks) (fun b o hb e=>eb b o hb e) f0 f1 f3 f4 f5⟩
  · intro A i s Q E st h
    exact wpAny_pyIter_slot st.typeIs F.slot_str_ascii_iterator_iter (wpAny_call_entry F.slot_str_ascii_iterator_iter st.typeIs F.entry_str_ascii_iterator_iter (wpAny_pure ⟨_,rfl,"str_ascii_iterator",_,st.typeIs,F.slot_str_ascii_iterator_next.lookup,h⟩) (F.args_str_ascii_iterator_iter_1 _))
def ZbH (elt:D→Sto→R D):List D→List D→Sto→R D
  | [],acc,θ=>if acc.length≤BIG then .ok (.lst acc) θ else .bad
  | x::r,acc,θ=>(elt x θ).bind fun y θ=>ZbH elt r (acc++[y]) θ
structure ItV (J:It) (xs:List D):Prop where
  go:∀i H,i<xs.length→J.go i H
  yld:∀i H y H' d,xs[i]?=some d→J.yld i H y H'→H'=H∧∀B,RepV B H d y
  stop:∀H,J.stop xs.length H
theorem ZjS {J:It} {xs:List D} {src:List Nat} {elt:EM} {σ:St} {H H1:Hp} {B B1:Bx} {θ θ1:Sto} {ρ:List Sl} {Q:VK} (V:ItV J xs) (hz:xs.length≤BIG) (F:Frm X.cl B θ ρ σ H) (E1:ExtE B B1 H H1) (G1:Good X.cl B1 θ1 H1)
    (w:wpR X σ RepV B1 H1 (ZbH (fun x θ=>elt (Z0 src ρ x) θ) xs [] θ1) Q):lcR J src σ (tM X elt) H1 Q:=by
  refine ⟨xs.length,fun i ys H'=>∃B' θ' acc,ExtE B1 B' H1 H'∧Good X.cl B' θ' H'∧RepL B' H' acc ys∧wpR X σ RepV B' H' (ZbH (fun x θ=>elt (Z0 src ρ x) θ) (xs.drop i) acc θ') Q,Zy hz,⟨B1,θ1,[],ExtE.refl _ _,G1,rfl,w⟩,?_,?_⟩
  · rintro i ys H' hi ⟨B2,θ2,acc,E2,G2,racc,w2⟩
    rw [List.drop_eq_getElem_cons hi] at w2
    unfold ZbH at w2
    refine ⟨V.go i H' hi,fun y H3 hy=>?_⟩
    obtain ⟨rfl,ry⟩:=V.yld i H' y H3 xs[i] (List.getElem?_eq_getElem hi) hy
    have F2:=(F.ext (E1.trans E2) G2).inner src (ry B2)
    refine ⟨B2,θ2,_,F2,(wpR.bind (Rel:=RepV) w2).mono ?_⟩
    rintro z H4 ⟨B4,θ4,d,E4,G4,rd,w4⟩
    exact ⟨B4,θ4,acc++[d],E2.trans E4,G4,(racc.ext E4.toExtS).app ⟨z,[],rfl,rd,rfl⟩,w4⟩
  · rintro ys H' ⟨B2,θ2,acc,E2,G2,racc,w2⟩
    rw [List.drop_length] at w2
    unfold ZbH at w2
    split at w2
    · exact ⟨V.stop H',ZaL G2 racc w2⟩
    · exact w2.elim
def zQ (x:Str):List D:=x.cps.toList.map fun c=>D.str ⟨#[c]⟩
theorem Zis (x:Str):ItV (Its x) (zQ x):=by
  have l:(zQ x).length=x.cps.size:=by simp [zQ]
  refine ⟨fun i H h=>?_,fun i H y H' d hd hy=>?_,fun H=>?_⟩
  · show i<x.cps.size
    rw [←l]; exact h
  · obtain ⟨e,c,hc,rfl⟩:=hy
    refine ⟨e,fun B=>?_⟩
    simp only [zQ,List.getElem?_map,Array.getElem?_toList,hc,Option.map_some,Option.some.injEq] at hd
    subst hd
    rfl
  · show x.cps.size≤(zQ x).length
    rw [l]
    exact Nat.le_refl _
def ZjV (tl:TE):TI:=fun σ H R=>tl σ H fun x H1=>∃a,x=.str a∧(a.cps.all (· < 128))=true∧R (Its a) H1
theorem Zja {tg l:Expr} {tl:TE} (hl:PE X l tl):PI X tg l (ZjV tl):=by
  intro pins s σ H R I h
  refine thn (hl pins s σ H _ I h) fun v s1 ⟨x,H1,I1,r1,a,e,ha,q⟩=>?_
  subst e
  obtain ⟨t,rfl⟩:=r1
  refine wpAny_pyIter_ascii ha ⟨s1.heap.objs.size,[s1.heap.objs.size],_,_,H1,rfl,I1.kept (t':=s1.toks) fun b o e=>Heap.get?_push_of_some _ e,ZgR a t _,⟨_,Heap.get?_push_size _ rfl,rfl,rfl⟩,fun b hb=>?_,q⟩
  have e:b=s1.heap.objs.size:=by simpa using hb
  subst e
  exact I1.fpOk (Nat.le_refl _) (I1.hok.fresh (Nat.le_refl _))
def ZbS (fo:EM) (src:List Nat) (elt:EM):EM:=fun ρ θ=>(fo ρ θ).bind fun d θ=>match d with
  | .str x=>if (x.cps.all (· < 128))=true∧(zQ x).length≤BIG then ZbH (fun y θ=>elt (Z0 src ρ y) θ) (zQ x) [] θ else .bad
  | _=>.bad
theorem ZhJ {fo:EM} {src:List Nat} {elt:EM} (σ:St) (H:Hp) (Q:VK) (h:tM X (ZbS fo src elt) σ H Q):tLc (ZjV (tM X fo)) src (tM X elt) σ H Q:=by
  obtain ⟨B,θ,ρ,F,w⟩:=h
  refine ZB (step F w) ?_
  rintro v H1 ⟨B1,θ1,d,E1,F1,rd,w1⟩
  split at w1
  · rename_i x
    cases (show v=V.str x from rd)
    split at w1
    · rename_i c
      exact ⟨x,rfl,c.1,ZjS (Zis x) c.2 F E1 F1.good w1⟩
    · exact w1.elim
  · exact w1.elim
theorem Zky {x:Str} {px pos:Pos} {iter elt:Expr} {scope:Scope} {N':List Str} {src:List Nat} {sc:Scope} {N:List Str} {fo fe:EM} (S:ZG scope sc x N N' src) (hsc:X.env.scope=sc) (hN:X.N=N) (hi:ME X iter fo)
    (helt:∀(cl:List (Str×Addr)) (C:Addr) (s₀:Shared) (H₀:Hp) (fp:List Addr),ME (X.comp scope N' cl C s₀ H₀ fp) elt fe) (hcm:X.calm=true:=by rfl) (hs:∀v,foldedSetIterable iter X.env v=pure v:=by intro _; rfl) :
    ME X (.ListComp elt [⟨.Name x px,iter,[],0⟩] scope pos) (ZbS fo src fe):=
  PE.imp (Zh3 (te:=tM X fe) S hsc hN (Zja hi) (fun cl C s₀ H₀ fp=>helt cl C s₀ H₀ fp) hcm hs) ZhJ
end
end
end L2.MM
namespace L2.MM
open PySem PySem.Spec PyProof.Rows PySem.W PySem.SeqAt
noncomputable section
section
variable {X:Cx}
def It2 (n:Nat):It:=⟨fun i _=>i<n,fun i H x H'=>H'=H∧x=.int (2*(i:Int)),fun i _=>n≤i⟩
theorem ZhE {P:Program} {w:World} {K:PySem.W.Frag} {tg:Expr} (it:Addr) (n:Nat):Zd0 P w K tg (It2 n) [it] it (fun i h=>IsRangeIter h it (0+(i:Nat)*2) ((n:Int)-(i:Nat)) 2):=by
  refine ⟨by simp,fun i h st b hb=>?_,fun i h h' st k=>k it (by simp) _ st,?_,?_,?_⟩
  · have e:b=it:=by simpa using hb
    rw [e]
    refine ⟨_,st,fun v z=>?_⟩
    have z':Data.fields _=Data.cell v:=z
    cases z'
  · intro Y hP hw hK hc i pins s σ H E I hf st hg
    subst hP hw hK
    obtain ⟨f0,f1,f2,f3,f4,f5⟩:=hf it (by simp)
    have W:=Walks.range (prog:=Y.prog) (w:=Y.w) (I.ok.hd hc) it 0 2 n
    refine W.item i s _ _ hg st fun v h' tk hv st' kk=>?_
    obtain ⟨t,rfl⟩:=hv
    have I1:Inv Y pins σ H { s with heap:=h',toks:=tk }:=I.turned (fun b o hb e=>kk b o (by simpa using hb) e) f0 f1 f3 f4 f5
    refine ⟨_,rfl,ZfB (s:={ s with heap:=h',toks:=tk }) (n:="range_iterator") st' rfl rfl (by decide) ⟨.int (2*(i:Int)),H,I1,⟨t,?_⟩,⟨rfl,rfl⟩,st',fun b hb=>(hf b hb).1⟩⟩
    rw [Int.zero_add,Int.mul_comm]
  · intro Y hP hw hK hc i pins s σ H E I hf st hg
    subst hP hw hK
    obtain ⟨f0,f1,f2,f3,f4,f5⟩:=hf it (by simp)
    exact wpAny_pyNext_range_end (I.ok.hd hc) st (by have:n≤i:=hg; omega) fun h' eb=>⟨rfl,I.turned (t':=s.toks) (fun b o hb e=>eb b o hb e) f0 f1 f3 f4 f5⟩
  · exact fun _ _ _ _ _ st h=>wpAny_pyIter_rangeiter st h
def ZlD (ta:TA):TI:=fun σ H R=>ta σ H fun vs H1=>∃j:Nat,vs=[.int 0,.int (j:Int),.int 2]∧j≤1000∧R (It2 ((j+1)/2)) H1
theorem two_it {tg:Expr} {pins:List (Addr×Obj)} {σ:St} {H:Hp} {s:Shared} {R:It→Hp→Prop} {E:Value→Shared→Prop} {j:Nat} {t u v:Tok} (I:Inv X pins σ H s) (hj:j≤1000) (q:R (It2 ((j+1)/2)) H) :
    wpAny (model X.prog X.w) X.A (pyIter (.ref s.heap.objs.size)) (PIE X pins σ tg R) E { s with heap:=s.heap.push { cls:=.type "range",data:=.fields #[.int 0 t,.int (j:Int) u,.int 2 v] },toks:=s.toks }:=by
  refine wpAny_pyIter_range (IsRange.new ..) (by unfold Builtin.Range.small Builtin.Range.rangeSize; simp [Builtin.Range.rangeFitsLong]; split<;>omega) ?_
  have I1:Inv X pins σ H { s with heap:=s.heap.push { cls:=.type "range",data:=.fields #[.int 0 t,.int (j:Int) u,.int 2 v] },toks:=s.toks }:=I.kept fun b o e=>Heap.get?_push_of_some _ e
  refine ⟨(s.heap.push { cls:=.type "range",data:=.fields #[.int 0 t,.int (j:Int) u,.int 2 v] }).objs.size,[(s.heap.push { cls:=.type "range",data:=.fields #[.int 0 t,.int (j:Int) u,.int 2 v] }).objs.size],_,_,H,rfl,
    I1.kept (t':=s.toks) fun b o e=>Heap.get?_push_of_some _ e,ZhE _ ((j+1)/2),?_,fun b hb=>?_,q⟩
  · have e2:((((j+1)/2:Nat):Int))-((0:Nat):Int)=Builtin.Range.rangeSize 0 (j:Int) 2:=by
      unfold Builtin.Range.rangeSize
      simp only [show (2:Int) > 0 by decide,if_true]
      split<;>omega
    show IsRangeIter _ _ (0+((0:Nat):Int)*2) ((((j+1)/2:Nat):Int)-((0:Nat):Int)) 2
    rw [e2]
    exact Heap.get?_push_size _ rfl
  · have e:b=(s.heap.push { cls:=.type "range",data:=.fields #[.int 0 t,.int (j:Int) u,.int 2 v] }).objs.size:=by simpa using hb
    subst e
    exact I1.fpOk (Nat.le_refl _) (I1.hok.fresh (Nat.le_refl _))
theorem Zkh {tg a b c:Expr} {ta:TA} {p pos:Pos} (hg:Gl X "range") (hm:X.mg "range"=none) (ha:PA X [a,b,c] ta) (hs:starEach [a,b,c] X.env=(false,eval a X.env)::starEach [b,c] X.env:=by rfl) (hs2:(backTo pos (starEach [b,c] X.env)).any (·.1)=false:=by rfl) :
    PI X tg (.Call (.Name "range" p) [a,b,c] [] pos) (ZlD ta):=by
  intro pins s σ H R I h
  refine Call_ (Zdx I hg hm boot_range (PyProof.Rows.callWith_type1 (thn (ha pos pins s σ H _ I h) fun us s1 ⟨vs,H1,I1,r1,q1⟩=>?_) hs hs2))
  obtain ⟨j,e,hj,q⟩:=q1
  subst e
  cases r1 with
  | cons r rr=>
    cases rr with
    | cons r' rr=>
      cases rr with
      | cons r'' rr=>
        cases rr
        obtain ⟨t,rfl⟩:=r
        obtain ⟨t',rfl⟩:=r'
        obtain ⟨t'',rfl⟩:=r''
        exact call_range_3 (by decide) (two_it I1 hj q) (.inl (PyProof.noPylong_small (by omega)))
def twos (n:Nat):List D:=(List.range n).map fun (i:Nat)=>D.int (2*(i:Int))
theorem Zjs (n:Nat):ItV (It2 n) (twos n):=by
  have l:(twos n).length=n:=by simp [twos]
  refine ⟨fun i H h=>by rw [l] at h; exact h,fun i H y H' d hd hy=>?_,fun H=>by show n≤(twos n).length; rw [l]; exact Nat.le_refl _⟩
  obtain ⟨e,rfl⟩:=hy
  refine ⟨e,fun B=>?_⟩
  have hi:i<n:=by
    have:=(List.getElem?_eq_some_iff.mp hd).1
    rw [l] at this
    exact this
  simp only [twos,List.getElem?_map,List.getElem?_range hi,Option.map_some,Option.some.injEq] at hd
  subst hd
  rfl
def ZcA (fs:AM) (src:List Nat) (elt:EM):EM:=fun ρ θ=>(fs ρ θ).bind fun ds θ=>match ds with
  | [.int a,.int j,.int c]=>if a=0∧c=2∧0≤j∧j≤1000 then ZbH (fun y θ=>elt (Z0 src ρ y) θ) (twos ((j.toNat+1)/2)) [] θ else .bad
  | _=>.bad
theorem ZhM {fs:AM} {src:List Nat} {elt:EM} (σ:St) (H:Hp) (Q:VK) (h:tM X (ZcA fs src elt) σ H Q):tLc (ZlD (tMA X fs)) src (tM X elt) σ H Q:=by
  obtain ⟨B,θ,ρ,F,w⟩:=h
  refine zG (Zdj F w) ?_
  rintro vs H1 ⟨B1,θ1,ds,E1,F1,rds,w1⟩
  split at w1
  · rename_i a j c
    obtain ⟨v1,q1,rfl,r1,q1'⟩:=rds
    obtain ⟨v2,q2,rfl,r2,q2'⟩:=q1'
    obtain ⟨v3,q3,rfl,r3,q3'⟩:=q2'
    cases (show q3=[] from q3')
    cases (show v1=V.int a from r1)
    cases (show v2=V.int j from r2)
    cases (show v3=V.int c from r3)
    split at w1
    · rename_i hc
      obtain ⟨rfl,rfl,h0,h1⟩:=hc
      have ej:((j.toNat:Nat):Int)=j:=by omega
      refine ⟨j.toNat,by rw [ej],by omega,ZjS (Zjs _) ?_ F E1 F1.good w1⟩
      simp only [twos,List.length_map,List.length_range,BIG]
      omega
    · exact w1.elim
  · exact w1.elim
theorem Zii {x:Str} {px pos p rpos:Pos} {a b c elt:Expr} {scope:Scope} {N':List Str} {src:List Nat} {sc:Scope} {N:List Str} {fs:AM} {fe:EM} (S:ZG scope sc x N N' src) (hsc:X.env.scope=sc) (hN:X.N=N) (hm:X.mg "range"=none) (ha:MA X [a,b,c] fs)
    (helt:∀(cl:List (Str×Addr)) (C:Addr) (s₀:Shared) (H₀:Hp) (fp:List Addr),ME (X.comp scope N' cl C s₀ H₀ fp) elt fe) (hg:Gl X "range":=by rfl) (hcm:X.calm=true:=by rfl) (hst:starEach [a,b,c] X.env=(false,eval a X.env)::starEach [b,c] X.env:=by rfl) (hs2:(backTo rpos (starEach [b,c] X.env)).any (·.1)=false:=by rfl) (hs:∀v,foldedSetIterable (.Call (.Name "range" p) [a,b,c] [] rpos) X.env v=pure v:=by intro _; rfl) :
    ME X (.ListComp elt [⟨.Name x px,.Call (.Name "range" p) [a,b,c] [] rpos,[],0⟩] scope pos) (ZcA fs src fe):=
  PE.imp (Zh3 (te:=tM X fe) S hsc hN (Zkh hg hm ha hst hs2) (fun cl C s₀ H₀ fp=>helt cl C s₀ H₀ fp) hcm hs) ZhM
end
end
end L2.MM
namespace L2
open PySem PySem.Spec PyProof.Rows
structure zD (scope sc:Scope) (x x':Str) (N N':List Str) (src:List Nat):Prop where
  kind:scope.kind=.function
  cell:∀y∈scope.names,y.2≠.cell
  loc:∀y∈scope.names,y.2=.local→scope.names.lookup y.1=some .local
  own:scope.names.lookup x=some .local
  own2:scope.names.lookup x'=some .local
  free:∀y∈scope.names,y.2=.free→sc.names.lookup y.1=some .cell
  nd:N'.Nodup
  names:N'=x::x'::src.map fun j=>N.getD j x
  all:∀j∈src,j<N.length
  fr:∀j∈src,sc.names.lookup (N.getD j x)=some .cell∧scope.names.lookup (N.getD j x)=some .free
def inner2 (src:List Nat) (σ:St) (x y:Option V):St:=x::y::src.map fun j=>(σ[j]?).join
section
variable {X:Cx} {x x':Str} {tg iter elt tst:Expr} {scope:Scope} {pos:Pos} {N':List Str} {src:List Nat} {wi:TI} {te:TE} {tc:TT} {g:TG}
theorem ZfG {pins:List (Addr×Obj)} {σ:St} {H:Hp} {s s':Shared} {C:Addr} {cl:List (Str×Addr)} {fp:List Addr} (I:Inv X pins σ H s) (S:zD scope X.env.scope x x' X.N N' src)
    (hcl:∀n c,(n,c)∈cl→X.env.cells.lookup n=some c) (hcl2:∀y∈scope.names,y.2=.free→∃c,(y.1,c)∈cl) (hC:s.heap.objs.size≤C) (hfp:∀b∈fp,Zbl X pins H b) (hfl:∀b∈fp,b<s.heap.objs.size)
    (hn:∃m,s'.heap.Ns C m) (hk:∀b o,s.heap.get? b=some o→s'.heap.get? b=some o) (ho:s'.os=s.os) (hg:s'.gens=s.gens) :
    Inv (X.comp scope N' cl C s H fp) [] (inner2 src σ none none) H s':=by
  have cll:∀n c,cl.lookup n=some c→X.env.cells.lookup n=some c:=fun n c e=>hcl n c (PySem.mem_of_lookup e)
  refine ⟨⟨I.ok.mod,S.kind,I.ok.glob,I.ok.blt,hC,fun y z c h1 h2=>I.ok.inj y z c (cll _ _ h1) (cll _ _ h2),fun y hy=>?_,fun y c h=>absurd (show false=true from h) (by decide),I.ok.hd,I.ok.frames,.inl rfl,fun b hb=>⟨Nat.ne_of_lt (Nat.lt_of_lt_of_le (hfl b hb) hC),fun y c e=>(hfp b hb).2.2.2.2.1 y c (cll y c e)⟩,
    I.bs,Nat.le_trans I.ok.bsz I.sz,fun b o e hb=>?_,fun b hb=>?_,I.stack,I.stkFree⟩,ho,?_,Un.kept hk,?_,fun y c e=>?_,I.hok.fresh hC,fun y c e=>I.freeC y c (cll y c e),fun p hp=>absurd (show p∈([]:List (Addr×Obj)) from hp) (by simp),I.hok.kept hk,?_⟩
  · have hy':(relabel scope X.env).names.lookup y=some .cell∨(relabel scope X.env).names.lookup y=some .free:=hy
    have:(y,NameKind.free)∈scope.names:=by
      rcases hy' with h | h
      · exact zt S.cell h (.inl rfl)
      · exact zt S.cell h (.inr rfl)
    obtain ⟨c,hc⟩:=hcl2 _ this rfl
    exact ZaU hc
  · rcases (hfp b hb).2.2.2.1 with z | z
    · exact I.ok.noex b o e z
    · exact absurd (Nat.lt_of_lt_of_le (Heap.lt_size e) (Nat.le_trans I.ok.bsz z)) (Nat.lt_irrefl _)
  · intro hs
    rcases List.mem_cons.mp (I.stkSub b hs) with z | z
    · exact (hfp b hb).2.1 z
    · exact (hfp b hb).2.2.1 z
  · rw [hg]; exact I.bare
  · obtain ⟨m,hm⟩:=hn
    refine ⟨m,hm,fun i y v h1 h2 h3=>?_⟩
    have h1':N'[i]?=some y:=h1
    rw [S.names] at h1'
    cases i with
    | zero=>cases (show (some none:Option (Option V))=some (some v) from h2)
    | succ k=>
     cases k with
     | zero=>cases (show (some none:Option (Option V))=some (some v) from h2)
     | succ k=>
      rw [List.getElem?_cons_succ,List.getElem?_cons_succ,List.getElem?_map] at h1'
      have h2':(src.map fun j=>(σ[j]?).join)[k]?=some (some v):=h2
      rw [List.getElem?_map] at h2'
      cases e:src[k]? with
      | none=>rw [e] at h1'; cases h1'
      | some j=>
        rw [e] at h1' h2'
        have hj:=List.mem_of_getElem? e
        have ey:X.N.getD j x=y:=Option.some.inj h1'
        have ev:(σ[j]?).join=some v:=Option.some.inj h2'
        have eN:X.N[j]?=some y:=by
          have:=S.all j hj
          rw [List.getElem?_eq_getElem this]
          rw [List.getD_eq_getElem?_getD,List.getElem?_eq_getElem this] at ey
          exact congrArg some ey
        have eσ:σ[j]?=some (some v):=by
          cases q:σ[j]? with
          | none=>rw [q] at ev; cases ev
          | some z=>rw [q] at ev; exact congrArg some ev
        obtain ⟨k1,k2⟩:=S.fr j hj
        rw [ey] at k1 k2
        obtain ⟨mo,hmo,hl⟩:=I.loc
        obtain ⟨u,r,l⟩:=hl j y v eN eσ (.inr (.inl k1))
        refine ⟨u,r,?_⟩
        rcases l with ⟨z,_⟩ | ⟨_,c,hc,hcell⟩
        · have z':X.env.scope.names.lookup y=some .local:=z
          rw [k1] at z'; cases z'
        · obtain ⟨c',hc'⟩:=hcl2 _ (PySem.mem_of_lookup k2) rfl
          obtain ⟨d,hd⟩:=ZaU hc'
          have ed:d=c:=by
            have:=cll _ _ hd
            rw [hc] at this
            exact (Option.some.inj this).symm
          subst ed
          obtain ⟨o,e1,e2⟩:=hcell
          refine .inr ⟨?_,d,hd,o,hk _ _ e1,e2⟩
          rcases h3 with z | z | z
          · have z':(relabel scope X.env).names.lookup y=some .local:=z
            rcases ZaN (env:=X.env) k2 with w | w
            · have w':(relabel scope X.env).names.lookup y=some .cell:=w
              rw [w'] at z'; cases z'
            · have w':(relabel scope X.env).names.lookup y=some .free:=w
              rw [w'] at z'; cases z'
          · exact .inl z
          · exact .inr z
  · obtain ⟨v,o,e1,e2⟩:=I.cell y c (cll y c e)
    exact ⟨v,o,hk _ _ e1,e2⟩
  · show (inner2 src σ none none).length=N'.length
    rw [S.names]
    unfold inner2
    rw [List.length_cons,List.length_cons,List.length_cons,List.length_cons,List.length_map,List.length_map]
theorem Zjp {pins:List (Addr×Obj)} {σ:St} {H:Hp} {s:Shared} {cl:List (Str×Addr)} {it:Addr} {fp:List Addr} {tn:Nat→Heap→Prop} {J:It} {n:Nat} {Pv:Nat→List V→Hp→Prop} {RR:Value→Addr→Result→Shared→Prop} {E:Value→Shared→Prop}
    (I:Inv X pins σ H s) (hcm:X.calm=true) (S:zD scope X.env.scope x x' X.N N' src) (hcl:∀n c,(n,c)∈cl→X.env.cells.lookup n=some c) (hcl2:∀y∈scope.names,y.2=.free→∃c,(y.1,c)∈cl)
    (T:Zd0 X.prog X.w X.K tg J fp it tn) (t0:tn 0 s.heap) (hfp:∀b∈fp,Zbl X pins H b)
    (helt:∀(cl:List (Str×Addr)) (C:Addr) (s₀:Shared) (H₀:Hp) (fp:List Addr),PE (X.comp scope N' cl C s₀ H₀ fp) elt te)
    (hgt:∀(cl:List (Str×Addr)) (C:Addr) (s₀:Shared) (H₀:Hp) (fp:List Addr),PG (X.comp scope N' cl C s₀ H₀ fp) tg g)
    (htst:∀(cl:List (Str×Addr)) (C:Addr) (s₀:Shared) (H₀:Hp) (fp:List Addr),PT (X.comp scope N' cl C s₀ H₀ fp) tst tc)
    (hn:n≤sizeLine) (p0:Pv 0 [] H) (turn:∀i ys H xo yo,i<n→Pv i ys H→J.go i H∧∀y H',J.yld i H y H'→g y (inner2 src σ xo yo) H' fun σ2 H0=>∃v1 v2,σ2=inner2 src σ (some v1) (some v2)∧tc σ2 H0 fun b H1=>if b=true then te σ2 H1 fun z H2=>Pv (i+1) (ys++[z]) H2 else Pv (i+1) ys H1) (stop:∀ys H,Pv n ys H→J.stop n H)
    (hR:∀(D C:Addr) (o:Obj) (ys:List V) (H':Hp) (s':Shared),Pv n ys H'→H' D=none→Inv X (pins++[(C,o)]) σ (upd H' D (.lst ys)) s'→(∃m,s'.heap.Ns C m)→Zbl X pins (upd H' D (.lst ys)) C→RR (.ref D) C (.ok .next) s') :
    wpAny (model X.prog X.w) X.A (newList []) (fun acc s₃=>wpAny (model X.prog X.w) X.A (newFunctionEnv scope X.env.globals cl [] X.env.qual none .none (some X.env)) (fun cenv s₄=>
      codeAny (model X.prog X.w) X.A (.compStart (.ListComp elt [⟨tg,iter,[tst],0⟩] scope pos) 0 (.ref it) acc { cenv with scope:=relabel scope X.env }) (RR acc cenv.locals) s₄) E s₃) E s:=by
  refine wpAny_newObj_type (wpAny_newFunctionEnv S.cell (by intro y hy; simp at hy) (fun h₁ hns₁ hsb₁=>?_) S.kind)
  dsimp only at hns₁ hsb₁ ⊢
  generalize hH2:s.heap.push { cls:=.type "list",dict:=none,data:=.seq ([]:List Value).toArray }=H2 at hns₁ hsb₁ ⊢
  have hC:H2.objs.size=s.heap.objs.size+1:=by rw [←hH2,Heap.size_push]
  have hDC:s.heap.objs.size≠H2.objs.size:=by rw [hC]; exact Nat.ne_of_lt (Nat.lt_succ_self _)
  have hCle:s.heap.objs.size≤H2.objs.size:=by rw [hC]; exact Nat.le_succ _
  have below:∀b,b<s.heap.objs.size→b≠H2.objs.size∧b≠s.heap.objs.size:=fun b hb=>⟨by rw [hC]; exact Nat.ne_of_lt (Nat.lt_succ_of_lt hb),Nat.ne_of_lt hb⟩
  have old:∀b o,s.heap.get? b=some o→h₁.get? b=some o:=fun b o e=>hsb₁.extBut b o (below b (Heap.lt_size e)).1 (Heap.get?_push_of_some _ (hH2 ▸ Heap.get?_push_of_some _ e))
  have hacc:h₁.PlainList s.heap.objs.size #[]:=⟨_,hsb₁.extBut _ _ hDC (Heap.get?_push_of_some _ (hH2 ▸ Heap.get?_push_size _ rfl))⟩
  have hfl:∀b∈fp,b<s.heap.objs.size:=fun b hb=>by
    obtain ⟨o,e,_⟩:=T.obj 0 _ t0 b hb
    exact Heap.lt_size e
  have fresh:∀a,s.heap.objs.size≤a→s.heap.get? a=none:=fun a ha=>by
    cases e:s.heap.get? a with
    | none=>rfl
    | some o'=>exact absurd (Heap.lt_size e) (Nat.not_lt.mpr ha)
  generalize eD:s.heap.objs.size=D at hDC hacc hCle below fresh hfl hC ⊢
  generalize eC:H2.objs.size=C at hDC hCle below hC hns₁ hsb₁ ⊢
  have I1:Inv (X.comp scope N' cl C s H fp) [] (inner2 src σ none none) H { s with heap:=h₁,toks:=s.toks+([]:List (Str×Value)).length }:=
    ZfG I S hcl hcl2 (by rw [eD]; exact hCle) hfp (by rw [eD]; exact hfl) ⟨_,hns₁⟩ old rfl rfl
  have stat:∀{H':Hp} {pl:List (Addr×Obj)},(∀p∈pl,p.1=D)→(∀b∈fp,H' b=none)→∀b∈fp,Zbl (X.comp scope N' cl C s H fp) pl H' b:=fun {H' pl} hp hn b hb=>
    ⟨hn b hb,(below b (hfl b hb)).1,fun z=>by
      rcases List.mem_cons.mp (I.stkSub b z) with q | q
      · exact (hfp b hb).2.1 q
      · exact (hfp b hb).2.2.1 q,.inl hb,fun y c e=>(hfp b hb).2.2.2.2.1 y c (hcl y c (PySem.mem_of_lookup e)),fun p hq=>by
      rw [hp p (by rcases List.mem_append.mp hq with z | z; exact absurd (show p∈([]:List (Addr×Obj)) from z) (by simp); exact z)]
      exact Ne.symm (below b (hfl b hb)).2⟩
  have nD:D∉frs X.stack:=fun z=>by
    rcases List.mem_cons.mp (I.stkSub D z) with q | q
    · have:=I.lt; rw [←q,eD] at this; exact Nat.lt_irrefl _ this
    · exact I.nofs (a:=D) (by rw [eD]; exact Nat.le_refl _) q
  have nC:C∉X.fs:=I.nofs (by rw [eD]; exact hCle)
  have cellD:∀y c,cl.lookup y=some c→c<D:=fun y c e=>by
    obtain ⟨v,q⟩:=I.cell y c (hcl y c (PySem.mem_of_lookup e))
    have:=q.lt
    rw [eD] at this
    exact this
  have loop:∀s₃:Shared,s₃={ s with heap:=h₁,toks:=s.toks+([]:List (Str×Value)).length }→
      codeAny (model X.prog X.w) X.A (.compLoop (.ListComp elt [⟨tg,iter,[tst],0⟩] scope pos) 0 (.ref it) (.ref D) (compEnvC scope cl C X.env)) (RR (.ref D) C) s₃:=by
    rintro s₃ rfl
    refine Zck (fun k s'=>∃(i:Nat) (ys:List V) (its:List Value) (H':Hp) (xo yo:Option V),Inv (X.comp scope N' cl C s H fp) [] (inner2 src σ xo yo) H' s'∧tn i s'.heap∧(∀b∈fp,H' b=none)∧s'.heap.PlainList D its.toArray∧Vals ys its∧H' D=none∧
      Pv i ys H'∧ys.length≤i∧i≤n∧k=n+1-i) ?_ (n+1) ⟨0,[],[],H,none,none,I1,T.keep _ _ _ t0 (fun b _ o e=>old b o e),fun b hb=>(hfp b hb).1,hacc,.nil,I.hok.fresh (by rw [eD]; exact Nat.le_refl _),p0,Nat.le_refl _,Nat.zero_le _,rfl⟩
    rintro k s' ⟨i,ys,its,H',xo,yo,I3,t3,f3,l3,v3,d3,p3,e3,le3,rfl⟩
    by_cases hlt:i<n
    · obtain ⟨go,step⟩:=turn i ys H' xo yo hlt p3
      obtain ⟨nn,oD⟩:=id l3
      have I3p:Inv (X.comp scope N' cl C s H fp) [(D,{ cls:=.type "list",data:=.seq its.toArray nn })] (inner2 src σ xo yo) H' s':=
        I3.pins_of fun p hp=>by
          have ep:p=(D,{ cls:=.type "list",data:=.seq its.toArray nn }):=by simpa using hp
          subst ep
          exact ⟨oD,d3,hDC,nD,fun v z=>by cases z⟩
      refine thn (T.item (X.comp scope N' cl C s H fp) rfl rfl rfl hcm i _ s' _ H' _ I3p (stat (by simp) f3) t3 go) fun r s4 ⟨u,hr,h4⟩=>?_
      subst hr
      refine thn h4 fun _ s5 ⟨y,H5,I5,r5,y5,st5,fr5⟩=>?_
      have I5':=I5.pinned (stat (by simp) fr5) (T.obj _ _ st5)
      refine wpAny_mono (hgt cl C s H fp _ s5 _ H5 y u _ I5' r5 (step y _ y5)) (fun _ s6 ⟨σ6,H6,I6,v1,v2,e6,q6⟩=>?_) fun _ _ z=>False.elim z
      subst e6
      refine wpAny_mono (htst cl C s H fp _ s6 _ _ _ I6 q6) (fun b s65 ⟨H65,I65,q65⟩=>?_) fun _ _ z=>False.elim z
      have hys:its.toArray.size≤sizeLine:=by
        have:=v3.length
        rw [List.size_toArray]
        omega
      cases b with
      | true=>
        rw [if_pos rfl] at q65 ⊢
        refine wpAny_mono (helt cl C s H fp _ s65 _ _ _ I65 q65) (fun v s7 ⟨z,H7,I7,r7,q7⟩=>?_) fun _ _ z=>False.elim z
        have o7:=I7.pin (D,{ cls:=.type "list",data:=.seq its.toArray nn }) (by simp)
        refine wpAny_list_append_plain (hsz:=hys) (items:=its.toArray) (s:=s7) ⟨nn,o7.1⟩ fun h8 hl8 hs8=>?_
        refine ⟨n+1-(i+1),by omega,i+1,ys++[z],its++[v],H7,some v1,some v2,?_,?_,?_,?_,v3.append (.cons r7 .nil),o7.2.1,q7,by rw [List.length_append]; exact Nat.succ_le_succ e3,hlt,rfl⟩
        · have I7':Inv (X.comp scope N' cl C s H fp) [] (inner2 src σ (some v1) (some v2)) H7 s7:=I7.pins_of fun p hp=>absurd hp (by simp)
          exact I7'.turned (t':=s7.toks) (it:=D) (fun b o hb e=>(hs8.2 b hb).trans e) o7.2.1 hDC (.inr (by show s.heap.objs.size≤D; rw [eD]; exact Nat.le_refl _)) (fun y c e=>Nat.ne_of_lt (cellD y c e)) fun p hp=>absurd (show p∈([]:List (Addr×Obj)) from hp) (by simp)
        · refine T.keep _ _ _ st5 fun b hb o e=>(hs8.2 b (below b (hfl b hb)).2).trans ?_
          exact (I7.pin (b,o) (List.mem_append_right _ (List.mem_append_right _ (ZT hb e)))).1
        · intro b hb
          obtain ⟨o,e,_⟩:=T.obj _ _ st5 b hb
          exact (I7.pin (b,o) (List.mem_append_right _ (List.mem_append_right _ (ZT hb e)))).2.1
        · have:(its++[v]).toArray=its.toArray.push v:=by simp
          rw [this]; exact hl8
      | false=>
        rw [if_neg (by decide)] at q65 ⊢
        have o7:=I65.pin (D,{ cls:=.type "list",data:=.seq its.toArray nn }) (by simp)
        refine ⟨n+1-(i+1),by omega,i+1,ys,its,H65,some v1,some v2,I65.pins_of fun p hp=>absurd hp (by simp),?_,?_,⟨nn,o7.1⟩,v3,o7.2.1,q65,Nat.le_succ_of_le e3,hlt,rfl⟩
        · refine T.keep _ _ _ st5 fun b hb o e=>?_
          exact (I65.pin (b,o) (List.mem_append_right _ (List.mem_append_right _ (ZT hb e)))).1
        · intro b hb
          obtain ⟨o,e,_⟩:=T.obj _ _ st5 b hb
          exact (I65.pin (b,o) (List.mem_append_right _ (List.mem_append_right _ (ZT hb e)))).2.1
    · have ein:i=n:=by omega
      subst ein
      obtain ⟨nn,oD⟩:=id l3
      have I3p:Inv (X.comp scope N' cl C s H fp) [(D,{ cls:=.type "list",data:=.seq its.toArray nn })] (inner2 src σ xo yo) H' s':=
        I3.pins_of fun p hp=>by
          have ep:p=(D,{ cls:=.type "list",data:=.seq its.toArray nn }):=by simpa using hp
          subst ep
          exact ⟨oD,d3,hDC,nD,fun v z=>by cases z⟩
      refine thn (T.done (X.comp scope N' cl C s H fp) rfl rfl rfl hcm i _ s' _ H' _ I3p (stat (by simp) f3) t3 (stop ys H' p3)) fun r s4 ⟨hr,I4⟩=>?_
      subst hr
      have o4:=I4.pin (D,{ cls:=.type "list",data:=.seq its.toArray nn }) (by simp)
      have newI:Inv X pins σ (upd H' D (.lst ys)) s4:=I.call' (ch:=fp) I4.os (I4.base.lay d3 (fresh D (Nat.le_refl _))) (I4.hok.lay d3 ⟨by omega,its,nn,v3,o4.1⟩) I4.bare (fun b hb=>
        ⟨(hfp b hb).2.2.2.1,(hfp b hb).2.1,(hfp b hb).2.2.2.2.1,(hfp b hb).2.2.2.2.2⟩)
      obtain ⟨m,hm,_⟩:=I4.loc
      obtain ⟨o,es,ep,ho,hd,_⟩:=id hm
      refine hR D C o ys H' s4 p3 d3 (newI.pins_of fun p hp=>?_) ⟨m,hm⟩ (I.fpOk (by rw [eD]; exact hCle) (by rw [Zq (Ne.symm hDC)]; exact I4.free))
      rcases List.mem_append.mp hp with z | z
      · exact newI.pin p (List.mem_append_right _ z)
      · have ep:p=(C,o):=by simpa using z
        subst ep
        refine ⟨ho,by rw [Zq (Ne.symm hDC)]; exact I4.free,fun z=>?_,nC,fun v z=>?_⟩
        · have:=I.lt
          rw [eD,←z] at this
          exact absurd (Nat.lt_of_lt_of_le this hCle) (Nat.lt_irrefl _)
        · have z':o.data=.cell v:=z
          rw [hd] at z'; cases z'
  exact codeAny_compStart_list (loop _ rfl) (T.self _ 0 _ _ _ (T.keep _ _ _ t0 (fun b _ o e=>old b o e)) (loop _ rfl))
end
end L2
namespace L2.MM
open PySem PySem.Spec PyProof.Rows PySem.W PySem.SeqAt
noncomputable section
structure GDict (P:Program) (w:World) (K:PySem.W.Frag) (d:Addr) (o:Obj) (es:Array DictEntry) (ep:Nat) (kvs:List (Str×Value)) (ps:List (Str×Int)):Prop where
  lk:K.lookup d=some o
  ed:o.ExactDict
  da:o.data=.dict es ep
  ks:KeysOf (PySem.strKind P w) es
  pr:Pairs (PySem.strKind P w) es.toList kvs
  nd:(kvs.map (·.1)).Nodup
  len:kvs.length=ps.length
  val:∀(i:Nat) (k:Str) (n:Int),ps[i]?=some (k,n)→∃t:Tok,kvs[i]?=some (k,Value.int n t)
  ne:(d == sysModules)=false
section
variable {P:Program} {w:World} {K:PySem.W.Frag} {d:Addr} {o:Obj} {es:Array DictEntry} {ep:Nat} {kvs:List (Str×Value)} {ps:List (Str×Int)}
theorem GDict.at_ (D:GDict P w K d o es ep kvs ps) {h:Heap} (X:K.In h):h.DictAt (PySem.strKind P w) d kvs ep:=⟨o,es,X d o D.lk,D.ed,D.da,D.ks,D.pr,D.nd⟩
def Iti (ps:List (Str×Int)):It:=
  ⟨fun i _=>i<ps.length,fun i H x H'=>∃p k n,x=.ref p∧H p=none∧ps[i]?=some (k,n)∧H'=upd H p (.tup [.str k,.int n]),fun i _=>ps.length≤i⟩
theorem ZfP {el:List Expr} {x1} {pos:Pos} (D:GDict P w K d o es ep kvs ps) (e:Addr):Zd0 P w K (.Tuple el x1 pos) (Iti ps) [e] e (fun i h=>∃ok ov,IsItemIter h e d i kvs.length ep ok ov):=by
  refine ⟨by simp,fun i h st b hb=>?_,fun i h h' st k=>?_,?_,?_,?_⟩
  · obtain ⟨ok,ov,st1⟩:=st
    have q:b=e:=by simpa using hb
    rw [q]
    refine ⟨_,st1,fun v z=>?_⟩
    have z':Data.fields _=Data.cell v:=z
    cases z'
  · obtain ⟨ok,ov,st1⟩:=st
    exact ⟨ok,ov,k e (by simp) _ st1⟩
  · intro X hP hw hK hc i pins s σ H E I hf st hg
    subst hP hw hK
    obtain ⟨ok,ov,st1⟩:=st
    have hg':i<ps.length:=hg
    obtain ⟨k,n,hkn⟩:∃k n,ps[i]?=some (k,n):=⟨ps[i].1,ps[i].2,List.getElem?_eq_getElem hg'⟩
    obtain ⟨t,hv⟩:=D.val i k n hkn
    obtain ⟨f0,f1,f2,f3,f4,f5⟩:=hf e (by simp)
    refine wpAny_pyNext_items_item st1 (D.at_ I.kIn) hv fun key h' hkey out tp' sz' kk=>?_
    obtain ⟨t',rfl⟩:=Value.isStrOf_shape hkey
    have hes:e<s.heap.objs.size:=Heap.lt_size st1
    refine ⟨_,rfl,wpAny_letOwnedTupleGo_items out fun h2 e2 s2=>?_⟩
    replace s2:Heap.SameBut e h' h2:=s2
    have tp2:h2.get? s.heap.objs.size=some { cls:=.type "tuple",data:=.seq #[.str k t',.int n t] }:=s2.extBut _ _ (Nat.ne_of_gt hes) tp'
    have k2:∀b o,b≠e→s.heap.get? b=some o→h2.get? b=some o:=fun b o q1 q3=>s2.extBut b o q1 (kk b o q1 q3)
    have hn:H s.heap.objs.size=none:=I.hok.fresh (Nat.le_refl _)
    have nn:∀{b:Addr} {o:HO},H b=some o→b≠s.heap.objs.size:=fun q=>ZE q hn
    have nch:∀{b:Addr},b∉[e]→b≠e:=fun hb z=>hb (by simp [z])
    have new:ObjOk X.prog X.w (upd H s.heap.objs.size (.tup [.str k,.int n])) h2 s.heap.objs.size (.tup [.str k,.int n]):=⟨by show 2≤sizeLine; decide,[.str k t',.int n t],.cons ⟨_,rfl⟩ (.cons ⟨_,rfl⟩ .nil),⟨_,tp2,rfl,_,rfl⟩⟩
    have I1:Inv X pins σ (upd H s.heap.objs.size (.tup [.str k,.int n])) { s with heap:=h2,toks:=s.toks }:=by
      refine I.step (g':=s.gens) (d':=s.drawn) (ch:=[e]) (fun b hb=>?_) (fun b o _ _ hc e' _=>k2 b o (nch hc) e') (fun b o _ _ hc e' _=>⟨o.slots,k2 b o (nch hc) e'⟩) (fun b o _ e' n=>by rw [Zq (Nat.ne_of_lt (Heap.lt_size e'))]; exact n)
        (fun b o hc e'=>⟨o,k2 b o (nch hc) e'⟩) (fun b _ q=>by rw [Zq (nn q)]; exact q) (fun b _ _ q=>by rw [Zq (nn q)]; exact q) (fun b ps q=>⟨#[],by rw [Zq (nn q),q]; simp⟩) (fun m hm=>?_) (fun b v q=>?_) I.bare
      · have z:b=e:=by simpa using hb
        rw [z]
        exact ⟨f3,f1,f4,f5⟩
      · obtain ⟨o,es,ep,ho,r⟩:=hm
        exact ⟨o,es,ep,k2 _ o (Ne.symm f1) ho,r⟩
      · by_cases hb:b=s.heap.objs.size
        · subst hb; rw [ZX] at q; cases q; exact new
        · rw [Zq hb] at q
          refine (I.hok b v q).stay (fun c o hc z=>k2 c o ?_ z) (fun c z=>by rw [Zq (nn z)]; exact z) fun c _ z=>by rw [Zq (nn z)]; exact z
          rcases hc with z | z
          · rw [z]; exact fun y=>by rw [y,f0] at q; cases q
          · exact fun y=>by rw [y,f0] at z; cases z
    refine ⟨.ref s.heap.objs.size,_,I1,rfl,⟨_,k,n,rfl,hn,hkn,rfl⟩,⟨_,_,e2⟩,fun b hb=>?_⟩
    have z:b=e:=by simpa using hb
    rw [z,Zq (Nat.ne_of_lt hes)]
    exact f0
  · intro X hP hw hK hc i pins s σ H E I hf st hg
    subst hP hw hK
    obtain ⟨ok,ov,st1⟩:=st
    have hg':ps.length≤i:=hg
    obtain ⟨f0,f1,f2,f3,f4,f5⟩:=hf e (by simp)
    exact wpAny_pyNext_items_end (I.ok.hd hc) st1 (D.at_ I.kIn) (by rw [List.getElem?_eq_none_iff,D.len]; exact hg') fun h' eb=>⟨rfl,I.turned (t':=s.toks) (fun b o hb e=>eb b o hb e) f0 f1 f3 f4 f5⟩
  · intro A i s Q E st h
    obtain ⟨ok,ov,st1⟩:=st
    exact kcp_self st1 h
end
end
end L2.MM
namespace L2
open PySem PySem.Spec PyProof.Rows
section
variable {X:Cx} {x x':Str} {tg iter elt tst:Expr} {scope:Scope} {pos:Pos} {N':List Str} {src:List Nat} {wi:TI} {te:TE} {tc:TT} {g:TG}
def Zk7 (wi:TI) (src:List Nat) (g:TG) (tc:TT) (te:TE):TE:=fun σ H Q=>wi σ H fun J H1=>∃(n:Nat) (Pv:Nat→List V→Hp→Prop),n≤sizeLine∧Pv 0 [] H1∧
  (∀i ys H xo yo,i<n→Pv i ys H→J.go i H∧∀y H',J.yld i H y H'→g y (inner2 src σ xo yo) H' fun σ2 H0=>∃v1 v2,σ2=inner2 src σ (some v1) (some v2)∧tc σ2 H0 fun b H1=>if b=true then te σ2 H1 fun z H2=>Pv (i+1) (ys++[z]) H2 else Pv (i+1) ys H1)∧
  ∀ys H,Pv n ys H→J.stop n H∧∀p,H p=none→Q (.ref p) (upd H p (.lst ys))
theorem Zke {sc:Scope} {N:List Str} {i:Nat} {y:Str} {py spos:Pos} (hnd:X.N.Nodup) (hi':X.N[i]?=some y) (S:zD scope sc x x' N N' src) (hsc:X.env.scope=sc) (hN:X.N=N) (hi:PI X tg iter wi)
    (helt:∀(cl:List (Str×Addr)) (C:Addr) (s₀:Shared) (H₀:Hp) (fp:List Addr),PE (X.comp scope N' cl C s₀ H₀ fp) elt te) (hgt:∀(cl:List (Str×Addr)) (C:Addr) (s₀:Shared) (H₀:Hp) (fp:List Addr),PG (X.comp scope N' cl C s₀ H₀ fp) tg g) (htst:∀(cl:List (Str×Addr)) (C:Addr) (s₀:Shared) (H₀:Hp) (fp:List Addr),PT (X.comp scope N' cl C s₀ H₀ fp) tst tc) (hsw:swapsWith (.ListComp elt [⟨tg,iter,[tst],0⟩] scope pos) (some (.Name y py)) spos.line X.env=pure true:=by rfl)
    (hy:X.env.scope.names.lookup y=some .local:=by rfl) (hcm:X.calm=true:=by rfl) (hs:∀v,foldedSetIterable iter X.env v=pure v:=by intro _; rfl) :
    PS X (.Assign [.Name y py] (.ListComp elt [⟨tg,iter,[tst],0⟩] scope pos) spos) (ZhO (Zk7 wi src g tc te) (ZbG i)):=by
  subst hsc hN
  intro pins s σ H Dn I h
  obtain ⟨cl,hclos,hcl,hcl2⟩:=zZ (scope:=scope) (env:=X.env) fun y hy hf=>I.ok.has y.1 (.inl (S.free y hy hf))
  rw [exec_Assign_Name_used _ _ _ _ hsw]
  refine wpAny_bind (wpAny_standAt (wpAny_bind ?_))
  show wpAny _ X.A (do let _ ←comprehension (.ListComp elt [⟨tg,iter,[tst],0⟩] scope pos) scope X.env _ (newList []) false (eval iter X.env) (some (assign (.Name y py) X.env))) _ _ s
  refine wpAny_bind (wpAny_mono (wpAny_comprehension_free (use:=some (assign (.Name y py) X.env)) (Q:=fun _ s'=>SP X pins Dn .next s') rfl hs hclos S.kind S.loc ?_) (fun _ s' hq=>wpAny_pure (wpAny_pure hq)) fun _ _ e=>e)
  refine thn (hi pins s σ H _ I h) fun v s1 h1=>thn h1 fun itv s2 h2=>?_
  obtain ⟨it,fp,tn,J,H2,e,I2,T,st2,f2,n,Pv,hn,p0,turn,done⟩:=h2
  subst e
  refine Zjp I2 hcm S hcl hcl2 T st2 f2 helt hgt htst hn p0 turn (fun ys H p=>(done ys H p).1) fun D C o ys H' s' p d J' hm ho=>?_
  show wpAny _ X.A (assign (.Name y py) X.env (.ref D)) _ _ _
  obtain ⟨m,hm⟩:=hm
  have hg:PG X (.Name y py) (ZbG i):=ZaO hnd hi' (.inl hy) (.inr hy)
  refine thn (hg _ s' σ _ (.ref D) (.ref D) (fun σ2 H3=>σ2=σ.set i (some (.ref D))∧H3=upd H' D (.lst ys)) J' rfl ⟨rfl,rfl⟩) fun _ s6 ⟨σ6,H6,I6,e6,e7⟩=>?_
  subst e6 e7
  have pc:=I6.pin (C,o) (by simp)
  have pc':=J'.pin (C,o) (by simp)
  refine ⟨m,hm.at fun q e=>?_,fun h' hs'=>?_⟩
  · rw [pc'.1] at e; cases e; exact pc.1
  have J2:Inv X pins (σ.set i (some (.ref D))) (upd H' D (.lst ys)) s6:=I6.pins_of fun q hq=>I6.pin q (List.mem_append_right _ (List.mem_append_left _ hq))
  obtain ⟨f0,f1,f2,f3,f4,f5⟩:=ho
  exact ⟨_,_,J2.turned (t':=s6.toks) (it:=C) (fun b o hb e=>(hs'.2 b hb).trans e) f0 f1 f3 f4 f5,(done ys H' p).2 D d⟩
end
end L2
namespace L2.MM
open PySem PySem.Spec PyProof.Rows PySem.W PySem.SeqAt
noncomputable section
section
variable {X:Cx}
def Ziv (ps:List (Str×Int)):TI:=fun _ H R=>R (Iti ps) H
theorem ZhX {d:Addr} {o:Obj} {es:Array DictEntry} {ep:Nat} {kvs:List (Str×Value)} {ps:List (Str×Int)} {el:List Expr} {x1} {gn:Str} {tp np apos pos:Pos} (D:GDict X.prog X.w X.K d o es ep kvs ps) (hm:X.mg gn=some (.ref d)) (hg:Gl X gn:=by rfl) (hdb:(gn == ("__debug__":Str))=false:=by decide)
    (hbase:attributeBase (.Name gn np) "items" X.env (eval (.Name gn np) X.env)=eval (.Name gn np) X.env:=by rfl) (hline:(apos.endLine == pos.line)=true:=by rfl):PI X (.Tuple el x1 tp) (.Call (.Attribute (.Name gn np) "items" apos) [] [] pos) (Ziv ps):=by
  intro pins s σ H R I h
  refine wpAny_Call_items D.ne (D.at_ I.kIn).dictOf hbase hline (fun Q' q=>Zbr I hg hm q hdb) ?_
  have I1:Inv X pins σ H { s with heap:=s.heap.push { cls:=.type "dict_items",data:=.fields #[.ref d] } }:=I.kept (t':=s.toks) fun b o e=>Heap.get?_push_of_some _ e
  refine wpAny_pyIter_items ⟨_,Heap.get?_push_size _ rfl,rfl,rfl⟩ (D.at_ I1.kIn) ?_
  refine ⟨_,[_],_,_,H,rfl,I1.kept (t':=s.toks) fun b o e=>Heap.get?_push_of_some _ e,ZfP D _,⟨.none,.none,Heap.get?_push_size _ rfl⟩,fun b hb=>?_,h⟩
  rw [List.mem_singleton] at hb
  rw [hb]
  exact I1.fpOk (Nat.le_refl _) (I1.hok.fresh (Nat.le_refl _))
def zy (src:List Nat) (ρ:List Sl) (x y:D):List Sl:=.val x::.val y::src.map fun j=>match ρ[j]? with
  | some (Sl.val d)=>Sl.val d
  | _=>Sl.no
theorem Frm.inner2 {B:Bx} {θ:Sto} {ρ:List Sl} {σ:St} {H:Hp} (F:Frm X.cl B θ ρ σ H) (src:List Nat) {x y:D} {v u:V} (r:RepV B H x v) (r':RepV B H y u):Frm X.cl B θ (zy src ρ x y) (L2.inner2 src σ (some v) (some u)) H:=by
  have key:∀(i:Nat) (s:Sl),(zy src ρ x y)[i]?=some s→s=.no∨∃d,s=.val d∧∃v',(L2.inner2 src σ (some v) (some u))[i]?=some (some v')∧RepV B H d v':=fun i s e=>by
    rcases i with _ | _ | i
    · simp [zy] at e; subst e; exact .inr ⟨x,rfl,v,by simp [L2.inner2],r⟩
    · simp [zy] at e; subst e; exact .inr ⟨y,rfl,u,by simp [L2.inner2],r'⟩
    · simp only [zy,List.getElem?_cons_succ,List.getElem?_map] at e
      simp only [L2.inner2,List.getElem?_cons_succ,List.getElem?_map]
      cases q:src[i]? with
      | none=>rw [q] at e; cases e
      | some j=>
        rw [q] at e
        simp only [Option.map_some,Option.some.injEq] at e
        split at e
        · rename_i d ed
          subst e
          obtain ⟨v',h1,h2⟩:=F.val j d ed
          exact .inr ⟨d,rfl,v',by simp [h1],h2⟩
        · exact .inl e.symm
  refine ⟨F.good,by simp [zy,L2.inner2],fun i d e=>?_,fun i xs e=>?_,fun i j xs ys a _ e _=>?_⟩
  · rcases key i _ e with z | ⟨d',z,v',h1,h2⟩
    · cases z
    · cases z; exact ⟨v',h1,h2⟩
  · rcases key i _ e with z | ⟨d',z,_⟩<;>cases z
  · rcases key i _ e with z | ⟨d',z,_⟩<;>cases z
def ZaY (tst:D→D→Sto→R Bool) (elt:D→D→Sto→R D):List (Str×Int)→List D→Sto→R D
  | [],acc,θ=>if acc.length≤BIG then .ok (.lst acc) θ else .bad
  | (k,n)::r,acc,θ=>(tst (.str k) (.int n) θ).bind fun b θ=>if b=true then (elt (.str k) (.int n) θ).bind fun y θ=>ZaY tst elt r (acc++[y]) θ else ZaY tst elt r acc θ
def ZbT (ps:List (Str×Int)) (src:List Nat) (tst:TMr) (elt:EM):EM:=fun ρ θ=>if ps.length≤BIG then ZaY (fun x y θ=>tst (zy src ρ x y) θ) (fun x y θ=>elt (zy src ρ x y) θ) ps [] θ else .bad
abbrev gPr (K:PySem.W.Frag):TG:=ZlF K 2 (ZiA (ZbG 0) (ZiA (ZbG 1) ZlH))
theorem ZhK {ps:List (Str×Int)} {src:List Nat} {tst:TMr} {elt:EM} (σ:St) (H:Hp) (Q:VK) (h:tM X (ZbT ps src tst elt) σ H Q):Zk7 (Ziv ps) src (gPr X.K) (tMT X tst) (tM X elt) σ H Q:=by
  obtain ⟨B,θ,ρ,F,w⟩:=h
  unfold ZbT at w
  split at w
  · rename_i hz
    refine ⟨ps.length,fun i ys H'=>∃B' θ' acc,ExtE B B' H H'∧Good X.cl B' θ' H'∧RepL B' H' acc ys∧wpR X σ RepV B' H' (ZaY (fun x y θ=>tst (zy src ρ x y) θ) (fun x y θ=>elt (zy src ρ x y) θ) (ps.drop i) acc θ') Q,Zy hz,⟨B,θ,[],ExtE.refl _ _,F.good,rfl,w⟩,?_,?_⟩
    · rintro i ys H' xo yo hi ⟨B2,θ2,acc,E2,G2,racc,w2⟩
      rw [List.drop_eq_getElem_cons hi] at w2
      refine ⟨hi,fun y H3 hy=>?_⟩
      obtain ⟨p,k,n,rfl,hp,hkn,rfl⟩:=hy
      rw [List.getElem?_eq_getElem hi] at hkn
      have ek:ps[i]=(k,n):=Option.some.inj hkn
      rw [ek] at w2
      unfold ZaY at w2
      have E3:=Zaj G2 hp (.tup [.str k,.int n])
      have G3:=Zci G2 hp (.tup [.str k,.int n])
      refine ⟨p,[.str k,.int n],rfl,SqT.of ZX,rfl,.str k,[.int n],rfl,.int n,[],rfl,rfl,.str k,.int n,rfl,?_⟩
      have F3:=(F.ext (E2.trans E3) G3).inner2 src (x:=.str k) (y:=.int n) (v:=.str k) (u:=.int n) rfl rfl
      have w3:=wpR.trans w2 E3
      refine ⟨B2,θ2,_,F3,(wpR.bind (Rel:=EqB) w3).mono ?_⟩
      rintro b H4 ⟨B4,θ4,d,E4,G4,rd,w4⟩
      cases (show d=b from rd)
      cases b with
      | true=>
        rw [if_pos rfl] at w4 ⊢
        have F4:=F3.ext E4 G4
        refine ⟨B4,θ4,_,F4,(wpR.bind (Rel:=RepV) w4).mono ?_⟩
        rintro z H5 ⟨B5,θ5,d5,E5,G5,rd5,w5⟩
        exact ⟨B5,θ5,acc++[d5],((E2.trans E3).trans E4).trans E5,G5,(racc.ext ((E3.trans E4).trans E5).toExtS).app ⟨z,[],rfl,rd5,rfl⟩,w5⟩
      | false=>
        rw [if_neg (by decide)] at w4 ⊢
        exact ⟨B4,θ4,acc,(E2.trans E3).trans E4,G4,racc.ext (E3.trans E4).toExtS,w4⟩
    · rintro ys H' ⟨B2,θ2,acc,E2,G2,racc,w2⟩
      rw [List.drop_length] at w2
      unfold ZaY at w2
      split at w2
      · exact ⟨Nat.le_refl _,ZaL G2 racc w2⟩
      · exact w2.elim
  · exact w.elim
theorem Zha (i:Nat) {x x' y gn:Str} {pa pb py pos spos tp np apos ipos:Pos} {x1} {elt tst:Expr} {scope:Scope} {N':List Str} {src:List Nat} {sc:Scope} {N:List Str} {ft:TMr} {fe:EM} {d:Addr} {o:Obj} {es:Array DictEntry} {ep:Nat} {kvs:List (Str×Value)} {ps:List (Str×Int)}
    (hnd:X.N.Nodup) (S:zD scope sc x x' N N' src) (hsc:X.env.scope=sc) (hN:X.N=N) (D:GDict X.prog X.w X.K d o es ep kvs ps) (hm:X.mg gn=some (.ref d))
    (helt:∀(cl:List (Str×Addr)) (C:Addr) (s₀:Shared) (H₀:Hp) (fp:List Addr),MT (X.comp scope N' cl C s₀ H₀ fp) tst ft∧ME (X.comp scope N' cl C s₀ H₀ fp) elt fe)
    (hgt:∀(cl:List (Str×Addr)) (C:Addr) (s₀:Shared) (H₀:Hp) (fp:List Addr),PG (X.comp scope N' cl C s₀ H₀ fp) (.Tuple [.Name x pa,.Name x' pb] x1 tp) (gPr X.K))
    (hi':X.N[i]?=some y:=by rfl) (hg:Gl X gn:=by rfl) (hdb:(gn == ("__debug__":Str))=false:=by decide)
    (hsw:swapsWith (.ListComp elt [⟨.Tuple [.Name x pa,.Name x' pb] x1 tp,.Call (.Attribute (.Name gn np) "items" apos) [] [] ipos,[tst],0⟩] scope pos) (some (.Name y py)) spos.line X.env=pure true:=by rfl)
    (hy:X.env.scope.names.lookup y=some .local:=by rfl) (hcm:X.calm=true:=by rfl) (hs:∀v,foldedSetIterable (.Call (.Attribute (.Name gn np) "items" apos) [] [] ipos) X.env v=pure v:=by intro _; rfl)
    (hbase:attributeBase (.Name gn np) "items" X.env (eval (.Name gn np) X.env)=eval (.Name gn np) X.env:=by rfl) (hline:(apos.endLine == ipos.line)=true:=by rfl) :
    MS X (.Assign [.Name y py] (.ListComp elt [⟨.Tuple [.Name x pa,.Name x' pb] x1 tp,.Call (.Attribute (.Name gn np) "items" apos) [] [] ipos,[tst],0⟩] scope pos) spos) (Zx i (ZbT ps src ft fe)):=
  PS.imp (Zke (te:=tM X fe) (tc:=tMT X ft) (g:=gPr X.K) hnd hi' S hsc hN (ZhX D hm hg hdb hbase hline) (fun cl C s₀ H₀ fp=>(helt cl C s₀ H₀ fp).2) hgt (fun cl C s₀ H₀ fp=>(helt cl C s₀ H₀ fp).1) hsw hy hcm hs) fun Dn σ H h=>by
  obtain ⟨B,θ,ρ,F,w⟩:=h
  refine ZhK σ H _ (ZB (Zb3 F w) ?_)
  rintro v H1 ⟨B1,θ1,d,E1,F1,rd,w1⟩
  exact w1 B1 H1 _ (ExtS.refl _ _) (F1.set i rd)
def GDs (P:Program) (w:World) (K:PySem.W.Frag) (mg:Str→Option Value) (gn:Str) (ps:List (Str×Int)):Prop:=∃d o es ep kvs,mg gn=some (.ref d)∧GDict P w K d o es ep kvs ps
theorem Zg9 (i:Nat) {x x' y gn:Str} {pa pb py pos spos tp np apos ipos:Pos} {x1} {elt tst:Expr} {scope:Scope} {N':List Str} {src:List Nat} {sc:Scope} {N:List Str} {ft:TMr} {fe:EM} {ps:List (Str×Int)}
    (hnd:X.N.Nodup) (S:zD scope sc x x' N N' src) (hsc:X.env.scope=sc) (hN:X.N=N) (D:GDs X.prog X.w X.K X.mg gn ps)
    (helt:∀(cl:List (Str×Addr)) (C:Addr) (s₀:Shared) (H₀:Hp) (fp:List Addr),MT (X.comp scope N' cl C s₀ H₀ fp) tst ft∧ME (X.comp scope N' cl C s₀ H₀ fp) elt fe)
    (hi':X.N[i]?=some y:=by rfl) (hg:Gl X gn:=by rfl) (hdb:(gn == ("__debug__":Str))=false:=by decide)
    (hsw:swapsWith (.ListComp elt [⟨.Tuple [.Name x pa,.Name x' pb] x1 tp,.Call (.Attribute (.Name gn np) "items" apos) [] [] ipos,[tst],0⟩] scope pos) (some (.Name y py)) spos.line X.env=pure true:=by rfl)
    (hy:X.env.scope.names.lookup y=some .local:=by rfl) (hcm:X.calm=true:=by rfl) (hs:∀v,foldedSetIterable (.Call (.Attribute (.Name gn np) "items" apos) [] [] ipos) X.env v=pure v:=by intro _; rfl)
    (hbase:attributeBase (.Name gn np) "items" X.env (eval (.Name gn np) X.env)=eval (.Name gn np) X.env:=by rfl) (hline:(apos.endLine == ipos.line)=true:=by rfl) :
    MS X (.Assign [.Name y py] (.ListComp elt [⟨.Tuple [.Name x pa,.Name x' pb] x1 tp,.Call (.Attribute (.Name gn np) "items" apos) [] [] ipos,[tst],0⟩] scope pos) spos) (Zx i (ZbT ps src ft fe)):=by
  obtain ⟨d,o,es,ep,kvs,hm,D⟩:=D
  refine Zha i hnd S hsc hN D hm helt (fun cl C s₀ H₀ fp=>?_) hi' hg hdb hsw hy hcm hs hbase hline
  exact Zkj hcm (Zfh (ZaO S.nd (by show N'[0]?=some x; rw [S.names]; rfl) (.inl (lookup_relabel_local S.own)) (.inr (lookup_relabel_local S.own))) (Zfh (ZaO S.nd (by show N'[1]?=some x'; rw [S.names]; rfl) (.inl (lookup_relabel_local S.own2)) (.inr (lookup_relabel_local S.own2))) Zjb rfl) rfl) rfl rfl
theorem ZkI {P:Program} {w:World} {K:PySem.W.Frag} {h:Heap} {mg:Str→Option Value} {gn:Str} {DD:Addr} {es:Array DictEntry} {ep:Nat} {k1 k2 k3 k4 k5:Str} {n1 n2 n3 n4 n5:Int} {t1 t2 t3 t4 t5 u1 u2 u3 u4 u5:Tok} (X:K.In h) (G:h.Ns mainGlobals mg)
    (a:nsIn K mainGlobals gn=some (some (.ref DD))) (l:K.lookup DD=some ⟨.type "dict",none,.dict es ep,#[]⟩) (e:es=#[⟨PyData.keyHash w.params k1,.str k1 t1,.int n1 u1⟩,⟨PyData.keyHash w.params k2,.str k2 t2,.int n2 u2⟩,⟨PyData.keyHash w.params k3,.str k3 t3,.int n3 u3⟩,⟨PyData.keyHash w.params k4,.str k4 t4,.int n4 u4⟩,⟨PyData.keyHash w.params k5,.str k5 t5,.int n5 u5⟩])
    (nd:[k1,k2,k3,k4,k5].Nodup) (ne:(DD == sysModules)=false):GDs P w K mg gn [(k1,n1),(k2,n2),(k3,n3),(k4,n4),(k5,n5)]:=by
  have iso:∀k t,(PySem.strKind P w).is k (.str k t)=true:=fun k t=>by simp [PySem.strKind,Value.isStrOf]
  have hh:∀k,PyData.keyHash w.params k=(PySem.strKind P w).hash k:=fun k=>rfl
  refine ⟨DD,_,es,ep,[(k1,.int n1 u1),(k2,.int n2 u2),(k3,.int n3 u3),(k4,.int n4 u4),(k5,.int n5 u5)],mg_of X G a,l,?_,rfl,?_,?_,nd,rfl,?_,ne⟩
  · exact ⟨rfl,rfl,rfl⟩
  · rw [e]
    intro y hy
    simp at hy
    rcases hy with rfl | rfl | rfl | rfl | rfl
    · exact ⟨k1,iso _ _,hh _⟩
    · exact ⟨k2,iso _ _,hh _⟩
    · exact ⟨k3,iso _ _,hh _⟩
    · exact ⟨k4,iso _ _,hh _⟩
    · exact ⟨k5,iso _ _,hh _⟩
  · rw [e]
    exact .cons (iso _ _) rfl (.cons (iso _ _) rfl (.cons (iso _ _) rfl (.cons (iso _ _) rfl (.cons (iso _ _) rfl .nil))))
  · intro i k n hi
    rcases i with _ | _ | _ | _ | _ | i
    all_goals first
      | (simp at hi; done)
      | (have z:=Option.some.inj hi; cases z; exact ⟨_,rfl⟩)
end
end
end L2.MM
namespace My
open PySem L2 L2.MM
noncomputable section
def ZS (c:Nat):Nat→List Nat→List Nat
  | _,[]=>[]
  | k,x::r=>if x=c then k::ZS c (k+1) r else ZS c (k+1) r
theorem Zdn (c:Nat):∀(l:List Nat) (k m:Nat),ZS c (k+m) l=(ZS c k l).map (·+m)
  | [],k,m=>rfl
  | x::r,k,m=>by
    have ih:=Zdn c r (k+1) m
    have e:k+m+1=k+1+m:=by omega
    unfold ZS
    rw [e,ih]
    split<;>simp
theorem Zct {c:Nat}:∀{l:List Nat} {k:Nat},c∉l→ZS c k l=[]
  | [],_,_=>rfl
  | x::r,k,h=>by
    unfold ZS
    rw [if_neg (fun e=>h (by simp [e]))]
    exact Zct fun z=>h (List.mem_cons_of_mem _ z)
theorem Zdm (c:Nat):∀(l m:List Nat) (k:Nat),ZS c k (l++m)=ZS c k l++ZS c (k+l.length) m
  | [],m,k=>by simp [ZS]
  | x::r,m,k=>by
    have ih:=Zdm c r m (k+1)
    have e:k+1+r.length=k+(x::r).length:=by simp; omega
    rw [e] at ih
    simp only [List.cons_append,ZS]
    rw [ih]
    split<;>simp
theorem Zer (s:Str) (c i:Nat):Builtin.Str.subAt s ⟨#[c]⟩ i=decide (s.cps.toList[i]?=some c):=by
  rw [StrLaws.subAt_eq]
  have l1:(⟨#[c]⟩:Str).length=1:=rfl
  rw [l1]
  show ((List.drop i s.cps.toList).take 1 == [c])=_
  rw [Bool.eq_iff_iff,beq_iff_eq,decide_eq_true_iff]
  cases e:s.cps.toList.drop i with
  | nil=>
    have:s.cps.toList[i]?=none:=by rw [List.getElem?_eq_none_iff]; exact List.drop_eq_nil_iff.mp e
    simp [this]
  | cons a r=>
    have:s.cps.toList[i]?=some a:=by
      have:=congrArg List.head? e
      rw [List.head?_drop] at this
      simpa using this
    simp [this]
theorem Zdp (s:Str) (c:Nat) (lim:Nat):∀(r:List Nat) (k free:Nat) (found:Array Nat),s.cps.toList.drop k=r→free≤k→found.size+r.length<lim→
    (forIn (List.range' k (r.length+1)) (found,free) (StrLaws.occBody s ⟨#[c]⟩ s.length lim)).run.fst.toList=found.toList++ZS c k r
  | [],k,free,found,e,hf,hl=>by
    have z:s.cps.toList[k]?=none:=by rw [List.getElem?_eq_none_iff]; exact List.drop_eq_nil_iff.mp e
    have b:Builtin.Str.subAt s ⟨#[c]⟩ k=false:=by rw [Zer,z]; simp
    simp [List.range'_succ,StrLaws.occBody,b,ZS]
  | x::r,k,free,found,e,hf,hl=>by
    have hk:s.cps.toList[k]?=some x:=by
      have:=congrArg List.head? e
      rw [List.head?_drop] at this
      simpa using this
    have hd:s.cps.toList.drop (k+1)=r:=by
      rw [←List.drop_drop,e]
      rfl
    have hlen:k+1≤s.length:=by
      have:=(List.getElem?_eq_some_iff.mp hk).1
      have e2:s.length=s.cps.toList.length:=by simp [Str.length]
      omega
    have l1:(⟨#[c]⟩:Str).length=1:=rfl
    rw [show (x::r).length+1=(r.length+1)+1 from rfl,List.range'_succ,List.forIn_cons]
    by_cases q:x=c
    · have b:Builtin.Str.subAt s ⟨#[c]⟩ k=true:=by rw [Zer,hk,q]; simp
      have ih:=Zdp s c lim r (k+1) (k+1) (found.push k) hd (Nat.le_refl _) (by simp at hl ⊢; omega)
      have cnd:(((found,free).fst.size<lim∧(found,free).snd≤k)∧k+(⟨#[c]⟩:Str).length≤s.length)∧Builtin.Str.subAt s ⟨#[c]⟩ k=true:=⟨⟨⟨by show found.size<lim; omega,hf⟩,by rw [l1]; exact hlen⟩,b⟩
      have eb:StrLaws.occBody s ⟨#[c]⟩ s.length lim k (found,free)=pure (ForInStep.yield (found.push k,k+1)):=by
        unfold StrLaws.occBody
        rw [if_pos cnd,l1]
      rw [eb]
      simp only [pure_bind]
      rw [ih]
      simp [ZS,q]
    · have b:Builtin.Str.subAt s ⟨#[c]⟩ k=false:=by rw [Zer,hk]; simp [q]
      have ih:=Zdp s c lim r (k+1) free found hd (by omega) (by simp at hl ⊢; omega)
      have eb:StrLaws.occBody s ⟨#[c]⟩ s.length lim k (found,free)=pure (ForInStep.yield (found,free)):=by
        unfold StrLaws.occBody
        rw [if_neg (fun z=>by rw [b] at z; exact absurd z.2 (by decide))]
      rw [eb]
      simp only [pure_bind]
      rw [ih]
      simp [ZS,q]
theorem ZbO (s:Str) (c:Nat):Builtin.Str.occurrences s ⟨#[c]⟩ 0 s.length (s.length+1)=ZS c 0 s.cps.toList:=by
  rw [StrLaws.occ_eq]
  have e:s.length+1-0=s.cps.toList.length+1:=by simp [Str.length]
  rw [e]
  have:=Zdp s c (s.length+1) s.cps.toList 0 0 #[] rfl (Nat.le_refl _) (by simp [Str.length])
  simpa using this
theorem ZaM {a b:Str} (h:a.cps.toList=b.cps.toList):a=b:=by
  cases a
  cases b
  congr 1
  exact Array.toList_inj.mp h
theorem Zb2 (s:Str) (i j:Nat):(Builtin.Str.strSub s i j).cps.toList=(s.cps.toList.drop i).take (j-i):=StrLaws.strSub_toList s i j
theorem zL (s:Str):s.length=s.cps.toList.length:=by simp [Str.length]
theorem Zd1 (f:Nat→Nat→Str) (g:Nat→Nat→Str) (m:Nat) (h:∀i j,f (i+m) (j+m)=g i j):∀(as bs:List Nat),((as.map (·+m)).zip (bs.map (·+m))).map (fun p=>f p.1 p.2)=(as.zip bs).map fun p=>g p.1 p.2
  | [],bs=>by simp
  | a::as,[]=>by simp
  | a::as,b::bs=>by
    simp only [List.map_cons,List.zip_cons_cons,h]
    congr 1
    exact Zd1 f g m h as bs
theorem Zcu (s:Str):Builtin.Str.partsBetween s [] 1=[s]:=by
  unfold Builtin.Str.partsBetween
  simp only [List.map_nil,List.nil_append,List.zip_cons_cons,List.zip_nil_left,List.map_cons,List.cons.injEq,and_true]
  refine ZaM ?_
  rw [Zb2,zL,List.drop_zero,Nat.sub_zero,List.take_length]
theorem ZfZ {s s':Str} {w x:List Nat} (h:s.cps.toList=w++32::x) (h':s'.cps.toList=x) (hw:32∉w):Builtin.Str.partsBetween s (ZS 32 0 s.cps.toList) 1=⟨w.toArray⟩::Builtin.Str.partsBetween s' (ZS 32 0 s'.cps.toList) 1:=by
  have p:ZS 32 0 s.cps.toList=w.length::(ZS 32 0 x).map (·+(w.length+1)):=by
    rw [h,Zdm,Zct hw,List.nil_append,Nat.zero_add]
    show (if (32:Nat)=32 then w.length::ZS 32 (w.length+1) x else _)=_
    rw [if_pos rfl]
    have:=Zdn 32 x 0 (w.length+1)
    rw [Nat.zero_add] at this
    rw [this]
  have ls:s.length=s'.length+(w.length+1):=by
    rw [zL,zL,h,h']
    simp
    omega
  rw [p,h']
  unfold Builtin.Str.partsBetween
  simp only [List.map_cons,List.cons_append,List.zip_cons_cons,List.map_map]
  congr 1
  · refine ZaM ?_
    rw [Zb2,h]
    simp
  · have key:∀i j,Builtin.Str.strSub s (i+(w.length+1)) (j+(w.length+1))=Builtin.Str.strSub s' i j:=by
      intro i j
      refine ZaM ?_
      rw [Zb2,Zb2,h,h']
      have e1:j+(w.length+1)-(i+(w.length+1))=j-i:=by omega
      have e2:i+(w.length+1)=w.length+(1+i):=by omega
      rw [e1,e2,←List.drop_drop,List.drop_left,←List.drop_drop]
      rfl
    have z:=Zd1 (Builtin.Str.strSub s) (Builtin.Str.strSub s') (w.length+1) key (0::(ZS 32 0 x).map (·+1)) (ZS 32 0 x++[s'.length])
    simp only [List.map_cons,List.map_append,List.map_map,List.map_nil] at z
    rw [ls,←z]
    congr 2
    · congr 1
      · omega
      · congr 1
        funext y
        simp only [Function.comp]
        omega
theorem Zcl:Str.ofString " "=⟨#[32]⟩:=by decide
theorem Zir (s:Str):1≤Builtin.Str.strKind s:=by
  unfold Builtin.Str.strKind
  split
  · exact Nat.le_refl _
  · split<;>omega
theorem Zag (s:Str):Txt.split s (Str.ofString " ")=Builtin.Str.partsBetween s (ZS 32 0 s.cps.toList) 1:=by
  have k1:Builtin.Str.strKind (⟨#[32]⟩:Str)=1:=by simp [Builtin.Str.strKind]
  have l1:(⟨#[32]⟩:Str).length=1:=rfl
  unfold Txt.split
  rw [Zcl,ZbO,l1,k1]
  have kp:=Zir s
  by_cases c:s.length<1
  · have e:s.cps.toList=[]:=by
      have:=zL s
      exact List.length_eq_zero_iff.mp (by omega)
    rw [if_pos (by simp [c]),e]
    exact (Zcu s).symm
  · rw [if_neg (by simp; omega)]
    split
    · rename_i h
      rw [List.isEmpty_iff.mp h,Zcu]
    · rfl
theorem ZbL:∀(ws:List Str),ws≠[]→(∀a∈ws,32∉a.cps.toList)→Txt.split (Str.join (Str.ofString " ") ws) (Str.ofString " ")=ws
  | [],h,_=>absurd rfl h
  | [a],_,h=>by
    show Txt.split a _=[a]
    rw [Zag,Zct (h a (by simp)),Zcu]
  | a::b::r,_,h=>by
    have ih:=ZbL (b::r) (by simp) fun y hy=>h y (List.mem_cons_of_mem _ hy)
    have e:(Str.join (Str.ofString " ") (a::b::r)).cps.toList=a.cps.toList++32::(Str.join (Str.ofString " ") (b::r)).cps.toList:=by
      show (a++Str.ofString " "++Str.join (Str.ofString " ") (b::r)).cps.toList=_
      rw [Zcl]
      show ((a.cps++#[32])++(Str.join ⟨#[32]⟩ (b::r)).cps).toList=_
      simp
    rw [Zag] at ih ⊢
    rw [ZfZ e rfl (h a (by simp)),ih]
end
end My
namespace L2.MM
open PySem PySem.Spec PyProof.Rows PySem.W PySem.Calls
section
variable {P:Program} {w:World} {base:Heap} {l:List Env} {H H':Hp} {s h h':Heap} {x T C:Addr} {fl fl':Value}
theorem FlyS.moveL {a0:Value} {l':List Env} (F:FlyS P w base l H s x T C fl H' h) (hl:∀b∈frs l,b∈frs l'∨s.get? b=none) (k1:(hid h l x T).StaysIn h') (k2:h'.FunFrames (hid h l x T) l') (k3:h'.TracedAtW (hid h l x T) x (.ref C) a0 fl') (k4:h.UpToSlots h') (hsub:∀b∈frs l',b∈frs l) (ku:∀b∈frs l,s.get? b=none∨b∈frs l' ) (hh:∀b∈frs l,H' b=none) :
    ∃T',FlyS P w base l' H s x T' C fl' H' h':=by
  have hb:=Zfy F.fly
  have nf:=F.fly.nfr
  obtain ⟨oe,vs,T',oT,ts,h1,⟨h2,h3⟩,h4,h5,h6,h7,h8,h9,h10⟩:=k3
  have inB:∀b o,h.get? b=some o→b∉frs l→b≠x→b≠T→h'.get? b=some o:=fun b o e n1 n2 n3=>k1 b o (hideAll_get _ e (by simp [n1,n2,n3]))
  have nT':T'∉frs l':=fun z=>by
    obtain ⟨_,o,ho,hn⟩:=k2.mem z
    rw [h8] at ho; cases ho
    exact hn ts h9
  have frk:∀b o,b∈frs l→h.get? b=some o→∃sl,h'.get? b=some { o with slots:=sl }:=fun b o z e=>by
    obtain ⟨_,o',ho',hn⟩:=F.fly.fun_.mem z
    rw [e] at ho'; cases ho'
    exact k4 b o e hn
  have gone:T'=T∨h.get? T'=none∨(T'∈frs l):=by
    by_cases z:T'=T
    · exact .inl z
    · by_cases y:T'∈frs l
      · exact .inr (.inr y)
      · right; left
        cases e:h.get? T' with
        | none=>rfl
        | some o=>
          have:=hideAll_get (frs l++[x,T]) e (by simp [z,y,h7])
          rw [this] at h6; cases h6
  have nfl:T'∉frs l:=fun z=>by
    obtain ⟨_,o,ho,hn⟩:=F.fly.fun_.mem z
    obtain ⟨sl,q⟩:=frk T' o z ho
    rw [h8] at q; cases q
    exact hn ts h9
  refine ⟨T',⟨⟨fun b o e n hb' _=>?_,fun b o e n hb' _=>?_,fun b o e n _=>F.un.free b o e n (by simp),fun b o e _=>?_,F.un.tups,F.un.frzs,F.un.tbls⟩,?_,F.nx,?_,F.ux,?_,⟨F.fly.bx,?_,fun b o e=>k1 b o (hb b o e),funFrames_base hb k2,oe,vs,oT,ts,a0,h1,h2,h3,h4,h5,h7,h8,h9,h10⟩⟩⟩
  · have nb:b∉frs l:=fun z=>(hl b z).elim hb' (fun y=>by rw [e] at y; cases y)
    exact inB b o (F.un.keep b o e n nb (by simp)) nb (fun z=>by rw [z,F.nx] at e; cases e) (fun z=>by rw [z,F.nT] at e; cases e)
  · obtain ⟨sl,q⟩:=F.un.slot b o e n (hsub b hb') (by simp)
    obtain ⟨sl2,q2⟩:=frk b _ (hsub b hb') q
    exact ⟨sl2,q2⟩
  · obtain ⟨o',q⟩:=F.un.there b o e (by simp)
    by_cases z:b∈frs l
    · obtain ⟨sl,q2⟩:=frk b o' z q
      exact ⟨_,q2⟩
    · exact ⟨o',inB b o' q z (fun z=>by rw [z,F.nx] at e; cases e) (fun z=>by rw [z,F.nT] at e; cases e)⟩
  · refine Zbb F.hok fun b u o e q=>inB b u q (fun z=>by rw [hh b z] at e; cases e) (fun z=>by rw [z,F.ux] at e; cases e) (fun z=>by rw [z,F.uT] at e; cases e)
  · rcases gone with z | z | z
    · rw [z]; exact F.nT
    · cases e:s.get? T' with
      | none=>rfl
      | some o=>obtain ⟨o',q⟩:=F.un.there T' o e (by simp); rw [z] at q; cases q
    · exact absurd z nfl
  · rcases gone with z | z | z
    · rw [z]; exact F.uT
    · cases e:H' T' with
      | none=>rfl
      | some o=>obtain ⟨u,q⟩:=obj_there (F.hok T' o e); rw [z] at q; cases q
    · exact absurd z nfl
  · cases e:base.get? T' with
    | none=>rfl
    | some o=>have:=hb T' o e; rw [this] at h6; cases h6
end
section
variable {P:Program} {w:World} {K:PySem.W.Frag} {mg:Str→Option Value} {base:Heap} {N:List Str} {qual:Str} {scope:Scope} {f C:Addr} {cd:Value} {A:Around} {outer:List Env} {s:Shared} {H:Hp} {E:XK}
theorem Zb4:ZdT (CX1 P w base C) (Zbd (CX1 P w base C) P w K mg base N qual scope f cd A outer s H E) E:=by
  intro pins σ H1 s1 e s' I q
  obtain ⟨x,T,H',rfl,ho,hb,F,hE⟩:=q
  obtain ⟨X,hX⟩:∃X,X=Zbd (CX1 P w base C) P w K mg base N qual scope f cd A outer s H E:=⟨_,rfl⟩
  rw [←hX] at I F
  have F':FlyS X.prog X.w X.base X.stack H1 s1.heap x T C .none H' s'.heap:=by
    rw [hX] at F ⊢
    exact F
  have J:Inv X pins σ H' s':=FlyS.inv I ho hb F'
  have ef:X.fs=frs outer:=by rw [hX]; rfl
  have e0:X.s₀=s:=by rw [hX]; rfl
  have eH:X.H₀=H:=by rw [hX]; rfl
  have eX:X.ex=[]:=by rw [hX]; rfl
  have es:X.stack=envOfC qual scope s.heap.objs.size f cd::outer:=by rw [hX]; rfl
  have u:Un (frs outer) [] H H' s.heap s'.heap:=by
    have:=J.base
    rw [ef,eX,e0,eH] at this
    exact this
  have u1:Un (frs outer) [] H H1 s.heap s1.heap:=by
    have:=I.base
    rw [ef,eX,e0,eH] at this
    exact this
  have hfr:(A.deeper (envOfC qual scope s.heap.objs.size f cd)).frames=some (envOfC qual scope s.heap.objs.size f cd::outer):=by
    have:=I.ok.frames
    rw [es] at this
    rw [hX] at this
    exact this
  have fl:frs (envOfC qual scope s.heap.objs.size f cd::outer)=s.heap.objs.size::frs outer:=rfl
  have nL:s.heap.get? s.heap.objs.size=none:=by
    cases q:s.heap.get? s.heap.objs.size with
    | none=>rfl
    | some o=>exact absurd (Heap.lt_size q) (Nat.lt_irrefl _)
  have gone:∀a,s1.heap.get? a=none→s.heap.get? a=none:=fun a z=>by
    cases q:s.heap.get? a with
    | none=>rfl
    | some o=>
      obtain ⟨o',y⟩:=u1.there a o q (by simp)
      rw [z] at y; cases y
  have F1:FlyS P w base (envOfC qual scope s.heap.objs.size f cd::outer) H s.heap x T C .none H' s'.heap:=by
    rw [hX] at F'
    refine ⟨⟨fun b o q n hb' hx=>u.keep b o q n (fun z=>hb' (by rw [fl]; exact List.mem_cons_of_mem _ z)) hx,fun b o q n hb' hx=>?_,u.free,u.there,u.tups,u.frzs,u.tbls⟩,F'.hok,gone x F'.nx,gone T F'.nT,F'.ux,F'.uT,F'.fly⟩
    rw [fl] at hb'
    rcases List.mem_cons.mp hb' with z | z
    · rw [z,nL] at q; cases q
    · exact u.slot b o q n z hx
  obtain ⟨a0,k1,k2,k3,k4⟩:=Zda F1.fly
  show wpAny (model P w) (A.deeper (envOfC qual scope s.heap.objs.size f cd)) (leaving (envOfC qual scope s.heap.objs.size f cd) (.ref x)) (fun _ s''=>CX1 P w base C outer H s E (.ref x) s'') _ s'
  refine wpAny_leaves_onW (base:=hid s'.heap (envOfC qual scope s.heap.objs.size f cd::outer) x T) hfr rfl ⟨k1,k2,k3,k4⟩ fun h' hh hu=>?_
  obtain ⟨g1,g2,g3,g4⟩:=hh
  obtain ⟨T',F2⟩:=F1.moveL (l':=outer) (fun b hb'=>by
      rw [fl] at hb'
      rcases List.mem_cons.mp hb' with z | z
      · exact .inr (by rw [z]; exact nL)
      · exact .inl z) g1 g3 g4 hu (fun b hb'=>by rw [fl]; exact List.mem_cons_of_mem _ hb') (fun b hb'=>by
      rw [fl] at hb'
      rcases List.mem_cons.mp hb' with z | z
      · exact .inl (by rw [z]; exact nL)
      · exact .inr z) (fun b hb'=>by
      have:=J.stkFree b
      rw [es] at this
      exact this hb')
  refine ⟨x,T',H',rfl,?_,hb,F2,hE⟩
  have:=J.os
  rw [e0] at this
  exact this
end
end L2.MM
namespace L2.MM
open PySem PySem.Spec PyProof.Rows PySem.W PySem.Calls PySem.SeqAt
noncomputable section
section
variable {X:Cx} {C:Addr} {E:XK}
def noX {α:Type}:R α→R α
  | .ex _ _=>.bad
  | r=>r
def wpRX (X:Cx) (C:Addr) (E:XK) {α β:Type} (Rel:Bx→Hp→α→β→Prop) (B:Bx) (H:Hp) (r:R α) (Q:β→Hp→Prop):Prop:=match r with
  | .ok a θ'=>∀B' H' b,ExtE B B' H H'→Good X.cl B' θ' H'→Rel B' H' a b→Q b H'
  | .ex _ θ'=>∀B' H',ExtE B B' H H'→Good X.cl B' θ' H'→E (.ref C) none H'
  | .bad=>False
theorem wpRX.trans {α β:Type} {Rel:Bx→Hp→α→β→Prop} {B B':Bx} {H H':Hp} {r:R α} {Q:β→Hp→Prop} (h:wpRX X C E Rel B H r Q) (e:ExtE B B' H H'):wpRX X C E Rel B' H' r Q:=by
  cases r with
  | ok a θ=>exact fun B2 H2 b e2 g q=>h B2 H2 b (e.trans e2) g q
  | ex c θ=>exact fun B2 H2 e2 g=>h B2 H2 (e.trans e2) g
  | bad=>exact h
theorem wpRX.bind {α β γ δ:Type} {Rel:Bx→Hp→α→β→Prop} {Rel':Bx→Hp→γ→δ→Prop} {B:Bx} {H:Hp} {r:R α} {k:α→Sto→R γ} {Q:δ→Hp→Prop} (h:wpRX X C E Rel' B H (r.bind k) Q) :
    wpRX X C E Rel B H r (fun b H1=>∃B1 θ1 a,ExtE B B1 H H1∧Good X.cl B1 θ1 H1∧Rel B1 H1 a b∧wpRX X C E Rel' B1 H1 (k a θ1) Q):=by
  cases r with
  | ok a θ=>exact fun B1 H1 b e g q=>⟨B1,θ,a,e,g,q,wpRX.trans h e⟩
  | ex c θ=>exact h
  | bad=>exact h
theorem wpRX.mono {α β:Type} {Rel:Bx→Hp→α→β→Prop} {B:Bx} {H:Hp} {r:R α} {Q Q':β→Hp→Prop} (h:wpRX X C E Rel B H r Q) (hQ:∀b H',Q b H'→Q' b H'):wpRX X C E Rel B H r Q':=by
  cases r with
  | ok a θ=>exact fun B' H' b e g q=>hQ _ _ (h B' H' b e g q)
  | ex c θ=>exact h
  | bad=>exact h
def tX (X:Cx) (C:Addr) (E:XK) (f:EM):TE:=fun σ H Q=>∃B θ ρ,Frm X.cl B θ ρ σ H∧wpRX X C E RepV B H (f ρ θ) Q
def tXA (X:Cx) (C:Addr) (E:XK) (f:AM):TA:=fun σ H Q=>∃B θ ρ,Frm X.cl B θ ρ σ H∧wpRX X C E RepL B H (f ρ θ) Q
def MEX (X:Cx) (C:Addr) (E:XK) (e:Expr) (f:EM):Prop:=PE X e (tX X C E f)
def MAX (X:Cx) (C:Addr) (E:XK) (es:List Expr) (f:AM):Prop:=PA X es (tXA X C E f)
def mN (f:EM):EM:=fun ρ θ=>noX (f ρ θ)
theorem ZkS {es:List Expr} {t:TA} (h:PA X.nox es t):PA X es t:=fun pos pins s σ H Q I hw=>
  wpAny_mono (h pos pins s σ H Q (I.wish _) hw) (fun _ _ ⟨v,H',I',r,q⟩=>⟨v,H',I'.unwish,r,q⟩) fun _ _ z=>False.elim z
theorem ZkR {st:Stmt} {t:TS} (h:PS X.nox st t):PS X st t:=fun pins s σ H D I hw=>
  wpAny_mono (h pins s σ H D (I.wish _) hw) (fun _ _ q=>q.unwish) fun _ _ z=>False.elim z
theorem ZeE {α β:Type} {Rel:Bx→Hp→α→β→Prop} {σ:St} {B:Bx} {H:Hp} {r:R α} {Q:β→Hp→Prop} (h:wpRX X C E Rel B H (noX r) Q):wpR X.nox σ Rel B H r Q:=by
  cases r with
  | ok a θ=>exact h
  | ex c θ=>exact h.elim
  | bad=>exact h
theorem Zkw {e:Expr} {f:EM} (h:ME X.nox e f):MEX X C E e (mN f):=PE.imp (PE.nox h) fun σ H Q q=>by
  obtain ⟨B,θ,ρ,F,w⟩:=q
  exact ⟨B,θ,ρ,F,ZeE w⟩
theorem Zgz:MAX X C E [] Zg:=by
  intro pos pins s σ H Q I q
  obtain ⟨B,θ,ρ,F,w⟩:=q
  exact zl pos pins s σ H Q I (w B H [] (ExtE.refl _ _) F.good rfl)
theorem Zca {e:Expr} {es:List Expr} {f:EM} {fs:AM} (he:MEX X C E e f) (hs:MAX X C E es fs) (hst:starEach (e::es) X.env=(false,eval e X.env)::starEach es X.env:=by rfl):MAX X C E (e::es) (Zb f fs):=by
  intro pos pins s σ H Q I q
  refine Z3 he hs hst pos pins s σ H Q I ?_
  obtain ⟨B,θ,ρ,F,w⟩:=q
  refine ⟨B,θ,ρ,F,(wpRX.bind (Rel:=RepV) w).mono ?_⟩
  rintro v H1 ⟨B1,θ1,d,E1,G1,rd,w1⟩
  refine ⟨B1,θ1,ρ,F.ext E1 G1,(wpRX.bind (Rel:=RepL) w1).mono ?_⟩
  rintro vs H2 ⟨B2,θ2,ds,E2,G2,rds,w2⟩
  exact w2 B2 H2 (v::vs) (ExtE.refl _ _) G2 ⟨v,vs,rfl,rd.ext E2.toExtS,rds⟩
theorem Zgy {es:List Expr} {fs:AM} {x1} {pos:Pos} (h:MAX X C E es fs):MEX X C E (.Tuple es x1 pos) (zX fs):=by
  refine PE.imp (ZhY h) fun σ H Q q=>?_
  obtain ⟨B,θ,ρ,F,w⟩:=q
  refine ⟨B,θ,ρ,F,(wpRX.bind (Rel:=RepL) w).mono ?_⟩
  rintro vs H2 ⟨B2,θ2,xs,E2,G2,rxs,w2⟩
  split at w2
  · rename_i hz
    refine ⟨by rw [rxs.len]; exact Zy hz,fun p hp=>?_⟩
    have w3:wpR X.nox σ RepV B2 H2 (.ok (.tup xs) θ2) Q:=w2
    exact Zco (σ:=σ) G2 rxs w3 p hp
  · exact w2.elim
def Zcd (f:GM) (fs:AM):EM:=fun ρ θ=>(noX (fs ρ θ)).bind fun ds θ=>f ds θ
theorem zw {k j:Nat} {x:Str} {f:GM} {p pos:Pos} {e:Expr} {es:List Expr} {fs:AM} (hp:ZdT (CX1 X.prog X.w X.base C) X E) (D0:ZaK X.prog X.w X.K X.mg X.base k C x f) (hr:Room j X.A) (hj:k≤j) (ha:MA X.nox (e::es) fs) (hg:Gl X x:=by rfl) (hdb:(x == ("__debug__":Str))=false:=by decide)
    (he:starEach (e::es) X.env=(false,eval e X.env)::starEach es X.env:=by rfl) (hpl:(backTo pos (starEach es X.env)).any (·.1)=false:=by rfl):MEX X C E (.Call (.Name x p) (e::es) [] pos) (Zcd f fs):=by
  obtain ⟨ps,fa,fd,FO,hb,hk,hm⟩:=D0
  refine PE.imp (Zgs FO (hr.mono hj) hg hm hk hb .nil hp (ZkS ha) hdb he hpl) fun σ H Q q=>?_
  obtain ⟨B,θ,ρ,F,w⟩:=q
  refine ⟨B,θ,ρ,F,?_⟩
  have w':=wpRX.bind (Rel:=RepL) w
  refine (ZeE (σ:=σ) w').mono ?_
  rintro vs H1 ⟨B1,θ1,ds,E1,G1,rd,w1⟩
  rw [List.append_nil]
  refine ⟨B1.inC,θ1,ds,rfl,ZdD G1,RepL.same (B:=B1) (B':=B1.inC) rfl rfl rfl (fun a=>inC_ok.mpr) rd,?_⟩
  cases ef:f ds θ1 with
  | bad=>rw [ef] at w1; exact w1
  | ok d θ2=>
    rw [ef] at w1
    intro B' H' v E' G' rv
    obtain ⟨y1,y2,y3⟩:=Zfj G1 E' G'
    exact w1 _ H' v y1 y2 (y3 d v rv)
  | ex c θ2=>
    rw [ef] at w1
    intro B' H' E' G'
    obtain ⟨y1,y2,y3⟩:=Zfj G1 E' G'
    exact w1 _ H' y1 y2
def Zik (t:TMr) (a b:EM):EM:=fun ρ θ=>(noX (t ρ θ)).bind fun k θ=>if k=true then a ρ θ else b ρ θ
theorem Zjn {c a b:Expr} {t:TMr} {fa fb:EM} {pos:Pos} (ht:MT X.nox c t) (ha:MEX X C E a fa) (hb:MEX X C E b fb):MEX X C E (.IfExp c a b pos) (Zik t fa fb):=by
  refine PE.imp (Zfi (PT.nox ht) ha hb) fun σ H Q q=>?_
  obtain ⟨B,θ,ρ,F,w⟩:=q
  refine ⟨B,θ,ρ,F,(ZeE (σ:=σ) (wpRX.bind (Rel:=EqB) w)).mono ?_⟩
  rintro k H1 ⟨B1,θ1,k',E1,G1,rk,w1⟩
  cases (show k'=k from rk)
  cases k with
  | true=>exact ⟨B1,θ1,ρ,F.ext E1 G1,w1⟩
  | false=>exact ⟨B1,θ1,ρ,F.ext E1 G1,w1⟩
def wpSX (X:Cx) (C:Addr) (E:XK) (B:Bx) (H:Hp) (r:R (Fl×List Sl)) (Dn:Ends):Prop:=match r with
  | .ok (fl,ρ') θ'=>∀B' H' σ',ExtS B B' H H'→Frm X.cl B' θ' ρ' σ' H'→ZgI Dn B' σ' H' fl
  | .ex _ θ'=>∀B' H',ExtS B B' H H'→Good X.cl B' θ' H'→E (.ref C) none H'
  | .bad=>False
def tXS (X:Cx) (C:Addr) (E:XK) (f:SM):TS:=fun Dn σ H=>∃B θ ρ,Frm X.cl B θ ρ σ H∧wpSX X C E B H (f ρ θ) Dn
def MSX (X:Cx) (C:Addr) (E:XK) (st:Stmt) (f:SM):Prop:=PS X st (tXS X C E f)
def ZjE (X:Cx) (C:Addr) (E:XK) (sts:List Stmt) (f:SM):Prop:=PSs X sts (tXS X C E f)
def mNS (f:SM):SM:=fun ρ θ=>noX (f ρ θ)
theorem Zji {σ:St} {B:Bx} {H:Hp} {r:R (Fl×List Sl)} {Dn:Ends} (h:wpSX X C E B H (noX r) Dn):wpS X.nox σ B H r Dn:=by
  cases r with
  | ok a θ=>exact h
  | ex c θ=>exact h.elim
  | bad=>exact h
theorem ZbQ {st:Stmt} {f:SM} (h:MS X.nox st f):MSX X C E st (mNS f):=PS.imp (ZkR h) fun D σ H q=>by
  obtain ⟨B,θ,ρ,F,w⟩:=q
  exact ⟨B,θ,ρ,F,Zji w⟩
def ZeN (c:Str):SM:=fun _ θ=>.ex c θ
theorem Zg7 (cn:Str) {st:Stmt} (pr:PS X st (fun _ _ H1=>E (.ref C) none H1)):MSX X C E st (ZeN cn):=PS.imp pr fun D σ H q=>by
  obtain ⟨B,θ,ρ,F,w⟩:=q
  exact w B H (ExtS.refl _ _) F.good
def Zar (c:Str) (t:TMr):SM:=fun ρ θ=>(noX (t ρ θ)).bind fun k θ=>if k=true then .ex c θ else .ok (.nx,ρ) θ
theorem wpSX.trans {B B':Bx} {H H':Hp} {r:R (Fl×List Sl)} {Dn:Ends} (e:ExtS B B' H H') (h:wpSX X C E B H r Dn):wpSX X C E B' H' r Dn:=by
  cases r with
  | ok a θ=>exact fun B2 H2 σ2 e2 g=>h B2 H2 σ2 (e.trans e2) g
  | ex c θ=>exact fun B2 H2 e2 g=>h B2 H2 (e.trans e2) g
  | bad=>exact h
theorem wpSX.bind {α β:Type} {Rel:Bx→Hp→α→β→Prop} {B:Bx} {H:Hp} {r:R α} {k:α→Sto→R (Fl×List Sl)} {Dn:Ends} (h:wpSX X C E B H (r.bind k) Dn) :
    wpRX X C E Rel B H r (fun b H1=>∃B1 θ1 a,ExtE B B1 H H1∧Good X.cl B1 θ1 H1∧Rel B1 H1 a b∧wpSX X C E B1 H1 (k a θ1) Dn):=by
  cases r with
  | ok a θ=>exact fun B1 H1 b e g q=>⟨B1,θ,a,e,g,q,wpSX.trans e.toExtS h⟩
  | ex c θ=>exact fun B1 H1 e g=>h B1 H1 e.toExtS g
  | bad=>exact h
theorem Zaz (cn:Str) {c:Expr} {st:Stmt} {t:TMr} {pos:Pos} (ht:MT X.nox c t) (pr:PS X st (fun _ _ H1=>E (.ref C) none H1)):MSX X C E (.If c [st] [] pos) (Zar cn t):=by
  refine PS.imp (ZjP (PT.nox ht) (Zc4 pr) Zgp) fun D σ H q=>?_
  obtain ⟨B,θ,ρ,F,w⟩:=q
  refine ⟨B,θ,ρ,F,(ZeE (σ:=σ) (wpSX.bind (Rel:=EqB) w)).mono ?_⟩
  rintro k H1 ⟨B1,θ1,k',E1,G1,rk,w1⟩
  cases (show k'=k from rk)
  have F1:=F.ext E1 G1
  cases k with
  | true=>exact w1 B1 H1 (ExtS.refl _ _) G1
  | false=>exact w1 B1 H1 σ (ExtS.refl _ _) F1
def ZaD (i:Nat) (f:EM):SM:=fun ρ θ=>(f ρ θ).bind fun d θ=>.ok (.nx,ρ.set i (.val d)) θ
theorem ZaP (i:Nat) {x:Str} {e:Expr} {f:EM} {pos pos':Pos} (hN:X.N.Nodup) (he:MEX X C E e f) (hi:X.N[i]?=some x:=by rfl) (hx:Loc X.env.scope x:=by first | exact Or.inl rfl | exact Or.inr rfl)
    (hs:swapsWith e (some (.Name x pos')) pos.line X.env=pure false:=by rfl) (hf:X.fn x=true∨X.env.scope.names.lookup x=some .local:=by first | exact .inl rfl | exact .inr rfl):MSX X C E (.Assign [.Name x pos'] e pos) (ZaD i f):=by
  refine PS.imp (Zey hN hi hx he hs hf) fun D σ H q=>?_
  obtain ⟨B,θ,ρ,F,w⟩:=q
  refine ⟨B,θ,ρ,F,(wpSX.bind (Rel:=RepV) w).mono ?_⟩
  rintro v H1 ⟨B1,θ1,d,E1,G1,rd,w1⟩
  exact w1 B1 H1 _ (ExtS.refl _ _) ((F.ext E1 G1).set i rd)
theorem Za7 {st:Stmt} {f:SM} (h:MSX X C E st f):ZjE X C E [st] f:=Zc4 h
theorem wpSX.seq {B:Bx} {H:Hp} {r:R (Fl×List Sl)} {g:SM} {D:Ends} (h:wpSX X C E B H (Zdh r g) D):wpSX X C E B H r { D with nx:=tXS X C E g D }:=by
  cases r with
  | bad=>exact h
  | ex c θ=>exact h
  | ok p θ=>
    obtain ⟨fl,ρ'⟩:=p
    intro B' H' σ' e F
    cases fl with
    | nx=>exact ⟨B',θ,ρ',F,wpSX.trans e h⟩
    | rt d=>exact h B' H' σ' e F
    | bk=>exact h B' H' σ' e F
    | ct=>exact h B' H' σ' e F
theorem ZN {st:Stmt} {rest:List Stmt} {f g:SM} (h1:MSX X C E st f) (h2:ZjE X C E rest g):ZjE X C E (st::rest) (Zv f g):=PSs.imp (Zfg h1 h2) fun D σ H h=>by
  obtain ⟨B,θ,ρ,F,w⟩:=h
  exact ⟨B,θ,ρ,F,wpSX.seq w⟩
end
def Za2 (np nn:Nat) (fb:SM):GM:=fun ds θ=>if ds.length=np then (match fb (Z1 nn ds) θ with
    | .ok (.nx,_) θ=>.ok .non θ
    | .ok (.rt d,_) θ=>.ok d θ
    | .ex c θ=>.ex c θ
    | _=>.bad) else .bad
theorem Zfo {P:Program} {w:World} {K:PySem.W.Frag} {mg:Str→Option Value} {base:Heap} {x qual:Str} {st:Stmt} {N ps:List Str} {k:Nat} {fb:SM} {f C:Addr} {fd:FuncData}
    (F:Fun K x qual st f fd) (S:ZP N ps (Zi st)) (np nn:Nat) (hp:ps.length=np) (hn:N.length=nn)
    (hbody:∀(cdv:Value) (A:Around) (outer:List Env) (s:Shared) (H:Hp) (E:XK),Room k (A.deeper (envOfC qual (Zi st) s.heap.objs.size f cdv))→ZjE (Zbd (CX1 P w base C) P w K mg base N qual (Zi st) f cdv A outer s H E) C E (ZH st) fb) :
    FnOk P w K mg base (CX1 P w base C) (k+1) f fd ps (spX ⟨ZdK mg,K⟩ C (Za2 np nn fb)):=by
  obtain ⟨oc,od,kV,doc,pm,an,cdv,ct,osl,rfl,lk,hcd⟩:=F.ex
  refine ZjX lk hcd S ?_ fun A outer s H vs Q E hr hsp=>?_
  · rintro vs H Q E ⟨B,θ,ds,_,_,r,q⟩
    unfold Za2 at q
    by_cases hl:ds.length=np
    · rw [r.len,hl,hp]
    · rw [if_neg hl] at q; exact q.elim
  · obtain ⟨B,θ,ds,hos,G,r,q⟩:=hsp
    refine ⟨_,hbody cdv A outer s H E hr,B,θ,Z1 nn ds,Zea G r hn,?_⟩
    unfold Za2 at q
    by_cases hl:ds.length=np
    · rw [if_pos hl] at q
      have hos':∀a,a∈B.os→False:=fun a ha=>by rw [hos] at ha; cases ha
      have cv:∀{B':Bx} {H':Hp} {θ':Sto},ExtS B B' H H'→Good ⟨ZdK mg,K⟩ B' θ' H'→ExtE B { B' with os:=[] } H H'∧ExtS B' { B' with os:=[] } H' H'∧Good ⟨ZdK mg,K⟩ { B' with os:=[] } θ' H':=fun {B' H' θ'} E0 G0=>by
        have E3:ExtS B' { B' with os:=[] } H' H':=⟨Nat.le_refl _,fun _ _=>rfl,fun i h h'=>absurd h' (Nat.not_lt.mpr h),fun _ _ e _ _=>e,fun _ e=>e,fun b hb=>(nomatch hb),rfl,rfl⟩
        exact ⟨⟨⟨E0.n,E0.m,E0.fr,E0.keep,E0.sm,fun a ha=>(nomatch ha),E0.F,E0.ks⟩,hos.symm,fun a o ha=>(hos' a ha).elim⟩,E3,⟨G0.len,G0.inj,fun j c e=>(G0.cel j c e).ext E3 fun _ q=>q,fun j hj=>⟨(G0.cF j hj).1,fun z=>nomatch z⟩,G0.Fs,fun b z=>(nomatch z),fun b z=>(nomatch z),G0.kc⟩⟩
      cases e2:fb (Z1 nn ds) θ with
      | bad=>rw [e2] at q; exact q.elim
      | ex c θ'=>
        rw [e2] at q
        intro B' H' E' G'
        obtain ⟨y1,y2,y3⟩:=cv E' G'
        exact q _ H' y1 y3
      | ok p θ'=>
        rw [e2] at q
        obtain ⟨fl,ρ'⟩:=p
        intro B' H' σ' E' F'
        obtain ⟨y1,y2,y3⟩:=cv E' F'.good
        cases fl with
        | nx=>exact q _ H' .non y1 y3 rfl
        | rt d=>exact fun v rv=>q _ H' v y1 y3 (rv.ext y2)
        | bk=>exact q.elim
        | ct=>exact q.elim
    · rw [if_neg hl] at q
      exact q.elim
end
end L2.MM
namespace L2.MM
open PySem PySem.Spec PyProof.Rows PySem.W PySem.Calls PySem.SeqAt
noncomputable section
section
variable {X:Cx}
def Zcb (f:GM) (fs:AM):SM:=fun ρ θ=>match fs ρ θ with
  | .ok ds θ2=>(match f ds θ2 with
    | .ok _ θ3=>.ok (.nx,ρ) θ3
    | .ex c θ3=>.ex c θ3
    | .bad=>.bad)
  | _=>.bad
theorem Zid {C:Addr} {k j:Nat} {x:Str} {f:GM} {p pos epos:Pos} {e:Expr} {es:List Expr} {fs:AM} (hx0:X.xe=fun _ _=>False) (M:ZaK X.prog X.w X.K X.mg X.base k C x f) (hr:Room j X.A) (hj:k≤j) (ha:MA X (e::es) fs) (hg:Gl X x:=by rfl) (hdb:(x == ("__debug__":Str))=false:=by decide)
    (hst:starEach (e::es) X.env=(false,eval e X.env)::starEach es X.env:=by rfl) (hpl:(backTo pos (starEach es X.env)).any (·.1)=false:=by rfl)
    (hs:swapsWith (.Call (.Name x p) (e::es) [] pos) none epos.line X.env=pure false:=by rfl):MX X C (.Expr (.Call (.Name x p) (e::es) [] pos) epos) (Zcb f fs):=by
  intro pins s σ H D EQ Ex I R q
  obtain ⟨B,θ,ρ,F,w⟩:=q
  obtain ⟨ps,fa,fd,FO,hb,hk,hm⟩:=M
  unfold Zcb at w
  cases ea:fs ρ θ with
  | bad=>rw [ea] at w; exact w.elim
  | ex c θ'=>rw [ea] at w; exact w.elim
  | ok ds θ2=>
    rw [ea] at w
    dsimp only at w
    refine wpAny_Expr_any (Q:=SP X pins D) ?_ I.quiet hs
    have pa:=ha pos pins s σ H (fun vs H2=>∃B2,ExtE B B2 H H2∧Good X.cl B2 θ2 H2∧RepL B2 H2 ds vs) I ⟨B,θ,ρ,F,by rw [ea]; exact fun B2 H2 v E2 G2 r=>⟨B2,E2,G2,r⟩⟩
    rw [hx0] at pa
    refine wpAny_Call_Name_kw (Zbr I hg hm ?_ hdb)
    refine PySem.W.callWith_K (h₀:=X.base) I.ok.mod.kin hk (wpAny_mono pa (fun us s2 q=>?_) fun _ _ z=>z.elim) hst hpl
    obtain ⟨vs,H2,I2,r,B2,E2,G2,rds⟩:=q
    refine ⟨I2.kIn,?_⟩
    have F2:=F.ext E2 G2
    have w2:=wpX.trans w E2.toExtS
    obtain ⟨Qs,hQs⟩:∃Qs:VK,Qs=fun v H3=>D.nx σ H3:=⟨_,rfl⟩
    obtain ⟨Es,hEs⟩:∃Es:XK,Es=fun _ _ H3=>EQ H3:=⟨_,rfl⟩
    have hsp:spX X.cl C f (vs++[]) H2 Qs Es:=by
      rw [List.append_nil]
      refine ⟨B2.inC,θ2,ds,rfl,ZdD G2,RepL.same (B:=B2) (B':=B2.inC) rfl rfl rfl (fun a=>inC_ok.mpr) rds,?_⟩
      cases ef:f ds θ2 with
      | bad=>rw [ef] at w2; exact w2
      | ok d3 θ3=>
        rw [ef] at w2
        intro B' H' v E' G' rv
        obtain ⟨y1,y2,y3⟩:=Zfj G2 E' G'
        rw [hQs]
        exact w2 _ H' _ y1.toExtS (F2.ext y1 y2)
      | ex c θ3=>
        rw [ef] at w2
        intro B' H' E' G'
        obtain ⟨y1,y2,y3⟩:=Zfj G2 E' G'
        rw [hEs]
        exact w2 _ H' y1.toExtS (F2.ext y1 y2)
    have r2:Vals (vs++[]) (us++[]):=r.append .nil
    have hl:(us++[]).length=ps.length:=by rw [←r2.length]; exact FO.len _ _ _ _ hsp
    refine wpAny_call (codeAny_mono (FO.run X.A X.stack s2 H2 ⟨us,[]⟩ (us++[]) (vs++[]) Qs Es (hr.mono hj) I2.env0 (hb s2 us I2.kIn hl) r2 hsp) fun rr s' hq=>?_)
    cases rr with
    | error e=>
      obtain ⟨xx,T,H3,rfl,hos,hbare,Fl,hE⟩:=hq
      rw [hEs] at hE
      exact R s2 H2 s' xx T H3 I2 hos hbare Fl hE
    | ok fl=>
      cases fl with
      | ret u=>
        obtain ⟨v,H3,I3,rv,qv⟩:=I2.after hq
        rw [hQs] at qv
        exact ⟨_,_,I3,qv⟩
      | next=>exact False.elim hq
      | brk=>exact False.elim hq
      | cont=>exact False.elim hq
end
end
end L2.MM
namespace L2.MM
open PySem PySem.Spec PyProof.Rows PySem.W PySem.SeqAt
noncomputable section
section
variable {X:Cx}
def ZcR:OM:=fun x y θ=>match x,y with
  | .str i,.int n=>if i.length≤100∧0≤n∧n≤100 then .ok (.str (Txt.mul i n)) θ else .bad
  | _,_=>.bad
theorem Zfl {x:Str} {n:Int} (h:x.length≤100∧0≤n∧n≤100):MulOk x n:=by
  obtain ⟨h1,h2,h3⟩:=h
  refine ⟨?_,fun a _=>?_,fun a _=>?_⟩
  · simp
    omega
  · have p:1≤n:=by omega
    have q:(92233720368547758:Int)≤(2 ^ 63-1)/n:=by
      have:(2 ^ 63-1:Int)/n≥(2 ^ 63-1)/100:=by
        have e:n*((2 ^ 63-1)/100)≤2 ^ 63-1:=by
          have:n*((2 ^ 63-1:Int)/100)≤100*((2 ^ 63-1)/100):=Int.mul_le_mul_of_nonneg_right h3 (by decide)
          have:(100*((2 ^ 63-1)/100):Int)≤2 ^ 63-1:=by decide
          omega
        exact (Int.le_ediv_iff_mul_le (by omega)).mpr (by rw [Int.mul_comm]; exact e)
      have:((2 ^ 63-1)/100:Int)=92233720368547758:=by decide
      omega
    omega
  · unfold Builtin.Str.tooLong
    have:x.length*n.toNat≤100*100:=Nat.mul_le_mul h1 (by omega)
    have b:x.length*n.toNat≤sizeLine:=Zy (by simp [BIG]; omega)
    simp
    exact b
theorem Zku:OpR X (binaryOp .Mult) (rM X ZcR):=by
  intro pins s σ H x y v u Q I rx ry q
  obtain ⟨σ',B,θ,d,e,G,rd,re,w⟩:=q
  unfold ZcR at w
  split at w
  · rename_i i n
    cases (show x=V.str i from rd)
    cases (show y=V.int n from re)
    split at w
    · rename_i hc
      obtain ⟨t,rfl⟩:=rx
      obtain ⟨t',rfl⟩:=ry
      exact SB.mul (Zfl hc) fun t2 k=>⟨.str (Txt.mul i n),H,I.kept (t':=k) fun _ _ q=>q,⟨t2,rfl⟩,Zw (Rel:=RepV) G (show RepV B H (.str _) (.str _) from rfl) w⟩
    · exact w.elim
  · exact w.elim
end
end
end L2.MM
namespace My
open PySem L2 L2.MM
noncomputable section
def zO:SM:=(Zv (Zx 1 (ZbT [("fin",1),("syn",2),("rst",4),("psh",8),("ack",16)] [0] (Zl (mOp eqM (mCB Za1 (Zb (Zd 2) (Zb (Zd 1) Zg))) (mC (.int 1)))) (Zd 0)))
  (zY (ZeO (Zl (mOp gtM (mCB ZZ (Zb (Zd 1) Zg)) (mC (.int 0)))) (Zah (mC (.str "+")) (Zd 1)) (mC (.str "none")))))
def ZW:GM:=ZaE 1 2 zO
def Zbv:SM:=(zY (Zin (mOp neM (Zd 0) (mC (.str ""))) (mCB Zhq (Zb (ZbS (Zd 0) [1] (mOp Zfx (Zd 0) (Zd 1))) Zg))))
def Z7:GM:=ZaE 2 2 Zbv
def ZbJ:SM:=(zY (mOp Zz (mOp Zcz (mC (.int 16)) (ZaT (mC (.str "0123456789abcdef")) (Zd 0))) (ZaT (mC (.str "0123456789abcdef")) (Zd 1))))
def zc:GM:=ZaE 2 2 ZbJ
def Za4:SM:=(mIf (mOr (Zfr (Za8 (mCB Z7 (Zb (Zd 0) (Zb (mC (.str "0123456789abcdef")) Zg))))) (mOr (Zl (mOp eqM (mOp ZU (mCB ZZ (Zb (Zd 0) Zg)) (mC (.int 2))) (mC (.int 1)))) (Zl (mOp gtM (mCB ZZ (Zb (Zd 0) Zg)) (mOp Zcz (mC (.int 2)) (mC (.int 16))))))) Zft zK)
def ZbI:SM:=(Zv Za4
  (zY (mCB Zcp (Zb (ZcA (Zb (mC (.int 0)) (Zb (mCB ZZ (Zb (Zd 0) Zg)) (Zb (mC (.int 2)) Zg))) [0] (mCB zc (Zb (mOp ixM (Zd 1) (Zd 0)) (Zb (mOp ixM (Zd 1) (mOp Zz (Zd 0) (mC (.int 1)))) Zg)))) Zg))))
def zJ:GM:=ZaE 1 1 ZbI
def Z9:SM:=(mIf (Zl (mOp eqM (mCB ZW (Zb (Zd 1) Zg)) (Zd 0))) (zY (Zd 1)) zK)
def zC:SM:=(Zfs (Zad (Zb (mOp Zz (mC (.int 31)) (mC (.int 1))) Zg)) (gNm 1) Z9)
def Zbf:SM:=(Zv zC
  Zft)
def zv:GM:=ZaE 1 2 Zbf
def Zam:SM:=(mIf (mOr (Zfr (Za8 (mCB Z7 (Zb (Zd 0) (Zb (mC (.str "0123456789")) Zg))))) (Zl (mOp gtM (mCB ZZ (Zb (Zd 0) Zg)) (mCB ZZ (Zb (mCB Zap (Zb (Zd 1) Zg)) Zg))))) Zft zK)
def Zal:SM:=(mIf (mOr (Zl (mOp gtM (Zd 2) (Zd 1))) (Zl (mOp neM (mCB Zap (Zb (Zd 2) Zg)) (Zd 0)))) Zft zK)
def Za3:SM:=(Zv Zam
  (Zv (Zx 2 (mCB Zch (Zb (Zd 0) Zg)))
  (Zv Zal
  (zY (Zd 2)))))
def ZF:GM:=ZaE 2 3 Za3
def zP:SM:=(mIf (Zhf (Zl (mOp neM (Zd 2) (mC (.int 0)))) (mOr (Zl (mOp ltM (Zd 2) (mC (.int 4)))) (Zl (mOp eqM (mCB Za1 (Zb (Zd 1) (Zb (mC (.int 2)) Zg))) (mC (.int 0)))))) Zft zK)
def Zas:SM:=(Zv (Zx 2 (mCB ZF (Zb (Zd 0) (Zb (mC (.int 65535)) Zg))))
  (Zv zP
  (zY (Zd 2))))
def zn:GM:=ZaE 2 3 Zas
def Zbg:SM:=(mIf (Zl (mOp Zab (mCB ZZ (Zb (Zd 1) Zg)) (zX (Zb (mC (.int 7)) (Zb (mOp Zz (mC (.int 7)) (mC (.int 1))) Zg))))) Zft zK)
def ZcO:SM:=(Zv (Zx 1 (ZaS (Zd 0) (mC (.str " "))))
  (Zv Zbg
  (Zv (Zx 2 (zX (Zb (mCB ZF (Zb (mOp ixM (Zd 1) (mC (.int 0))) (Zb (mC (.int 65535)) Zg))) (Zb (mCB ZF (Zb (mOp ixM (Zd 1) (mC (.int 1))) (Zb (mC (.int 65535)) Zg))) Zg))))
  (Zv (Zx 3 (zX (Zb (mCB ZF (Zb (mOp ixM (Zd 1) (mC (.int 2))) (Zb (mC (.int 4294967295)) Zg))) (Zb (mCB ZF (Zb (mOp ixM (Zd 1) (mC (.int 3))) (Zb (mC (.int 4294967295)) Zg))) Zg))))
  (Zv (Zx 4 (mCB zv (Zb (mOp ixM (Zd 1) (mC (.int 4))) Zg)))
  (Zv (Zx 5 (mCB ZF (Zb (mOp ixM (Zd 1) (mC (.int 5))) (Zb (mC (.int 65535)) Zg))))
  (Zv (Zx 6 (mCB zn (Zb (mOp ixM (Zd 1) (mC (.int 6))) (Zb (Zd 4) Zg))))
  (Zv (Zx 7 (ZeO (Zl (mOp gtM (mCB ZZ (Zb (Zd 1) Zg)) (mC (.int 7)))) (mCB zJ (Zb (mOp ixM (Zd 1) (mC (.int 7))) Zg)) (zX Zg)))
  (zY (mOp Zz (mOp Zz (Zd 2) (Zd 3)) (zX (Zb (Zd 4) (Zb (Zd 5) (Zb (Zd 6) (Zb (Zd 7) Zg)))))))))))))))
def Zbo:GM:=ZaE 1 8 ZcO
def txt (n:Int):Str:=Str.ofString (toString n)
theorem Zau {n:Int} (h:0≤n):∀c∈(txt n).cps.toList,48≤c∧c≤57:=by
  obtain ⟨m,rfl⟩:=Int.eq_ofNat_of_zero_le h
  intro c hc
  unfold txt at hc
  rw [PySem.W.KIN.signs_num] at hc
  obtain ⟨ch,hch,e⟩:=List.mem_map.mp hc
  have r:=PyProof.Rows.digit_range (Nat.isDigit_of_mem_toDigits (by decide) (by decide) hch)
  rw [←e]
  exact r
theorem Ze7 {n:Int} (h0:0≤n):(txt n).cps.toList≠[]:=by
  obtain ⟨m,rfl⟩:=Int.eq_ofNat_of_zero_le h0
  unfold txt
  rw [PySem.W.KIN.signs_num]
  simp [Nat.toDigits_ne_nil]
theorem ZgQ {n:Int} (h0:0≤n) (h1:n≤4294967295):PySem.intText? (txt n)=some n:=PySem.W.KIN.num_reads h0 (by omega)
theorem Zaf {n:Int} (h0:0≤n) (h1:n≤4294967295):(txt n).length≤10:=PyProof.Rows.toString_length_le h0 (by decide) (by omega)
theorem ZhD {n:Int} (h0:0≤n) (h1:n≤65535):(txt n).length≤5:=PyProof.Rows.toString_length_le h0 (by decide) (by omega)
theorem ZbA {n:Int} (h0:0≤n) (h1:n≤4294967295) (θ:Sto):Zap [.int n] θ=.ok (.str (txt n)) θ:=by
  have h:n.natAbs.log2<1920:=by
    by_cases z:n.natAbs=0
    · rw [z]; decide
    · rw [Nat.log2_lt z]
      refine Nat.lt_of_lt_of_le (m:=2 ^ 33) (by omega) (Nat.pow_le_pow_right (by decide) (by decide))
  unfold Zap
  simp only [if_pos h]
  rfl
def Asc (x:Str):Prop:=∀c∈x.cps.toList,c<128
theorem Asc.ok {x:Str} (h:Asc x):PyData.strOk x=true:=by
  unfold PyData.strOk
  rw [Array.all_eq_true_iff_forall_mem]
  intro c hc
  have:=h c (Array.mem_toList_iff.mpr hc)
  simp
  omega
theorem ZiE {a b:Str} (ha:Asc a) (hb:Asc b) (θ:Sto):eqM (.str a) (.str b) θ=.ok (.bl (decide (a=b))) θ:=by
  rw [Zgb (x:=.str a) (y:=.str b) (ZdJ (show PyData.strOk a=true from ha.ok) (show PyData.strOk b=true from hb.ok) rfl rfl)]
  simp [Zae]
theorem ZeF {a b:Str} (ha:Asc a) (hb:Asc b) (θ:Sto):neM (.str a) (.str b) θ=.ok (.bl (!decide (a=b))) θ:=by
  rw [Zib (x:=.str a) (y:=.str b) (ZdJ (show PyData.strOk a=true from ha.ok) (show PyData.strOk b=true from hb.ok) rfl rfl)]
  simp [Zae]
theorem ZiO (x:Str) (h:x.cps.toList.all (fun c=>decide (c<128))=true):Asc x:=fun c hc=>by
  have:=List.all_eq_true.mp h c hc
  simpa using this
theorem Zcm {n:Int} (h:0≤n):Asc (txt n):=fun c hc=>by have:=Zau h c hc; omega
theorem ZjB {a b:Str} (ha:Asc a) (hb:Asc b):Asc (a++b):=fun c hc=>by
  have e:(a++b).cps.toList=a.cps.toList++b.cps.toList:=by
    show (a.cps++b.cps).toList=_
    simp
  rw [e] at hc
  exact (List.mem_append.mp hc).elim (ha c) (hb c)
theorem Zbu {elt:D→Sto→R D} {θ:Sto} (f:D→D):∀(xs acc:List D),(∀x∈xs,elt x θ=.ok (f x) θ)→acc.length+xs.length≤BIG→ZbH elt xs acc θ=.ok (.lst (acc++xs.map f)) θ
  | [],acc,_,h=>by
    unfold ZbH
    rw [if_pos (by simpa using h)]
    simp
  | x::r,acc,he,h=>by
    unfold ZbH
    rw [he x (by simp),R.bind_ok,Zbu f r (acc++[f x]) (fun y hy=>he y (List.mem_cons_of_mem _ hy)) (by simp at h ⊢; omega)]
    simp
theorem Zgk {w F:Str} (hw:w.cps.toList≠[]) (hs:∀c∈w.cps.toList,c<128∧c∈F.cps.toList) (hl:w.length≤1000) (θ:Sto):Z7 [.str w,.str F] θ=.ok (.bl true) θ:=by
  have ne:¬w=Str.ofString "":=fun e=>hw (by rw [e]; decide)
  have asc:(w.cps.all (· < 128))=true:=by
    rw [Array.all_eq_true_iff_forall_mem]
    intro c hc
    have:=(hs c (Array.mem_toList_iff.mpr hc)).1
    simpa using this
  have ll:(zQ w).length≤BIG:=by
    have:(zQ w).length=w.length:=by simp [zQ,Str.length]
    rw [this]
    simp [BIG]
    omega
  have cp:∀ρ:List Sl,ρ[0]?=some (Sl.val (.str w))→ρ[1]?=some (Sl.val (.str F))→ZbS (Zd 0) [1] (mOp Zfx (Zd 0) (Zd 1)) ρ θ=.ok (.lst ((zQ w).map fun _=>.bl true)) θ:=by
    intro ρ h0 h1
    unfold ZbS
    rw [zq,h0]
    simp only [R.bind_ok]
    rw [if_pos ⟨asc,ll⟩,Zbu (fun _=>.bl true) _ _ ?_ (by simpa using ll)]
    · simp
    · intro x hx
      obtain ⟨c,hc,rfl⟩:=List.mem_map.mp hx
      have fo:=StrLaws.found_one F c
      rw [decide_eq_true (hs c hc).2] at fo
      simp [Z0,h1,Zfx,fo]
  have al:Zhq [D.lst ((zQ w).map fun _=>D.bl true)] θ=.ok (.bl true) θ:=by
    rw [ZjJ,Zjx]
    simp only [ZiP]
  have n1:=ZeF (a:=w) (b:=Str.ofString "") (fun c hc=>(hs c hc).1) (ZiO _ (by decide)) θ
  rw [decide_eq_false ne] at n1
  have n2:neM (.str w) (.str Err.none.s) θ=.ok (.bl true) θ:=n1
  simp [Z7,Zbv,n2,cp,al]
abbrev figT:Str:=Str.ofString "0123456789"
abbrev hexT:Str:=Str.ofString "0123456789abcdef"
theorem Zjt {c:Nat} (h:48≤c∧c≤57):c∈figT.cps.toList:=by
  have:c=48∨c=49∨c=50∨c=51∨c=52∨c=53∨c=54∨c=55∨c=56∨c=57:=by omega
  rcases this with rfl | rfl | rfl | rfl | rfl | rfl | rfl | rfl | rfl | rfl<;>decide
theorem zg {n g:Int} (h0:0≤n) (h1:n≤g) (hg:g=65535∨g=4294967295) (θ:Sto):ZF [.str (txt n),.int g] θ=.ok (.int n) θ:=by
  have n1:n≤4294967295:=by omega
  have io:=Zgk (w:=txt n) (F:=figT) (Ze7 h0) (fun c hc=>by have:=Zau h0 c hc; exact ⟨by omega,Zjt this⟩) (by have:=Zaf h0 n1; omega) θ
  have sg:=ZbA (n:=g) (by omega) (by omega) θ
  have sn:=ZbA h0 n1 θ
  have ln:ZZ [.str (txt n)] θ=.ok (.int (txt n).length) θ:=by
    have:=Zaf h0 n1
    simp [ZZ,BIG]
    omega
  have lg:ZZ [.str (txt g)] θ=.ok (.int (txt g).length) θ:=by
    have:=Zaf (n:=g) (by omega) (by omega)
    simp [ZZ,BIG]
    omega
  have le:¬((txt g).length:Int)<((txt n).length:Int):=by
    rcases hg with rfl | rfl
    · have a:=ZhD h0 h1
      have b:(txt 65535).length=5:=by decide
      omega
    · have a:=Zaf h0 n1
      have b:(txt 4294967295).length=10:=by decide
      omega
  have ii:Zch [.str (txt n)] θ=.ok (.int n) θ:=by
    have:=Zaf h0 n1
    unfold Zch
    simp only [ZgQ h0 n1]
    rw [if_pos (by omega)]
  have nn:=ZeF (Zcm h0) (Zcm h0) θ
  rw [decide_eq_true rfl] at nn
  have ng:¬g<n:=by omega
  simp [ZF,Za3,Zam,Zal,io,sg,ln,lg,le,ii,ng,sn,nn]
def flagPs:List (Str×Int):=[("fin",1),("syn",2),("rst",4),("psh",8),("ack",16)]
def nmF (f:Int):List Str:=(flagPs.filter fun kn=>decide (bit f kn.2=1)).map (·.1)
def Zn (f:Int):Str:=if nmF f=[] then Str.ofString "none" else Txt.join (Str.ofString "+") (nmF f)
theorem ZcJ {tst:D→D→Sto→R Bool} {elt:D→D→Sto→R D} {θ:Sto} (p:Int→Bool) (ht:∀k n,tst (.str k) (.int n) θ=.ok (p n) θ) (he:∀k n,elt (.str k) (.int n) θ=.ok (.str k) θ):∀(ps:List (Str×Int)) (acc:List D),acc.length+ps.length≤BIG→
    ZaY tst elt ps acc θ=.ok (.lst (acc++((ps.filter fun kn=>p kn.2).map (·.1)).map D.str)) θ
  | [],acc,h=>by
    unfold ZaY
    rw [if_pos (by simpa using h)]
    simp
  | (k,n)::r,acc,h=>by
    unfold ZaY
    rw [ht,R.bind_ok]
    cases q:p n with
    | true=>
      rw [if_pos rfl,he,R.bind_ok,ZcJ p ht he r (acc++[D.str k]) (by simp at h ⊢; omega)]
      simp [q]
    | false=>
      rw [if_neg (by decide),ZcJ p ht he r acc (by simp at h ⊢; omega)]
      simp [q]
theorem Zav:∀ts:List Str,Zd9 (ts.map D.str)=some ts
  | []=>rfl
  | t::ts=>by simp [Zd9,Zav ts]
theorem ZdF:∀f:Fin 32,JoinOk (Str.ofString "+") (nmF (f.val:Int))=true:=by decide +kernel
theorem ZbB {f:Int} (h:0≤f∧f≤31) (θ:Sto):ZW [.int f] θ=.ok (.str (Zn f)) θ:=by
  have cp:∀ρ:List Sl,ρ[0]?=some (Sl.val (.int f))→ZbT [("fin",1),("syn",2),("rst",4),("psh",8),("ack",16)] [0] (Zl (mOp eqM (mCB Za1 (Zb (Zd 2) (Zb (Zd 1) Zg))) (mC (.int 1)))) (Zd 0) ρ θ=.ok (.lst ((nmF f).map D.str)) θ:=by
    intro ρ h0
    unfold ZbT
    rw [if_pos (by decide)]
    have:=ZcJ (tst:=fun x y θ=>(Zl (mOp eqM (mCB Za1 (Zb (Zd 2) (Zb (Zd 1) Zg))) (mC (.int 1)))) (zy [0] ρ x y) θ) (elt:=fun x y θ=>(Zd 0) (zy [0] ρ x y) θ) (θ:=θ) (fun n=>decide (bit f n=1)) (by intro k n; simp [zy,h0]) (by intro k n; simp [zy]) flagPs [] (by decide)
    rw [List.nil_append] at this
    exact this
  have jo:=ZdF ⟨f.toNat,by omega⟩
  simp only [show ((f.toNat:Nat):Int)=f by omega] at jo
  have jn:∀ρ:List Sl,ρ[1]?=some (Sl.val (.lst ((nmF f).map D.str)))→Zah (mC (.str "+")) (Zd 1) ρ θ=.ok (.str (Txt.join (Str.ofString "+") (nmF f))) θ:=by
    intro ρ h1
    unfold Zah
    simp [h1,ZO,Zav,jo]
  unfold Zn
  by_cases e:nmF f=[]
  · simp [ZW,zO,cp,e]
  · have pos:0<(nmF f).length:=List.length_pos_iff.mpr e
    simp [ZW,zO,cp,e,jn,pos]
theorem ZiB:∀i j:Fin 32,Zn (i.val:Int)=Zn (j.val:Int)→i=j:=by decide +kernel
theorem ZiC:∀i:Fin 32,(Zn (i.val:Int)).cps.toList.all (fun c=>decide (c<128) && decide (c≠32))=true:=by decide +kernel
theorem Zbz {f:Int} (h:0≤f∧f≤31):Asc (Zn f)∧32∉(Zn f).cps.toList:=by
  have:=ZiC ⟨f.toNat,by omega⟩
  simp only [show ((f.toNat:Nat):Int)=f by omega] at this
  refine ⟨fun c hc=>?_,fun hc=>?_⟩
  · have z:=List.all_eq_true.mp this c hc
    simp at z
    exact z.1
  · have z:=List.all_eq_true.mp this 32 hc
    simp at z
theorem Zeq {f:Int} (h:0≤f∧f≤31) (θ:Sto):zv [.str (Zn f)] θ=.ok (.int f) θ:=by
  have stepE:∀(i:Nat) (x:Sl),i<32→Z9 [.val (.str (Zn f)),.val (.int (i:Int))] θ=if (i:Int)=f then .ok (.rt (.int f),[.val (.str (Zn f)),.val (.int (i:Int))]) θ else .ok (.nx,[.val (.str (Zn f)),.val (.int (i:Int))]) θ:=by
    intro i x hi
    have sf:=ZbB (f:=(i:Int)) (by omega) θ
    have ee:=ZiE (Zbz (f:=(i:Int)) (by omega)).1 (Zbz h).1 θ
    have iff:(Zn (i:Int)=Zn f)↔(i:Int)=f:=by
      constructor
      · intro e
        have:=ZiB ⟨i,hi⟩ ⟨f.toNat,by omega⟩ (by simp only [show ((f.toNat:Nat):Int)=f by omega]; exact e)
        have:=congrArg Fin.val this
        simp at this
        omega
      · intro e
        rw [e]
    rw [decide_eq_decide.mpr iff] at ee
    by_cases c:(i:Int)=f
    · rw [if_pos c]
      rw [decide_eq_true c] at ee
      rw [c] at sf ee ⊢
      simp [Z9,sf,ee]
    · rw [if_neg c]
      rw [decide_eq_false c] at ee
      simp [Z9,sf,ee]
  have lo:∀(k:Nat) (m:Nat) (x:Sl),k+m=32→(k:Int)≤f→forL (.rng 0 32) ((List.range 32).map fun (i:Nat)=>D.int (0+(i:Int))) (gNm 1) Z9 (((List.range 32).map fun (i:Nat)=>D.int (0+(i:Int))).drop k) [.val (.str (Zn f)),x] θ=.ok (.rt (.int f),[.val (.str (Zn f)),.val (.int f)]) θ:=by
    intro k m
    induction m generalizing k with
    | zero=>intro x e hk; omega
    | succ m ih=>
      intro x e hk
      have hlt:k<((List.range 32).map fun (i:Nat)=>D.int (0+(i:Int))).length:=by simp; omega
      have hx:((List.range 32).map fun (i:Nat)=>D.int (0+(i:Int)))[k]=D.int (k:Int):=by simp
      have hit:(Src.rng 0 32).items θ=some ((List.range 32).map fun (i:Nat)=>D.int (0+(i:Int))):=rfl
      rw [List.drop_eq_getElem_cons hlt,hx]
      simp only [forL,hit,if_true]
      have hg:gNm 1 (D.int (k:Int)) [.val (.str (Zn f)),x]=some [.val (.str (Zn f)),.val (.int (k:Int))]:=rfl
      rw [hg]
      simp only []
      rw [stepE k x (by omega)]
      by_cases c:(k:Int)=f
      · rw [if_pos c,R.bind_ok,Zd3,c]
      · rw [if_neg c,R.bind_ok,Zcn]
        exact ih (k+1) _ (by omega) (by omega)
  have fo:zC [.val (.str (Zn f)),.no] θ=.ok (.rt (.int f),[.val (.str (Zn f)),.val (.int f)]) θ:=by
    have:=lo 0 32 .no rfl (by omega)
    rw [List.drop_zero] at this
    rw [←this]
    have rg:Zad (Zb (mOp Zz (mC (.int 31)) (mC (.int 1))) Zg) [.val (.str (Zn f)),.no] θ=.ok (.rng 0 32) θ:=by simp
    unfold zC Zfs
    rw [rg,R.bind_ok]
    rfl
  simp [zv,Zbf,Z1,fo]
theorem Ze9 {m f:Int} (h0:m=0∨(4≤m∧m≤65535∧f/2 % 2=1)) (hf:0≤f∧f≤31) (θ:Sto):zn [.str (txt m),.int f] θ=.ok (.int m) θ:=by
  have rn:=zg (n:=m) (g:=65535) (by omega) (by omega) (.inl rfl) θ
  have b2:=(ZmI hf).2.1
  rcases h0 with rfl | ⟨h1,h2,h3⟩
  · simp [zn,Zas,zP,rn]
  · have e1:¬m=0:=by omega
    have e2:¬m<4:=by omega
    simp [zn,Zas,zP,rn,e1,e2,b2,h3]
def hx (k:Nat):Nat:=hexT.cps.toList.getD k 0
theorem ZjW {k:Int} (h:0≤k∧k<16) (θ:Sto):ixM (.str hexT) (.int k) θ=.ok (.str ⟨#[hx k.toNat]⟩) θ:=by
  obtain ⟨n,rfl⟩:=Int.eq_ofNat_of_zero_le h.1
  have hn:n<16:=by omega
  have:n=0∨n=1∨n=2∨n=3∨n=4∨n=5∨n=6∨n=7∨n=8∨n=9∨n=10∨n=11∨n=12∨n=13∨n=14∨n=15:=by omega
  rcases this with rfl | rfl | rfl | rfl | rfl | rfl | rfl | rfl | rfl | rfl | rfl | rfl | rfl | rfl | rfl | rfl<;>rfl
theorem ZgD:∀k:Fin 16,Builtin.Str.occurrences hexT ⟨#[hx k.val]⟩ 0 hexT.length 1=[k.val]∧hx k.val<128∧hx k.val∈hexT.cps.toList∧hx k.val≠32:=by decide +kernel
def Zga (b:Int):Str:=(⟨#[hx (b/16).toNat]⟩:Str)++(⟨#[hx (b % 16).toNat]⟩:Str)
def zk (xs:List Int):Str:=Txt.join (Str.ofString "") (xs.map Zga)
def Zcj:List Int→List Nat
  | []=>[]
  | b::r=>hx (b/16).toNat::hx (b % 16).toNat::Zcj r
theorem ZL (a b:Str):(a++b).cps.toList=a.cps.toList++b.cps.toList:=by
  show (a.cps++b.cps).toList=_
  simp
theorem Zei:∀xs:List Int,(Str.join (Str.ofString "") (xs.map Zga)).cps.toList=Zcj xs
  | []=>by decide
  | [b]=>by
    show (Zga b).cps.toList=_
    unfold Zga
    rw [ZL]
    rfl
  | b::c::r=>by
    have ih:=Zei (c::r)
    show (Zga b++Str.ofString ""++Str.join (Str.ofString "") ((c::r).map Zga)).cps.toList=_
    rw [ZL,ZL,ih]
    have e:(Str.ofString "").cps.toList=[]:=by decide
    rw [e,List.append_nil]
    unfold Zga
    rw [ZL]
    rfl
theorem zB (xs:List Int):(zk xs).cps.toList=Zcj xs:=by
  unfold zk Txt.join
  rw [StrLaws.glued_eq_join]
  exact Zei xs
theorem ZdE:∀xs:List Int,(Zcj xs).length=2*xs.length
  | []=>rfl
  | b::r=>by simp [Zcj,ZdE r]; omega
theorem ZgH:∀(xs:List Int) (i:Nat) (b:Int),xs[i]?=some b→(Zcj xs)[2*i]?=some (hx (b/16).toNat)∧(Zcj xs)[2*i+1]?=some (hx (b % 16).toNat)
  | [],i,b,h=>by simp at h
  | x::r,0,b,h=>by
    simp at h
    subst h
    exact ⟨rfl,rfl⟩
  | x::r,i+1,b,h=>by
    have ih:=ZgH r i b (by simpa using h)
    have e1:2*(i+1)=2*i+1+1:=by omega
    rw [e1]
    simpa [Zcj] using ih
theorem ZgG {xs:List Int} (h:∀z∈xs,0≤z∧z≤255):∀c∈Zcj xs,c<128∧c∈hexT.cps.toList∧c≠32:=by
  induction xs with
  | nil=>intro c hc; simp [Zcj] at hc
  | cons b r ih=>
    intro c hc
    have hb:=h b (by simp)
    simp only [Zcj,List.mem_cons] at hc
    rcases hc with rfl | rfl | hc
    · have:=ZgD ⟨(b/16).toNat,by omega⟩
      exact ⟨this.2.1,this.2.2.1,this.2.2.2⟩
    · have:=ZgD ⟨(b % 16).toNat,by omega⟩
      exact ⟨this.2.1,this.2.2.1,this.2.2.2⟩
    · exact ih (fun z hz=>h z (List.mem_cons_of_mem _ hz)) c hc
theorem ZgF (g:Nat):∀(ts:List Str) (a:Nat),(∀t∈ts,t.length+g≤50)→ts.foldl (fun a t=>a+t.length+g) a≤a+ts.length*50
  | [],a,_=>by simp
  | t::r,a,h=>by
    have h1:=h t (by simp)
    have ih:=ZgF g r (a+t.length+g) fun y hy=>h y (List.mem_cons_of_mem _ hy)
    simp only [List.foldl_cons,List.length_cons]
    omega
theorem Zcg {sep:Str} {ts:List Str} (h:∀t∈ts,t.length+sep.length≤50) (hl:ts.length≤100):JoinOk sep ts=true:=by
  have:=ZgF sep.length ts 0 h
  unfold JoinOk Builtin.Str.tooLong
  rw [List.foldl_toArray]
  have b:ts.foldl (fun a t=>a+t.length+sep.length) 0≤sizeLine:=Zy (by simp [BIG]; omega)
  simp
  exact b
theorem ZgB {w:Str} {j c:Nat} (hl:w.length≤1000) (h:w.cps.toList[j]?=some c) (θ:Sto):ixM (.str w) (.int (j:Int)) θ=.ok (.str ⟨#[c]⟩) θ:=by
  have a:atI w.cps.toList (j:Int)=some c:=ZdR h
  unfold ixM ixD
  simp only [if_pos (show w.length≤BIG by simp [BIG]; omega),a,Option.map_some]
theorem Zfb {b:Int} (h:0≤b∧b≤255) (θ:Sto):zc [.str ⟨#[hx (b/16).toNat]⟩,.str ⟨#[hx (b % 16).toNat]⟩] θ=.ok (.int b) θ:=by
  have o1:=(ZgD ⟨(b/16).toNat,by omega⟩).1
  have o2:=(ZgD ⟨(b % 16).toNat,by omega⟩).1
  simp only [] at o1 o2
  have i1:∀ρ:List Sl,ρ[0]?=some (Sl.val (.str ⟨#[hx (b/16).toNat]⟩))→ZaT (mC (.str "0123456789abcdef")) (Zd 0) ρ θ=.ok (.int (b/16)) θ:=by
    intro ρ h0
    unfold ZaT
    rw [x_c]
    simp only [R.bind_ok,zq,h0]
    rw [o1]
    simp only []
    rw [show (((b/16).toNat:Nat):Int)=b/16 by omega]
  have i2:∀ρ:List Sl,ρ[1]?=some (Sl.val (.str ⟨#[hx (b % 16).toNat]⟩))→ZaT (mC (.str "0123456789abcdef")) (Zd 1) ρ θ=.ok (.int (b % 16)) θ:=by
    intro ρ h0
    unfold ZaT
    rw [x_c]
    simp only [R.bind_ok,zq,h0]
    rw [o2]
    simp only []
    rw [show (((b % 16).toNat:Nat):Int)=b % 16 by omega]
  have e:16*(b/16)+b % 16=b:=by omega
  have mb:ZfL 16 (b/16):=.inl (by omega)
  simp [zc,ZbJ,i1,i2,mb,e]
theorem ZdH (xs:List Int):(zk xs).length=2*xs.length:=by rw [My.zL,zB,ZdE]
theorem Zfa {xs:List Int} (h:∀z∈xs,0≤z∧z≤255) (hl:xs.length≤16) (h0:xs≠[]) (θ:Sto):zJ [.str (zk xs)] θ=.ok (itp xs) θ:=by
  have dl:=ZdH xs
  have fi:=ZgG h
  have io:=Zgk (w:=zk xs) (F:=hexT) (by
    rw [zB]
    intro e
    have:=ZdE xs
    rw [e] at this
    have:xs.length=0:=by simp at this; omega
    exact h0 (List.length_eq_zero_iff.mp this)) (fun c hc=>by rw [zB] at hc; have:=fi c hc; exact ⟨this.1,this.2.1⟩) (by omega) θ
  have ln:ZZ [.str (zk xs)] θ=.ok (.int (2*(xs.length:Int))) θ:=by
    unfold ZZ
    simp only [if_pos (show (zk xs).length≤BIG by simp [BIG]; omega)]
    rw [dl]
    simp
  have m1:¬2*(xs.length:Int) % 2=1:=by omega
  have m2:¬(32:Int)<2*(xs.length:Int):=by omega
  have cp:∀ρ:List Sl,ρ[0]?=some (Sl.val (.str (zk xs)))→ZcA (Zb (mC (.int 0)) (Zb (mCB ZZ (Zb (Zd 0) Zg)) (Zb (mC (.int 2)) Zg))) [0] (mCB zc (Zb (mOp ixM (Zd 1) (Zd 0)) (Zb (mOp ixM (Zd 1) (mOp Zz (Zd 0) (mC (.int 1)))) Zg))) ρ θ=.ok (il xs) θ:=by
    intro ρ hr
    unfold ZcA
    simp only [z7,Za5,x_c,ZhB,zq,hr,R.bind_ok,ln]
    rw [if_pos ⟨trivial,trivial,by omega,by omega⟩]
    have en:((2*(xs.length:Int)).toNat+1)/2=xs.length:=by omega
    rw [en,Zbu (fun d=>match d with | .int j=>.int (xs.getD (j/2).toNat 0) | _=>.non) (twos xs.length) [] ?_ (by simp [twos,BIG]; omega)]
    · rw [List.nil_append]
      have em:(twos xs.length).map (fun d=>match d with | .int j=>D.int (xs.getD (j/2).toNat 0) | _=>.non)=xs.map D.int:=by
        unfold twos
        rw [List.map_map]
        apply List.ext_getElem
        · simp
        · intro i h1 h2
          have hi:i<xs.length:=by simpa using h2
          have:(2*(i:Int)/2).toNat=i:=by omega
          simp [this,hi]
      rw [em]
      rfl
    · intro d hd
      obtain ⟨i,hi,rfl⟩:=List.mem_map.mp hd
      have hi':i<xs.length:=List.mem_range.mp hi
      obtain ⟨a1,a2⟩:=ZgH xs i xs[i] (List.getElem?_eq_getElem hi')
      rw [←zB] at a1 a2
      have x1:=ZgB (by omega) a1 θ
      have x2:=ZgB (by omega) a2 θ
      have c1:(((2*i:Nat)):Int)=2*(i:Int):=by omega
      have c2:(((2*i+1:Nat)):Int)=2*(i:Int)+1:=by omega
      rw [c1] at x1
      rw [c2] at x2
      have rb:=Zfb (h xs[i] (List.getElem_mem hi')) θ
      have e2:(2*(i:Int)/2).toNat=i:=by omega
      have gd:xs[i]?.getD 0=xs[i]:=by rw [List.getElem?_eq_getElem hi']; rfl
      simp [Z0,hr,x1,x2,rb,e2,gd]
  have mb:ZfL 2 16:=.inl (by omega)
  simp [zJ,ZbI,Za4,io,ln,m1,m2,cp,mb]
def ZM (s:Seg):List Str:=[txt s.src,txt s.goal,txt s.num,txt s.ans,Zn s.flags,txt s.win,txt s.most]++(if s.data=[] then [] else [zk s.data])
def Zba (s:Seg):Str:=Txt.join (Str.ofString " ") (ZM s)
theorem ZbK {s:Seg} (h:s.Ok):∀w∈ZM s,32∉w.cps.toList∧w.length≤40∧Asc w:=by
  have tx:∀n:Int,0≤n→n≤4294967295→32∉(txt n).cps.toList∧(txt n).length≤40∧Asc (txt n):=fun n h0 h1=>⟨fun hc=>by have:=Zau h0 32 hc; omega,by have:=Zaf h0 h1; omega,Zcm h0⟩
  have hs:=h.src
  have hg:=h.goal
  have hn:=h.num
  have ha:=h.ans
  have hw:=h.win
  have hm:0≤s.most∧s.most≤65535:=by rcases h.most with e | e<;>omega
  have ff:=Zbz h.flags
  have fl:(Zn s.flags).length≤40:=by
    have:∀i:Fin 32,(Zn (i.val:Int)).length≤40:=by decide +kernel
    have z:=this ⟨s.flags.toNat,by have:=h.flags; omega⟩
    simp only [show ((s.flags.toNat:Nat):Int)=s.flags by have:=h.flags; omega] at z
    exact z
  intro w hw'
  unfold ZM at hw'
  rcases List.mem_append.mp hw' with z | z
  · simp only [List.mem_cons,List.not_mem_nil,or_false] at z
    rcases z with rfl | rfl | rfl | rfl | rfl | rfl | rfl
    · exact tx _ (by omega) (by omega)
    · exact tx _ (by omega) (by omega)
    · exact tx _ (by omega) (by omega)
    · exact tx _ (by omega) (by omega)
    · exact ⟨ff.2,fl,ff.1⟩
    · exact tx _ (by omega) (by omega)
    · exact tx _ (by omega) (by omega)
  · split at z
    · simp at z
    · simp only [List.mem_cons,List.not_mem_nil,or_false] at z
      subst z
      have fi:=ZgG h.data.1
      have dl:=ZdH s.data
      have:=h.data.2
      refine ⟨fun hc=>?_,by omega,fun c hc=>?_⟩
      · rw [zB] at hc
        exact (fi 32 hc).2.2 rfl
      · rw [zB] at hc
        exact (fi c hc).1
theorem Zbm (s:Seg):(ZM s).length=if s.data=[] then 7 else 8:=by
  unfold ZM
  split<;>simp
theorem ZcB (s:Seg):Zba s=Str.join (Str.ofString " ") (ZM s):=by
  unfold Zba Txt.join
  exact StrLaws.glued_eq_join _ _
theorem z0 (a b:Str):(a++b).length=a.length+b.length:=by
  rw [My.zL,My.zL,My.zL,ZL,List.length_append]
theorem ZcM:(Str.ofString " ").length=1:=by decide
theorem Zdy:∀ws:List Str,(∀w∈ws,w.length≤40)→(Str.join (Str.ofString " ") ws).length≤ws.length*41
  | [],_=>by decide
  | [a],h=>by
    have:=h a (by simp)
    show a.length≤_
    simp
    omega
  | a::b::r,h=>by
    have h1:=h a (by simp)
    have ih:=Zdy (b::r) fun w hw=>h w (List.mem_cons_of_mem _ hw)
    show (a++Str.ofString " "++Str.join (Str.ofString " ") (b::r)).length≤_
    rw [z0,z0,ZcM]
    simp only [List.length_cons] at ih ⊢
    omega
theorem Zio {s:Seg} (h:s.Ok):(Zba s).length≤328:=by
  rw [ZcB]
  have:=Zdy (ZM s) fun w hw=>(ZbK h w hw).2.1
  have e:=Zbm s
  split at e<;>omega
theorem ZiV {s:Seg} (h:s.Ok) (θ:Sto) (ρ:List Sl) (h0:ρ[0]?=some (Sl.val (.str (Zba s)))):ZaS (Zd 0) (mC (.str " ")) ρ θ=.ok (.lst ((ZM s).map D.str)) θ:=by
  have ne:ZM s≠[]:=by
    have e:=Zbm s
    intro z
    rw [z] at e
    split at e<;>simp at e
  have sj:=ZbL (ZM s) ne fun w hw=>(ZbK h w hw).1
  rw [←ZcB] at sj
  have ll:=Zio h
  have sp:Builtin.Str.partsBetween (Zba s) (Builtin.Str.occurrences (Zba s) (Str.ofString " ") 0 (Zba s).length ((Zba s).length+1)) (Str.ofString " ").length=ZM s:=by
    have q:=Zag (Zba s)
    rw [sj] at q
    rw [ZcM,Zcl,ZbO]
    exact q.symm
  have e:=Zbm s
  have lw:(ZM s).length≤8:=by split at e<;>omega
  unfold ZaS
  rw [zq,h0]
  simp only [R.bind_ok,x_c]
  rw [if_pos ⟨by decide,by simp [BIG]; omega,by rw [sp]; simp [BIG]; omega,by rw [sj]; simp [BIG]; omega⟩,sj]
theorem ZiW {s:Seg} (h:s.Ok) (θ:Sto):Zbo [.str (Zba s)] θ=.ok s.d θ:=by
  have hs:=h.src
  have hg:=h.goal
  have hn:=h.num
  have ha:=h.ans
  have hw:=h.win
  have r1:=zg (n:=s.src) (g:=65535) (by omega) (by omega) (.inl rfl) θ
  have r2:=zg (n:=s.goal) (g:=65535) (by omega) (by omega) (.inl rfl) θ
  have r3:=zg (n:=s.num) (g:=4294967295) (by omega) (by omega) (.inr rfl) θ
  have r4:=zg (n:=s.ans) (g:=4294967295) (by omega) (by omega) (.inr rfl) θ
  have r5:=Zeq h.flags θ
  have r6:=zg (n:=s.win) (g:=65535) (by omega) (by omega) (.inl rfl) θ
  have r7:=Ze9 (m:=s.most) (f:=s.flags) h.most h.flags θ
  have sp:=ZiV h θ
  have fin:∀d,d=itp s.data→Zz (.tup [.int s.src,.int s.goal,.int s.num,.int s.ans]) (.tup [.int s.flags,.int s.win,.int s.most,d]) θ=.ok s.d θ:=fun d hd=>by rw [hd]; rfl
  have fi2:Zz (.tup [.int s.src,.int s.goal]) (.tup [.int s.num,.int s.ans]) θ=.ok (.tup [.int s.src,.int s.goal,.int s.num,.int s.ans]) θ:=rfl
  by_cases c:s.data=[]
  · have c0:D.tup []=itp s.data:=by rw [c]; rfl
    have wl:(ZM s).map D.str=[.str (txt s.src),.str (txt s.goal),.str (txt s.num),.str (txt s.ans),.str (Zn s.flags),.str (txt s.win),.str (txt s.most)]:=by
      unfold ZM
      rw [if_pos c]
      rfl
    rw [wl] at sp
    have ni:Zab (.int 7) (.tup [.int 7,.int 8]) θ=.ok (.bl false) θ:=rfl
    have f1:=fin (.tup []) c0
    have l7:ZZ [.lst [.str (txt s.src),.str (txt s.goal),.str (txt s.num),.str (txt s.ans),.str (Zn s.flags),.str (txt s.win),.str (txt s.most)]] θ=.ok (.int 7) θ:=rfl
    have ix:∀k:Int,ixM (.lst [.str (txt s.src),.str (txt s.goal),.str (txt s.num),.str (txt s.ans),.str (Zn s.flags),.str (txt s.win),.str (txt s.most)]) (.int k) θ=match atI [D.str (txt s.src),.str (txt s.goal),.str (txt s.num),.str (txt s.ans),.str (Zn s.flags),.str (txt s.win),.str (txt s.most)] k with | some d=>.ok d θ | none=>.bad:=fun k=>rfl
    have i0:ixM (.lst [.str (txt s.src),.str (txt s.goal),.str (txt s.num),.str (txt s.ans),.str (Zn s.flags),.str (txt s.win),.str (txt s.most)]) (.int 0) θ=.ok (.str (txt s.src)) θ:=rfl
    have i1:ixM (.lst [.str (txt s.src),.str (txt s.goal),.str (txt s.num),.str (txt s.ans),.str (Zn s.flags),.str (txt s.win),.str (txt s.most)]) (.int 1) θ=.ok (.str (txt s.goal)) θ:=rfl
    have i2:ixM (.lst [.str (txt s.src),.str (txt s.goal),.str (txt s.num),.str (txt s.ans),.str (Zn s.flags),.str (txt s.win),.str (txt s.most)]) (.int 2) θ=.ok (.str (txt s.num)) θ:=rfl
    have i3:ixM (.lst [.str (txt s.src),.str (txt s.goal),.str (txt s.num),.str (txt s.ans),.str (Zn s.flags),.str (txt s.win),.str (txt s.most)]) (.int 3) θ=.ok (.str (txt s.ans)) θ:=rfl
    have i4:ixM (.lst [.str (txt s.src),.str (txt s.goal),.str (txt s.num),.str (txt s.ans),.str (Zn s.flags),.str (txt s.win),.str (txt s.most)]) (.int 4) θ=.ok (.str (Zn s.flags)) θ:=rfl
    have i5:ixM (.lst [.str (txt s.src),.str (txt s.goal),.str (txt s.num),.str (txt s.ans),.str (Zn s.flags),.str (txt s.win),.str (txt s.most)]) (.int 5) θ=.ok (.str (txt s.win)) θ:=rfl
    have i6:ixM (.lst [.str (txt s.src),.str (txt s.goal),.str (txt s.num),.str (txt s.ans),.str (Zn s.flags),.str (txt s.win),.str (txt s.most)]) (.int 6) θ=.ok (.str (txt s.most)) θ:=rfl
    obtain ⟨L,hL⟩:∃L,L=D.lst [.str (txt s.src),.str (txt s.goal),.str (txt s.num),.str (txt s.ans),.str (Zn s.flags),.str (txt s.win),.str (txt s.most)]:=⟨_,rfl⟩
    rw [←hL] at l7 i0 i1 i2 i3 i4 i5 i6
    simp only [←hL] at sp
    simp [Zbo,ZcO,Zbg,sp,l7,ni,i0,i1,i2,i3,i4,i5,i6,r1,r2,r3,r4,r5,r6,r7,fi2,f1]
  · have rd:=Zfa h.data.1 h.data.2 c θ
    have wl:(ZM s).map D.str=[.str (txt s.src),.str (txt s.goal),.str (txt s.num),.str (txt s.ans),.str (Zn s.flags),.str (txt s.win),.str (txt s.most),.str (zk s.data)]:=by
      unfold ZM
      rw [if_neg c]
      rfl
    rw [wl] at sp
    have ni:Zab (.int 8) (.tup [.int 7,.int 8]) θ=.ok (.bl false) θ:=rfl
    have f1:=fin (itp s.data) rfl
    have l7:ZZ [.lst [.str (txt s.src),.str (txt s.goal),.str (txt s.num),.str (txt s.ans),.str (Zn s.flags),.str (txt s.win),.str (txt s.most),.str (zk s.data)]] θ=.ok (.int 8) θ:=rfl
    have i0:ixM (.lst [.str (txt s.src),.str (txt s.goal),.str (txt s.num),.str (txt s.ans),.str (Zn s.flags),.str (txt s.win),.str (txt s.most),.str (zk s.data)]) (.int 0) θ=.ok (.str (txt s.src)) θ:=rfl
    have i1:ixM (.lst [.str (txt s.src),.str (txt s.goal),.str (txt s.num),.str (txt s.ans),.str (Zn s.flags),.str (txt s.win),.str (txt s.most),.str (zk s.data)]) (.int 1) θ=.ok (.str (txt s.goal)) θ:=rfl
    have i2:ixM (.lst [.str (txt s.src),.str (txt s.goal),.str (txt s.num),.str (txt s.ans),.str (Zn s.flags),.str (txt s.win),.str (txt s.most),.str (zk s.data)]) (.int 2) θ=.ok (.str (txt s.num)) θ:=rfl
    have i3:ixM (.lst [.str (txt s.src),.str (txt s.goal),.str (txt s.num),.str (txt s.ans),.str (Zn s.flags),.str (txt s.win),.str (txt s.most),.str (zk s.data)]) (.int 3) θ=.ok (.str (txt s.ans)) θ:=rfl
    have i4:ixM (.lst [.str (txt s.src),.str (txt s.goal),.str (txt s.num),.str (txt s.ans),.str (Zn s.flags),.str (txt s.win),.str (txt s.most),.str (zk s.data)]) (.int 4) θ=.ok (.str (Zn s.flags)) θ:=rfl
    have i5:ixM (.lst [.str (txt s.src),.str (txt s.goal),.str (txt s.num),.str (txt s.ans),.str (Zn s.flags),.str (txt s.win),.str (txt s.most),.str (zk s.data)]) (.int 5) θ=.ok (.str (txt s.win)) θ:=rfl
    have i6:ixM (.lst [.str (txt s.src),.str (txt s.goal),.str (txt s.num),.str (txt s.ans),.str (Zn s.flags),.str (txt s.win),.str (txt s.most),.str (zk s.data)]) (.int 6) θ=.ok (.str (txt s.most)) θ:=rfl
    have i7:ixM (.lst [.str (txt s.src),.str (txt s.goal),.str (txt s.num),.str (txt s.ans),.str (Zn s.flags),.str (txt s.win),.str (txt s.most),.str (zk s.data)]) (.int 7) θ=.ok (.str (zk s.data)) θ:=rfl
    obtain ⟨L,hL⟩:∃L,L=D.lst [.str (txt s.src),.str (txt s.goal),.str (txt s.num),.str (txt s.ans),.str (Zn s.flags),.str (txt s.win),.str (txt s.most),.str (zk s.data)]:=⟨_,rfl⟩
    rw [←hL] at l7 i0 i1 i2 i3 i4 i5 i6 i7
    simp only [←hL] at sp
    simp [Zbo,ZcO,Zbg,sp,l7,ni,i0,i1,i2,i3,i4,i5,i6,i7,r1,r2,r3,r4,r5,r6,r7,rd,fi2,f1]
theorem ZcK {S:Src} {all:List D} {tst:D→Sto→R Bool} {elt:D→Sto→R D} {θ:Sto} (p:D→Bool) (f:D→D) (hS:S.items θ=some all):∀(xs acc:List D),(∀x∈xs,tst x θ=.ok (p x) θ∧elt x θ=.ok (f x) θ)→acc.length+xs.length≤BIG→
    ZaZ S all tst elt xs acc θ=.ok (.lst (acc++(xs.filter p).map f)) θ
  | [],acc,_,h=>by
    unfold ZaZ
    rw [if_pos ⟨hS,by simpa using h⟩]
    simp
  | x::r,acc,he,h=>by
    obtain ⟨h1,h2⟩:=he x (by simp)
    unfold ZaZ
    rw [if_pos hS,h1,R.bind_ok]
    cases q:p x with
    | true=>
      rw [if_pos rfl,h2,R.bind_ok,ZcK p f hS r (acc++[f x]) (fun y hy=>he y (List.mem_cons_of_mem _ hy)) (by simp at h ⊢; omega)]
      simp [q]
    | false=>
      rw [if_neg (by decide),ZcK p f hS r acc (fun y hy=>he y (List.mem_cons_of_mem _ hy)) (by simp at h ⊢; omega)]
      simp [q]
end
end My
namespace My
open PySem L2 L2.MM
noncomputable section
def ZdO:SM:=(Zfs (mIn (mOp ixM (Zd 0) (mC (.int 7)))) (gNm 6) (Zx 5 (mOp Zz (mOp Zz (Zd 5) (mOp ixM (mC (.str "0123456789abcdef")) (mOp ZcH (Zd 6) (mC (.int 16))))) (mOp ixM (mC (.str "0123456789abcdef")) (mOp ZU (Zd 6) (mC (.int 16)))))))
def ZbX:SM:=(mIf (Za8 (Zd 5)) (Zil (Zim (Zd 4) (Zd 5))) zK)
def ZdP:SM:=(Zv (Zx 1 (zA (Zb (mC (.str "fin")) (Zb (mC (.str "syn")) (Zb (mC (.str "rst")) (Zb (mC (.str "psh")) (Zb (mC (.str "ack")) Zg)))))))
  (Zv (Zx 2 (zA (Zb (mC (.int 1)) (Zb (mC (.int 2)) (Zb (mC (.int 4)) (Zb (mC (.int 8)) (Zb (mC (.int 16)) Zg)))))))
  (Zv (Zx 3 (Zah (mC (.str "+")) (ZbU (Zad (Zb (mC (.int 5)) Zg)) [1,0,2] (Zl (mOp eqM (mOp ZU (mOp ZcH (mOp ixM (Zd 2) (mC (.int 4))) (mOp ixM (Zd 3) (Zd 0))) (mC (.int 2))) (mC (.int 1)))) (mOp ixM (Zd 1) (Zd 0)))))
  (Zv (Zx 4 (ZbF (mIn (mSl (Zd 0) Z8 (zR (mC (.int 4))))) [] (mCB Zap (Zb (Zd 0) Zg))))
  (Zv (Zx 4 (mOp Zhr (Zd 4) (zA (Zb (ZeO (Za8 (Zd 3)) (Zd 3) (mC (.str "none"))) (Zb (mCB Zap (Zb (mOp ixM (Zd 0) (mC (.int 5))) Zg)) (Zb (mCB Zap (Zb (mOp ixM (Zd 0) (mC (.int 6))) Zg)) Zg))))))
  (Zv (Zx 5 (mC (.str "")))
  (Zv ZdO
  (Zv ZbX
  (zY (Zd 4))))))))))
def ZcC:GM:=ZaE 1 7 ZdP
def Zbj:SM:=(mIf (Zl (mOp eqM (Zd 2) (mC (.int 7)))) (Zv (Za9 (Zd 1) (mC (.int 6)) (mC (.str "16")))
                  (Za9 (Zd 1) (mC (.int 4)) (mOp ixM (zA (Zb (mC (.str "none")) (Zb (mC (.str "ack")) (Zb (mC (.str "fin")) (Zb (mC (.str "rst+psh")) Zg))))) (mOp ZU (mCB ZJ (Zb (Zd 0) (Zb (mC (.int 52)) Zg))) (mC (.int 4)))))) (Za9 (Zd 1) (mC (.int 4)) (mOp Zz (mOp ixM (Zd 1) (mC (.int 4))) (mC (.str " ")))))
def zM:SM:=(mIf (Zl (mOp eqM (Zd 2) (mC (.int 6)))) (Za9 (Zd 1) (mC (.int 6)) (mCB Zap (Zb (mOp Zz (mC (.int 1)) (mOp ZU (mCB ZJ (Zb (Zd 0) (Zb (mC (.int 52)) Zg))) (mC (.int 3)))) Zg))) Zbj)
def Zbi:SM:=(mIf (Zl (mOp eqM (Zd 2) (mC (.int 5)))) (Zx 1 (mSl (Zd 1) Z8 (zR (mOp ZU (mCB ZJ (Zb (Zd 0) (Zb (mC (.int 52)) Zg))) (mC (.int 7)))))) zM)
def Zao:SM:=(mIf (Zl (mOp eqM (Zd 2) (mC (.int 4)))) (Zx 1 (mOp Zz (mSl (Zd 1) Z8 (zR (mC (.int 7)))) (zA (Zb (mC (.str "00")) (Zb (mC (.str "00")) Zg))))) Zbi)
def zp:SM:=(mIf (Zl (mOp eqM (Zd 2) (mC (.int 3)))) (Zx 1 (mOp Zz (mSl (Zd 1) Z8 (zR (mC (.int 7)))) (mSl (mSl (zA (Zb (mC (.str "abc")) (Zb (mC (.str "AB")) (Zb (mC (.str "0g")) (Zb (mC (.str "")) (Zb (mC (.str "0 1")) (Zb (mOp ZcR (mC (.str "00")) (mC (.int 17))) (Zb (mC (.str "0")) Zg)))))))) (zR (mOp ZU (mCB ZJ (Zb (Zd 0) (Zb (mC (.int 52)) Zg))) (mC (.int 7)))) Z8) Z8 (zR (mC (.int 1)))))) Zao)
def Zbh:SM:=(mIf (Zl (mOp eqM (Zd 2) (mC (.int 2)))) (Zv (Zx 5 (zA (Zb (mC (.str "")) (Zb (mC (.str "ack+fin")) (Zb (mC (.str "fin+fin")) (Zb (mC (.str "none+ack")) (Zb (mC (.str "Fin")) (Zb (mC (.str "fin+")) (Zb (mC (.str "+ack")) (Zb (mC (.str "urg")) (Zb (mC (.str "syn+fin")) Zg)))))))))))
        (Za9 (Zd 1) (mC (.int 4)) (mOp ixM (Zd 5) (mOp ZU (mCB ZJ (Zb (Zd 0) (Zb (mC (.int 52)) Zg))) (mC (.int 9)))))) zp)
def Zan:SM:=(mIf (Zl (mOp eqM (Zd 2) (mC (.int 1)))) (Zv (Zx 6 (mOp ixM (zA (Zb (mC (.int 65536)) (Zb (mC (.int 65536)) (Zb (mC (.int 4294967296)) (Zb (mC (.int 4294967296)) (Zb (mC (.int 0)) (Zb (mC (.int 65536)) (Zb (mC (.int 65536)) Zg)))))))) (Zd 3)))
      (Za9 (Zd 1) (Zd 3) (mCB Zap (Zb (mOp Zz (Zd 6) (mOp ZU (mCB ZJ (Zb (Zd 0) (Zb (mC (.int 52)) Zg))) (mOp Zlj (mC (.int 10)) (mC (.int 6))))) Zg)))) Zbh)
def b_l_wrong_8:SM:=(mIf (Zl (mOp eqM (Zd 2) (mC (.int 0)))) (Zv (Zx 5 (zA (Zb (mOp Zz (mC (.str "0")) (Zd 4)) (Zb (mOp Zz (Zd 4) (mC (.str "x"))) (Zb (mC (.str "")) (Zb (mOp Zz (mC (.str "+")) (Zd 4)) (Zb (mOp Zz (Zd 4) (mC (.str " "))) (Zb (mOp Zz (mC (.str " ")) (Zd 4)) (Zb (mOp Zz (mC (.str "-")) (Zd 4)) Zg)))))))))
    (Za9 (Zd 1) (Zd 3) (mOp ixM (Zd 5) (mOp ZU (mCB ZJ (Zb (Zd 0) (Zb (mC (.int 52)) Zg))) (mC (.int 7)))))) Zan)
def ZcP:SM:=(Zv (Zx 2 (mOp ZU (mCB ZJ (Zb (Zd 0) (Zb (mC (.int 50)) Zg))) (mC (.int 9))))
  (Zv (Zx 3 (mOp ixM (zA (Zb (mC (.int 0)) (Zb (mC (.int 1)) (Zb (mC (.int 2)) (Zb (mC (.int 3)) (Zb (mC (.int 5)) (Zb (mC (.int 6)) Zg))))))) (mOp ZU (mCB ZJ (Zb (Zd 0) (Zb (mC (.int 51)) Zg))) (mC (.int 6)))))
  (Zv (Zx 4 (mOp ixM (Zd 1) (Zd 3)))
  (Zv b_l_wrong_8
  (zY (Zah (mC (.str " ")) (Zd 1)))))))
def ZaV:GM:=ZaE 2 7 ZcP
def ZdN:SM:=(Zv (Zar "NoSegment" (mOr (Zfr (Za8 (mCB Z7 (Zb (Zd 0) (Zb (mC (.str "0123456789abcdef")) Zg))))) (mOr (Zl (mOp eqM (mOp ZU (mCB ZZ (Zb (Zd 0) Zg)) (mC (.int 2))) (mC (.int 1)))) (Zl (mOp gtM (mCB ZZ (Zb (Zd 0) Zg)) (mOp Zcz (mC (.int 2)) (mC (.int 16))))))))
  (mNS (zY (mCB Zcp (Zb (ZcA (Zb (mC (.int 0)) (Zb (mCB ZZ (Zb (Zd 0) Zg)) (Zb (mC (.int 2)) Zg))) [0] (mCB zc (Zb (mOp ixM (Zd 1) (Zd 0)) (Zb (mOp ixM (Zd 1) (mOp Zz (Zd 0) (mC (.int 1)))) Zg)))) Zg)))))
def zW:GM:=Za2 1 1 ZdN
def Z5:SM:=(mIf (Zl (mOp eqM (mCB ZW (Zb (Zd 1) Zg)) (Zd 0))) (zY (Zd 1)) zK)
def zh:SM:=(Zfs (Zad (Zb (mOp Zz (mC (.int 31)) (mC (.int 1))) Zg)) (gNm 1) Z5)
def Zc2:SM:=(Zv (mNS zh)
  (ZeN "NoSegment"))
def zE:GM:=Za2 1 2 Zc2
def ZcN:SM:=(Zv (Zar "NoSegment" (mOr (Zfr (Za8 (mCB Z7 (Zb (Zd 0) (Zb (mC (.str "0123456789")) Zg))))) (Zl (mOp gtM (mCB ZZ (Zb (Zd 0) Zg)) (mCB ZZ (Zb (mCB Zap (Zb (Zd 1) Zg)) Zg))))))
  (Zv (mNS (Zx 2 (mCB Zch (Zb (Zd 0) Zg))))
  (Zv (Zar "NoSegment" (mOr (Zl (mOp gtM (Zd 2) (Zd 1))) (Zl (mOp neM (mCB Zap (Zb (Zd 2) Zg)) (Zd 0)))))
  (mNS (zY (Zd 2))))))
def Zu:GM:=Za2 2 3 ZcN
def ZdM:SM:=(Zv (ZaD 2 (Zcd Zu (Zb (Zd 0) (Zb (mC (.int 65535)) Zg))))
  (Zv (Zar "NoSegment" (Zhf (Zl (mOp neM (Zd 2) (mC (.int 0)))) (mOr (Zl (mOp ltM (Zd 2) (mC (.int 4)))) (Zl (mOp eqM (mCB Za1 (Zb (Zd 1) (Zb (mC (.int 2)) Zg))) (mC (.int 0)))))))
  (mNS (zY (Zd 2)))))
def zU:GM:=Za2 2 3 ZdM
def Zgd:SM:=(Zv (mNS (Zx 1 (ZaS (Zd 0) (mC (.str " ")))))
  (Zv (Zar "NoSegment" (Zl (mOp Zab (mCB ZZ (Zb (Zd 1) Zg)) (zX (Zb (mC (.int 7)) (Zb (mOp Zz (mC (.int 7)) (mC (.int 1))) Zg))))))
  (Zv (ZaD 2 (zX (Zb (Zcd Zu (Zb (mOp ixM (Zd 1) (mC (.int 0))) (Zb (mC (.int 65535)) Zg))) (Zb (Zcd Zu (Zb (mOp ixM (Zd 1) (mC (.int 1))) (Zb (mC (.int 65535)) Zg))) Zg))))
  (Zv (ZaD 3 (zX (Zb (Zcd Zu (Zb (mOp ixM (Zd 1) (mC (.int 2))) (Zb (mC (.int 4294967295)) Zg))) (Zb (Zcd Zu (Zb (mOp ixM (Zd 1) (mC (.int 3))) (Zb (mC (.int 4294967295)) Zg))) Zg))))
  (Zv (ZaD 4 (Zcd zE (Zb (mOp ixM (Zd 1) (mC (.int 4))) Zg)))
  (Zv (ZaD 5 (Zcd Zu (Zb (mOp ixM (Zd 1) (mC (.int 5))) (Zb (mC (.int 65535)) Zg))))
  (Zv (ZaD 6 (Zcd zU (Zb (mOp ixM (Zd 1) (mC (.int 6))) (Zb (Zd 4) Zg))))
  (Zv (ZaD 7 (Zik (Zl (mOp gtM (mCB ZZ (Zb (Zd 1) Zg)) (mC (.int 7)))) (Zcd zW (Zb (mOp ixM (Zd 1) (mC (.int 7))) Zg)) (mN (zX Zg))))
  (mNS (zY (mOp Zz (mOp Zz (Zd 2) (Zd 3)) (zX (Zb (Zd 4) (Zb (Zd 5) (Zb (Zd 6) (Zb (Zd 7) Zg))))))))))))))))
def z9:GM:=Za2 1 8 Zgd
def inF (F:Str) (c:Nat):Bool:=decide (c∈F.cps.toList)
def ZaF (w F:Str):Bool:=!w.cps.toList.isEmpty && w.cps.toList.all (inF F)
theorem zr {a b:SM} {ρ:List Sl} {θ θ':Sto} {c:Str} (h:a ρ θ=.ex c θ'):Zv a b ρ θ=.ex c θ':=by
  unfold Zv Zdh
  rw [h,R.bind_ex]
theorem zi {a b:SM} {ρ ρ':List Sl} {θ θ':Sto} (h:a ρ θ=.ok (.nx,ρ') θ'):Zv a b ρ θ=b ρ' θ':=by
  rw [zb,h,Zs]
theorem Ziy {c:Str} {t:TMr} {ρ:List Sl} {θ θ':Sto} (h:t ρ θ=.ok true θ'):Zar c t ρ θ=.ex c θ':=by
  unfold Zar
  rw [h]
  rfl
theorem Ziz {c:Str} {t:TMr} {ρ:List Sl} {θ θ':Sto} (h:t ρ θ=.ok false θ'):Zar c t ρ θ=.ok (.nx,ρ) θ':=by
  unfold Zar
  rw [h]
  rfl
theorem Zdt {f:SM} {ρ:List Sl} {θ θ':Sto} {p:Fl×List Sl} (h:f ρ θ=.ok p θ'):mNS f ρ θ=.ok p θ':=by
  unfold mNS
  rw [h]
  rfl
theorem Zak {np nn:Nat} {fb:SM} {ds:List D} {θ θ':Sto} {c:Str} (hl:ds.length=np) (h:fb (Z1 nn ds) θ=.ex c θ'):Za2 np nn fb ds θ=.ex c θ':=by
  unfold Za2
  rw [if_pos hl,h]
theorem ZeU {np nn:Nat} {fb:SM} {ds:List D} {θ θ':Sto} {d:D} {ρ:List Sl} (hl:ds.length=np) (h:fb (Z1 nn ds) θ=.ok (.rt d,ρ) θ'):Za2 np nn fb ds θ=.ok d θ':=by
  unfold Za2
  rw [if_pos hl,h]
theorem bls_map (p:Nat→Bool):∀cs:List Nat,ZcL (cs.map fun c=>D.bl (p c))=some (cs.map p)
  | []=>rfl
  | c::r=>by
    have:=bls_map p r
    simp only [List.map_cons,ZcL,this]
    rfl
theorem ZhH {w F:Str} (ha:Asc w) (hl:w.length≤1000) (θ:Sto):Z7 [.str w,.str F] θ=.ok (.bl (ZaF w F)) θ:=by
  have asc:(w.cps.all (· < 128))=true:=by
    rw [Array.all_eq_true_iff_forall_mem]
    intro c hc
    have:=ha c (Array.mem_toList_iff.mpr hc)
    simpa using this
  have ll:(zQ w).length≤BIG:=by
    have:(zQ w).length=w.length:=by simp [zQ,Str.length]
    rw [this]
    simp [BIG]
    omega
  have n1:=ZeF (a:=w) (b:=Str.ofString "") ha (ZiO _ (by decide)) θ
  have e0:(w=Str.ofString "")↔w.cps.toList=[]:=by
    constructor
    · intro e; rw [e]; decide
    · intro e; exact ZaM (by rw [e]; decide)
  by_cases c:w.cps.toList=[]
  · rw [decide_eq_true (e0.mpr c)] at n1
    have n2:neM (.str w) (.str Err.none.s) θ=.ok (.bl false) θ:=n1
    have r:ZaF w F=false:=by simp [ZaF,c]
    rw [r]
    simp [Z7,Zbv,n2]
  · rw [decide_eq_false (fun z=>c (e0.mp z))] at n1
    have n2:neM (.str w) (.str Err.none.s) θ=.ok (.bl true) θ:=n1
    have cp:∀ρ:List Sl,ρ[0]?=some (Sl.val (.str w))→ρ[1]?=some (Sl.val (.str F))→ZbS (Zd 0) [1] (mOp Zfx (Zd 0) (Zd 1)) ρ θ=.ok (.lst (w.cps.toList.map fun c=>.bl (inF F c))) θ:=by
      intro ρ h0 h1
      unfold ZbS
      rw [zq,h0]
      simp only [R.bind_ok]
      rw [if_pos ⟨asc,ll⟩,Zbu (fun d=>match d with | .str x=>.bl (inF F (x.cps.toList.headD 0)) | _=>.non) _ _ ?_ (by simpa using ll)]
      · rw [List.nil_append]
        unfold zQ
        rw [List.map_map]
        rfl
      · intro x hx
        obtain ⟨c,hc,rfl⟩:=List.mem_map.mp hx
        have fo:(!(Builtin.Str.occurrences F ⟨#[c]⟩ 0 F.length 1).isEmpty)=inF F c:=StrLaws.found_one F c
        have e:Zfx (.str ⟨#[c]⟩) (.str F) θ=.ok (.bl (inF F c)) θ:=by
          unfold Zfx
          simp only [fo]
        simp [Z0,h1,e]
    obtain ⟨cs,hcs⟩:∃cs,cs=w.cps.toList:=⟨_,rfl⟩
    have r:ZaF w F=cs.all (inF F):=by
      unfold ZaF
      rw [←hcs] at c ⊢
      have:cs.isEmpty=false:=by cases cs with | nil=>exact absurd rfl c | cons _ _=>rfl
      rw [this]
      rfl
    rw [←hcs] at cp
    have al:Zhq [D.lst (cs.map fun c=>D.bl (inF F c))] θ=.ok (.bl (cs.all (inF F))) θ:=by
      rw [ZjJ,bls_map]
      simp
    rw [r]
    obtain ⟨L,hL⟩:∃L,L=D.lst (cs.map fun c=>D.bl (inF F c)):=⟨_,rfl⟩
    rw [←hL] at al
    simp only [←hL] at cp
    simp [Z7,Zbv,n2,cp,al]
theorem ZiD:∀c∈figT.cps.toList,48≤c∧c≤57:=by decide
def zz (w:Str) (g:Int):Option Int:=
  if ZaF w figT=false∨(txt g).length<w.length then none
  else if g<(PySem.NumText.digitsVal w.cps.toList:Int)∨txt (PySem.NumText.digitsVal w.cps.toList:Int)≠w then none
  else some (PySem.NumText.digitsVal w.cps.toList:Int)
theorem ZhG {w:Str} {g:Int} (ha:Asc w) (hl:w.length≤1000) (hg:g=65535∨g=4294967295) (θ:Sto):Zu [.str w,.int g] θ=match zz w g with
    | some n=>.ok (.int n) θ
    | none=>.ex "NoSegment" θ:=by
  have io:=ZhH (F:=figT) ha hl θ
  have sg:=ZbA (n:=g) (by omega) (by omega) θ
  have tl:=Zaf (n:=g) (by omega) (by omega)
  have ln:ZZ [.str w] θ=.ok (.int w.length) θ:=by
    unfold ZZ
    simp only [if_pos (show w.length≤BIG by simp [BIG]; omega)]
  have lg:ZZ [.str (txt g)] θ=.ok (.int (txt g).length) θ:=by
    unfold ZZ
    simp only [if_pos (show (txt g).length≤BIG by simp [BIG]; omega)]
  have g0:(mOr (Zfr (Za8 (mCB Z7 (Zb (Zd 0) (Zb (mC (.str "0123456789")) Zg))))) (Zl (mOp gtM (mCB ZZ (Zb (Zd 0) Zg)) (mCB ZZ (Zb (mCB Zap (Zb (Zd 1) Zg)) Zg))))) [.val (.str w),.val (.int g),.no] θ=.ok (decide (ZaF w figT=false∨(txt g).length<w.length)) θ:=by
    cases c1:ZaF w figT with
    | false=>
      rw [c1] at io
      simp [io]
    | true=>
      rw [c1] at io
      have e:(decide ((txt g).length<w.length))=decide (((txt g).length:Int)<(w.length:Int)):=by
        rw [decide_eq_decide]
        omega
      simp [io,ln,sg,lg]
  unfold zz
  by_cases c0:ZaF w figT=false∨(txt g).length<w.length
  · rw [if_pos c0]
    rw [decide_eq_true c0] at g0
    exact Zak rfl (zr (Ziy g0))
  · rw [if_neg c0]
    rw [decide_eq_false c0] at g0
    have c1:ZaF w figT=true:=by
      cases h:ZaF w figT with
      | true=>rfl
      | false=>exact absurd (.inl h) c0
    have c2:¬(txt g).length<w.length:=fun z=>c0 (.inr z)
    have ne:w.cps.toList≠[]:=by
      intro e
      unfold ZaF at c1
      rw [e] at c1
      cases c1
    have dg:PySem.NumText.AllDigits w.cps.toList:=by
      intro c hc
      unfold ZaF at c1
      rw [Bool.and_eq_true] at c1
      have z:=List.all_eq_true.mp c1.2 c hc
      exact ZiD c (of_decide_eq_true z)
    have it:=PySem.intText_digits dg ne (by omega)
    obtain ⟨n,hn⟩:∃n:Int,n=(PySem.NumText.digitsVal w.cps.toList:Int):=⟨_,rfl⟩
    have n0:0≤n:=by omega
    rw [←hn] at it ⊢
    have ii:Zch [.str w] θ=.ok (.int n) θ:=by
      unfold Zch
      simp only [it]
      rw [if_pos (by omega)]
    have st:mNS (Zx 2 (mCB Zch (Zb (Zd 0) Zg))) [.val (.str w),.val (.int g),.no] θ=.ok (.nx,[.val (.str w),.val (.int g),.val (.int n)]) θ:=Zdt (by simp [ii])
    have g1:(mOr (Zl (mOp gtM (Zd 2) (Zd 1))) (Zl (mOp neM (mCB Zap (Zb (Zd 2) Zg)) (Zd 0)))) [.val (.str w),.val (.int g),.val (.int n)] θ=.ok (decide (g<n∨txt n≠w)) θ:=by
      by_cases c3:g<n
      · simp [c3]
      · have sn:=ZbA n0 (by omega) θ
        have nn:=ZeF (Zcm n0) ha θ
        simp [c3,sn,nn]
    by_cases c3:g<n∨txt n≠w
    · rw [if_pos c3]
      rw [decide_eq_true c3] at g1
      exact Zak rfl ((zi (Ziz g0)).trans ((zi st).trans (zr (Ziy g1))))
    · rw [if_neg c3]
      rw [decide_eq_false c3] at g1
      exact ZeU rfl ((zi (Ziz g0)).trans ((zi st).trans ((zi (Ziz g1)).trans (Zdt (by simp; rfl)))))
def flagR (w:Str):Option Int:=((List.range 32).find? fun (i:Nat)=>decide (Zn (i:Int)=w)).map fun i=>(i:Int)
theorem Zhk {w:Str} (hw:Asc w) (θ:Sto) (i:Nat) (hi:i<32):Z5 [.val (.str w),.val (.int (i:Int))] θ=if Zn (i:Int)=w then .ok (.rt (.int (i:Int)),[.val (.str w),.val (.int (i:Int))]) θ else .ok (.nx,[.val (.str w),.val (.int (i:Int))]) θ:=by
  have sf:=ZbB (f:=(i:Int)) (by omega) θ
  have ee:=ZiE (Zbz (f:=(i:Int)) (by omega)).1 hw θ
  by_cases c:Zn (i:Int)=w
  · rw [if_pos c]
    rw [decide_eq_true c] at ee
    simp [Z5,sf,ee]
  · rw [if_neg c]
    rw [decide_eq_false c] at ee
    simp [Z5,sf,ee]
theorem Zej {w:Str} (hw:Asc w) (θ:Sto):∀(r:List Nat) (x:Sl),(∀i∈r,i<32)→∃y,forL (.rng 0 32) ((List.range 32).map fun (i:Nat)=>D.int (0+(i:Int))) (gNm 1) Z5 (r.map fun (i:Nat)=>D.int (0+(i:Int))) [.val (.str w),x] θ=match r.find? fun (i:Nat)=>decide (Zn (i:Int)=w) with
    | some i=>.ok (.rt (.int (i:Int)),[.val (.str w),y]) θ
    | none=>.ok (.nx,[.val (.str w),y]) θ
  | [],x,_=>by
    have hit:(Src.rng 0 32).items θ=some ((List.range 32).map fun (i:Nat)=>D.int (0+(i:Int))):=rfl
    refine ⟨x,?_⟩
    simp only [List.map_nil,forL,hit,if_true,List.find?_nil]
  | i::r,x,h=>by
    have hit:(Src.rng 0 32).items θ=some ((List.range 32).map fun (i:Nat)=>D.int (0+(i:Int))):=rfl
    have hi:=h i (by simp)
    have st:=Zhk hw θ i hi
    obtain ⟨y,ih⟩:=Zej hw θ r (.val (.int (i:Int))) fun j hj=>h j (List.mem_cons_of_mem _ hj)
    have hg:gNm 1 (D.int (0+(i:Int))) [.val (.str w),x]=some [.val (.str w),.val (.int (i:Int))]:=by
      rw [Int.zero_add]
      rfl
    by_cases c:Zn (i:Int)=w
    · refine ⟨.val (.int (i:Int)),?_⟩
      rw [if_pos c] at st
      simp only [List.map_cons,forL,hit,if_true,hg]
      rw [st,R.bind_ok,Zd3,List.find?_cons_of_pos (p:=fun (i:Nat)=>decide (Zn (i:Int)=w)) (by simpa using c)]
    · refine ⟨y,?_⟩
      rw [if_neg c] at st
      simp only [List.map_cons,forL,hit,if_true,hg]
      rw [st,R.bind_ok,Zcn,List.find?_cons_of_neg (p:=fun (i:Nat)=>decide (Zn (i:Int)=w)) (by simpa using c)]
      exact ih
theorem ZhI {w:Str} (hw:Asc w) (θ:Sto):zE [.str w] θ=match flagR w with
    | some n=>.ok (.int n) θ
    | none=>.ex "NoSegment" θ:=by
  obtain ⟨y,fl⟩:=Zej hw θ (List.range 32) .no fun i hi=>List.mem_range.mp hi
  have rg:Zad (Zb (mOp Zz (mC (.int 31)) (mC (.int 1))) Zg) [.val (.str w),.no] θ=.ok (.rng 0 32) θ:=by simp
  have lo:zh [.val (.str w),.no] θ=match (List.range 32).find? fun (i:Nat)=>decide (Zn (i:Int)=w) with
      | some i=>.ok (.rt (.int (i:Int)),[.val (.str w),y]) θ
      | none=>.ok (.nx,[.val (.str w),y]) θ:=by
    rw [←fl]
    unfold zh Zfs
    rw [rg,R.bind_ok]
    rfl
  unfold flagR
  cases q:(List.range 32).find? fun (i:Nat)=>decide (Zn (i:Int)=w) with
  | none=>
    rw [q] at lo
    exact Zak rfl ((zi (Zdt lo)).trans rfl)
  | some i=>
    rw [q] at lo
    refine ZeU (ρ:=[.val (.str w),y]) rfl ?_
    show Zv (mNS zh) (ZeN "NoSegment") [.val (.str w),.no] θ=_
    rw [zb,Zdt lo,Zd2]
def ZcS (w:Str) (f:Int):Option Int:=match zz w 65535 with
  | none=>none
  | some m=>if m≠0∧(m<4∨bit f 2=0) then none else some m
theorem Zbn {i:Nat} {f:EM} {ρ:List Sl} {θ θ':Sto} {d:D} (h:f ρ θ=.ok d θ'):ZaD i f ρ θ=.ok (.nx,ρ.set i (.val d)) θ':=by
  unfold ZaD
  rw [h,R.bind_ok]
theorem zT {i:Nat} {f:EM} {ρ:List Sl} {θ θ':Sto} {c:Str} (h:f ρ θ=.ex c θ'):ZaD i f ρ θ=.ex c θ':=by
  unfold ZaD
  rw [h,R.bind_ex]
theorem cbx {f:GM} {fs:AM} {ρ:List Sl} {θ θ':Sto} {ds:List D} (h:fs ρ θ=.ok ds θ'):Zcd f fs ρ θ=f ds θ':=by
  unfold Zcd
  rw [h]
  rfl
theorem ZiX {w:Str} {f:Int} (ha:Asc w) (hl:w.length≤1000) (θ:Sto):zU [.str w,.int f] θ=match ZcS w f with
    | some n=>.ok (.int n) θ
    | none=>.ex "NoSegment" θ:=by
  have nx:=ZhG (g:=65535) ha hl (.inl rfl) θ
  have ca:Zb (Zd 0) (Zb (mC (.int 65535)) Zg) [.val (.str w),.val (.int f),.no] θ=.ok [.str w,.int 65535] θ:=by simp
  unfold ZcS
  cases q:zz w 65535 with
  | none=>
    rw [q] at nx
    exact Zak rfl (zr (zT ((cbx ca).trans nx)))
  | some m=>
    rw [q] at nx
    have s1:ZaD 2 (Zcd Zu (Zb (Zd 0) (Zb (mC (.int 65535)) Zg))) [.val (.str w),.val (.int f),.no] θ=.ok (.nx,[.val (.str w),.val (.int f),.val (.int m)]) θ:=Zbn ((cbx ca).trans nx)
    have g1:(Zhf (Zl (mOp neM (Zd 2) (mC (.int 0)))) (mOr (Zl (mOp ltM (Zd 2) (mC (.int 4)))) (Zl (mOp eqM (mCB Za1 (Zb (Zd 1) (Zb (mC (.int 2)) Zg))) (mC (.int 0)))))) [.val (.str w),.val (.int f),.val (.int m)] θ=.ok (decide (m≠0∧(m<4∨bit f 2=0))) θ:=by
      by_cases c1:m=0
      · simp [c1]
      · by_cases c2:m<4
        · simp [c1,c2]
        · simp [c1,c2]
    by_cases c:m≠0∧(m<4∨bit f 2=0)
    · simp only [if_pos c]
      rw [decide_eq_true c] at g1
      exact Zak rfl ((zi s1).trans (zr (Ziy g1)))
    · simp only [if_neg c]
      rw [decide_eq_false c] at g1
      exact ZeU rfl ((zi s1).trans ((zi (Ziz g1)).trans (Zdt (by simp; rfl))))
def ZaX (w:Str):Prop:=ZaF w hexT=false∨w.length % 2=1∨32<w.length
theorem ZiY {w:Str} (ha:Asc w) (hl:w.length≤1000) (hb:ZaX w) (θ:Sto):zW [.str w] θ=.ex "NoSegment" θ:=by
  have io:=ZhH (F:=hexT) ha hl θ
  have ln:ZZ [.str w] θ=.ok (.int w.length) θ:=by
    unfold ZZ
    simp only [if_pos (show w.length≤BIG by simp [BIG]; omega)]
  have mb:ZfL 2 16:=.inl (by omega)
  have g:(mOr (Zfr (Za8 (mCB Z7 (Zb (Zd 0) (Zb (mC (.str "0123456789abcdef")) Zg))))) (mOr (Zl (mOp eqM (mOp ZU (mCB ZZ (Zb (Zd 0) Zg)) (mC (.int 2))) (mC (.int 1)))) (Zl (mOp gtM (mCB ZZ (Zb (Zd 0) Zg)) (mOp Zcz (mC (.int 2)) (mC (.int 16))))))) [.val (.str w)] θ=.ok true θ:=by
    cases c1:ZaF w hexT with
    | false=>
      rw [c1] at io
      simp [io]
    | true=>
      rw [c1] at io
      rcases hb with z | z | z
      · rw [c1] at z; cases z
      · have:(w.length:Int) % 2=1:=by omega
        simp [io,ln,this]
      · by_cases c2:(w.length:Int) % 2=1
        · simp [io,ln,c2]
        · have:(32:Int)<(w.length:Int):=by omega
          simp [io,ln,c2,mb,this]
  exact Zak rfl (zr (Ziy g))
theorem Zgj {a b:EM} {ρ:List Sl} {θ θ':Sto} {c:Str} (h:a ρ θ=.ex c θ'):zX (Zb a (Zb b Zg)) ρ θ=.ex c θ':=by
  unfold zX Zb
  rw [h]
  rfl
theorem Zgi {a b:EM} {ρ:List Sl} {θ θ1 θ':Sto} {c:Str} {d:D} (h:a ρ θ=.ok d θ1) (h2:b ρ θ1=.ex c θ'):zX (Zb a (Zb b Zg)) ρ θ=.ex c θ':=by
  unfold zX Zb
  rw [h,R.bind_ok]
  simp only [h2,R.bind_ex]
theorem Zgh {a b:EM} {ρ:List Sl} {θ θ1 θ2:Sto} {d e:D} (h:a ρ θ=.ok d θ1) (h2:b ρ θ1=.ok e θ2):zX (Zb a (Zb b Zg)) ρ θ=.ok (.tup [d,e]) θ2:=by
  simp [h,h2]
theorem Ze8 {x:Str} {ws:List Str} (hs:Txt.split x (Str.ofString " ")=ws) (hl:x.length≤900) (hw:ws.length≤900) (θ:Sto) (ρ:List Sl) (h0:ρ[0]?=some (Sl.val (.str x))):ZaS (Zd 0) (mC (.str " ")) ρ θ=.ok (.lst (ws.map D.str)) θ:=by
  have sp:Builtin.Str.partsBetween x (Builtin.Str.occurrences x (Str.ofString " ") 0 x.length (x.length+1)) (Str.ofString " ").length=ws:=by
    have q:=Zag x
    rw [hs] at q
    rw [ZcM,Zcl,ZbO]
    exact q.symm
  unfold ZaS
  rw [zq,h0]
  simp only [R.bind_ok,x_c]
  rw [if_pos ⟨by decide,by simp [BIG]; omega,by rw [sp]; simp [BIG]; omega,by rw [hs]; simp [BIG]; omega⟩,hs]
theorem Zgu (n:Nat) (θ:Sto):Zab (.int (n:Int)) (.tup [.int 7,.int 8]) θ=.ok (.bl (!decide (n=7∨n=8))) θ:=by
  rw [Zjh]
  congr 3
  rw [decide_eq_decide]
  omega
theorem Zew {x:Str} {ws:List Str} (hs:Txt.split x (Str.ofString " ")=ws) (hl:x.length≤900) (hw:ws.length≤900) (hc:ws.length≠7∧ws.length≠8) (θ:Sto):z9 [.str x] θ=.ex "NoSegment" θ:=by
  have sp:=Ze8 hs hl hw θ [.val (.str x),.no,.no,.no,.no,.no,.no,.no] rfl
  have s1:mNS (Zx 1 (ZaS (Zd 0) (mC (.str " ")))) [.val (.str x),.no,.no,.no,.no,.no,.no,.no] θ=.ok (.nx,[.val (.str x),.val (.lst (ws.map D.str)),.no,.no,.no,.no,.no,.no]) θ:=Zdt (by rw [ZbZ,sp]; rfl)
  have ln:ZZ [.lst (ws.map D.str)] θ=.ok (.int (ws.length:Int)) θ:=by simp [ZZ]
  have ni:=Zgu ws.length θ
  rw [decide_eq_false (fun z=>z.elim hc.1 hc.2)] at ni
  have g:Zl (mOp Zab (mCB ZZ (Zb (Zd 1) Zg)) (zX (Zb (mC (.int 7)) (Zb (mOp Zz (mC (.int 7)) (mC (.int 1))) Zg)))) [.val (.str x),.val (.lst (ws.map D.str)),.no,.no,.no,.no,.no,.no] θ=.ok true θ:=by
    simp only [Zhx,Zb0,ZhB,z7,Za5,zq,R.bind_ok,List.getElem?_cons_succ,List.getElem?_cons_zero,ln]
    simp [ni]
  exact Zak rfl ((zi s1).trans (zr (Ziy g)))
end
end My
namespace My
open PySem L2 L2.MM
noncomputable section
def Fit (w:Str):Prop:=Asc w∧w.length≤100
theorem Zds {L:D} {k g:Int} {w:Str} {ρ:List Sl} {θ:Sto} (h1:ρ[1]?=some (Sl.val L)) (hi:ixM L (.int k) θ=.ok (.str w) θ) (hf:Fit w) (hg:g=65535∨g=4294967295):Zcd Zu (Zb (mOp ixM (Zd 1) (mC (.int k))) (Zb (mC (.int g)) Zg)) ρ θ=match zz w g with
    | some n=>.ok (.int n) θ
    | none=>.ex "NoSegment" θ:=by
  have ca:Zb (mOp ixM (Zd 1) (mC (.int k))) (Zb (mC (.int g)) Zg) ρ θ=.ok [.str w,.int g] θ:=by
    simp only [z7,Zb0,zq,h1,R.bind_ok,x_c,hi,Za5]
  rw [cbx ca]
  exact ZhG hf.1 (by have:=hf.2; omega) hg θ
theorem ZfW {x w0 w1 w2 w3 w4 w5 w6:Str} {rest:List Str} (hs:Txt.split x (Str.ofString " ")=w0::w1::w2::w3::w4::w5::w6::rest) (hl:x.length≤900) (hr:rest.length≤1)
    (f0:Fit w0) (f1:Fit w1) (f2:Fit w2) (f3:Fit w3) (f4:Fit w4) (f5:Fit w5) (f6:Fit w6)
    (bad:zz w0 65535=none∨zz w1 65535=none∨zz w2 4294967295=none∨zz w3 4294967295=none∨flagR w4=none∨zz w5 65535=none∨(∀f,flagR w4=some f→ZcS w6 f=none)∨∃w7,rest=[w7]∧Fit w7∧ZaX w7) (θ:Sto):z9 [.str x] θ=.ex "NoSegment" θ:=by
  obtain ⟨L,hL⟩:∃L,L=D.lst ((w0::w1::w2::w3::w4::w5::w6::rest).map D.str):=⟨_,rfl⟩
  have wl:(w0::w1::w2::w3::w4::w5::w6::rest).length=7+rest.length:=by simp; omega
  have sp:=Ze8 hs hl (by rw [wl]; omega) θ [.val (.str x),.no,.no,.no,.no,.no,.no,.no] rfl
  rw [←hL] at sp
  have s1:mNS (Zx 1 (ZaS (Zd 0) (mC (.str " ")))) [.val (.str x),.no,.no,.no,.no,.no,.no,.no] θ=.ok (.nx,[.val (.str x),.val L,.no,.no,.no,.no,.no,.no]) θ:=Zdt (by rw [ZbZ,sp]; rfl)
  have ln:ZZ [L] θ=.ok (.int ((7+rest.length:Nat):Int)) θ:=by
    rw [hL]
    unfold ZZ
    simp
    omega
  have ni:=Zgu (7+rest.length) θ
  rw [decide_eq_true (by omega)] at ni
  have g:Zl (mOp Zab (mCB ZZ (Zb (Zd 1) Zg)) (zX (Zb (mC (.int 7)) (Zb (mOp Zz (mC (.int 7)) (mC (.int 1))) Zg)))) [.val (.str x),.val L,.no,.no,.no,.no,.no,.no] θ=.ok false θ:=by
    simp only [Zhx,Zb0,ZhB,z7,Za5,zq,R.bind_ok,List.getElem?_cons_succ,List.getElem?_cons_zero,ln]
    simp at ni
    simp [ni]
  have ic:∀(k:Nat) (w:Str),k<7→([w0,w1,w2,w3,w4,w5,w6]:List Str)[k]?=some w→ixM L (.int (k:Int)) θ=.ok (.str w) θ:=by
    intro k w hk hw
    have gk:((w0::w1::w2::w3::w4::w5::w6::rest).map D.str)[k]?=some (.str w):=by
      have e:(w0::w1::w2::w3::w4::w5::w6::rest)=[w0,w1,w2,w3,w4,w5,w6]++rest:=rfl
      rw [e,List.map_append,List.getElem?_append_left (by simpa using hk),List.getElem?_map,hw]
      rfl
    rw [hL]
    have ai:=ZdR (n:=k) gk
    unfold ixM ixD
    simp only [seqOf,ZO,Option.bind_some]
    rw [ai]
  have i0:ixM L (.int 0) θ=.ok (.str w0) θ:=ic 0 w0 (by omega) rfl
  have i1:ixM L (.int 1) θ=.ok (.str w1) θ:=ic 1 w1 (by omega) rfl
  have i2:ixM L (.int 2) θ=.ok (.str w2) θ:=ic 2 w2 (by omega) rfl
  have i3:ixM L (.int 3) θ=.ok (.str w3) θ:=ic 3 w3 (by omega) rfl
  have i4:ixM L (.int 4) θ=.ok (.str w4) θ:=ic 4 w4 (by omega) rfl
  have i5:ixM L (.int 5) θ=.ok (.str w5) θ:=ic 5 w5 (by omega) rfl
  have i6:ixM L (.int 6) θ=.ok (.str w6) θ:=ic 6 w6 (by omega) rfl
  refine Zak rfl ((zi s1).trans ((zi (Ziz g)).trans ?_))
  have n0:=fun ρ h=>Zds (ρ:=ρ) (g:=65535) h i0 f0 (.inl rfl)
  have n1:=fun ρ h=>Zds (ρ:=ρ) (g:=65535) h i1 f1 (.inl rfl)
  have n2:=fun ρ h=>Zds (ρ:=ρ) (g:=4294967295) h i2 f2 (.inr rfl)
  have n3:=fun ρ h=>Zds (ρ:=ρ) (g:=4294967295) h i3 f3 (.inr rfl)
  have n5:=fun ρ h=>Zds (ρ:=ρ) (g:=65535) h i5 f5 (.inl rfl)
  cases q0:zz w0 65535 with
  | none=>
    rw [q0] at n0
    exact zr (zT (Zgj (n0 _ rfl)))
  | some a0=>
  rw [q0] at n0
  cases q1:zz w1 65535 with
  | none=>
    rw [q1] at n1
    exact zr (zT (Zgi (n0 _ rfl) (n1 _ rfl)))
  | some a1=>
  rw [q1] at n1
  refine (zi (Zbn (Zgh (n0 _ rfl) (n1 _ rfl)))).trans ?_
  cases q2:zz w2 4294967295 with
  | none=>
    rw [q2] at n2
    exact zr (zT (Zgj (n2 _ rfl)))
  | some a2=>
  rw [q2] at n2
  cases q3:zz w3 4294967295 with
  | none=>
    rw [q3] at n3
    exact zr (zT (Zgi (n2 _ rfl) (n3 _ rfl)))
  | some a3=>
  rw [q3] at n3
  refine (zi (Zbn (Zgh (n2 _ rfl) (n3 _ rfl)))).trans ?_
  simp only [List.set_cons_succ,List.set_cons_zero]
  have fx:=ZhI f4.1 θ
  have cf:∀ρ:List Sl,ρ[1]?=some (Sl.val L)→Zb (mOp ixM (Zd 1) (mC (.int 4))) Zg ρ θ=.ok [.str w4] θ:=by
    intro ρ h1
    simp only [z7,Zb0,zq,h1,R.bind_ok,x_c,i4,Za5]
  cases q4:flagR w4 with
  | none=>
    rw [q4] at fx
    exact zr (zT ((cbx (cf _ rfl)).trans fx))
  | some f=>
  rw [q4] at fx
  refine (zi (Zbn ((cbx (cf _ rfl)).trans fx))).trans ?_
  simp only [List.set_cons_succ,List.set_cons_zero]
  cases q5:zz w5 65535 with
  | none=>
    rw [q5] at n5
    exact zr (zT (n5 _ rfl))
  | some a5=>
  rw [q5] at n5
  refine (zi (Zbn (n5 _ rfl))).trans ?_
  simp only [List.set_cons_succ,List.set_cons_zero]
  have mx:=ZiX (f:=f) f6.1 (by have:=f6.2; omega) θ
  have cm:∀ρ:List Sl,ρ[1]?=some (Sl.val L)→ρ[4]?=some (Sl.val (.int f))→Zb (mOp ixM (Zd 1) (mC (.int 6))) (Zb (Zd 4) Zg) ρ θ=.ok [.str w6,.int f] θ:=by
    intro ρ h1 h4
    simp only [z7,Zb0,zq,h1,h4,R.bind_ok,x_c,i6,Za5]
  cases q6:ZcS w6 f with
  | none=>
    rw [q6] at mx
    exact zr (zT ((cbx (cm _ rfl rfl)).trans mx))
  | some m=>
  rw [q6] at mx
  refine (zi (Zbn ((cbx (cm _ rfl rfl)).trans mx))).trans ?_
  simp only [List.set_cons_succ,List.set_cons_zero]
  rcases bad with z | z | z | z | z | z | z | z
  · rw [q0] at z; cases z
  · rw [q1] at z; cases z
  · rw [q2] at z; cases z
  · rw [q3] at z; cases z
  · rw [q4] at z; cases z
  · rw [q5] at z; cases z
  · rw [z f q4] at q6; cases q6
  · obtain ⟨w7,rfl,f7,b7⟩:=z
    have i7:ixM L (.int 7) θ=.ok (.str w7) θ:=by rw [hL]; rfl
    have dx:=ZiY f7.1 (by have:=f7.2; omega) b7 θ
    refine zr (zT ?_)
    have ts:∀ρ:List Sl,ρ[1]?=some (Sl.val L)→Zl (mOp gtM (mCB ZZ (Zb (Zd 1) Zg)) (mC (.int 7))) ρ θ=.ok true θ:=by
      intro ρ h1
      have ln':ZZ [L] θ=.ok (.int 8) θ:=ln
      simp [h1,ln']
    have cd:∀ρ:List Sl,ρ[1]?=some (Sl.val L)→Zb (mOp ixM (Zd 1) (mC (.int 7))) Zg ρ θ=.ok [.str w7] θ:=by
      intro ρ h1
      simp only [z7,Zb0,zq,h1,R.bind_ok,x_c,i7,Za5]
    unfold Zik
    rw [ts _ rfl]
    exact (cbx (cd _ rfl)).trans dx
end
end My
namespace My
open PySem L2 L2.MM
noncomputable section
def nmk (k:Nat):Str:=([("fin":Str),"syn","rst","psh","ack"]).getD k ""
def pwk (k:Nat):Int:=([1,2,4,8,16]:List Int).getD k 1
def nmL (f:Int):List Str:=((List.range 5).filter fun k=>decide (f/pwk k % 2=1)).map nmk
theorem Zgw:∀f:Fin 32,nmL (f.val:Int)=nmF (f.val:Int)∧((Txt.join (Str.ofString "+") (nmF (f.val:Int))).length=0↔nmF (f.val:Int)=[])∧(Txt.join (Str.ofString "+") (nmF (f.val:Int))).length≤100:=by decide +kernel
abbrev NL:D:=.lst [.str "fin",.str "syn",.str "rst",.str "psh",.str "ack"]
abbrev PL:D:=.lst [.int 1,.int 2,.int 4,.int 8,.int 16]
def zd (s:Seg) (x3 x4 x5 x6:Sl):List Sl:=[.val s.d,.val NL,.val PL,x3,x4,x5,x6]
theorem Zf2 {s:Seg} (h:s.Ok) (θ:Sto) (x3 x4 x5 x6:Sl):Zah (mC (.str "+")) (ZbU (Zad (Zb (mC (.int 5)) Zg)) [1,0,2] (Zl (mOp eqM (mOp ZU (mOp ZcH (mOp ixM (Zd 2) (mC (.int 4))) (mOp ixM (Zd 3) (Zd 0))) (mC (.int 2))) (mC (.int 1)))) (mOp ixM (Zd 1) (Zd 0))) (zd s x3 x4 x5 x6) θ=.ok (.str (Txt.join (Str.ofString "+") (nmF s.flags))) θ:=by
  have fl:=h.flags
  have nf:=Zgw ⟨s.flags.toNat,by omega⟩
  simp only [show ((s.flags.toNat:Nat):Int)=s.flags by omega] at nf
  have jo:=ZdF ⟨s.flags.toNat,by omega⟩
  simp only [show ((s.flags.toNat:Nat):Int)=s.flags by omega] at jo
  have cp:ZbU (Zad (Zb (mC (.int 5)) Zg)) [1,0,2] (Zl (mOp eqM (mOp ZU (mOp ZcH (mOp ixM (Zd 2) (mC (.int 4))) (mOp ixM (Zd 3) (Zd 0))) (mC (.int 2))) (mC (.int 1)))) (mOp ixM (Zd 1) (Zd 0)) (zd s x3 x4 x5 x6) θ=.ok (.lst ((nmF s.flags).map D.str)) θ:=by
    have rg:Zad (Zb (mC (.int 5)) Zg) (zd s x3 x4 x5 x6) θ=.ok (.rng 0 5) θ:=by simp
    have it:(Src.rng 0 5).items θ=some ((List.range 5).map fun (i:Nat)=>D.int (0+(i:Int))):=rfl
    unfold ZbU
    rw [rg,R.bind_ok]
    simp only [it]
    rw [if_pos (by decide),ZcK (fun d=>match d with | .int k=>decide (s.flags/pwk k.toNat % 2=1) | _=>false) (fun d=>match d with | .int k=>.str (nmk k.toNat) | _=>.non) it _ [] ?_ (by decide)]
    · rw [List.nil_append,←nf.1]
      simp [nmL,List.filter_map,Function.comp_def]
    · intro d hd
      obtain ⟨k,hk,rfl⟩:=List.mem_map.mp hd
      have hk':k<5:=List.mem_range.mp hk
      have:k=0∨k=1∨k=2∨k=3∨k=4:=by omega
      rcases this with rfl | rfl | rfl | rfl | rfl
      · exact ⟨by simp [Z0,zd,pwk],rfl⟩
      · exact ⟨by simp [Z0,zd,pwk],rfl⟩
      · exact ⟨by simp [Z0,zd,pwk,show ixM (il [1,2,4,8,16]) (.int 2) θ=.ok (.int 4) θ from rfl],rfl⟩
      · exact ⟨by simp [Z0,zd,pwk,show ixM (il [1,2,4,8,16]) (.int 3) θ=.ok (.int 8) θ from rfl],rfl⟩
      · exact ⟨by simp [Z0,zd,pwk,show ixM (il [1,2,4,8,16]) (.int 4) θ=.ok (.int 16) θ from rfl],rfl⟩
  unfold Zah
  rw [x_c]
  simp only [R.bind_ok,cp,ZO,Option.bind_some,Zav]
  rw [if_pos jo]
theorem adS {a b:Str} {θ:Sto} (h:a.length+b.length≤1000):Zz (.str a) (.str b) θ=.ok (.str (a++b)) θ:=by
  unfold Zz
  exact if_pos (show a.length+b.length≤BIG by simp [BIG]; omega)
def Zhn (a:Str) (xs:List Int):Str:=xs.foldl (fun a b=>a++(⟨#[hx (b/16).toNat]⟩:Str)++(⟨#[hx (b % 16).toNat]⟩:Str)) a
theorem ZfJ:∀(xs:List Int) (a:Str),(Zhn a xs).cps.toList=a.cps.toList++Zcj xs
  | [],a=>by simp [Zhn,Zcj]
  | b::r,a=>by
    have ih:=ZfJ r (a++(⟨#[hx (b/16).toNat]⟩:Str)++(⟨#[hx (b % 16).toNat]⟩:Str))
    unfold Zhn at ih ⊢
    rw [List.foldl_cons,ih,ZL,ZL]
    simp [Zcj]
theorem ZdL {s:Seg} {x3 x4:Sl} (h:s.Ok) (θ:Sto):∀(r:List Int) (a:Str) (x6:Sl),(∀z∈r,0≤z∧z≤255)→a.length+2*r.length≤900→∃y6,forL (.seq (itp s.data)) (s.data.map D.int) (gNm 6) (Zx 5 (mOp Zz (mOp Zz (Zd 5) (mOp ixM (mC (.str "0123456789abcdef")) (mOp ZcH (Zd 6) (mC (.int 16))))) (mOp ixM (mC (.str "0123456789abcdef")) (mOp ZU (Zd 6) (mC (.int 16)))))) (r.map D.int) (zd s x3 x4 (.val (.str a)) x6) θ=.ok (.nx,zd s x3 x4 (.val (.str (Zhn a r))) y6) θ
  | [],a,x6,_,_=>by
    have hit:(Src.seq (itp s.data)).items θ=some (s.data.map D.int):=rfl
    refine ⟨x6,?_⟩
    simp only [List.map_nil,forL,hit,if_true]
    rfl
  | b::r,a,x6,hb,hl=>by
    have hit:(Src.seq (itp s.data)).items θ=some (s.data.map D.int):=rfl
    have rb:=hb b (by simp)
    simp only [List.length_cons] at hl
    have l1:∀c:Nat,(⟨#[c]⟩:Str).length=1:=fun c=>rfl
    obtain ⟨y6,ih⟩:=ZdL h θ r (a++(⟨#[hx (b/16).toNat]⟩:Str)++(⟨#[hx (b % 16).toNat]⟩:Str)) (.val (.int b)) (fun z hz=>hb z (List.mem_cons_of_mem _ hz)) (by rw [z0,z0,l1,l1]; omega)
    refine ⟨y6,?_⟩
    have i1:=ZjW (k:=b/16) (by omega) θ
    have i2:=ZjW (k:=b % 16) (by omega) θ
    have a1:=adS (a:=a) (b:=⟨#[hx (b/16).toNat]⟩) (θ:=θ) (by rw [l1]; omega)
    have a2:=adS (a:=a++(⟨#[hx (b/16).toNat]⟩:Str)) (b:=⟨#[hx (b % 16).toNat]⟩) (θ:=θ) (by rw [z0,l1,l1]; omega)
    have st:Zx 5 (mOp Zz (mOp Zz (Zd 5) (mOp ixM (mC (.str "0123456789abcdef")) (mOp ZcH (Zd 6) (mC (.int 16))))) (mOp ixM (mC (.str "0123456789abcdef")) (mOp ZU (Zd 6) (mC (.int 16))))) (zd s x3 x4 (.val (.str a)) (.val (.int b))) θ=.ok (.nx,zd s x3 x4 (.val (.str (a++(⟨#[hx (b/16).toNat]⟩:Str)++(⟨#[hx (b % 16).toNat]⟩:Str)))) (.val (.int b))) θ:=by
      unfold zd
      simp [i1,i2,a1,a2]
    have hg:gNm 6 (D.int b) (zd s x3 x4 (.val (.str a)) x6)=some (zd s x3 x4 (.val (.str a)) (.val (.int b))):=rfl
    simp only [List.map_cons,forL,hit,if_true,hg]
    rw [st,R.bind_ok,Zcn]
    exact ih
theorem ZkL (s:Seg) (θ:Sto):eqM s.d s.d θ=.ok (.bl true) θ:=by
  have p:pl 9 s.d=true:=Zkg 7 s
  have n:noB s.d=true:=Zjj s
  have lk:Zae θ s.d=s.d:=rfl
  rw [Zgb (ZdJ (by rw [lk]; exact p) (by rw [lk]; exact p) (by rw [lk]; exact n) (by rw [lk]; exact n))]
  simp
theorem Zj3 {s:Seg} (h:s.Ok):ZcC [s.d] []=.ok (.ref 0) [.lst ((ZM s).map D.str)]:=by
  have hs:=h.src
  have hg:=h.goal
  have hn:=h.num
  have ha:=h.ans
  have hw:=h.win
  have hm:0≤s.most∧s.most≤65535:=by rcases h.most with e | e<;>omega
  have fl:=h.flags
  have nf:=Zgw ⟨s.flags.toNat,by omega⟩
  simp only [show ((s.flags.toNat:Nat):Int)=s.flags by omega] at nf
  obtain ⟨J,hJ⟩:∃J,J=Txt.join (Str.ofString "+") (nmF s.flags):=⟨_,rfl⟩
  have nj:=Zf2 h [] .no .no .no .no
  rw [←hJ] at nf nj
  have s3:Zx 3 (Zah (mC (.str "+")) (ZbU (Zad (Zb (mC (.int 5)) Zg)) [1,0,2] (Zl (mOp eqM (mOp ZU (mOp ZcH (mOp ixM (Zd 2) (mC (.int 4))) (mOp ixM (Zd 3) (Zd 0))) (mC (.int 2))) (mC (.int 1)))) (mOp ixM (Zd 1) (Zd 0)))) (zd s .no .no .no .no) []=.ok (.nx,zd s (.val (.str J)) .no .no .no) []:=by
    rw [ZbZ,nj,R.bind_ok]
    rfl
  have cp:=Zhd (ρ:=zd s (.val (.str J)) .no .no .no) (θ:=[]) (fi:=mIn (mSl (Zd 0) Z8 (zR (mC (.int 4))))) (src:=[]) (elt:=mCB Zap (Zb (Zd 0) Zg)) (d:=.tup [.int s.src,.int s.goal,.int s.num,.int s.ans]) (xs:=[.int s.src,.int s.goal,.int s.num,.int s.ans]) (θ':=[]) (fun d=>match d with | .int n=>.str (txt n) | _=>.non) rfl rfl (by simp [BIG]) (by
    intro x hx'
    simp only [List.mem_cons,List.not_mem_nil,or_false] at hx'
    rcases hx' with rfl | rfl | rfl | rfl
    · simp [Z0,ZbA (n:=s.src) (by omega) (by omega)]
    · simp [Z0,ZbA (n:=s.goal) (by omega) (by omega)]
    · simp [Z0,ZbA (n:=s.num) (by omega) (by omega)]
    · simp [Z0,ZbA (n:=s.ans) (by omega) (by omega)])
  simp only [List.map_cons,List.map_nil] at cp
  have s4:Zx 4 (ZbF (mIn (mSl (Zd 0) Z8 (zR (mC (.int 4))))) [] (mCB Zap (Zb (Zd 0) Zg))) (zd s (.val (.str J)) .no .no .no) []=.ok (.nx,zd s (.val (.str J)) (.val (.lst [.str (txt s.src),.str (txt s.goal),.str (txt s.num),.str (txt s.ans)])) .no .no) []:=by
    rw [ZbZ,cp,R.bind_ok]
    rfl
  obtain ⟨W7,hW⟩:∃W:List D,W=[.str (txt s.src),.str (txt s.goal),.str (txt s.num),.str (txt s.ans),.str (Zn s.flags),.str (txt s.win),.str (txt s.most)]:=⟨_,rfl⟩
  have ite:ZeO (Za8 (Zd 3)) (Zd 3) (mC (.str "none")) (zd s (.val (.str J)) (.val (.lst [.str (txt s.src),.str (txt s.goal),.str (txt s.num),.str (txt s.ans)])) .no .no) []=.ok (.str (Zn s.flags)) []:=by
    have tr:Za8 (Zd 3) (zd s (.val (.str J)) (.val (.lst [.str (txt s.src),.str (txt s.goal),.str (txt s.num),.str (txt s.ans)])) .no .no) []=.ok ((J.length:Int) != 0) []:=by
      unfold Za8 zd
      have:J.length≤100000:=by omega
      simp [Zdg,BIG,this]
    unfold Zn
    rw [←hJ]
    unfold ZeO
    rw [tr,R.bind_ok]
    by_cases c:nmF s.flags=[]
    · have:=nf.2.1.mpr c
      rw [if_pos c,this]
      rfl
    · have:J.length≠0:=fun z=>c (nf.2.1.mp z)
      rw [if_neg c,if_pos (by simpa using this)]
      rfl
  have s5:Zx 4 (mOp Zhr (Zd 4) (zA (Zb (ZeO (Za8 (Zd 3)) (Zd 3) (mC (.str "none"))) (Zb (mCB Zap (Zb (mOp ixM (Zd 0) (mC (.int 5))) Zg)) (Zb (mCB Zap (Zb (mOp ixM (Zd 0) (mC (.int 6))) Zg)) Zg))))) (zd s (.val (.str J)) (.val (.lst [.str (txt s.src),.str (txt s.goal),.str (txt s.num),.str (txt s.ans)])) .no .no) []=.ok (.nx,zd s (.val (.str J)) (.val (.ref 0)) .no .no) [.lst W7]:=by
    have t5:=ZbA (n:=s.win) (by omega) (by omega) []
    have t6:=ZbA (n:=s.most) (by omega) (by omega) []
    have i5:mOp ixM (Zd 0) (mC (.int 5)) (zd s (.val (.str J)) (.val (.lst [.str (txt s.src),.str (txt s.goal),.str (txt s.num),.str (txt s.ans)])) .no .no) []=.ok (.int s.win) []:=rfl
    have i6:mOp ixM (Zd 0) (mC (.int 6)) (zd s (.val (.str J)) (.val (.lst [.str (txt s.src),.str (txt s.goal),.str (txt s.num),.str (txt s.ans)])) .no .no) []=.ok (.int s.most) []:=rfl
    have v4:Zd 4 (zd s (.val (.str J)) (.val (.lst [.str (txt s.src),.str (txt s.goal),.str (txt s.num),.str (txt s.ans)])) .no .no) []=.ok (.lst [.str (txt s.src),.str (txt s.goal),.str (txt s.num),.str (txt s.ans)]) []:=rfl
    have ac:Zhr (.lst [.str (txt s.src),.str (txt s.goal),.str (txt s.num),.str (txt s.ans)]) (.lst [.str (Zn s.flags),.str (txt s.win),.str (txt s.most)]) []=.ok (.ref 0) [.lst W7]:=by
      unfold Zhr
      simp only [ZO]
      rw [if_pos (by simp [BIG]),hW]
      rfl
    rw [ZbZ,Zb0,v4,R.bind_ok]
    simp only [Zhz,z7,ite,R.bind_ok,ZhB,i5,i6,Za5,t5,t6]
    rw [if_pos (by simp [BIG]),R.bind_ok,ac]
    rfl
  have s6:Zx 5 (mC (.str "")) (zd s (.val (.str J)) (.val (.ref 0)) .no .no) [.lst W7]=.ok (.nx,zd s (.val (.str J)) (.val (.ref 0)) (.val (.str (Str.ofString ""))) .no) [.lst W7]:=rfl
  have l0:(Str.ofString "").length=0:=by decide
  obtain ⟨y6,bl⟩:=ZdL (x3:=.val (.str J)) (x4:=.val (.ref 0)) h [.lst W7] s.data (Str.ofString "") .no h.data.1 (by have:=h.data.2; omega)
  have s7:ZdO (zd s (.val (.str J)) (.val (.ref 0)) (.val (.str (Str.ofString ""))) .no) [.lst W7]=.ok (.nx,zd s (.val (.str J)) (.val (.ref 0)) (.val (.str (Zhn (Str.ofString "") s.data))) y6) [.lst W7]:=by
    rw [←bl]
    rfl
  have ce:Zhn (Str.ofString "") s.data=zk s.data:=ZaM (by
    rw [ZfJ,zB]
    have:(Str.ofString "").cps.toList=[]:=by decide
    rw [this,List.nil_append])
  have dl:=ZdH s.data
  have d16:=h.data.2
  obtain ⟨dt,hdt⟩:∃d,d=zk s.data:=⟨_,rfl⟩
  have wm:(ZM s).map D.str=if s.data=[] then W7 else W7++[.str dt]:=by
    rw [hW]
    unfold ZM
    by_cases c:s.data=[]
    · rw [if_pos c,if_pos c]; rfl
    · rw [if_neg c,if_neg c,hdt]; rfl
  rw [ce,←hdt] at s7
  rw [←hdt] at dl
  have W7l:W7.length=7:=by rw [hW]; rfl
  have s8:ZbX (zd s (.val (.str J)) (.val (.ref 0)) (.val (.str dt)) y6) [.lst W7]=.ok (.nx,zd s (.val (.str J)) (.val (.ref 0)) (.val (.str dt)) y6) [.lst ((ZM s).map D.str)]:=by
    have tr:Za8 (Zd 5) (zd s (.val (.str J)) (.val (.ref 0)) (.val (.str dt)) y6) [.lst W7]=.ok ((dt.length:Int) != 0) [.lst W7]:=by
      unfold Za8 zd
      have:dt.length≤100000:=by omega
      simp [Zdg,BIG,this]
    rw [wm]
    unfold ZbX
    rw [zF,tr,R.bind_ok]
    by_cases c:s.data=[]
    · rw [c] at dl
      rw [if_pos c,dl]
      rfl
    · have:0<s.data.length:=List.length_pos_iff.mpr c
      have n0:dt.length≠0:=by omega
      rw [if_neg c,if_pos (by simpa using n0)]
      have lc:Zf8 [.lst W7] (.ref 0)=some (0,W7):=rfl
      unfold zd
      simp [Zim,lc,W7l,BIG]
  have all:ZdP (Z1 7 [s.d]) []=.ok (.rt (.ref 0),zd s (.val (.str J)) (.val (.ref 0)) (.val (.str dt)) y6) [.lst ((ZM s).map D.str)]:=by
    have s1:Zx 1 (zA (Zb (mC (.str "fin")) (Zb (mC (.str "syn")) (Zb (mC (.str "rst")) (Zb (mC (.str "psh")) (Zb (mC (.str "ack")) Zg)))))) (Z1 7 [s.d]) []=.ok (.nx,[.val s.d,.val NL,.no,.no,.no,.no,.no]) []:=rfl
    have s2:Zx 2 (zA (Zb (mC (.int 1)) (Zb (mC (.int 2)) (Zb (mC (.int 4)) (Zb (mC (.int 8)) (Zb (mC (.int 16)) Zg)))))) [.val s.d,.val NL,.no,.no,.no,.no,.no] []=.ok (.nx,zd s .no .no .no .no) []:=rfl
    unfold ZdP
    rw [zb,s1,Zs,zb,s2,Zs,zb,s3,Zs,zb,s4,Zs,zb,s5,Zs,zb,s6,Zs,zb,s7,Zs,zb,s8,Zs]
    rfl
  unfold ZcC
  rw [Zgg,if_pos (show [s.d].length=1 from rfl),all,R.bind_ok]
end
end My
namespace My
open PySem L2 L2.MM
noncomputable section
def NB (w:Str):Prop:=32∉w.cps.toList∧w.length≤40∧Asc w
theorem NB.fit {w:Str} (h:NB w):Fit w:=⟨h.2.2,by have:=h.2.1; omega⟩
theorem Zay (w:Str) (h:(w.cps.toList.all fun c=>decide (c<128) && decide (c≠32))=true) (hl:w.length≤40):NB w:=by
  have a:=List.all_eq_true.mp h
  refine ⟨fun z=>?_,hl,fun c hc=>?_⟩
  · have:=a 32 z
    simp at this
  · have:=a c hc
    simp at this
    exact this.1
def Zg6 (k:Nat):Int:=if k=2∨k=3 then 4294967295 else 65535
def ZjH (ws:List Str):Prop:=
  (ws.length≠7∧ws.length≠8)∨
  (∃k w,(k<4∨k=5∨k=6)∧ws[k]?=some w∧zz w (Zg6 k)=none)∨
  (∃w,ws[4]?=some w∧flagR w=none)∨
  (∃w4 w6,ws[4]?=some w4∧ws[6]?=some w6∧∀f,flagR w4=some f→ZcS w6 f=none)∨
  (∃w,ws[7]?=some w∧ZaX w)
theorem ZgZ {ws:List Str} (ne:ws≠[]) (nb:∀w∈ws,NB w) (hl:ws.length≤9) (bad:ZjH ws) (θ:Sto):z9 [.str (Str.join (Str.ofString " ") ws)] θ=.ex "NoSegment" θ:=by
  have sj:=ZbL ws ne fun a ha=>(nb a ha).1
  have jl:=Zdy ws fun w hw=>(nb w hw).2.1
  by_cases c:ws.length≠7∧ws.length≠8
  · exact Zew sj (by omega) (by omega) c θ
  rcases ws with _ | ⟨w0,_ | ⟨w1,_ | ⟨w2,_ | ⟨w3,_ | ⟨w4,_ | ⟨w5,_ | ⟨w6,rest⟩⟩⟩⟩⟩⟩⟩
  · exact absurd ⟨by simp,by simp⟩ c
  · exact absurd ⟨by simp,by simp⟩ c
  · exact absurd ⟨by simp,by simp⟩ c
  · exact absurd ⟨by simp,by simp⟩ c
  · exact absurd ⟨by simp,by simp⟩ c
  · exact absurd ⟨by simp,by simp⟩ c
  · exact absurd ⟨by simp,by simp⟩ c
  have hr:rest.length≤1:=by
    simp only [List.length_cons] at c
    omega
  have nf:=fun w hw=>(nb w hw).fit
  have m0:w0∈w0::w1::w2::w3::w4::w5::w6::rest:=by simp
  have m1:w1∈w0::w1::w2::w3::w4::w5::w6::rest:=by simp
  have m2:w2∈w0::w1::w2::w3::w4::w5::w6::rest:=by simp
  have m3:w3∈w0::w1::w2::w3::w4::w5::w6::rest:=by simp
  have m4:w4∈w0::w1::w2::w3::w4::w5::w6::rest:=by simp
  have m5:w5∈w0::w1::w2::w3::w4::w5::w6::rest:=by simp
  have m6:w6∈w0::w1::w2::w3::w4::w5::w6::rest:=by simp
  simp only [List.length_cons] at jl hl
  refine ZfW sj (by omega) hr (nf _ m0) (nf _ m1) (nf _ m2) (nf _ m3) (nf _ m4) (nf _ m5) (nf _ m6) ?_ θ
  rcases bad with z | ⟨k,w,hk,hw,z⟩ | ⟨w,hw,z⟩ | ⟨a,b,ha,hb,z⟩ | ⟨w,hw,z⟩
  · exact absurd z c
  · have k6:k=0∨k=1∨k=2∨k=3∨k=5∨k=6:=by omega
    rcases k6 with rfl | rfl | rfl | rfl | rfl | rfl
    · cases hw; exact .inl z
    · cases hw; exact .inr (.inl z)
    · cases hw; exact .inr (.inr (.inl z))
    · cases hw; exact .inr (.inr (.inr (.inl z)))
    · cases hw; exact .inr (.inr (.inr (.inr (.inr (.inl z)))))
    · cases hw
      refine .inr (.inr (.inr (.inr (.inr (.inr (.inl fun f _=>?_))))))
      have z':zz w6 65535=none:=z
      unfold ZcS
      rw [z']
  · cases hw; exact .inr (.inr (.inr (.inr (.inl z))))
  · cases ha; cases hb; exact .inr (.inr (.inr (.inr (.inr (.inr (.inl z))))))
  · rcases rest with _ | ⟨w7,_ | _⟩
    · cases hw
    · cases hw
      exact .inr (.inr (.inr (.inr (.inr (.inr (.inr ⟨_,rfl,nf _ (by simp),z⟩))))))
    · simp only [List.length_cons] at hr; omega
theorem ZeD {w:Str} {g:Int} (h:ZaF w figT=false):zz w g=none:=by
  unfold zz
  rw [if_pos (.inl h)]
theorem Zkt {w F:Str} {c:Nat} (h:c∈w.cps.toList) (hc:c∉F.cps.toList):ZaF w F=false:=by
  unfold ZaF
  rw [Bool.and_eq_false_iff]
  right
  rw [List.all_eq_false]
  exact ⟨c,h,by simp [inF,hc]⟩
theorem Zep {n:Int} (h0:0≤n) (h1:n≤9999999999):(PySem.NumText.digitsVal (txt n).cps.toList:Int)=n:=by
  have r:PySem.intText? (txt n)=some n:=PySem.W.KIN.num_reads h0 (by omega)
  have l:(txt n).length≤20:=PyProof.Rows.toString_length_le h0 (by decide) (by omega)
  have d:=PySem.intText_digits (fun c hc=>Zau h0 c hc) (Ze7 h0) (by omega)
  rw [r] at d
  exact (Option.some.inj d).symm
theorem Zh8 {n g:Int} (h0:0≤n) (h1:n≤4294967295):zz (Str.ofString "0"++txt n) g=none:=by
  have v:(PySem.NumText.digitsVal (Str.ofString "0"++txt n).cps.toList:Int)=n:=by
    rw [ZL]
    have e:(Str.ofString "0").cps.toList=[48]:=by decide
    rw [e]
    have e2:∀l:List Nat,PySem.NumText.digitsVal ([48]++l)=PySem.NumText.digitsVal l:=fun _=>rfl
    rw [e2]
    exact Zep h0 (by omega)
  have q:txt n≠Str.ofString "0"++txt n:=by
    intro e
    have:=congrArg Str.length e
    rw [z0,show (Str.ofString "0").length=1 by decide] at this
    omega
  unfold zz
  split
  · rfl
  · rw [v,if_pos (.inr q)]
theorem Zjg {n g:Int} (h0:0≤g) (h:g<n) (h1:n≤9999999999):zz (txt n) g=none:=by
  unfold zz
  split
  · rfl
  · rw [Zep (by omega) h1,if_pos (.inl h)]
theorem ZcG {F:Str}:ZaF (Str.ofString "") F=false:=by
  unfold ZaF
  rw [show (Str.ofString "").cps.toList=[] by decide]
  rfl
theorem ZfE {ws:List Str} {k:Nat} (hk:k<8) (h:ws[k]?=some (Str.ofString "")):ZjH ws:=by
  by_cases c4:k=4
  · subst c4
    exact .inr (.inr (.inl ⟨_,h,by decide +kernel⟩))
  by_cases c7:k=7
  · subst c7
    exact .inr (.inr (.inr (.inr ⟨_,h,.inl ZcG⟩)))
  · exact .inr (.inl ⟨k,_,by omega,h,ZeD ZcG⟩)
theorem Zbs {X Y:List Str} (hX:X≠[]) (hY:Y≠[]) (e:Str.join (Str.ofString " ") X=Str.join (Str.ofString " ") Y):∀a:List Str,Str.join (Str.ofString " ") (a++X)=Str.join (Str.ofString " ") (a++Y)
  | []=>e
  | x::a=>by
    have ih:=Zbs hX hY e a
    obtain ⟨p,P,hP⟩:∃p P,a++X=p::P:=by
      cases q:a++X with
      | nil=>exact absurd (List.append_eq_nil_iff.mp q).2 hX
      | cons p P=>exact ⟨p,P,rfl⟩
    obtain ⟨p',P',hP'⟩:∃p P,a++Y=p::P:=by
      cases q:a++Y with
      | nil=>exact absurd (List.append_eq_nil_iff.mp q).2 hY
      | cons p P=>exact ⟨p,P,rfl⟩
    rw [List.cons_append,List.cons_append,hP,hP']
    rw [hP,hP'] at ih
    show x++Str.ofString " "++Str.join (Str.ofString " ") (p::P)=x++Str.ofString " "++Str.join (Str.ofString " ") (p'::P')
    rw [ih]
theorem ZcE (a b:Str) (r:List Str):(Str.join (Str.ofString " ") (a::b::r)).cps.toList=a.cps.toList++([32]++(Str.join (Str.ofString " ") (b::r)).cps.toList):=by
  show (a++Str.ofString " "++Str.join (Str.ofString " ") (b::r)).cps.toList=_
  rw [ZL,ZL,List.append_assoc]
  rfl
theorem ZeR (a:Str):(Str.join (Str.ofString " ") [a]).cps.toList=a.cps.toList:=rfl
theorem Zdc:(Str.ofString " ").cps.toList=[32]:=by decide
theorem Zdb:(Str.ofString "").cps.toList=[]:=by decide
theorem Zfv (w:Str) (b:List Str):Str.join (Str.ofString " ") ((w++Str.ofString " ")::b)=Str.join (Str.ofString " ") (w::Str.ofString ""::b):=by
  refine ZaM ?_
  rw [ZcE]
  cases b with
  | nil=>rw [ZeR,ZeR,ZL,Zdc,Zdb]; rfl
  | cons x r=>rw [ZcE,ZcE,ZL,Zdc,Zdb]; simp
theorem Zfw (w:Str) (b:List Str):Str.join (Str.ofString " ") ((Str.ofString " "++w)::b)=Str.join (Str.ofString " ") (Str.ofString ""::w::b):=by
  refine ZaM ?_
  rw [ZcE]
  cases b with
  | nil=>rw [ZeR,ZeR,ZL,Zdc,Zdb]; rfl
  | cons x r=>rw [ZcE,ZcE,ZL,Zdc,Zdb]; simp
def Ends (ws':List Str):Prop:=∃ws,Str.join (Str.ofString " ") ws'=Str.join (Str.ofString " ") ws∧ws≠[]∧(∀w∈ws,NB w)∧ws.length≤9∧ZjH ws
theorem ZaH {ws:List Str} (ne:ws≠[]) (nb:∀w∈ws,NB w) (hl:ws.length≤9) (hb:ZjH ws):Ends ws:=⟨ws,rfl,ne,nb,hl,hb⟩
theorem Zdv {W:List Str} {c:Nat} {x:Str} (nb:∀w∈W,NB w) (hx:NB x):∀w∈W.set c x,NB w:=fun w hw=>by
  rcases List.mem_or_eq_of_mem_set hw with z | rfl
  · exact nb w z
  · exact hx
theorem Zeu {W:List Str} {c:Nat} {x:Str} (h:c<W.length):W.set c x≠[]:=by
  intro z
  have:=congrArg List.length z
  simp at this
  rw [this] at h
  cases h
theorem ZaG {W:List Str} {c:Nat} {x:Str} (nb:∀w∈W,NB w) (hl:W.length=7∨W.length=8) (hc:c<4∨c=5∨c=6) (hx:NB x) (hn:zz x (Zg6 c)=none):Ends (W.set c x):=
  ZaH (Zeu (by omega)) (Zdv nb hx) (by simp; omega) (.inr (.inl ⟨c,x,hc,List.getElem?_set_self (by omega),hn⟩))
theorem Zb8:NB (Str.ofString ""):=Zay _ (by decide) (by decide)
theorem ZcU {W:List Str} {c:Nat} {w:Str} (nb:∀w∈W,NB w) (hl:W.length=7∨W.length=8) (hc:c<7) (hw:NB w):Ends (W.set c (w++Str.ofString " ")):=by
  have e:W.set c (w++Str.ofString " ")=W.take c++(w++Str.ofString " ")::W.drop (c+1):=by
    rw [List.set_eq_take_append_cons_drop,if_pos (by omega)]
  have tl:(W.take c).length=c:=by simp; omega
  have ll:(W.take c++w::Str.ofString ""::W.drop (c+1)).length=W.length+1:=by simp; omega
  refine ⟨W.take c++w::Str.ofString ""::W.drop (c+1),?_,by simp,fun x hx=>?_,by omega,?_⟩
  · rw [e]
    exact Zbs (by simp) (by simp) (Zfv _ _) _
  · rcases List.mem_append.mp hx with z | z
    · exact nb x (List.mem_of_mem_take z)
    · rcases List.mem_cons.mp z with rfl | z
      · exact hw
      · rcases List.mem_cons.mp z with rfl | z
        · exact Zb8
        · exact nb x (List.mem_of_mem_drop z)
  · refine ZfE (k:=c+1) (by omega) ?_
    rw [List.getElem?_append_right (by omega),tl,show c+1-c=1 by omega]
    rfl
theorem ZfD {W:List Str} {c:Nat} {w:Str} (nb:∀w∈W,NB w) (hl:W.length=7∨W.length=8) (hc:c<7) (hw:NB w):Ends (W.set c (Str.ofString " "++w)):=by
  have e:W.set c (Str.ofString " "++w)=W.take c++(Str.ofString " "++w)::W.drop (c+1):=by
    rw [List.set_eq_take_append_cons_drop,if_pos (by omega)]
  have tl:(W.take c).length=c:=by simp; omega
  have ll:(W.take c++Str.ofString ""::w::W.drop (c+1)).length=W.length+1:=by simp; omega
  refine ⟨W.take c++Str.ofString ""::w::W.drop (c+1),?_,by simp,fun x hx=>?_,by omega,?_⟩
  · rw [e]
    exact Zbs (by simp) (by simp) (Zfw _ _) _
  · rcases List.mem_append.mp hx with z | z
    · exact nb x (List.mem_of_mem_take z)
    · rcases List.mem_cons.mp z with rfl | z
      · exact Zb8
      · rcases List.mem_cons.mp z with rfl | z
        · exact hw
        · exact nb x (List.mem_of_mem_drop z)
  · refine ZfE (k:=c) (by omega) ?_
    rw [List.getElem?_append_right (by omega),tl,show c-c=0 by omega]
    rfl
theorem Zhl {W:List Str} {x:Str} (nb:∀w∈W,NB w) (hl:W.length=7∨W.length=8) (hx:NB x) (hn:flagR x=none):Ends (W.set 4 x):=
  ZaH (Zeu (by omega)) (Zdv nb hx) (by simp; omega) (.inr (.inr (.inl ⟨x,List.getElem?_set_self (by omega),hn⟩)))
theorem ZeG {W:List Str} {c:Nat} (nb:∀w∈W,NB w):∀w∈W.take c,NB w:=fun w hw=>nb w (List.mem_of_mem_take hw)
theorem Zic {W V:List Str} (nb:∀w∈W,NB w) (nv:∀w∈V,NB w):∀w∈W++V,NB w:=fun w hw=>by
  rcases List.mem_append.mp hw with z | z
  · exact nb w z
  · exact nv w z
theorem Zhm {W:List Str} {x:Str} (nb:∀w∈W,NB w) (hl:W.length=7∨W.length=8) (hx:NB x) (hn:ZaX x):Ends (W.take 7++[x]):=by
  have tl:(W.take 7).length=7:=by simp; omega
  refine ZaH (by simp) (Zic (ZeG nb) (by simpa using hx)) (by simp; omega) (.inr (.inr (.inr (.inr ⟨x,?_,hn⟩))))
  rw [List.getElem?_append_right (by omega),tl]
  rfl
theorem ZfC {W V:List Str} {y z:Str} (nb:∀w∈W,NB w) (hl:W.length=7∨W.length=8) (hV:V≠[]) (hj:Str.join (Str.ofString " ") V=Str.join (Str.ofString " ") [y,z]) (hy:NB y) (hz:NB z):Ends (W.take 7++V):=by
  have tl:(W.take 7).length=7:=by simp; omega
  refine ⟨W.take 7++[y,z],Zbs hV (by simp) hj _,by simp,Zic (ZeG nb) (by simp; exact ⟨hy,hz⟩),by simp; omega,.inl ?_⟩
  simp
  omega
theorem ZiG {W:List Str} {k:Nat} (nb:∀w∈W,NB w) (hl:W.length=7∨W.length=8) (hk:k<7):Ends (W.take k):=by
  by_cases c:k=0
  · subst c
    exact ⟨[Str.ofString ""],by rw [List.take_zero]; decide,by simp,by simpa using Zb8,by simp,.inl (by simp)⟩
  · exact ZaH (by intro z; have:=congrArg List.length z; rw [List.length_take,List.length_nil] at this; omega) (ZeG nb) (by simp; omega) (.inl (by simp; omega))
end
end My
namespace PySem.W.Fast
def tw13740671044800427072:=0
def tw12326478813744981440:=0
def tw9080175254992094401:=0
def tw15605431928955521313:=0
def tw7379273064721554977:=0
def tw16467450108225373825:=0
def tw17708706359989710753:=0
def tw15965022485809173441:=0
def tw9650737857266336770:=0
def tw11961626206215656642:=0
def tw14006537633395642786:=0
def tw17573200695058263458:=0
def tw16620312186109513538:=0
def tw14442048712451571554:=0
def tw5314280140743347331:=0
def tw11448473904772274371:=0
def tw2410432914988597731:=0
def tw7639847147706876675:=0
def tw10219461987189096291:=0
def tw16917546460237158852:=0
def tw10148436772525063716:=0
def tw14916178227840558756:=0
def tw10378907039211143108:=0
def tw828156720642180165:=0
def tw5069498908198794341:=0
def tw12119540893659740389:=0
def tw11156778810740850469:=0
def tw9945821105239299941:=0
def tw302783722308602022:=0
def tw4545765335594911078:=0
def tw13569188920062831238:=0
def tw3396461782177312390:=0
def tw5992051075001551686:=0
def tw13220818726762914758:=0
def tw2708627600899705863:=0
def tw8171339269797318983:=0
def tw3704709432434765191:=0
def tw10240537531461893895:=0
def tw7767315458359807879:=0
def tw3814767669872782728:=0
def tw1239649318537456328:=0
def tw10439264315784410377:=0
def tw13799303828026200361:=0
def tw861483292387603785:=0
def tw4757721589049368137:=0
def tw9282548183827173129:=0
def tw13941027404830814089:=0
def tw4113186213601184745:=0
def tw15520697999051402506:=0
def tw3636248476994010378:=0
def tw17530298159805033866:=0
def tw15089228447780865450:=0
def tw7395423616829656522:=0
def tw13576097696493783498:=0
def tw6108022039738903115:=0
def tw10171516866203052683:=0
def tw1963762773888723883:=0
def tw15701193131203694636:=0
def tw10448253870273069292:=0
def tw12684580043687119276:=0
def tw13671388421112376876:=0
def tw7094346676793139820:=0
def tw6859642108501302956:=0
def tw2447235007408314252:=0
def tw13716226486746979244:=0
def tw7987437553304208364:=0
def tw18013915279630266637:=0
def tw8299840657870722669:=0
def tw10392420418773196014:=0
def tw1440781772990190382:=0
def tw5689275337847642030:=0
def tw16598673234028312847:=0
def tw281923564796097007:=0
def tw18220349052659501583:=0
def tw13271776072130805615:=0
def tw3610903440769988591:=0
def tw7707752388837422096:=0
def tw14530289904035250288:=0
def tw12686069312080679056:=0
def tw10317819247368938064:=0
def tw12922472844878673488:=0
def tw8355044581127817968:=0
def tw7599270438078641521:=0
def tw13849427067632465649:=0
def tw6580295020485647153:=0
def tw588152516151823217:=0
def tw3806106876016076689:=0
def tw11127622602126245841:=0
def tw8816591173809949681:=0
def tw7951500102946189362:=0
def tw5250539443129531634:=0
def tw15573904532062543186:=0
def tw3687243948363589010:=0
def tw1427262874204389906:=0
def tw11425362460635471506:=0
def tw11792044192692286162:=0
def tw15644063293204458515:=0
def tw18273664684349789331:=0
def tw7543104694388430003:=0
def tw154352234221639923:=0
def tw5827083447985444339:=0
def tw9815118007152812787:=0
def tw14809456867477635891:=0
def tw1484986666518466547:=0
def tw162616095497593908:=0
def tw6125843349894899380:=0
def tw6684993227005204821:=0
def tw12617872449929364981:=0
def tw420862920398414421:=0
def tw185149451608477557:=0
def tw15783237660668545013:=0
def tw5342696527440285942:=0
def tw8169731925646481046:=0
def tw9115355223921697686:=0
def tw17729398716369299414:=0
def tw8919385286943265079:=0
def tw11289073558072497495:=0
def tw12737995284226948535:=0
def tw3087007622849230295:=0
def tw1723577336693345911:=0
def tw2886902280162248631:=0
def tw13949087627504236471:=0
def tw1220204208533401591:=0
def tw11828467184872627256:=0
def tw10984947186311593240:=0
def tw11809144330377004504:=0
def tw7211318562584140697:=0
def tw3558642785846253626:=0
def tw913567492793304410:=0
def tw13580012360258259386:=0
def tw12196611187500009914:=0
def tw7062369022683197914:=0
def tw17917166092171416186:=0
def tw2632112481962584986:=0
def tw16682187522182727674:=0
def tw516453917614376027:=0
def tw4362245278411897083:=0
def tw6908506060840466811:=0
def tw3270081285743884923:=0
def tw1424396382491627163:=0
def tw9777128058994684891:=0
def tw5250978856344626364:=0
def tw2851034093627245212:=0
def tw16835836635571871580:=0
def tw10570321465236763516:=0
def tw12263256380894801788:=0
def tw11346966155528241148:=0
def tw9651663142038634621:=0
def tw8407609955001262621:=0
def tw8815077053518952542:=0
def tw11825576185968716062:=0
def tw12708626860246622878:=0
def tw2688768012013995071:=0
def tw17395603629533810847:=0
def tw6850469723390815519:=0
def tw143971920936553023:=0
def tw2776733227604597535:=0
def tw14243994993711836095:=0
def tw5534339328449845215:=0
def tw13356555938631832997:=0
end PySem.W.Fast
namespace My
open PySem L2 L2.MM
noncomputable section
def ZaI:SM:=(mIf (Zl (mOp eqM (mOp ZU (mCB ZJ (Zb (Zd 0) (Zb (mC (.int 49)) Zg))) (mC (.int 5))) (mC (.int 0)))) (zY (mOp eqM (mCB Zbo (Zb (Zah (mC (.str " ")) (Zd 2)) Zg)) (Zd 1))) zK)
def ZeZ:SM:=(Zv (Zx 1 (mCB Zeh (Zb (Zd 0) (Zb (mC (.int 0)) Zg))))
  (Zv (Zx 2 (mCB ZcC (Zb (Zd 1) Zg)))
  (Zv ZaI
  (Zv (Zx 3 (mC (.bl false)))
  (Zv (Zfq 4 3 (Zcb z9 (Zb (mCB ZaV (Zb (Zd 0) (Zb (Zd 2) Zg))) Zg)))
  (zY (Zd 3)))))))
def Zfu:GM:=ZaE 1 5 ZeZ
theorem Zdl {fo fi fv:EM} {ρ:List Sl} {W:List Str} {c:Nat} {x:Str} (h1:fo ρ [.lst (W.map D.str)]=.ok (.ref 0) [.lst (W.map D.str)]) (h3:fi ρ [.lst (W.map D.str)]=.ok (.int (c:Int)) [.lst (W.map D.str)]) (hv:fv ρ [.lst (W.map D.str)]=.ok (.str x) [.lst (W.map D.str)]) (hc:c<W.length):Za9 fo fi fv ρ [.lst (W.map D.str)]=.ok (.nx,ρ) [.lst ((W.set c x).map D.str)]:=by
  have lc:Zf8 [.lst (W.map D.str)] (.ref 0)=some (0,W.map D.str):=rfl
  have ix:ixN (W.map D.str).length (c:Int)=some c:=by
    rw [List.length_map]
    unfold ixN
    rw [if_pos (by omega)]
    simp [hc]
  unfold Za9
  rw [hv,R.bind_ok,h1,R.bind_ok,h3,R.bind_ok]
  simp only [lc,ix]
  rw [List.map_set]
  rfl
theorem ZhF {n:Int} (h0:0≤n) (h1:n≤9999999999) (θ:Sto):Zap [.int n] θ=.ok (.str (txt n)) θ:=by
  have h:n.natAbs.log2<1920:=by
    by_cases z:n.natAbs=0
    · rw [z]; decide
    · rw [Nat.log2_lt z]
      refine Nat.lt_of_lt_of_le (m:=2 ^ 34) (by omega) (Nat.pow_le_pow_right (by decide) (by decide))
  unfold Zap
  simp only [if_pos h]
  rfl
theorem ixW {W:List Str} {k:Nat} {w:Str} (h:W[k]?=some w):ixM (.ref 0) (.int (k:Int)) [.lst (W.map D.str)]=.ok (.str w) [.lst (W.map D.str)]:=by
  have gk:(W.map D.str)[k]?=some (.str w):=by rw [List.getElem?_map,h]; rfl
  have ai:=ZdR (n:=k) gk
  have sq:seqOf [.lst (W.map D.str)] (.ref 0)=some (W.map D.str):=rfl
  unfold ixM ixD
  simp only [sq,Option.bind_some]
  rw [ai]
theorem Zf1 {n:Int} (h0:0≤n) (h1:n≤9999999999):NB (txt n):=⟨fun hc=>by have:=Zau h0 32 hc; omega,by have l:(txt n).length≤20:=PyProof.Rows.toString_length_le h0 (by decide) (by omega); omega,Zcm h0⟩
theorem Zc5 {a b:Str} (ha:NB a) (hb:NB b) (hl:a.length+b.length≤40):NB (a++b):=by
  refine ⟨?_,by rw [z0]; exact hl,ZjB ha.2.2 hb.2.2⟩
  rw [ZL]
  intro z
  rcases List.mem_append.mp z with y | y
  · exact ha.1 y
  · exact hb.1 y
abbrev sw (ns:List Int) (way:Int) (c:Nat) (w:Str) (x5 x6:Sl):List Sl:=[.val (.scr ns),.val (.ref 0),.val (.int way),.val (.int (c:Int)),.val (.str w),x5,x6]
theorem Zdr {w y:Str} {g:Int} {c:Nat} (h:c∈w.cps.toList) (hc:c∉figT.cps.toList):zz w g=none:=ZeD (Zkt h hc)
theorem Zmh {ns:List Int} {W:List Str} {c:Nat} {n:Int} (nb:∀w∈W,NB w) (hl:W.length=7∨W.length=8) (hc:c<4∨c=5∨c=6) (h0:0≤n) (h1:n≤4294967295) :
    ∃W' x5 x6,b_l_wrong_8 (sw ns 0 c (txt n) .no .no) [.lst (W.map D.str)]=.ok (.nx,sw ns 0 c (txt n) x5 x6) [.lst (W'.map D.str)]∧Ends W'∧(∀w∈W',w.length≤41)∧W'.length≤8:=by
  obtain ⟨w,hw⟩:∃w,w=txt n:=⟨_,rfl⟩
  have tl:=Zaf h0 h1
  have nw:=Zf1 h0 (by omega)
  rw [←hw] at tl nw ⊢
  obtain ⟨θ,hθ⟩:∃θ:Sto,θ=[.lst (W.map D.str)]:=⟨_,rfl⟩
  have l1:(Str.ofString "0").length=1∧(Str.ofString "x").length=1∧(Str.ofString "+").length=1∧(Str.ofString "-").length=1∧(Str.ofString " ").length=1:=by decide
  have a0:=adS (a:=Str.ofString "0") (b:=w) (θ:=θ) (by omega)
  have a1:=adS (a:=w) (b:=Str.ofString "x") (θ:=θ) (by omega)
  have a3:=adS (a:=Str.ofString "+") (b:=w) (θ:=θ) (by omega)
  have a4:=adS (a:=w) (b:=Str.ofString " ") (θ:=θ) (by omega)
  have a5:=adS (a:=Str.ofString " ") (b:=w) (θ:=θ) (by omega)
  have a6:=adS (a:=Str.ofString "-") (b:=w) (θ:=θ) (by omega)
  obtain ⟨V,hV⟩:∃V:List Str,V=[Str.ofString "0"++w,w++Str.ofString "x",Str.ofString "",Str.ofString "+"++w,w++Str.ofString " ",Str.ofString " "++w,Str.ofString "-"++w]:=⟨_,rfl⟩
  obtain ⟨v,hv⟩:∃v:Nat,(v:Int)=mix ns 52 % 7:=⟨(mix ns 52 % 7).toNat,by omega⟩
  have v7:v<7:=by omega
  obtain ⟨x,hx⟩:∃x,V[v]?=some x:=⟨V[v]'(by rw [hV]; simpa using v7),List.getElem?_eq_getElem _⟩
  have s1:Zx 5 (zA (Zb (mOp Zz (mC (.str "0")) (Zd 4)) (Zb (mOp Zz (Zd 4) (mC (.str "x"))) (Zb (mC (.str "")) (Zb (mOp Zz (mC (.str "+")) (Zd 4)) (Zb (mOp Zz (Zd 4) (mC (.str " "))) (Zb (mOp Zz (mC (.str " ")) (Zd 4)) (Zb (mOp Zz (mC (.str "-")) (Zd 4)) Zg)))))))) (sw ns 0 c w .no .no) θ=.ok (.nx,sw ns 0 c w (.val (.lst (V.map D.str))) .no) θ:=by
    simp only [ZbZ,Zhz,z7,Zb0,zq,x_c,R.bind_ok,List.getElem?_cons_succ,List.getElem?_cons_zero,a0,a1,a3,a4,a5,a6,Za5]
    rw [if_pos (by simp [BIG]),R.bind_ok,hV]
    rfl
  have hd:b_l_wrong_8 (sw ns 0 c w .no .no) θ=.ok (.nx,sw ns 0 c w (.val (.lst (V.map D.str))) .no) [.lst ((W.set c x).map D.str)]:=by
    have ts:Zl (mOp eqM (Zd 2) (mC (.int 0))) (sw ns 0 c w .no .no) θ=.ok true θ:=by simp
    unfold b_l_wrong_8
    rw [zF,ts,R.bind_ok,if_pos rfl,zb,s1,Zs,hθ]
    refine Zdl rfl rfl ?_ (by omega)
    rw [←hθ]
    have ix:ixM (.lst (V.map D.str)) (.int (v:Int)) θ=.ok (.str x) θ:=by
      have ai:=ZdR (n:=v) (show (V.map D.str)[v]?=some (.str x) by rw [List.getElem?_map,hx]; rfl)
      unfold ixM ixD
      simp only [seqOf,ZO,Option.bind_some]
      rw [ai]
    simp [←hv,ix]
  refine ⟨W.set c x,_,_,by rw [←hθ]; exact hd,?_,?_,by simp; omega⟩
  · have v':v=0∨v=1∨v=2∨v=3∨v=4∨v=5∨v=6:=by omega
    rw [hV] at hx
    rcases v' with rfl | rfl | rfl | rfl | rfl | rfl | rfl
    · cases hx
      refine ZaG nb hl hc (Zc5 (Zay _ (by decide) (by decide)) nw (by omega)) ?_
      rw [hw]
      exact Zh8 h0 h1
    · cases hx
      exact ZaG nb hl hc (Zc5 nw (Zay _ (by decide) (by decide)) (by omega)) (Zdr (y:=w) (c:=120) (by rw [ZL]; exact List.mem_append_right _ (by decide)) (by decide))
    · cases hx
      exact ZaG nb hl hc Zb8 (ZeD ZcG)
    · cases hx
      exact ZaG nb hl hc (Zc5 (Zay _ (by decide) (by decide)) nw (by omega)) (Zdr (y:=w) (c:=43) (by rw [ZL]; exact List.mem_append_left _ (by decide)) (by decide))
    · cases hx
      exact ZcU nb hl (by omega) nw
    · cases hx
      exact ZfD nb hl (by omega) nw
    · cases hx
      exact ZaG nb hl hc (Zc5 (Zay _ (by decide) (by decide)) nw (by omega)) (Zdr (y:=w) (c:=45) (by rw [ZL]; exact List.mem_append_left _ (by decide)) (by decide))
  · intro y hy
    rcases List.mem_or_eq_of_mem_set hy with z | rfl
    · have:=(nb y z).2.1; omega
    · have:y∈V:=List.mem_of_getElem? hx
      rw [hV] at this
      have e0:(Str.ofString "").length=0:=by decide
      simp only [List.mem_cons,List.not_mem_nil,or_false] at this
      rcases this with rfl | rfl | rfl | rfl | rfl | rfl | rfl<;>(try rw [z0])<;>omega
def ZdZ (ns:List Int) (W:List Str) (way:Int) (c:Nat) (w:Str):Prop:=∃d θ' W' x5 x6,b_l_wrong_8 (sw ns way c w .no .no) [.lst (W.map D.str)]=.ok (.nx,[.val (.scr ns),.val d,.val (.int way),.val (.int (c:Int)),.val (.str w),x5,x6]) θ'∧ZO θ' d=some (W'.map D.str)∧Ends W'∧(∀w∈W',w.length≤41)∧W'.length≤9
theorem Zat {ns:List Int} {W W':List Str} {way:Int} {c:Nat} {w:Str} {x5 x6:Sl} (h:b_l_wrong_8 (sw ns way c w .no .no) [.lst (W.map D.str)]=.ok (.nx,sw ns way c w x5 x6) [.lst (W'.map D.str)]) (he:Ends W') (h41:∀w∈W',w.length≤41) (hl:W'.length≤8):ZdZ ns W way c w:=⟨.ref 0,_,W',x5,x6,h,rfl,he,h41,by omega⟩
theorem Zcf {W:List Str} {c:Nat} {x:Str} (nb:∀w∈W,NB w) (hx:x.length≤41):∀w∈W.set c x,w.length≤41:=fun w hw=>by
  rcases List.mem_or_eq_of_mem_set hw with z | rfl
  · have:=(nb w z).2.1; omega
  · exact hx
def Zb1 (c:Nat):Int:=if c=2∨c=3 then 4294967296 else 65536
theorem Zmg {ns:List Int} {W:List Str} {c:Nat} {w:Str} (nb:∀w∈W,NB w) (hl:W.length=7∨W.length=8) (hc:c<4∨c=5∨c=6):ZdZ ns W 1 c w:=by
  obtain ⟨θ,hθ⟩:∃θ:Sto,θ=[.lst (W.map D.str)]:=⟨_,rfl⟩
  have tp:Zb1 c=65536∨Zb1 c=4294967296:=by unfold Zb1; split<;>omega
  have tg:Zg6 c<Zb1 c:=by unfold Zb1 Zg6; split<;>omega
  have tg0:0≤Zg6 c:=by unfold Zg6; split<;>omega
  obtain ⟨n,hn⟩:∃n:Int,n=Zb1 c+mix ns 52 % 1000000:=⟨_,rfl⟩
  have ix:ixM (il [65536,65536,4294967296,4294967296,0,65536,65536]) (.int (c:Int)) θ=.ok (.int (Zb1 c)) θ:=by
    have c6:c=0∨c=1∨c=2∨c=3∨c=5∨c=6:=by omega
    rcases c6 with rfl | rfl | rfl | rfl | rfl | rfl<;>rfl
  have s1:Zx 6 (mOp ixM (zA (Zb (mC (.int 65536)) (Zb (mC (.int 65536)) (Zb (mC (.int 4294967296)) (Zb (mC (.int 4294967296)) (Zb (mC (.int 0)) (Zb (mC (.int 65536)) (Zb (mC (.int 65536)) Zg)))))))) (Zd 3)) (sw ns 1 c w .no .no) θ=.ok (.nx,sw ns 1 c w .no (.val (.int (Zb1 c)))) θ:=by
    simp [ix]
  have st:=ZhF (n:=n) (by omega) (by omega) θ
  have hd:b_l_wrong_8 (sw ns 1 c w .no .no) θ=.ok (.nx,sw ns 1 c w .no (.val (.int (Zb1 c)))) [.lst ((W.set c (txt n)).map D.str)]:=by
    have ts:Zl (mOp eqM (Zd 2) (mC (.int 0))) (sw ns 1 c w .no .no) θ=.ok false θ:=by simp
    have ts1:Zl (mOp eqM (Zd 2) (mC (.int 1))) (sw ns 1 c w .no .no) θ=.ok true θ:=by simp
    unfold b_l_wrong_8 Zan
    rw [zF,ts,R.bind_ok,if_neg (by decide),zF,ts1,R.bind_ok,if_pos rfl,zb,s1,Zs,hθ]
    refine Zdl rfl rfl ?_ (by omega)
    rw [←hθ]
    have pc:ZkT 10 6:=⟨by decide,by decide,by decide⟩
    simp [pc,←hn,st]
  have nt:=Zf1 (n:=n) (by omega) (by omega)
  exact Zat (by rw [←hθ]; exact hd) (ZaG nb hl hc nt (Zjg tg0 (by omega) (by omega))) (Zcf nb (by have:=nt.2.1; omega)) (by simp; omega)
theorem ix_list {V:List Str} {v:Nat} {x:Str} (h:V[v]?=some x) (θ:Sto):ixM (.lst (V.map D.str)) (.int (v:Int)) θ=.ok (.str x) θ:=by
  have ai:=ZdR (n:=v) (show (V.map D.str)[v]?=some (.str x) by rw [List.getElem?_map,h]; rfl)
  unfold ixM ixD
  simp only [seqOf,ZO,Option.bind_some]
  rw [ai]
def V2:List Str:=["","ack+fin","fin+fin","none+ack","Fin","fin+","+ack","urg","syn+fin"]
theorem ZlU:∀x∈V2,(x.cps.toList.all fun c=>decide (c<128) && decide (c≠32))=true∧x.length≤40∧flagR x=none:=by decide +kernel
theorem Zmf {ns:List Int} {W:List Str} {c:Nat} {w:Str} (nb:∀w∈W,NB w) (hl:W.length=7∨W.length=8):ZdZ ns W 2 c w:=by
  obtain ⟨θ,hθ⟩:∃θ:Sto,θ=[.lst (W.map D.str)]:=⟨_,rfl⟩
  obtain ⟨v,hv⟩:∃v:Nat,(v:Int)=mix ns 52 % 9:=⟨(mix ns 52 % 9).toNat,by omega⟩
  have v9:v<9:=by omega
  obtain ⟨x,hx⟩:∃x,V2[v]?=some x:=⟨V2[v]'(by simpa [V2] using v9),List.getElem?_eq_getElem _⟩
  obtain ⟨o1,o2,o3⟩:=ZlU x (List.mem_of_getElem? hx)
  have nx:=Zay x o1 o2
  have ix:=ix_list hx θ
  have hd:b_l_wrong_8 (sw ns 2 c w .no .no) θ=.ok (.nx,sw ns 2 c w (.val (.lst (V2.map D.str))) .no) [.lst ((W.set 4 x).map D.str)]:=by
    have ts:Zl (mOp eqM (Zd 2) (mC (.int 0))) (sw ns 2 c w .no .no) θ=.ok false θ:=by simp
    have ts1:Zl (mOp eqM (Zd 2) (mC (.int 1))) (sw ns 2 c w .no .no) θ=.ok false θ:=by simp
    have ts2:Zl (mOp eqM (Zd 2) (mC (.int 2))) (sw ns 2 c w .no .no) θ=.ok true θ:=by simp
    have s1:Zx 5 (zA (Zb (mC (.str "")) (Zb (mC (.str "ack+fin")) (Zb (mC (.str "fin+fin")) (Zb (mC (.str "none+ack")) (Zb (mC (.str "Fin")) (Zb (mC (.str "fin+")) (Zb (mC (.str "+ack")) (Zb (mC (.str "urg")) (Zb (mC (.str "syn+fin")) Zg)))))))))) (sw ns 2 c w .no .no) θ=.ok (.nx,sw ns 2 c w (.val (.lst (V2.map D.str))) .no) θ:=rfl
    unfold b_l_wrong_8 Zan Zbh
    rw [zF,ts,R.bind_ok,if_neg (by decide),zF,ts1,R.bind_ok,if_neg (by decide),zF,ts2,R.bind_ok,if_pos rfl,zb,s1,Zs,hθ]
    refine Zdl (c:=4) rfl rfl ?_ (by omega)
    rw [←hθ]
    obtain ⟨Q,hQ⟩:∃Q,Q=V2.map D.str:=⟨_,rfl⟩
    rw [←hQ] at ix ⊢
    simp [←hv,ix]
  exact Zat (by rw [←hθ]; exact hd) (Zhl nb hl nx o3) (Zcf nb (by omega)) (by simp; omega)
def V3:List Str:=["abc","AB","0g","","0 1",Txt.mul (Str.ofString "00") 17,"0"]
instance (w:Str):Decidable (ZaX w):=by unfold ZaX; infer_instance
theorem ZlT:∀x∈V3,x≠Str.ofString "0 1"→(x.cps.toList.all fun c=>decide (c<128) && decide (c≠32))=true∧x.length≤40∧ZaX x:=by decide +kernel
theorem ZgE {ns:List Int} {way:Int} {c:Nat} {w:Str} {θ:Sto} (h0:way≠0) (h1:way≠1) (h2:way≠2):b_l_wrong_8 (sw ns way c w .no .no) θ=zp (sw ns way c w .no .no) θ:=by
  have ts:Zl (mOp eqM (Zd 2) (mC (.int 0))) (sw ns way c w .no .no) θ=.ok false θ:=by simp [h0]
  have ts1:Zl (mOp eqM (Zd 2) (mC (.int 1))) (sw ns way c w .no .no) θ=.ok false θ:=by simp [h1]
  have ts2:Zl (mOp eqM (Zd 2) (mC (.int 2))) (sw ns way c w .no .no) θ=.ok false θ:=by simp [h2]
  unfold b_l_wrong_8 Zan Zbh
  rw [zF,ts,R.bind_ok,if_neg (by decide),zF,ts1,R.bind_ok,if_neg (by decide),zF,ts2,R.bind_ok,if_neg (by decide)]
theorem Zj7 {W:List Str} {ρ:List Sl} {k:Nat} {p:EM} (h1:ρ[1]?=some (Sl.val (.ref 0))) (hp:p ρ [.lst (W.map D.str)]=.ok (.int (k:Int)) [.lst (W.map D.str)]):mSl (Zd 1) Z8 (zR p) ρ [.lst (W.map D.str)]=.ok (.lst ((W.take k).map D.str)) [.lst (W.map D.str)]:=by
  have ls:ZO [.lst (W.map D.str)] (.ref 0)=some (W.map D.str):=rfl
  have ct:=ZiH (W.map D.str) (k:=(k:Int)) (by omega)
  have sd:Zaq [.lst (W.map D.str)] (.ref 0) none (some (k:Int))=some (.lst ((W.take k).map D.str)):=by
    unfold Zaq
    simp only [ls,Option.map_some]
    rw [ct,Int.toNat_natCast,List.map_take]
  unfold mSl Z8 zR
  simp only [zq,h1,R.bind_ok,hp,sd]
theorem ZgO {a b:List Str} {θ:Sto} (h:a.length+b.length≤100):Zz (.lst (a.map D.str)) (.lst (b.map D.str)) θ=.ok (.lst ((a++b).map D.str)) θ:=by
  unfold Zz
  simp only [ZO]
  rw [if_pos (by simp [BIG]; omega),List.map_append]
theorem Zme {ns:List Int} {W:List Str} {c:Nat} {w:Str} (nb:∀w∈W,NB w) (hl:W.length=7∨W.length=8):ZdZ ns W 3 c w:=by
  obtain ⟨θ,hθ⟩:∃θ:Sto,θ=[.lst (W.map D.str)]:=⟨_,rfl⟩
  obtain ⟨v,hv⟩:∃v:Nat,(v:Int)=mix ns 52 % 7:=⟨(mix ns 52 % 7).toNat,by omega⟩
  have v7:v<7:=by omega
  obtain ⟨x,hx⟩:∃x,V3[v]?=some x:=⟨V3[v]'(by simpa [V3] using v7),List.getElem?_eq_getElem _⟩
  have mx:=List.mem_of_getElem? hx
  have sl:=Zj7 (W:=W) (ρ:=sw ns 3 c w .no .no) (k:=7) (p:=mC (.int 7)) rfl rfl
  rw [←hθ] at sl
  have e2:mSl (mSl (zA (Zb (mC (.str "abc")) (Zb (mC (.str "AB")) (Zb (mC (.str "0g")) (Zb (mC (.str "")) (Zb (mC (.str "0 1")) (Zb (mOp ZcR (mC (.str "00")) (mC (.int 17))) (Zb (mC (.str "0")) Zg)))))))) (zR (mOp ZU (mCB ZJ (Zb (Zd 0) (Zb (mC (.int 52)) Zg))) (mC (.int 7)))) Z8) Z8 (zR (mC (.int 1))) (sw ns 3 c w .no .no) θ=.ok (.lst ([x].map D.str)) θ:=by
    have mu:ZcR (.str (Str.ofString "00")) (.int 17) θ=.ok (.str (Txt.mul (Str.ofString "00") 17)) θ:=by
      unfold ZcR
      exact if_pos (by decide)
    have l:zA (Zb (mC (.str "abc")) (Zb (mC (.str "AB")) (Zb (mC (.str "0g")) (Zb (mC (.str "")) (Zb (mC (.str "0 1")) (Zb (mOp ZcR (mC (.str "00")) (mC (.int 17))) (Zb (mC (.str "0")) Zg))))))) (sw ns 3 c w .no .no) θ=.ok (.lst (V3.map D.str)) θ:=by
      simp only [Zhz,z7,Zb0,x_c,R.bind_ok,mu,Za5]
      rw [if_pos (by simp [BIG])]
      rfl
    have pm:mOp ZU (mCB ZJ (Zb (Zd 0) (Zb (mC (.int 52)) Zg))) (mC (.int 7)) (sw ns 3 c w .no .no) θ=.ok (.int (v:Int)) θ:=by simp [hv]
    have s1:Zaq θ (.lst (V3.map D.str)) (some (v:Int)) none=some (.lst ((V3.drop v).map D.str)):=by
      unfold Zaq
      simp only [ZO,Option.map_some]
      rw [ZiI _ (by omega),Int.toNat_natCast,List.map_drop]
    have s2:Zaq θ (.lst ((V3.drop v).map D.str)) none (some 1)=some (.lst ([x].map D.str)):=by
      unfold Zaq
      simp only [ZO,Option.map_some]
      rw [ZiH _ (by omega)]
      have d:V3.drop v=x::V3.drop (v+1):=by
        have:=List.drop_eq_getElem_cons (l:=V3) (i:=v) (by simpa [V3] using v7)
        rw [this]
        congr 1
        exact Option.some.inj ((List.getElem?_eq_getElem _).symm.trans hx)
      rw [d]
      rfl
    have i1:mSl (zA (Zb (mC (.str "abc")) (Zb (mC (.str "AB")) (Zb (mC (.str "0g")) (Zb (mC (.str "")) (Zb (mC (.str "0 1")) (Zb (mOp ZcR (mC (.str "00")) (mC (.int 17))) (Zb (mC (.str "0")) Zg)))))))) (zR (mOp ZU (mCB ZJ (Zb (Zd 0) (Zb (mC (.int 52)) Zg))) (mC (.int 7)))) Z8 (sw ns 3 c w .no .no) θ=.ok (.lst ((V3.drop v).map D.str)) θ:=by
      unfold mSl Z8 zR
      rw [l,R.bind_ok,pm]
      simp only [R.bind_ok,s1]
    rw [show ∀f:EM,mSl f Z8 (zR (mC (.int 1))) (sw ns 3 c w .no .no) θ=(f (sw ns 3 c w .no .no) θ).bind fun x θ=>match Zaq θ x none (some 1) with | some d=>.ok d θ | none=>.bad from fun f=>rfl,i1,R.bind_ok,s2]
  have hd:b_l_wrong_8 (sw ns 3 c w .no .no) θ=.ok (.nx,[.val (.scr ns),.val (.lst ((W.take 7++[x]).map D.str)),.val (.int 3),.val (.int (c:Int)),.val (.str w),.no,.no]) θ:=by
    have ts:Zl (mOp eqM (Zd 2) (mC (.int 3))) (sw ns 3 c w .no .no) θ=.ok true θ:=by simp
    rw [ZgE (by decide) (by decide) (by decide)]
    unfold zp
    rw [zF,ts,R.bind_ok,if_pos rfl,ZbZ,Zb0,sl,R.bind_ok,e2,R.bind_ok,ZgO (by simp; omega),R.bind_ok]
    rfl
  refine ⟨_,_,W.take 7++[x],_,_,by rw [←hθ]; exact hd,rfl,?_,?_,by simp; omega⟩
  · by_cases c1:x=Str.ofString "0 1"
    · exact ZfC (y:=Str.ofString "0") (z:=Str.ofString "1") nb hl (by simp) (by rw [c1]; decide) (Zay _ (by decide) (by decide)) (Zay _ (by decide) (by decide))
    · obtain ⟨o1,o2,o3⟩:=ZlT x mx c1
      exact Zhm nb hl (Zay x o1 o2) o3
  · intro y hy
    rcases List.mem_append.mp hy with z | z
    · have:=(nb y (List.mem_of_mem_take z)).2.1; omega
    · have e:y=x:=by simpa using z
      rw [e]
      have:∀x∈V3,x.length≤41:=by decide +kernel
      exact this x mx
theorem Zmd {ns:List Int} {W:List Str} {c:Nat} {w:Str} (nb:∀w∈W,NB w) (hl:W.length=7∨W.length=8):ZdZ ns W 4 c w:=by
  obtain ⟨θ,hθ⟩:∃θ:Sto,θ=[.lst (W.map D.str)]:=⟨_,rfl⟩
  have sl:=Zj7 (W:=W) (ρ:=sw ns 4 c w .no .no) (k:=7) (p:=mC (.int 7)) rfl rfl
  rw [←hθ] at sl
  have hd:b_l_wrong_8 (sw ns 4 c w .no .no) θ=.ok (.nx,[.val (.scr ns),.val (.lst ((W.take 7++[Str.ofString "00",Str.ofString "00"]).map D.str)),.val (.int 4),.val (.int (c:Int)),.val (.str w),.no,.no]) θ:=by
    have ts:Zl (mOp eqM (Zd 2) (mC (.int 3))) (sw ns 4 c w .no .no) θ=.ok false θ:=by simp
    have ts1:Zl (mOp eqM (Zd 2) (mC (.int 4))) (sw ns 4 c w .no .no) θ=.ok true θ:=by simp
    have e2:zA (Zb (mC (.str "00")) (Zb (mC (.str "00")) Zg)) (sw ns 4 c w .no .no) θ=.ok (.lst ([Str.ofString "00",Str.ofString "00"].map D.str)) θ:=rfl
    rw [ZgE (by decide) (by decide) (by decide)]
    unfold zp Zao
    rw [zF,ts,R.bind_ok,if_neg (by decide),zF,ts1,R.bind_ok,if_pos rfl,ZbZ,Zb0,sl,R.bind_ok,e2,R.bind_ok,ZgO (by simp; omega),R.bind_ok]
    rfl
  refine ⟨_,_,W.take 7++[Str.ofString "00",Str.ofString "00"],_,_,by rw [←hθ]; exact hd,rfl,?_,?_,by simp; omega⟩
  · exact ZfC nb hl (by simp) rfl (Zay _ (by decide) (by decide)) (Zay _ (by decide) (by decide))
  · intro y hy
    rcases List.mem_append.mp hy with z | z
    · have:=(nb y (List.mem_of_mem_take z)).2.1; omega
    · have e:y=Str.ofString "00":=by simpa using z
      rw [e]
      decide
theorem Zmc {ns:List Int} {W:List Str} {c:Nat} {w:Str} (nb:∀w∈W,NB w) (hl:W.length=7∨W.length=8):ZdZ ns W 5 c w:=by
  obtain ⟨θ,hθ⟩:∃θ:Sto,θ=[.lst (W.map D.str)]:=⟨_,rfl⟩
  obtain ⟨v,hv⟩:∃v:Nat,(v:Int)=mix ns 52 % 7:=⟨(mix ns 52 % 7).toNat,by omega⟩
  have v7:v<7:=by omega
  have sl:=Zj7 (W:=W) (ρ:=sw ns 5 c w .no .no) (k:=v) (p:=mOp ZU (mCB ZJ (Zb (Zd 0) (Zb (mC (.int 52)) Zg))) (mC (.int 7))) rfl (by simp [hv])
  rw [←hθ] at sl
  have hd:b_l_wrong_8 (sw ns 5 c w .no .no) θ=.ok (.nx,[.val (.scr ns),.val (.lst ((W.take v).map D.str)),.val (.int 5),.val (.int (c:Int)),.val (.str w),.no,.no]) θ:=by
    have ts:Zl (mOp eqM (Zd 2) (mC (.int 3))) (sw ns 5 c w .no .no) θ=.ok false θ:=by simp
    have ts1:Zl (mOp eqM (Zd 2) (mC (.int 4))) (sw ns 5 c w .no .no) θ=.ok false θ:=by simp
    have ts2:Zl (mOp eqM (Zd 2) (mC (.int 5))) (sw ns 5 c w .no .no) θ=.ok true θ:=by simp
    rw [ZgE (by decide) (by decide) (by decide)]
    unfold zp Zao Zbi
    rw [zF,ts,R.bind_ok,if_neg (by decide),zF,ts1,R.bind_ok,if_neg (by decide),zF,ts2,R.bind_ok,if_pos rfl,ZbZ,sl,R.bind_ok]
    rfl
  exact ⟨_,_,W.take v,_,_,by rw [←hθ]; exact hd,rfl,ZiG nb hl v7,fun y hy=>by have:=(nb y (List.mem_of_mem_take hy)).2.1; omega,by simp; omega⟩
theorem Zix {ns:List Int} {way:Int} {c:Nat} {w:Str} {θ:Sto} (h0:way≠0) (h1:way≠1) (h2:way≠2) (h3:way≠3) (h4:way≠4) (h5:way≠5):b_l_wrong_8 (sw ns way c w .no .no) θ=zM (sw ns way c w .no .no) θ:=by
  have ts:Zl (mOp eqM (Zd 2) (mC (.int 3))) (sw ns way c w .no .no) θ=.ok false θ:=by simp [h3]
  have ts1:Zl (mOp eqM (Zd 2) (mC (.int 4))) (sw ns way c w .no .no) θ=.ok false θ:=by simp [h4]
  have ts2:Zl (mOp eqM (Zd 2) (mC (.int 5))) (sw ns way c w .no .no) θ=.ok false θ:=by simp [h5]
  rw [ZgE h0 h1 h2]
  unfold zp Zao Zbi
  rw [zF,ts,R.bind_ok,if_neg (by decide),zF,ts1,R.bind_ok,if_neg (by decide),zF,ts2,R.bind_ok,if_neg (by decide)]
theorem Zgx {n f:Int} (h0:1≤n) (h1:n≤1000) (h:n<4∨bit f 2=0):ZcS (txt n) f=none:=by
  have v:=Zep (n:=n) (by omega) (by omega)
  have r:zz (txt n) 65535=none∨zz (txt n) 65535=some n:=by
    unfold zz
    split
    · exact .inl rfl
    · rw [v]
      split
      · exact .inl rfl
      · exact .inr rfl
  unfold ZcS
  rcases r with r | r
  · rw [r]
  · rw [r]
    simp only
    rw [if_pos ⟨by omega,h⟩]
theorem Zmb {ns:List Int} {W:List Str} {c:Nat} {w:Str} (nb:∀w∈W,NB w) (hl:W.length=7∨W.length=8):ZdZ ns W 6 c w:=by
  obtain ⟨θ,hθ⟩:∃θ:Sto,θ=[.lst (W.map D.str)]:=⟨_,rfl⟩
  obtain ⟨n,hn⟩:∃n:Int,n=1+mix ns 52 % 3:=⟨_,rfl⟩
  have st:=ZhF (n:=n) (by omega) (by omega) θ
  have hd:b_l_wrong_8 (sw ns 6 c w .no .no) θ=.ok (.nx,sw ns 6 c w .no .no) [.lst ((W.set 6 (txt n)).map D.str)]:=by
    have ts:Zl (mOp eqM (Zd 2) (mC (.int 6))) (sw ns 6 c w .no .no) θ=.ok true θ:=by simp
    rw [Zix (by decide) (by decide) (by decide) (by decide) (by decide) (by decide)]
    unfold zM
    rw [zF,ts,R.bind_ok,if_pos rfl,hθ]
    refine Zdl (c:=6) rfl rfl ?_ (by omega)
    rw [←hθ]
    simp [←hn,st]
  have nt:=Zf1 (n:=n) (by omega) (by omega)
  refine Zat (by rw [←hθ]; exact hd) (ZaH (Zeu (by omega)) (Zdv nb nt) (by simp; omega) (.inr (.inr (.inr (.inl ⟨W[4]'(by omega),txt n,?_,List.getElem?_set_self (by omega),fun f _=>Zgx (by omega) (by omega) (.inl (by omega))⟩))))) (Zcf nb (by have:=nt.2.1; omega)) (by simp; omega)
  rw [List.getElem?_set_ne (by decide)]
  exact List.getElem?_eq_getElem _
def V7:List Str:=["none","ack","fin","rst+psh"]
theorem ZlS:∀x∈V7,(x.cps.toList.all fun c=>decide (c<128) && decide (c≠32))=true∧x.length≤40∧(flagR x=some 0∨flagR x=some 16∨flagR x=some 1∨flagR x=some 12):=by decide +kernel
theorem ZmD:Str.ofString "16"=txt 16:=by decide +kernel
theorem Zma {ns:List Int} {W:List Str} {c:Nat} {w:Str} (nb:∀w∈W,NB w) (hl:W.length=7∨W.length=8):ZdZ ns W 7 c w:=by
  obtain ⟨θ,hθ⟩:∃θ:Sto,θ=[.lst (W.map D.str)]:=⟨_,rfl⟩
  obtain ⟨v,hv⟩:∃v:Nat,(v:Int)=mix ns 52 % 4:=⟨(mix ns 52 % 4).toNat,by omega⟩
  have v4:v<4:=by omega
  obtain ⟨x,hx⟩:∃x,V7[v]?=some x:=⟨V7[v]'(by simpa [V7] using v4),List.getElem?_eq_getElem _⟩
  obtain ⟨o1,o2,o3⟩:=ZlS x (List.mem_of_getElem? hx)
  have nx:=Zay x o1 o2
  have n16:=Zay (Str.ofString "16") (by decide) (by decide)
  have nb6:=Zdv (c:=6) nb n16
  obtain ⟨W6,hW6⟩:∃W6,W6=W.set 6 (Str.ofString "16"):=⟨_,rfl⟩
  have l6:W6.length=W.length:=by rw [hW6]; simp
  have hd:b_l_wrong_8 (sw ns 7 c w .no .no) θ=.ok (.nx,sw ns 7 c w .no .no) [.lst ((W6.set 4 x).map D.str)]:=by
    have ts:Zl (mOp eqM (Zd 2) (mC (.int 6))) (sw ns 7 c w .no .no) θ=.ok false θ:=by simp
    have ts1:Zl (mOp eqM (Zd 2) (mC (.int 7))) (sw ns 7 c w .no .no) θ=.ok true θ:=by simp
    have s1:Za9 (Zd 1) (mC (.int 6)) (mC (.str "16")) (sw ns 7 c w .no .no) θ=.ok (.nx,sw ns 7 c w .no .no) [.lst (W6.map D.str)]:=by
      rw [hW6,hθ]
      exact Zdl (c:=6) rfl rfl rfl (by omega)
    rw [Zix (by decide) (by decide) (by decide) (by decide) (by decide) (by decide)]
    unfold zM Zbj
    rw [zF,ts,R.bind_ok,if_neg (by decide),zF,ts1,R.bind_ok,if_pos rfl,zb,s1,Zs]
    refine Zdl (c:=4) rfl rfl ?_ (by omega)
    have ix:=ix_list hx [.lst (W6.map D.str)]
    have l:zA (Zb (mC (.str "none")) (Zb (mC (.str "ack")) (Zb (mC (.str "fin")) (Zb (mC (.str "rst+psh")) Zg)))) (sw ns 7 c w .no .no) [.lst (W6.map D.str)]=.ok (.lst (V7.map D.str)) [.lst (W6.map D.str)]:=rfl
    have pm:mOp ZU (mCB ZJ (Zb (Zd 0) (Zb (mC (.int 52)) Zg))) (mC (.int 4)) (sw ns 7 c w .no .no) [.lst (W6.map D.str)]=.ok (.int (v:Int)) [.lst (W6.map D.str)]:=by simp [hv]
    rw [Zb0,l,R.bind_ok,pm,R.bind_ok,ix]
  rw [←hW6] at nb6
  refine Zat (by rw [←hθ]; exact hd) (ZaH (Zeu (by omega)) (Zdv nb6 nx) (by simp; omega) (.inr (.inr (.inr (.inl ⟨x,Str.ofString "16",List.getElem?_set_self (by omega),?_,fun f hf=>?_⟩))))) (Zcf nb6 (by omega)) (by simp; omega)
  · rw [List.getElem?_set_ne (by decide),hW6]
    exact List.getElem?_set_self (by omega)
  · rw [ZmD]
    refine Zgx (by omega) (by omega) (.inr ?_)
    rcases o3 with z | z | z | z<;>(rw [z] at hf; cases hf; decide)
theorem Zl9 {ns:List Int} {W:List Str} {c:Nat} {w:Str} (nb:∀w∈W,NB w) (hl:W.length=7∨W.length=8):ZdZ ns W 8 c w:=by
  obtain ⟨θ,hθ⟩:∃θ:Sto,θ=[.lst (W.map D.str)]:=⟨_,rfl⟩
  obtain ⟨x,hx⟩:∃x,W[4]?=some x:=⟨W[4]'(by omega),List.getElem?_eq_getElem _⟩
  have nx:=nb x (List.mem_of_getElem? hx)
  have xl:=nx.2.1
  have bl:(Str.ofString " ").length=1:=by decide
  have ix:=ixW hx
  rw [←hθ] at ix
  have ad:=adS (a:=x) (b:=Str.ofString " ") (θ:=θ) (by omega)
  have hd:b_l_wrong_8 (sw ns 8 c w .no .no) θ=.ok (.nx,sw ns 8 c w .no .no) [.lst ((W.set 4 (x++Str.ofString " ")).map D.str)]:=by
    have ts:Zl (mOp eqM (Zd 2) (mC (.int 6))) (sw ns 8 c w .no .no) θ=.ok false θ:=by simp
    have ts1:Zl (mOp eqM (Zd 2) (mC (.int 7))) (sw ns 8 c w .no .no) θ=.ok false θ:=by simp
    rw [Zix (by decide) (by decide) (by decide) (by decide) (by decide) (by decide)]
    unfold zM Zbj
    rw [zF,ts,R.bind_ok,if_neg (by decide),zF,ts1,R.bind_ok,if_neg (by decide),hθ]
    refine Zdl (c:=4) rfl rfl ?_ (by omega)
    rw [←hθ]
    have i4:ixM (.ref 0) (.int 4) θ=.ok (.str x) θ:=ix
    simp only [Zb0,zq,x_c,R.bind_ok,List.getElem?_cons_succ,List.getElem?_cons_zero,i4,ad]
  exact Zat (by rw [←hθ]; exact hd) (ZcU nb hl (by omega) nx) (Zcf nb (by rw [z0]; omega)) (by simp; omega)
theorem Zf6 {s:Seg} (h:s.Ok):(∀w∈ZM s,NB w)∧((ZM s).length=7∨(ZM s).length=8)∧∀c:Nat,c<4∨c=5∨c=6→∃n:Int,(ZM s)[c]?=some (txt n)∧0≤n∧n≤4294967295:=by
  have hs:=h.src
  have hg:=h.goal
  have hn:=h.num
  have ha:=h.ans
  have hw:=h.win
  have hm:0≤s.most∧s.most≤65535:=by rcases h.most with e | e<;>omega
  refine ⟨fun w hw=>ZbK h w hw,by rw [Zbm]; split<;>simp,fun c hc=>?_⟩
  have c6:c=0∨c=1∨c=2∨c=3∨c=5∨c=6:=by omega
  rcases c6 with rfl | rfl | rfl | rfl | rfl | rfl
  · exact ⟨s.src,rfl,by omega,by omega⟩
  · exact ⟨s.goal,rfl,by omega,by omega⟩
  · exact ⟨s.num,rfl,by omega,by omega⟩
  · exact ⟨s.ans,rfl,by omega,by omega⟩
  · exact ⟨s.win,rfl,by omega,by omega⟩
  · exact ⟨s.most,rfl,by omega,by omega⟩
theorem ZiU {ns:List Int} {W:List Str} (nb:∀w∈W,NB w) (hl:W.length=7∨W.length=8) (hn:∀c:Nat,c<4∨c=5∨c=6→∃n:Int,W[c]?=some (txt n)∧0≤n∧n≤4294967295):∃θ' W',ZaV [.scr ns,.ref 0] [.lst (W.map D.str)]=.ok (.str (Str.join (Str.ofString " ") W')) θ'∧Ends W':=by
  obtain ⟨θ,hθ⟩:∃θ:Sto,θ=[.lst (W.map D.str)]:=⟨_,rfl⟩
  obtain ⟨way,hway⟩:∃way,way=mix ns 50 % 9:=⟨_,rfl⟩
  obtain ⟨c,hc,hix⟩:∃c:Nat,(c<4∨c=5∨c=6)∧ixM (il [0,1,2,3,5,6]) (.int (mix ns 51 % 6)) θ=.ok (.int (c:Int)) θ:=by
    have m6:mix ns 51 % 6=0∨mix ns 51 % 6=1∨mix ns 51 % 6=2∨mix ns 51 % 6=3∨mix ns 51 % 6=4∨mix ns 51 % 6=5:=by omega
    rcases m6 with e | e | e | e | e | e<;>rw [e]
    · exact ⟨0,by omega,rfl⟩
    · exact ⟨1,by omega,rfl⟩
    · exact ⟨2,by omega,rfl⟩
    · exact ⟨3,by omega,rfl⟩
    · exact ⟨5,by omega,rfl⟩
    · exact ⟨6,by omega,rfl⟩
  obtain ⟨n,hw,n0,n1⟩:=hn c hc
  have ix:=ixW hw
  rw [←hθ] at ix
  obtain ⟨d,θ',W',x5,x6,e,hls,he,h41,h9⟩:ZdZ ns W way c (txt n):=by
    have w9:way=0∨way=1∨way=2∨way=3∨way=4∨way=5∨way=6∨way=7∨way=8:=by omega
    rcases w9 with e | e | e | e | e | e | e | e | e<;>rw [e]
    · obtain ⟨W',x5,x6,a,b,c',d⟩:=Zmh (ns:=ns) nb hl hc n0 n1
      exact Zat a b c' d
    · exact Zmg nb hl hc
    · exact Zmf nb hl
    · exact Zme nb hl
    · exact Zmd nb hl
    · exact Zmc nb hl
    · exact Zmb nb hl
    · exact Zma nb hl
    · exact Zl9 nb hl
  rw [←hθ] at e
  refine ⟨θ',W',?_,he⟩
  have jo:JoinOk (Str.ofString " ") W'=true:=Zcg (fun t ht=>by
    have:=h41 t ht
    have:(Str.ofString " ").length=1:=by decide
    omega) (by omega)
  have s2:Zx 2 (mOp ZU (mCB ZJ (Zb (Zd 0) (Zb (mC (.int 50)) Zg))) (mC (.int 9))) (Z1 7 [.scr ns,.ref 0]) θ=.ok (.nx,[.val (.scr ns),.val (.ref 0),.val (.int way),.no,.no,.no,.no]) θ:=by simp [Z1,hway]
  have s3:Zx 3 (mOp ixM (zA (Zb (mC (.int 0)) (Zb (mC (.int 1)) (Zb (mC (.int 2)) (Zb (mC (.int 3)) (Zb (mC (.int 5)) (Zb (mC (.int 6)) Zg))))))) (mOp ZU (mCB ZJ (Zb (Zd 0) (Zb (mC (.int 51)) Zg))) (mC (.int 6)))) [.val (.scr ns),.val (.ref 0),.val (.int way),.no,.no,.no,.no] θ=.ok (.nx,[.val (.scr ns),.val (.ref 0),.val (.int way),.val (.int (c:Int)),.no,.no,.no]) θ:=by simp [hix]
  have s4:Zx 4 (mOp ixM (Zd 1) (Zd 3)) [.val (.scr ns),.val (.ref 0),.val (.int way),.val (.int (c:Int)),.no,.no,.no] θ=.ok (.nx,sw ns way c (txt n) .no .no) θ:=by simp [ix]
  have jn:Zah (mC (.str " ")) (Zd 1) [.val (.scr ns),.val d,.val (.int way),.val (.int (c:Int)),.val (.str (txt n)),x5,x6] θ'=.ok (.str (Str.join (Str.ofString " ") W')) θ':=by
    unfold Zah
    rw [x_c]
    simp only [R.bind_ok,zq,List.getElem?_cons_succ,List.getElem?_cons_zero,hls,Option.bind_some,Zav]
    rw [if_pos jo]
    unfold Txt.join
    rw [StrLaws.glued_eq_join]
  have all:ZcP (Z1 7 [.scr ns,.ref 0]) θ=.ok (.rt (.str (Str.join (Str.ofString " ") W')),[.val (.scr ns),.val d,.val (.int way),.val (.int (c:Int)),.val (.str (txt n)),x5,x6]) θ':=by
    unfold ZcP
    rw [zb,s2,Zs,zb,s3,Zs,zb,s4,Zs,zb,e,Zs,Zhy,jn,R.bind_ok]
  rw [←hθ]
  unfold ZaV
  rw [Zgg,if_pos (show [D.scr ns,D.ref 0].length=2 from rfl),all,R.bind_ok]
theorem law_true (ns:List Int) (hn:ns.length≤63):∃θ',Zfu [.scr ns] []=.ok (.bl true) θ':=by
  obtain ⟨s,hs⟩:∃x,x=Zbk ns 0:=⟨_,rfl⟩
  have ta:=Zk3 ns 0 []
  have h:s.Ok:=by rw [hs]; exact ZkO ns 0
  rw [←hs] at ta
  have tl:=Zj3 h
  obtain ⟨l1,l2,l3⟩:=Zf6 h
  have rn:=ZiW h [.lst ((ZM s).map D.str)]
  have lj:=ZcB s
  obtain ⟨W,hW⟩:∃W,W=ZM s:=⟨_,rfl⟩
  rw [←hW] at tl l1 l2 l3 rn lj
  have s1:Zx 1 (mCB Zeh (Zb (Zd 0) (Zb (mC (.int 0)) Zg))) (Z1 5 [.scr ns]) []=.ok (.nx,[.val (.scr ns),.val s.d,.no,.no,.no]) []:=by simp [Z1,ta]
  have s2:Zx 2 (mCB ZcC (Zb (Zd 1) Zg)) [.val (.scr ns),.val s.d,.no,.no,.no] []=.ok (.nx,[.val (.scr ns),.val s.d,.val (.ref 0),.no,.no]) [.lst (W.map D.str)]:=by simp [tl]
  by_cases c:mix ns 49 % 5=0
  · have jo:JoinOk (Str.ofString " ") W=true:=Zcg (fun t ht=>by
      have:=(l1 t ht).2.1
      have:(Str.ofString " ").length=1:=by decide
      omega) (by omega)
    have jn:Zah (mC (.str " ")) (Zd 2) [.val (.scr ns),.val s.d,.val (.ref 0),.no,.no] [.lst (W.map D.str)]=.ok (.str (Zba s)) [.lst (W.map D.str)]:=by
      have ls:ZO [.lst (W.map D.str)] (.ref 0)=some (W.map D.str):=rfl
      unfold Zah
      rw [x_c]
      simp only [R.bind_ok,zq,List.getElem?_cons_succ,List.getElem?_cons_zero,ls,Option.bind_some,Zav]
      rw [if_pos jo,hW]
      rfl
    have es:=ZkL s [.lst (W.map D.str)]
    have s3:ZaI [.val (.scr ns),.val s.d,.val (.ref 0),.no,.no] [.lst (W.map D.str)]=.ok (.rt (.bl true),[.val (.scr ns),.val s.d,.val (.ref 0),.no,.no]) [.lst (W.map D.str)]:=by
      have ts:Zl (mOp eqM (mOp ZU (mCB ZJ (Zb (Zd 0) (Zb (mC (.int 49)) Zg))) (mC (.int 5))) (mC (.int 0))) [.val (.scr ns),.val s.d,.val (.ref 0),.no,.no] [.lst (W.map D.str)]=.ok true [.lst (W.map D.str)]:=by simp [c]
      unfold ZaI
      rw [zF,ts,R.bind_ok,if_pos rfl,Zhy,Zb0,ZhB,z7,jn]
      simp only [R.bind_ok,Za5,rn,zq,List.getElem?_cons_succ,List.getElem?_cons_zero,es]
    refine ⟨[.lst (W.map D.str)],?_⟩
    unfold Zfu ZeZ
    rw [Zgg,if_pos (show [D.scr ns].length=1 from rfl),zb,s1,Zs,zb,s2,Zs,zb,s3,Zd2,R.bind_ok]
  · obtain ⟨θ',W',tw,en⟩:=ZiU (ns:=ns) l1 l2 l3
    obtain ⟨ws,ej,ne,nbw,w9,bw⟩:=en
    have rx:=ZgZ ne nbw w9 bw θ'
    rw [←ej] at rx
    have s3:ZaI [.val (.scr ns),.val s.d,.val (.ref 0),.no,.no] [.lst (W.map D.str)]=.ok (.nx,[.val (.scr ns),.val s.d,.val (.ref 0),.no,.no]) [.lst (W.map D.str)]:=by
      have ts:Zl (mOp eqM (mOp ZU (mCB ZJ (Zb (Zd 0) (Zb (mC (.int 49)) Zg))) (mC (.int 5))) (mC (.int 0))) [.val (.scr ns),.val s.d,.val (.ref 0),.no,.no] [.lst (W.map D.str)]=.ok false [.lst (W.map D.str)]:=by simp [c]
      unfold ZaI
      rw [zF,ts,R.bind_ok,if_neg (by decide)]
      rfl
    have s4:Zx 3 (mC (.bl false)) [.val (.scr ns),.val s.d,.val (.ref 0),.no,.no] [.lst (W.map D.str)]=.ok (.nx,[.val (.scr ns),.val s.d,.val (.ref 0),.val (.bl false),.no]) [.lst (W.map D.str)]:=rfl
    have s5:Zfq 4 3 (Zcb z9 (Zb (mCB ZaV (Zb (Zd 0) (Zb (Zd 2) Zg))) Zg)) [.val (.scr ns),.val s.d,.val (.ref 0),.val (.bl false),.no] [.lst (W.map D.str)]=.ok (.nx,[.val (.scr ns),.val s.d,.val (.ref 0),.val (.bl true),.no]) θ':=by
      have ar:Zb (mCB ZaV (Zb (Zd 0) (Zb (Zd 2) Zg))) Zg [.val (.scr ns),.val s.d,.val (.ref 0),.val (.bl false),.no] [.lst (W.map D.str)]=.ok [.str (Str.join (Str.ofString " ") W')] θ':=by simp [tw]
      unfold Zfq Zcb
      rw [ar]
      simp only [rx]
      rfl
    refine ⟨θ',?_⟩
    unfold Zfu ZeZ
    rw [Zgg,if_pos (show [D.scr ns].length=1 from rfl),zb,s1,Zs,zb,s2,Zs,zb,s3,Zs,zb,s4,Zs,zb,s5,Zs,Zhy]
    rfl
end
def top (i:Nat):Stmt:=PySem.Challenge.pw_wirestream_k06_lines_refused.main.body.getD i (.Pass ⟨0,0,0,0⟩)
abbrev zs0:Stmt:=top 20
abbrev zs1:Stmt:=top 27
abbrev zs2:Stmt:=top 28
abbrev zs3:Stmt:=top 29
abbrev zs4:Stmt:=top 30
abbrev zs5:Stmt:=top 31
abbrev zs6:Stmt:=top 32
abbrev zs7:Stmt:=top 33
abbrev zs8:Stmt:=top 34
abbrev zs9:Stmt:=top 36
abbrev Ze6:Stmt:=top 37
abbrev Zeo:Stmt:=top 40
abbrev ZdU:Stmt:=top 41
abbrev Ze5:Stmt:=top 42
abbrev Zdd:Stmt:=top 43
abbrev zP0:List Str:=["flags","flag"]
theorem zc0:ZP ["flags","flag"] zP0 (Zi zs0):=⟨rfl,rfl,rfl,by decide +kernel,rfl,by decide +kernel,by decide +kernel⟩
abbrev zP1:List Str:=["flags"]
theorem zc1:ZP ["flags","names"] zP1 (Zi zs1):=⟨rfl,rfl,rfl,by decide +kernel,rfl,by decide +kernel,by decide +kernel⟩
abbrev zP2:List Str:=["line"]
theorem zc2:ZP ["line","words","ports","numbers","flags","window","most","data"] zP2 (Zi zs2):=⟨rfl,rfl,rfl,by decide +kernel,rfl,by decide +kernel,by decide +kernel⟩
abbrev zP3:List Str:=["word","greatest"]
theorem zc3:ZP ["word","greatest","number"] zP3 (Zi zs3):=⟨rfl,rfl,rfl,by decide +kernel,rfl,by decide +kernel,by decide +kernel⟩
abbrev zP4:List Str:=["word","figures"]
theorem zc4:ZP ["word","figures"] zP4 (Zi zs4):=⟨rfl,rfl,rfl,by decide +kernel,rfl,by decide +kernel,by decide +kernel⟩
abbrev zP5:List Str:=["word"]
theorem zc5:ZP ["word","flags"] zP5 (Zi zs5):=⟨rfl,rfl,rfl,by decide +kernel,rfl,by decide +kernel,by decide +kernel⟩
abbrev zP6:List Str:=["word","flags"]
theorem zc6:ZP ["word","flags","most"] zP6 (Zi zs6):=⟨rfl,rfl,rfl,by decide +kernel,rfl,by decide +kernel,by decide +kernel⟩
abbrev zP7:List Str:=["word"]
theorem zc7:ZP ["word"] zP7 (Zi zs7):=⟨rfl,rfl,rfl,by decide +kernel,rfl,by decide +kernel,by decide +kernel⟩
abbrev zP8:List Str:=["high","low"]
theorem zc8:ZP ["high","low"] zP8 (Zi zs8):=⟨rfl,rfl,rfl,by decide +kernel,rfl,by decide +kernel,by decide +kernel⟩
abbrev zP9:List Str:=["_law_script","_law_k"]
theorem zc9:ZP ["_law_script","_law_k"] zP9 (Zi zs9):=⟨rfl,rfl,rfl,by decide +kernel,rfl,by decide +kernel,by decide +kernel⟩
abbrev Zhw:List Str:=["_law_script","_law_k"]
theorem zc10:ZP ["_law_script","_law_k","_law_number"] Zhw (Zi Ze6):=⟨rfl,rfl,rfl,by decide +kernel,rfl,by decide +kernel,by decide +kernel⟩
abbrev Zhv:List Str:=["_law_script","_law_base"]
theorem zc11:ZP ["_law_script","_law_base","_law_flags","_law_most","_law_numbers","_law_k","_law_number","_law_ports","_law_size","_law_data","_law_window"] Zhv (Zi Zeo):=⟨rfl,rfl,rfl,by decide +kernel,rfl,by decide +kernel,by decide +kernel⟩
abbrev Zhu:List Str:=["_law_segment"]
theorem zc12:ZP ["_law_segment","_law_names","_law_powers","_law_flags","_law_words","_law_data","_law_byte"] Zhu (Zi ZdU):=⟨rfl,rfl,rfl,by decide +kernel,rfl,by decide +kernel,by decide +kernel⟩
abbrev Zht:List Str:=["_law_script","_law_words"]
theorem zc13:ZP ["_law_script","_law_words","_law_way","_law_at","_law_word","_law_some","_law_most"] Zht (Zi Ze5):=⟨rfl,rfl,rfl,by decide +kernel,rfl,by decide +kernel,by decide +kernel⟩
abbrev Zhs:List Str:=["_law_script"]
theorem zc14:ZP ["_law_script","_law_segment","_law_words","_law_refused","e"] Zhs (Zi Zdd):=⟨rfl,rfl,rfl,by decide +kernel,rfl,by decide +kernel,by decide +kernel⟩
structure Glb (K:PySem.W.Frag) (mg:Str→Option Value):Prop where
  zc0:∃t,mg "ANSWER"=some (.int 3 t)
  zc1:∃t,mg "BYTE_FIGURES"=some (.str "0123456789abcdef" t)
  zc2:∃t,mg "DATA"=some (.int 7 t)
  zc3:∃t,mg "FIGURES"=some (.str "0123456789" t)
  zc4:∃t,mg "FLAGS"=some (.int 4 t)
  zc5:∃t,mg "GOAL"=some (.int 1 t)
  zc6:∃t,mg "GREATEST_DATA"=some (.int 16 t)
  zc7:∃t,mg "GREATEST_FLAGS"=some (.int 31 t)
  zc8:∃t,mg "GREATEST_MOST"=some (.int 65535 t)
  zc9:∃t,mg "GREATEST_NUMBER"=some (.int 4294967295 t)
  zc10:∃t,mg "GREATEST_PORT"=some (.int 65535 t)
  zc11:∃t,mg "GREATEST_WINDOW"=some (.int 65535 t)
  zc12:∃t,mg "LEAST_MOST"=some (.int 4 t)
  zc13:∃t,mg "MOST"=some (.int 6 t)
  zc14:∃t,mg "NO_FLAGS"=some (.str "none" t)
  zc15:∃t,mg "NUMBER"=some (.int 2 t)
  zc16:∃t,mg "SOURCE"=some (.int 0 t)
  zc17:∃t,mg "SYN"=some (.int 2 t)
  zc18:∃t,mg "WINDOW"=some (.int 5 t)
  zc19:∃t,mg "WORDS_WITHOUT_DATA"=some (.int 7 t)
  b_all:mg "all"=none
  b_int:mg "int"=none
  b_isinstance:mg "isinstance"=none
  b_len:mg "len"=none
  b_range:mg "range"=none
  b_str:mg "str"=none
  b_tuple:mg "tuple"=none
section
variable {P:Program} {w:World} {K:PySem.W.Frag} {mg:Str→Option Value} {base:Heap}
theorem zo0 (D:ZV K mg "has" zs0 zP0) (g:Glb K mg) :za P w K mg base 1 "has" Za1:=
  Zb9 D zc0 2 2 rfl rfl fun f cdv A outer s H E hr=>(Zm (Z2 (ZeK (Zt (Zg5 hr.units) (Zj Zlu (Zc 0) (Zc 1)) Ze) Ze Ze)))
theorem zo1 (D:ZV K mg "shown_flags" zs1 zP1) (g:Glb K mg) (GD:GDs P w K mg "FLAG_NAMES" [("fin",1),("syn",2),("rst",4),("psh",8),("ack",16)]) (zd0:za P w K mg base 1 "has" Za1):za P w K mg base 2 "shown_flags" ZW:=
  Zb9 D zc1 1 2 rfl rfl fun f cdv A outer s H E hr=>(Zh (Zg9 1 zc1.nd (show zD _ (Zi zs1) "name" "flag" ["flags","names"] ["name","flag","flags"] [0] from ⟨rfl,by decide +kernel,by decide +kernel,by decide +kernel,by decide +kernel,by decide +kernel,by decide +kernel,rfl,by decide,by decide +kernel⟩) rfl rfl GD (fun _ _ _ _ _=>⟨(Zt (Zaa hr.units) (Zk zd0 hr (by decide) (Za (Zc 2) (Za (Zc 1) Zf))) Ze),(Zc 0)⟩))
  (Zm (Z2 (ZeK (Zt ZdX (ZQ zS g.b_len PySem.boot_len (Za (Zc 1) Zf)) Ze) (Zc8 (ZbC PySem.F.plainAttrs_str PySem.F.slot_str_join PySem.F.type_str_join Zc6 Zo (Z3 (Zc 1) zl))) (ZaR g.zc14)))))
theorem zo4 (D:ZV K mg "is_of" zs4 zP4) (g:Glb K mg) :za P w K mg base 1 "is_of" Z7:=
  Zb9 D zc4 2 2 rfl rfl fun f cdv A outer s H E hr=>(Zm (Z2 (ZkA (Zf4 (Zg5 hr.units) (Zc 0) Zo) (Zkx (ZQ ZlM g.b_all PyProof.Rows.boot_all (Za (Zky (show ZG _ (Zi zs4) "sign" ["word","figures"] ["sign","figures"] [1] from ⟨rfl,by decide +kernel,by decide +kernel,by decide +kernel,by decide +kernel,by decide +kernel,rfl,by decide,by decide +kernel⟩) rfl rfl (Zc 0) (fun _ _ _ _ _=>(Zf4 Zlt (Zc 0) (Zc 1) (by with_unfolding_all rfl)))) Zf))))))
theorem zo8 (D:ZV K mg "read_byte" zs8 zP8) (g:Glb K mg) :za P w K mg base 1 "read_byte" zc:=
  Zb9 D zc8 2 2 rfl rfl fun f cdv A outer s H E hr=>(Zm (Z2 (Zj ZA (Zj Zdq Ze (Zef (ZbC PySem.F.plainAttrs_str PySem.F.slot_str_index PySem.F.type_str_index Zfn (ZaR g.zc1) (Z3 (Zc 0) zl)))) (Zef (ZbC PySem.F.plainAttrs_str PySem.F.slot_str_index PySem.F.type_str_index Zfn (ZaR g.zc1) (Z3 (Zc 1) zl))))))
theorem zo7 (D:ZV K mg "read_data" zs7 zP7) (g:Glb K mg) (zd4:za P w K mg base 1 "is_of" Z7) (zd8:za P w K mg base 1 "read_byte" zc):za P w K mg base 2 "read_data" zJ:=
  Zb9 D zc7 1 1 rfl rfl fun f cdv A outer s H E hr=>(Zh (zj (MW.mt (ZbE (ZeH (Zac (Zk zd4 hr (by decide) (Za (Zc 0) (Za (ZaR g.zc1) Zf))))) (ZbE (Zt (Zaa hr.units) (Zj ZK (ZQ zS g.b_len PySem.boot_len (Za (Zc 0) Zf)) Ze) Ze) (zo (Zt ZdX (ZQ zS g.b_len PySem.boot_len (Za (Zc 0) Zf)) (Zj Zdq Ze (Zp g.zc6))))))) (Zm ZaA) ze)
  (Zm (Z2 (ZI ZeY g.b_tuple PyProof.Rows.boot_tuple (Za (Zii (show ZG _ (Zi zs7) "place" ["word"] ["place","word"] [0] from ⟨rfl,by decide +kernel,by decide +kernel,by decide +kernel,by decide +kernel,by decide +kernel,rfl,by decide,by decide +kernel⟩) rfl rfl g.b_range (Za Ze (Za (ZQ zS g.b_len PySem.boot_len (Za (Zc 0) Zf)) (Za Ze Zf))) (fun _ _ _ _ _=>(Zk zd8 hr (by decide) (Za (ZC ZD (Zc 1) (Zc 0)) (Za (ZC ZD (Zc 1) (Zj ZA (Zc 0) Ze)) Zf))))) Zf)))))
theorem zo5 (D:ZV K mg "read_flags" zs5 zP5) (g:Glb K mg) (zd1:za P w K mg base 2 "shown_flags" ZW):za P w K mg base 3 "read_flags" zv:=
  Zb9 D zc5 1 2 rfl rfl fun f cdv A outer s H E hr=>(Zh (ZeI PassesOwn.never (ZaB g.b_range (Za (Zj ZA (Zp g.zc7) Ze) Zf)) (Zc7 1 zc5.nd) (Zm (zj (Zt (Zaa hr.units) (Zk zd1 hr (by decide) (Za (Zc 1) Zf)) (Zc 0)) (Zm (Z2 (Zc 1))) ze)))
  (Zm ZaA))
theorem zo3 (D:ZV K mg "read_number" zs3 zP3) (g:Glb K mg) (zd4:za P w K mg base 1 "is_of" Z7):za P w K mg base 2 "read_number" ZF:=
  Zb9 D zc3 2 3 rfl rfl fun f cdv A outer s H E hr=>(Zh (zj (MW.mt (ZbE (ZeH (Zac (Zk zd4 hr (by decide) (Za (Zc 0) (Za (ZaR g.zc3) Zf))))) (zo (Zt ZdX (ZQ zS g.b_len PySem.boot_len (Za (Zc 0) Zf)) (ZQ zS g.b_len PySem.boot_len (Za (ZI Zbe g.b_str PyProof.Rows.boot_str (Za (Zc 1) Zf)) Zf)))))) (Zm ZaA) ze)
  (Zh (Zr 2 zc3.nd (ZI ZiL g.b_int PyProof.Rows.boot_int (Za (Zc 0) Zf)))
  (Zh (zj (MW.mt (ZbE (Zt ZdX (Zc 2) (Zc 1)) (zo (Zt (Zg5 hr.units) (ZI Zbe g.b_str PyProof.Rows.boot_str (Za (Zc 2) Zf)) (Zc 0))))) (Zm ZaA) ze)
  (Zm (Z2 (Zc 2))))))
theorem zo6 (D:ZV K mg "read_most" zs6 zP6) (g:Glb K mg) (zd0:za P w K mg base 1 "has" Za1) (zd3:za P w K mg base 2 "read_number" ZF):za P w K mg base 3 "read_most" zn:=
  Zb9 D zc6 2 3 rfl rfl fun f cdv A outer s H E hr=>(Zh (Zr 2 zc6.nd (Zk zd3 hr (by decide) (Za (Zc 0) (Za (Zp g.zc8) Zf))))
  (Zh (zj (MW.mt (Zf3 (Zt (Zg5 hr.units) (Zc 2) Ze) (ZbP (MW.mt (ZbE (Zt Zls (Zc 2) (Zp g.zc12)) (zo (Zt (Zaa hr.units) (Zk zd0 hr (by decide) (Za (Zc 1) (Za (Zp g.zc17) Zf))) Ze))))))) (Zm ZaA) ze)
  (Zm (Z2 (Zc 2)))))
theorem zo2 (D:ZV K mg "read" zs2 zP2) (g:Glb K mg) (zd7:za P w K mg base 2 "read_data" zJ) (zd5:za P w K mg base 3 "read_flags" zv) (zd6:za P w K mg base 3 "read_most" zn) (zd3:za P w K mg base 2 "read_number" ZF):za P w K mg base 4 "read" Zbo:=
  Zb9 D zc2 1 8 rfl rfl fun f cdv A outer s H E hr=>(Zh (Zr 1 zc2.nd (Zfp (ZbC PySem.F.plainAttrs_str PySem.F.slot_str_split PySem.F.type_str_split Zfm (Zc 0) (Z3 Zo zl))))
  (Zh (zj (Zt Zgt (ZQ zS g.b_len PySem.boot_len (Za (Zc 1) Zf)) (zN (Za (Zp g.zc19) (Za (Zj ZA (Zp g.zc19) Ze) Zf))) (by with_unfolding_all rfl)) (Zm ZaA) ze)
  (Zh (Zr 2 zc2.nd (zN (Za (Zk zd3 hr (by decide) (Za (ZC ZD (Zc 1) (Zp g.zc16)) (Za (Zp g.zc10) Zf))) (Za (Zk zd3 hr (by decide) (Za (ZC ZD (Zc 1) (Zp g.zc5)) (Za (Zp g.zc10) Zf))) Zf))))
  (Zh (Zr 3 zc2.nd (zN (Za (Zk zd3 hr (by decide) (Za (ZC ZD (Zc 1) (Zp g.zc15)) (Za (Zp g.zc9) Zf))) (Za (Zk zd3 hr (by decide) (Za (ZC ZD (Zc 1) (Zp g.zc0)) (Za (Zp g.zc9) Zf))) Zf))))
  (Zh (Zr 4 zc2.nd (Zk zd5 hr (by decide) (Za (ZC ZD (Zc 1) (Zp g.zc4)) Zf)))
  (Zh (Zr 5 zc2.nd (Zk zd3 hr (by decide) (Za (ZC ZD (Zc 1) (Zp g.zc18)) (Za (Zp g.zc11) Zf))))
  (Zh (Zr 6 zc2.nd (Zk zd6 hr (by decide) (Za (ZC ZD (Zc 1) (Zp g.zc13)) (Za (Zc 4) Zf))))
  (Zh (Zr 7 zc2.nd (ZeK (Zt ZdX (ZQ zS g.b_len PySem.boot_len (Za (Zc 1) Zf)) (Zp g.zc19)) (Zk zd7 hr (by decide) (Za (ZC ZD (Zc 1) (Zp g.zc2)) Zf)) (zN Zf)))
  (Zm (Z2 (Zj ZA (Zj ZA (Zc 2) (Zc 3)) (zN (Za (Zc 4) (Za (Zc 5) (Za (Zc 6) (Za (Zc 7) Zf))))))))))))))))
theorem zo9 (D:ZV K mg "_law_cell" zs9 zP9) (g:Glb K mg) :za P w K mg base 1 "_law_cell" ZcD:=
  Zb9 D zc9 2 2 rfl rfl fun f cdv A outer s H E hr=>(Zh (zj (Zac (Zc 0)) (Zm (Z2 (ZC ZD (Zc 0) (Zj ZK (Zc 1) (ZQ zS g.b_len PySem.boot_len (Za (Zc 0) Zf)))))) ze)
  (Zm (Z2 Ze)))
theorem Zl4 (D:ZV K mg "_law_mix" Ze6 Zhw) (g:Glb K mg) (zd9:za P w K mg base 1 "_law_cell" ZcD):za P w K mg base 2 "_law_mix" ZJ:=
  Zb9 D zc10 2 3 rfl rfl fun f cdv A outer s H E hr=>(Zh (Zr 2 zc10.nd (Zj ZK (Zj ZA (Zk zd9 hr (by decide) (Za (Zc 0) (Za (Zc 1) Zf))) (Zj Zdq Ze (Zj ZA (Zc 1) Ze))) Ze))
  (Zh (Zr 2 zc10.nd (Zj ZK (Zj Zdq (Zc 2) Ze) Ze))
  (Zm (Z2 (Zj ZK (Zj ZA (Zj Zdq (Zj Zed (Zc 2) Ze) Ze) (Zc 2)) Ze)))))
theorem Zl3 (D:ZV K mg "_law_any" Zeo Zhv) (g:Glb K mg) (zd10:za P w K mg base 2 "_law_mix" ZJ):za P w K mg base 3 "_law_any" Zeh:=
  Zb9 D zc11 2 11 rfl rfl fun f cdv A outer s H E hr=>(Zh (Zr 2 zc11.nd (Zj ZK (Zk zd10 hr (by decide) (Za (Zc 0) (Za (Zc 1) Zf))) Ze))
  (Zh (Zr 3 zc11.nd Ze)
  (Zh (zj (MW.mt (Zf3 (Zt (Zaa hr.units) (Zj ZK (Zj Zed (Zc 2) Ze) Ze) Ze) (ZbP (Zt ZdX (Zj ZK (Zk zd10 hr (by decide) (Za (Zc 0) (Za (Zj ZA (Zc 1) Ze) Zf))) Ze) Ze)))) (Zh (Zr 3 zc11.nd (ZC ZD (zx (Za Ze (Za Ze (Za Ze (Za Ze (Za Ze (Za Ze Zf))))))) (Zj ZK (Zk zd10 hr (by decide) (Za (Zc 0) (Za (Zj ZA (Zc 1) Ze) Zf))) Ze)))
    (Zm (zj (Zt (Zaa hr.units) (Zc 3) Ze) (Zm (Zr 3 zc11.nd (Zj ZA Ze (Zj ZK (Zk zd10 hr (by decide) (Za (Zc 0) (Za (Zj ZA (Zc 1) Ze) Zf))) Ze)))) ze))) ze)
  (Zh (Zg8 4 zc11.nd Zf)
  (Zh (ZeI PassesOwn.never (ZaB g.b_range (Za Ze Zf)) (Zc7 5 zc11.nd) (Zh (Zr 6 zc11.nd (Zk zd10 hr (by decide) (Za (Zc 0) (Za (Zj ZA (Zj ZA (Zc 1) Ze) (Zc 5)) Zf))))
    (Zh (zj (Zt (Zaa hr.units) (Zj ZK (Zc 6) Ze) Ze) (Zm (Zr 6 zc11.nd (ZC ZD (zx (Za Ze (Za Ze (Za Ze (Za Ze (Za Ze (Za Ze (Za Ze Zf)))))))) (Zj ZK (Zj Zed (Zc 6) Ze) Ze)))) ze)
    (Zm (Zhc 4 (Zc 6) (hpe:=fun h=>ZbC PySem.F.plainAttrs_list PySem.F.slot_list_append PySem.F.type_list_append Zee h (Z3 (Zc 6) zl)))))))
  (Zh (Zr 7 zc11.nd (zN (Za (Zj ZK (Zk zd10 hr (by decide) (Za (Zc 0) (Za (Zj ZA (Zc 1) Ze) Zf))) Ze) Zf)))
  (Zh (Zr 7 zc11.nd (Zj ZA (Zc 7) (zN (Za (Zj ZK (Zk zd10 hr (by decide) (Za (Zc 0) (Za (Zj ZA (Zc 1) Ze) Zf))) Ze) Zf))))
  (Zh (Zr 8 zc11.nd (ZC ZD (zx (Za Ze (Za Ze (Za Ze (Za Ze (Za Ze Zf)))))) (Zj ZK (Zk zd10 hr (by decide) (Za (Zc 0) (Za (Zj ZA (Zc 1) Ze) Zf))) Ze)))
  (Zh (zj (Zt (Zaa hr.units) (Zc 8) Ze) (Zm (Zr 8 zc11.nd (Zj ZK (Zk zd10 hr (by decide) (Za (Zc 0) (Za (Zj ZA (Zc 1) Ze) Zf))) Ze))) ze)
  (Zh (Zr 9 zc11.nd (ZI ZeY g.b_tuple PyProof.Rows.boot_tuple (Za (Zlw (show ZG _ (Zi Zeo) "_law_k" ["_law_script","_law_base","_law_flags","_law_most","_law_numbers","_law_k","_law_number","_law_ports","_law_size","_law_data","_law_window"] ["_law_k","_law_script","_law_base"] [0,1] from ⟨rfl,by decide +kernel,by decide +kernel,by decide +kernel,by decide +kernel,by decide +kernel,rfl,by decide,by decide +kernel⟩) rfl rfl (ZaB g.b_range (Za (Zc 8) Zf)) (fun _ _ _ _ _=>(Zj ZK (Zj Zed (Zk zd10 hr (by decide) (Za (Zc 1) (Za (Zj ZA (Zj ZA (Zc 2) Ze) (Zc 0)) Zf))) Ze) Ze))) Zf)))
  (Zh (zj (Zt (Zaa hr.units) (Zj ZK (Zk zd10 hr (by decide) (Za (Zc 0) (Za (Zj ZA (Zc 1) Ze) Zf))) Ze) Ze) (Zm (Zr 9 zc11.nd (Zj Zdq (zN (Za Ze Zf)) (Zc 8)))) ze)
  (Zh (Zr 10 zc11.nd (Zj ZK (Zk zd10 hr (by decide) (Za (Zc 0) (Za (Zj ZA (Zc 1) Ze) Zf))) Ze))
  (Zm (Zhb 4 (Z2 (Zj ZA (Zc 7) (zN (Za (ZC ZD (Zc 4) Ze) (Za (ZC ZD (Zc 4) Ze) (Za (Zc 2) (Za (Zc 10) (Za (Zc 3) (Za (Zc 9) Zf)))))))))))))))))))))))
theorem Zl2 (D:ZV K mg "_law_line" ZdU Zhu) (g:Glb K mg) :za P w K mg base 1 "_law_line" ZcC:=
  Zb9 D zc12 1 7 rfl rfl fun f cdv A outer s H E hr=>(Zh (Zr 1 zc12.nd (zx (Za Zo (Za Zo (Za Zo (Za Zo (Za Zo Zf)))))))
  (Zh (Zr 2 zc12.nd (zx (Za Ze (Za Ze (Za Ze (Za Ze (Za Ze Zf)))))))
  (Zh (Zr 3 zc12.nd (Zc8 (ZbC PySem.F.plainAttrs_str PySem.F.slot_str_join PySem.F.type_str_join Zc6 Zo (Z3 (Zkz (show ZG _ (Zi ZdU) "_law_k" ["_law_segment","_law_names","_law_powers","_law_flags","_law_words","_law_data","_law_byte"] ["_law_k","_law_names","_law_segment","_law_powers"] [1,0,2] from ⟨rfl,by decide +kernel,by decide +kernel,by decide +kernel,by decide +kernel,by decide +kernel,rfl,by decide,by decide +kernel⟩) rfl rfl (ZaB g.b_range (Za Ze Zf)) (fun _ _ _ _ _=>⟨(Zt (Zaa hr.units) (Zj ZK (Zj Zed (ZC ZD (Zc 2) Ze) (ZC ZD (Zc 3) (Zc 0))) Ze) Ze),(ZC ZD (Zc 1) (Zc 0))⟩)) zl))))
  (Zh (Zif 4 zc12.nd (show ZG _ (Zi ZdU) "_law_number" ["_law_segment","_law_names","_law_powers","_law_flags","_law_words","_law_data","_law_byte"] ["_law_number"] [] from ⟨rfl,by decide +kernel,by decide +kernel,by decide +kernel,by decide +kernel,by decide +kernel,rfl,by decide,by decide +kernel⟩) rfl rfl (Zih (ZaC (Zc 0) Zbq (Zbp Ze))) (fun _ _ _ _ _=>(ZI Zbe g.b_str PyProof.Rows.boot_str (Za (Zc 0) Zf))))
  (Zh (Zr 4 zc12.nd (Zj Zkv (Zc 4) (zx (Za (ZeK (Zac (Zc 3)) (Zc 3) Zo) (Za (ZI Zbe g.b_str PyProof.Rows.boot_str (Za (ZC ZD (Zc 0) Ze) Zf)) (Za (ZI Zbe g.b_str PyProof.Rows.boot_str (Za (ZC ZD (Zc 0) Ze) Zf)) Zf))))))
  (Zh (Zr 5 zc12.nd Zo)
  (Zh (ZeI PassesOwn.never (Zih (ZC ZD (Zc 0) Ze)) (Zc7 6 zc12.nd) (Zm (Zr 5 zc12.nd (Zj ZA (Zj ZA (Zc 5) (ZC ZD Zo (Zj Zed (Zc 6) Ze))) (ZC ZD Zo (Zj ZK (Zc 6) Ze))))))
  (Zh (zj (Zac (Zc 5)) (Zm (Zjm (Zjo (ZbC PySem.F.plainAttrs_list PySem.F.slot_list_append PySem.F.type_list_append Zee (Zc 4) (Z3 (Zc 5) zl))))) ze)
  (Zm (Z2 (Zc 4)))))))))))
theorem Zl1 (D:ZV K mg "_law_wrong" Ze5 Zht) (g:Glb K mg) (zd10:za P w K mg base 2 "_law_mix" ZJ):za P w K mg base 3 "_law_wrong" ZaV:=
  Zb9 D zc13 2 7 rfl rfl fun f cdv A outer s H E hr=>(Zh (Zr 2 zc13.nd (Zj ZK (Zk zd10 hr (by decide) (Za (Zc 0) (Za Ze Zf))) Ze))
  (Zh (Zr 3 zc13.nd (ZC ZD (zx (Za Ze (Za Ze (Za Ze (Za Ze (Za Ze (Za Ze Zf))))))) (Zj ZK (Zk zd10 hr (by decide) (Za (Zc 0) (Za Ze Zf))) Ze)))
  (Zh (Zr 4 zc13.nd (ZC ZD (Zc 1) (Zc 3)))
  (Zh (zj (Zt (Zaa hr.units) (Zc 2) Ze) (Zh (Zr 5 zc13.nd (zx (Za (Zj ZA Zo (Zc 4)) (Za (Zj ZA (Zc 4) Zo) (Za Zo (Za (Zj ZA Zo (Zc 4)) (Za (Zj ZA (Zc 4) Zo) (Za (Zj ZA Zo (Zc 4)) (Za (Zj ZA Zo (Zc 4)) Zf)))))))))
    (Zm (ZaQ (Zc 1) (Zc 3) (ZC ZD (Zc 5) (Zj ZK (Zk zd10 hr (by decide) (Za (Zc 0) (Za Ze Zf))) Ze)) (ZbM (ZC ZD (Zc 5) (Zj ZK (Zk zd10 hr (by decide) (Za (Zc 0) (Za Ze Zf))) Ze)) (ZbN (Zc 1) (Zc 3) z8))))) (Zm (zj (Zt (Zaa hr.units) (Zc 2) Ze) (Zh (Zr 6 zc13.nd (ZC ZD (zx (Za Ze (Za Ze (Za Ze (Za Ze (Za Ze (Za Ze (Za Ze Zf)))))))) (Zc 3)))
      (Zm (ZaQ (Zc 1) (Zc 3) (ZI Zbe g.b_str PyProof.Rows.boot_str (Za (Zj ZA (Zc 6) (Zj ZK (Zk zd10 hr (by decide) (Za (Zc 0) (Za Ze Zf))) (Zj ZjR Ze Ze))) Zf)) (ZbM (ZI Zbe g.b_str PyProof.Rows.boot_str (Za (Zj ZA (Zc 6) (Zj ZK (Zk zd10 hr (by decide) (Za (Zc 0) (Za Ze Zf))) (Zj ZjR Ze Ze))) Zf)) (ZbN (Zc 1) (Zc 3) z8))))) (Zm (zj (Zt (Zaa hr.units) (Zc 2) Ze) (Zh (Zr 5 zc13.nd (zx (Za Zo (Za Zo (Za Zo (Za Zo (Za Zo (Za Zo (Za Zo (Za Zo (Za Zo Zf)))))))))))
        (Zm (ZaQ (Zc 1) Ze (ZC ZD (Zc 5) (Zj ZK (Zk zd10 hr (by decide) (Za (Zc 0) (Za Ze Zf))) Ze)) (ZbM (ZC ZD (Zc 5) (Zj ZK (Zk zd10 hr (by decide) (Za (Zc 0) (Za Ze Zf))) Ze)) (ZbN (Zc 1) Ze z8))))) (Zm (zj (Zt (Zaa hr.units) (Zc 2) Ze) (Zm (Zr 1 zc13.nd (Zj ZA (ZaC (Zc 1) Zbq (Zbp Ze)) (ZaC (ZaC (zx (Za Zo (Za Zo (Za Zo (Za Zo (Za Zo (Za (Zj Zku Zo Ze) (Za Zo Zf)))))))) (Zbp (Zj ZK (Zk zd10 hr (by decide) (Za (Zc 0) (Za Ze Zf))) Ze)) Zbq) Zbq (Zbp Ze))))) (Zm (zj (Zt (Zaa hr.units) (Zc 2) Ze) (Zm (Zr 1 zc13.nd (Zj ZA (ZaC (Zc 1) Zbq (Zbp Ze)) (zx (Za Zo (Za Zo Zf)))))) (Zm (zj (Zt (Zaa hr.units) (Zc 2) Ze) (Zm (Zr 1 zc13.nd (ZaC (Zc 1) Zbq (Zbp (Zj ZK (Zk zd10 hr (by decide) (Za (Zc 0) (Za Ze Zf))) Ze))))) (Zm (zj (Zt (Zaa hr.units) (Zc 2) Ze) (Zm (ZaQ (Zc 1) Ze (ZI Zbe g.b_str PyProof.Rows.boot_str (Za (Zj ZA Ze (Zj ZK (Zk zd10 hr (by decide) (Za (Zc 0) (Za Ze Zf))) Ze)) Zf)) (ZbM (ZI Zbe g.b_str PyProof.Rows.boot_str (Za (Zj ZA Ze (Zj ZK (Zk zd10 hr (by decide) (Za (Zc 0) (Za Ze Zf))) Ze)) Zf)) (ZbN (Zc 1) Ze z8)))) (Zm (zj (Zt (Zaa hr.units) (Zc 2) Ze) (Zh (ZaQ (Zc 1) Ze Zo (ZbM Zo (ZbN (Zc 1) Ze z8)))
                  (Zm (ZaQ (Zc 1) Ze (ZC ZD (zx (Za Zo (Za Zo (Za Zo (Za Zo Zf))))) (Zj ZK (Zk zd10 hr (by decide) (Za (Zc 0) (Za Ze Zf))) Ze)) (ZbM (ZC ZD (zx (Za Zo (Za Zo (Za Zo (Za Zo Zf))))) (Zj ZK (Zk zd10 hr (by decide) (Za (Zc 0) (Za Ze Zf))) Ze)) (ZbN (Zc 1) Ze z8))))) (Zm (ZaQ (Zc 1) Ze (Zj ZA (ZC ZD (Zc 1) Ze) Zo) (ZbM (Zj ZA (ZC ZD (Zc 1) Ze) Zo) (ZbN (Zc 1) Ze z8)))))))))))))))))))
  (Zm (Z2 (Zc8 (ZbC PySem.F.plainAttrs_str PySem.F.slot_str_join PySem.F.type_str_join Zc6 Zo (Z3 (Zc 1) zl)))))))))
theorem Zc0 {CC:Addr} (D:ZV K mg "read_data" zs7 zP7) (O:PyProof.Rows.OwnCls "NoSegment" CC ZcT "ValueError.__new__" mg base) (g:Glb K mg) (zd4:za P w K mg base 1 "is_of" Z7) (zd8:za P w K mg base 1 "read_byte" zc):ZaK P w K mg base 2 CC "read_data" zW:=by
  obtain ⟨f,fd,F,b,m⟩:=D
  exact ⟨_,f,fd,Zfo F zc7 1 1 rfl rfl (fun cdv A outer s H E hr=>(ZN (Zaz "NoSegment" (MW.mt (ZbE (ZeH (Zac (Zk zd4 hr (by decide) (Za (Zc 0) (Za (ZaR g.zc1) Zf))))) (ZbE (Zt (Zaa hr.units) (Zj ZK (ZQ zS g.b_len PySem.boot_len (Za (Zc 0) Zf)) Ze) Ze) (zo (Zt ZdX (ZQ zS g.b_len PySem.boot_len (Za (Zc 0) Zf)) (Zj Zdq Ze (Zp g.zc6))))))) (Zax O PySem.F.excBase_ValueError (by decide) PySem.F.excBase_ValueError rfl (by decide)))
  (Za7 (ZbQ (Z2 (ZI ZeY g.b_tuple PyProof.Rows.boot_tuple (Za (Zii (show ZG _ (Zi zs7) "place" ["word"] ["place","word"] [0] from ⟨rfl,by decide +kernel,by decide +kernel,by decide +kernel,by decide +kernel,by decide +kernel,rfl,by decide,by decide +kernel⟩) rfl rfl g.b_range (Za Ze (Za (ZQ zS g.b_len PySem.boot_len (Za (Zc 0) Zf)) (Za Ze Zf))) (fun _ _ _ _ _=>(Zk zd8 hr (by decide) (Za (ZC ZD (Zc 1) (Zc 0)) (Za (ZC ZD (Zc 1) (Zj ZA (Zc 0) Ze)) Zf))))) Zf))))))),b,F.kp,m⟩
theorem Zcw {CC:Addr} (D:ZV K mg "read_flags" zs5 zP5) (O:PyProof.Rows.OwnCls "NoSegment" CC ZcT "ValueError.__new__" mg base) (g:Glb K mg) (zd1:za P w K mg base 2 "shown_flags" ZW):ZaK P w K mg base 3 CC "read_flags" zE:=by
  obtain ⟨f,fd,F,b,m⟩:=D
  exact ⟨_,f,fd,Zfo F zc5 1 2 rfl rfl (fun cdv A outer s H E hr=>(ZN (ZbQ (ZeI PassesOwn.never (ZaB g.b_range (Za (Zj ZA (Zp g.zc7) Ze) Zf)) (Zc7 1 zc5.nd) (Zm (zj (Zt (Zaa hr.units) (Zk zd1 hr (by decide) (Za (Zc 1) Zf)) (Zc 0)) (Zm (Z2 (Zc 1))) ze))))
  (Za7 (Zg7 "NoSegment" (Zax O PySem.F.excBase_ValueError (by decide) PySem.F.excBase_ValueError rfl (by decide)))))),b,F.kp,m⟩
theorem Zb5 {CC:Addr} (D:ZV K mg "read_number" zs3 zP3) (O:PyProof.Rows.OwnCls "NoSegment" CC ZcT "ValueError.__new__" mg base) (g:Glb K mg) (zd4:za P w K mg base 1 "is_of" Z7):ZaK P w K mg base 2 CC "read_number" Zu:=by
  obtain ⟨f,fd,F,b,m⟩:=D
  exact ⟨_,f,fd,Zfo F zc3 2 3 rfl rfl (fun cdv A outer s H E hr=>(ZN (Zaz "NoSegment" (MW.mt (ZbE (ZeH (Zac (Zk zd4 hr (by decide) (Za (Zc 0) (Za (ZaR g.zc3) Zf))))) (zo (Zt ZdX (ZQ zS g.b_len PySem.boot_len (Za (Zc 0) Zf)) (ZQ zS g.b_len PySem.boot_len (Za (ZI Zbe g.b_str PyProof.Rows.boot_str (Za (Zc 1) Zf)) Zf)))))) (Zax O PySem.F.excBase_ValueError (by decide) PySem.F.excBase_ValueError rfl (by decide)))
  (ZN (ZbQ (Zr 2 zc3.nd (ZI ZiL g.b_int PyProof.Rows.boot_int (Za (Zc 0) Zf))))
  (ZN (Zaz "NoSegment" (MW.mt (ZbE (Zt ZdX (Zc 2) (Zc 1)) (zo (Zt (Zg5 hr.units) (ZI Zbe g.b_str PyProof.Rows.boot_str (Za (Zc 2) Zf)) (Zc 0))))) (Zax O PySem.F.excBase_ValueError (by decide) PySem.F.excBase_ValueError rfl (by decide)))
  (Za7 (ZbQ (Z2 (Zc 2)))))))),b,F.kp,m⟩
theorem ZcZ {CC:Addr} (D:ZV K mg "read_most" zs6 zP6) (O:PyProof.Rows.OwnCls "NoSegment" CC ZcT "ValueError.__new__" mg base) (g:Glb K mg) (zd0:za P w K mg base 1 "has" Za1) (d_p_read_numberX:ZaK P w K mg base 2 CC "read_number" Zu):ZaK P w K mg base 3 CC "read_most" zU:=by
  obtain ⟨f,fd,F,b,m⟩:=D
  exact ⟨_,f,fd,Zfo F zc6 2 3 rfl rfl (fun cdv A outer s H E hr=>(ZN (ZaP 2 zc6.nd (zw Zb4 d_p_read_numberX hr (by decide) (Za (Zc 0) (Za (Zp g.zc8) Zf))))
  (ZN (Zaz "NoSegment" (MW.mt (Zf3 (Zt (Zg5 hr.units) (Zc 2) Ze) (ZbP (MW.mt (ZbE (Zt Zls (Zc 2) (Zp g.zc12)) (zo (Zt (Zaa hr.units) (Zk zd0 hr (by decide) (Za (Zc 1) (Za (Zp g.zc17) Zf))) Ze))))))) (Zax O PySem.F.excBase_ValueError (by decide) PySem.F.excBase_ValueError rfl (by decide)))
  (Za7 (ZbQ (Z2 (Zc 2))))))),b,F.kp,m⟩
theorem Zfk {CC:Addr} (D:ZV K mg "read" zs2 zP2) (O:PyProof.Rows.OwnCls "NoSegment" CC ZcT "ValueError.__new__" mg base) (g:Glb K mg) (d_p_read_dataX:ZaK P w K mg base 2 CC "read_data" zW) (d_p_read_flagsX:ZaK P w K mg base 3 CC "read_flags" zE) (d_p_read_mostX:ZaK P w K mg base 3 CC "read_most" zU) (d_p_read_numberX:ZaK P w K mg base 2 CC "read_number" Zu):ZaK P w K mg base 4 CC "read" z9:=by
  obtain ⟨f,fd,F,b,m⟩:=D
  exact ⟨_,f,fd,Zfo F zc2 1 8 rfl rfl (fun cdv A outer s H E hr=>(ZN (ZbQ (Zr 1 zc2.nd (Zfp (ZbC PySem.F.plainAttrs_str PySem.F.slot_str_split PySem.F.type_str_split Zfm (Zc 0) (Z3 Zo zl)))))
  (ZN (Zaz "NoSegment" (Zt Zgt (ZQ zS g.b_len PySem.boot_len (Za (Zc 1) Zf)) (zN (Za (Zp g.zc19) (Za (Zj ZA (Zp g.zc19) Ze) Zf))) (by with_unfolding_all rfl)) (Zax O PySem.F.excBase_ValueError (by decide) PySem.F.excBase_ValueError rfl (by decide)))
  (ZN (ZaP 2 zc2.nd (Zgy (Zca (zw Zb4 d_p_read_numberX hr (by decide) (Za (ZC ZD (Zc 1) (Zp g.zc16)) (Za (Zp g.zc10) Zf))) (Zca (zw Zb4 d_p_read_numberX hr (by decide) (Za (ZC ZD (Zc 1) (Zp g.zc5)) (Za (Zp g.zc10) Zf))) Zgz))))
  (ZN (ZaP 3 zc2.nd (Zgy (Zca (zw Zb4 d_p_read_numberX hr (by decide) (Za (ZC ZD (Zc 1) (Zp g.zc15)) (Za (Zp g.zc9) Zf))) (Zca (zw Zb4 d_p_read_numberX hr (by decide) (Za (ZC ZD (Zc 1) (Zp g.zc0)) (Za (Zp g.zc9) Zf))) Zgz))))
  (ZN (ZaP 4 zc2.nd (zw Zb4 d_p_read_flagsX hr (by decide) (Za (ZC ZD (Zc 1) (Zp g.zc4)) Zf)))
  (ZN (ZaP 5 zc2.nd (zw Zb4 d_p_read_numberX hr (by decide) (Za (ZC ZD (Zc 1) (Zp g.zc18)) (Za (Zp g.zc11) Zf))))
  (ZN (ZaP 6 zc2.nd (zw Zb4 d_p_read_mostX hr (by decide) (Za (ZC ZD (Zc 1) (Zp g.zc13)) (Za (Zc 4) Zf))))
  (ZN (ZaP 7 zc2.nd (Zjn (Zt ZdX (ZQ zS g.b_len PySem.boot_len (Za (Zc 1) Zf)) (Zp g.zc19)) (zw Zb4 d_p_read_dataX hr (by decide) (Za (ZC ZD (Zc 1) (Zp g.zc2)) Zf)) (Zkw (zN Zf))))
  (Za7 (ZbQ (Z2 (Zj ZA (Zj ZA (Zc 2) (Zc 3)) (zN (Za (Zc 4) (Za (Zc 5) (Za (Zc 6) (Za (Zc 7) Zf)))))))))))))))))),b,F.kp,m⟩
theorem Zl0 {fl:Addr} {fdl:FuncData} (F:Fun K "law" "law" Zdd fl fdl) (g:Glb K mg) {CC WW:Addr} (EK:ZjF base mg CC WW "NoSegment" "WireError") (zd11:za P w K mg base 3 "_law_any" Zeh) (zd12:za P w K mg base 1 "_law_line" ZcC) (zd10:za P w K mg base 2 "_law_mix" ZJ) (zd13:za P w K mg base 3 "_law_wrong" ZaV) (zd2:za P w K mg base 4 "read" Zbo) (d_p_readNX:ZaK P w K mg base 4 CC "read" z9):FnOk P w K mg base CX0 5 fl fdl Zhs (spM ⟨ZdK mg,K⟩ Zfu):=
  mfn F zc14 1 5 rfl rfl fun cdv A outer s H E hr=>(Zh (Zr 1 zc14.nd (Zk zd11 hr (by decide) (Za (Zc 0) (Za Ze Zf))))
  (Zh (Zr 2 zc14.nd (Zk zd12 hr (by decide) (Za (Zc 1) Zf)))
  (Zh (zj (Zt (Zaa hr.units) (Zj ZK (Zk zd10 hr (by decide) (Za (Zc 0) (Za Ze Zf))) Ze) Ze) (Zm (Z2 (Zf4 (Zaa hr.units) (Zk zd2 hr (by decide) (Za (Zc8 (ZbC PySem.F.plainAttrs_str PySem.F.slot_str_join PySem.F.type_str_join Zc6 Zo (Z3 (Zc 2) zl))) Zf)) (Zc 1)))) ze)
  (Zh (Zr 3 zc14.nd Zlx)
  (Zh (Zjl 4 3 (j:=0) rfl (Zid rfl d_p_readNX hr (by decide) (Za (Zk zd13 hr (by decide) (Za (Zc 0) (Za (Zc 2) Zf))) Zf)) EK rfl rfl zc14.nd (by decide))
  (Zm (Z2 (Zc 3))))))))
theorem Zks {fl:Addr} {fdl:FuncData} (F:Fun K "law" "law" Zdd fl fdl) (zD0:ZV K mg "has" zs0 zP0) (zD1:ZV K mg "shown_flags" zs1 zP1) (zD2:ZV K mg "read" zs2 zP2) (zD3:ZV K mg "read_number" zs3 zP3) (zD4:ZV K mg "is_of" zs4 zP4) (zD5:ZV K mg "read_flags" zs5 zP5) (zD6:ZV K mg "read_most" zs6 zP6) (zD7:ZV K mg "read_data" zs7 zP7) (zD8:ZV K mg "read_byte" zs8 zP8) (zD9:ZV K mg "_law_cell" zs9 zP9) (zD10:ZV K mg "_law_mix" Ze6 Zhw) (zD11:ZV K mg "_law_any" Zeo Zhv) (zD12:ZV K mg "_law_line" ZdU Zhu) (zD13:ZV K mg "_law_wrong" Ze5 Zht) (g:Glb K mg) {CC WW:Addr} (O:PyProof.Rows.OwnCls "NoSegment" CC ZcT "ValueError.__new__" mg base) (EK:ZjF base mg CC WW "NoSegment" "WireError") (GD:GDs P w K mg "FLAG_NAMES" [("fin",1),("syn",2),("rst",4),("psh",8),("ack",16)]):FnOk P w K mg base CX0 5 fl fdl Zhs (spM ⟨ZdK mg,K⟩ Zfu):=by
  have zd0:=zo0 (P:=P) (w:=w) (base:=base) zD0 g
  have zd1:=zo1 (P:=P) (w:=w) (base:=base) zD1 g GD zd0
  have zd4:=zo4 (P:=P) (w:=w) (base:=base) zD4 g
  have zd8:=zo8 (P:=P) (w:=w) (base:=base) zD8 g
  have zd7:=zo7 (P:=P) (w:=w) (base:=base) zD7 g zd4 zd8
  have zd5:=zo5 (P:=P) (w:=w) (base:=base) zD5 g zd1
  have zd3:=zo3 (P:=P) (w:=w) (base:=base) zD3 g zd4
  have zd6:=zo6 (P:=P) (w:=w) (base:=base) zD6 g zd0 zd3
  have zd2:=zo2 (P:=P) (w:=w) (base:=base) zD2 g zd7 zd5 zd6 zd3
  have zd9:=zo9 (P:=P) (w:=w) (base:=base) zD9 g
  have zd10:=Zl4 (P:=P) (w:=w) (base:=base) zD10 g zd9
  have zd11:=Zl3 (P:=P) (w:=w) (base:=base) zD11 g zd10
  have zd12:=Zl2 (P:=P) (w:=w) (base:=base) zD12 g
  have zd13:=Zl1 (P:=P) (w:=w) (base:=base) zD13 g zd10
  have d_p_read_dataX:=Zc0 (P:=P) (w:=w) (base:=base) zD7 O g zd4 zd8
  have d_p_read_flagsX:=Zcw (P:=P) (w:=w) (base:=base) zD5 O g zd1
  have d_p_read_numberX:=Zb5 (P:=P) (w:=w) (base:=base) zD3 O g zd4
  have d_p_read_mostX:=ZcZ (P:=P) (w:=w) (base:=base) zD6 O g zd0 d_p_read_numberX
  have d_p_readNX:=Zfk (P:=P) (w:=w) (base:=base) zD2 O g d_p_read_dataX d_p_read_flagsX d_p_read_mostX d_p_read_numberX
  exact Zl0 F g EK zd11 zd12 zd10 zd13 zd2 d_p_readNX
end
theorem us1 {p:List Value→Prop} (h:∀a,p [a]):∀us:List Value,us.length=1→p us
  | [a],_=>h a
theorem us2 {p:List Value→Prop} (h:∀a b,p [a,b]):∀us:List Value,us.length=2→p us
  | [a,b],_=>h a b
open PySem.W
theorem ZkP {l:OpenLaw} {w:World} {K:Frag} {h:Heap} {mg:Str→Option Value} {fa DD CC WW f0 f1 f2 f3 f4 f5 f6 f7 f8 f9 f10 f11 f12 f13 f14:Addr} (X:K.In h) (G:h.Ns mainGlobals mg) (hfa:mg "law"=some (.ref fa))
    {dC dW:Option Addr} {cC cW:ClassData} {sC sW:Array (Option Value)}
    (xaC:nsIn K mainGlobals "NoSegment"=some (some (.ref CC))) (xaW:nsIn K mainGlobals "WireError"=some (some (.ref WW))) (xqC:excIn K CC ZcT "ValueError.__new__"=true) (xqW:excIn K WW ZcT "ValueError.__new__"=true)
    (xlC:K.lookup CC=some ⟨.type "type",dC,.cls cC,sC⟩) (xlW:K.lookup WW=some ⟨.type "type",dW,.cls cW,sW⟩) (xmC:cC.mro=ZlK CC WW) (xmW:cW.mro=ZlL WW) (xzI:nsIn K mainGlobals "isinstance"=some none) (xzV:nsIn K mainGlobals "ValueError"=some none)
    {esD:Array DictEntry} {epD:Nat} {tD1 tD2 tD3 tD4 tD5 uD1 uD2 uD3 uD4 uD5:Tok}
    (yaD:nsIn K mainGlobals "FLAG_NAMES"=some (some (.ref DD))) (ylD:K.lookup DD=some ⟨.type "dict",none,.dict esD epD,#[]⟩) (yeD:esD=#[⟨PyData.keyHash w.params "fin",.str "fin" tD1,.int 1 uD1⟩,⟨PyData.keyHash w.params "syn",.str "syn" tD2,.int 2 uD2⟩,⟨PyData.keyHash w.params "rst",.str "rst" tD3,.int 4 uD3⟩,⟨PyData.keyHash w.params "psh",.str "psh" tD4,.int 8 uD4⟩,⟨PyData.keyHash w.params "ack",.str "ack" tD5,.int 16 uD5⟩]) (ynD:(DD == sysModules)=false)
    (a0:nsIn K mainGlobals "has"=some (some (.ref f0))) (l0:K.lookup f0=some ⟨oc0,od0,.func (fnOf "has" "has" (ZR zs0) (ZH zs0) (Zi zs0) .none kV0 dc0 pm0 an0 cd0 ct0),sl0⟩) (c0:codeIn K cd0 "has"=true) (k0:keepIn K (.ref f0)=true)
    (a1:nsIn K mainGlobals "shown_flags"=some (some (.ref f1))) (l1:K.lookup f1=some ⟨oc1,od1,.func (fnOf "shown_flags" "shown_flags" (ZR zs1) (ZH zs1) (Zi zs1) .none kV1 dc1 pm1 an1 cd1 ct1),sl1⟩) (c1:codeIn K cd1 "shown_flags"=true) (k1:keepIn K (.ref f1)=true)
    (a2:nsIn K mainGlobals "read"=some (some (.ref f2))) (l2:K.lookup f2=some ⟨oc2,od2,.func (fnOf "read" "read" (ZR zs2) (ZH zs2) (Zi zs2) .none kV2 dc2 pm2 an2 cd2 ct2),sl2⟩) (c2:codeIn K cd2 "read"=true) (k2:keepIn K (.ref f2)=true)
    (a3:nsIn K mainGlobals "read_number"=some (some (.ref f3))) (l3:K.lookup f3=some ⟨oc3,od3,.func (fnOf "read_number" "read_number" (ZR zs3) (ZH zs3) (Zi zs3) .none kV3 dc3 pm3 an3 cd3 ct3),sl3⟩) (c3:codeIn K cd3 "read_number"=true) (k3:keepIn K (.ref f3)=true)
    (a4:nsIn K mainGlobals "is_of"=some (some (.ref f4))) (l4:K.lookup f4=some ⟨oc4,od4,.func (fnOf "is_of" "is_of" (ZR zs4) (ZH zs4) (Zi zs4) .none kV4 dc4 pm4 an4 cd4 ct4),sl4⟩) (c4:codeIn K cd4 "is_of"=true) (k4:keepIn K (.ref f4)=true)
    (a5:nsIn K mainGlobals "read_flags"=some (some (.ref f5))) (l5:K.lookup f5=some ⟨oc5,od5,.func (fnOf "read_flags" "read_flags" (ZR zs5) (ZH zs5) (Zi zs5) .none kV5 dc5 pm5 an5 cd5 ct5),sl5⟩) (c5:codeIn K cd5 "read_flags"=true) (k5:keepIn K (.ref f5)=true)
    (a6:nsIn K mainGlobals "read_most"=some (some (.ref f6))) (l6:K.lookup f6=some ⟨oc6,od6,.func (fnOf "read_most" "read_most" (ZR zs6) (ZH zs6) (Zi zs6) .none kV6 dc6 pm6 an6 cd6 ct6),sl6⟩) (c6:codeIn K cd6 "read_most"=true) (k6:keepIn K (.ref f6)=true)
    (a7:nsIn K mainGlobals "read_data"=some (some (.ref f7))) (l7:K.lookup f7=some ⟨oc7,od7,.func (fnOf "read_data" "read_data" (ZR zs7) (ZH zs7) (Zi zs7) .none kV7 dc7 pm7 an7 cd7 ct7),sl7⟩) (c7:codeIn K cd7 "read_data"=true) (k7:keepIn K (.ref f7)=true)
    (a8:nsIn K mainGlobals "read_byte"=some (some (.ref f8))) (l8:K.lookup f8=some ⟨oc8,od8,.func (fnOf "read_byte" "read_byte" (ZR zs8) (ZH zs8) (Zi zs8) .none kV8 dc8 pm8 an8 cd8 ct8),sl8⟩) (c8:codeIn K cd8 "read_byte"=true) (k8:keepIn K (.ref f8)=true)
    (a9:nsIn K mainGlobals "_law_cell"=some (some (.ref f9))) (l9:K.lookup f9=some ⟨oc9,od9,.func (fnOf "_law_cell" "_law_cell" (ZR zs9) (ZH zs9) (Zi zs9) .none kV9 dc9 pm9 an9 cd9 ct9),sl9⟩) (c9:codeIn K cd9 "_law_cell"=true) (k9:keepIn K (.ref f9)=true)
    (a10:nsIn K mainGlobals "_law_mix"=some (some (.ref f10))) (l10:K.lookup f10=some ⟨oc10,od10,.func (fnOf "_law_mix" "_law_mix" (ZR Ze6) (ZH Ze6) (Zi Ze6) .none kV10 dc10 pm10 an10 cd10 ct10),sl10⟩) (c10:codeIn K cd10 "_law_mix"=true) (k10:keepIn K (.ref f10)=true)
    (a11:nsIn K mainGlobals "_law_any"=some (some (.ref f11))) (l11:K.lookup f11=some ⟨oc11,od11,.func (fnOf "_law_any" "_law_any" (ZR Zeo) (ZH Zeo) (Zi Zeo) .none kV11 dc11 pm11 an11 cd11 ct11),sl11⟩) (c11:codeIn K cd11 "_law_any"=true) (k11:keepIn K (.ref f11)=true)
    (a12:nsIn K mainGlobals "_law_line"=some (some (.ref f12))) (l12:K.lookup f12=some ⟨oc12,od12,.func (fnOf "_law_line" "_law_line" (ZR ZdU) (ZH ZdU) (Zi ZdU) .none kV12 dc12 pm12 an12 cd12 ct12),sl12⟩) (c12:codeIn K cd12 "_law_line"=true) (k12:keepIn K (.ref f12)=true)
    (a13:nsIn K mainGlobals "_law_wrong"=some (some (.ref f13))) (l13:K.lookup f13=some ⟨oc13,od13,.func (fnOf "_law_wrong" "_law_wrong" (ZR Ze5) (ZH Ze5) (Zi Ze5) .none kV13 dc13 pm13 an13 cd13 ct13),sl13⟩) (c13:codeIn K cd13 "_law_wrong"=true) (k13:keepIn K (.ref f13)=true)
    (a14:nsIn K mainGlobals "law"=some (some (.ref f14))) (l14:K.lookup f14=some ⟨oc14,od14,.func (fnOf "law" "law" (ZR Zdd) (ZH Zdd) (Zi Zdd) .none kV14 dc14 pm14 an14 cd14 ct14),sl14⟩) (c14:codeIn K cd14 "law"=true) (k14:keepIn K (.ref f14)=true)
    (zg0:nsIn K mainGlobals "ANSWER"=some (some (.int 3 zt0)))
    (zg1:nsIn K mainGlobals "BYTE_FIGURES"=some (some (.str "0123456789abcdef" zt1)))
    (zg2:nsIn K mainGlobals "DATA"=some (some (.int 7 zt2)))
    (zg3:nsIn K mainGlobals "FIGURES"=some (some (.str "0123456789" zt3)))
    (zg4:nsIn K mainGlobals "FLAGS"=some (some (.int 4 zt4)))
    (zg5:nsIn K mainGlobals "GOAL"=some (some (.int 1 zt5)))
    (zg6:nsIn K mainGlobals "GREATEST_DATA"=some (some (.int 16 zt6)))
    (zg7:nsIn K mainGlobals "GREATEST_FLAGS"=some (some (.int 31 zt7)))
    (zg8:nsIn K mainGlobals "GREATEST_MOST"=some (some (.int 65535 zt8)))
    (zg9:nsIn K mainGlobals "GREATEST_NUMBER"=some (some (.int 4294967295 zt9)))
    (zg10:nsIn K mainGlobals "GREATEST_PORT"=some (some (.int 65535 zt10)))
    (zg11:nsIn K mainGlobals "GREATEST_WINDOW"=some (some (.int 65535 zt11)))
    (zg12:nsIn K mainGlobals "LEAST_MOST"=some (some (.int 4 zt12)))
    (zg13:nsIn K mainGlobals "MOST"=some (some (.int 6 zt13)))
    (zg14:nsIn K mainGlobals "NO_FLAGS"=some (some (.str "none" zt14)))
    (zg15:nsIn K mainGlobals "NUMBER"=some (some (.int 2 zt15)))
    (zg16:nsIn K mainGlobals "SOURCE"=some (some (.int 0 zt16)))
    (zg17:nsIn K mainGlobals "SYN"=some (some (.int 2 zt17)))
    (zg18:nsIn K mainGlobals "WINDOW"=some (some (.int 5 zt18)))
    (zg19:nsIn K mainGlobals "WORDS_WITHOUT_DATA"=some (some (.int 7 zt19)))
    (z_all:nsIn K mainGlobals "all"=some none)
    (z_int:nsIn K mainGlobals "int"=some none)
    (z_isinstance:nsIn K mainGlobals "isinstance"=some none)
    (z_len:nsIn K mainGlobals "len"=some none)
    (z_range:nsIn K mainGlobals "range"=some none)
    (z_str:nsIn K mainGlobals "str"=some none)
    (z_tuple:nsIn K mainGlobals "tuple"=some none) :
    ∃fd:FuncData,(∀(s:Shared) (v:Value),BindsTo s fd ⟨[v],[]⟩ [("_law_script",v)])∧∀base:Heap,K.In base→base.Ns mainGlobals mg→FnOk l.prog w K mg base CX0 5 fa fd ["_law_script"] (Zgo K):=by
  have e:=hfa.symm.trans (mg_of X G a14)
  cases e
  have g:Glb K mg:=⟨⟨_,mg_of X G zg0⟩,⟨_,mg_of X G zg1⟩,⟨_,mg_of X G zg2⟩,⟨_,mg_of X G zg3⟩,⟨_,mg_of X G zg4⟩,⟨_,mg_of X G zg5⟩,⟨_,mg_of X G zg6⟩,⟨_,mg_of X G zg7⟩,⟨_,mg_of X G zg8⟩,⟨_,mg_of X G zg9⟩,⟨_,mg_of X G zg10⟩,⟨_,mg_of X G zg11⟩,⟨_,mg_of X G zg12⟩,⟨_,mg_of X G zg13⟩,⟨_,mg_of X G zg14⟩,⟨_,mg_of X G zg15⟩,⟨_,mg_of X G zg16⟩,⟨_,mg_of X G zg17⟩,⟨_,mg_of X G zg18⟩,⟨_,mg_of X G zg19⟩,mg_none_of X G z_all,mg_none_of X G z_int,mg_none_of X G z_isinstance,mg_none_of X G z_len,mg_none_of X G z_range,mg_none_of X G z_str,mg_none_of X G z_tuple⟩
  have F0:=zm (st:=zs0) l0 c0 k0
  have b0:=F0.binds (ps:=zP0) fun _ _ _ _ _ _=>us2 fun _ _=>rfl
  have D0:ZV K mg "has" zs0 zP0:=⟨_,_,F0,b0,mg_of X G a0⟩
  have F1:=zm (st:=zs1) l1 c1 k1
  have b1:=F1.binds (ps:=zP1) fun _ _ _ _ _ _=>us1 fun _=>rfl
  have D1:ZV K mg "shown_flags" zs1 zP1:=⟨_,_,F1,b1,mg_of X G a1⟩
  have F2:=zm (st:=zs2) l2 c2 k2
  have b2:=F2.binds (ps:=zP2) fun _ _ _ _ _ _=>us1 fun _=>rfl
  have D2:ZV K mg "read" zs2 zP2:=⟨_,_,F2,b2,mg_of X G a2⟩
  have F3:=zm (st:=zs3) l3 c3 k3
  have b3:=F3.binds (ps:=zP3) fun _ _ _ _ _ _=>us2 fun _ _=>rfl
  have D3:ZV K mg "read_number" zs3 zP3:=⟨_,_,F3,b3,mg_of X G a3⟩
  have F4:=zm (st:=zs4) l4 c4 k4
  have b4:=F4.binds (ps:=zP4) fun _ _ _ _ _ _=>us2 fun _ _=>rfl
  have D4:ZV K mg "is_of" zs4 zP4:=⟨_,_,F4,b4,mg_of X G a4⟩
  have F5:=zm (st:=zs5) l5 c5 k5
  have b5:=F5.binds (ps:=zP5) fun _ _ _ _ _ _=>us1 fun _=>rfl
  have D5:ZV K mg "read_flags" zs5 zP5:=⟨_,_,F5,b5,mg_of X G a5⟩
  have F6:=zm (st:=zs6) l6 c6 k6
  have b6:=F6.binds (ps:=zP6) fun _ _ _ _ _ _=>us2 fun _ _=>rfl
  have D6:ZV K mg "read_most" zs6 zP6:=⟨_,_,F6,b6,mg_of X G a6⟩
  have F7:=zm (st:=zs7) l7 c7 k7
  have b7:=F7.binds (ps:=zP7) fun _ _ _ _ _ _=>us1 fun _=>rfl
  have D7:ZV K mg "read_data" zs7 zP7:=⟨_,_,F7,b7,mg_of X G a7⟩
  have F8:=zm (st:=zs8) l8 c8 k8
  have b8:=F8.binds (ps:=zP8) fun _ _ _ _ _ _=>us2 fun _ _=>rfl
  have D8:ZV K mg "read_byte" zs8 zP8:=⟨_,_,F8,b8,mg_of X G a8⟩
  have F9:=zm (st:=zs9) l9 c9 k9
  have b9:=F9.binds (ps:=zP9) fun _ _ _ _ _ _=>us2 fun _ _=>rfl
  have D9:ZV K mg "_law_cell" zs9 zP9:=⟨_,_,F9,b9,mg_of X G a9⟩
  have F10:=zm (st:=Ze6) l10 c10 k10
  have b10:=F10.binds (ps:=Zhw) fun _ _ _ _ _ _=>us2 fun _ _=>rfl
  have D10:ZV K mg "_law_mix" Ze6 Zhw:=⟨_,_,F10,b10,mg_of X G a10⟩
  have F11:=zm (st:=Zeo) l11 c11 k11
  have b11:=F11.binds (ps:=Zhv) fun _ _ _ _ _ _=>us2 fun _ _=>rfl
  have D11:ZV K mg "_law_any" Zeo Zhv:=⟨_,_,F11,b11,mg_of X G a11⟩
  have F12:=zm (st:=ZdU) l12 c12 k12
  have b12:=F12.binds (ps:=Zhu) fun _ _ _ _ _ _=>us1 fun _=>rfl
  have D12:ZV K mg "_law_line" ZdU Zhu:=⟨_,_,F12,b12,mg_of X G a12⟩
  have F13:=zm (st:=Ze5) l13 c13 k13
  have b13:=F13.binds (ps:=Zht) fun _ _ _ _ _ _=>us2 fun _ _=>rfl
  have D13:ZV K mg "_law_wrong" Ze5 Zht:=⟨_,_,F13,b13,mg_of X G a13⟩
  have F14:=zm (st:=Zdd) l14 c14 k14
  have b14:=F14.binds (ps:=Zhs) fun _ _ _ _ _ _=>us1 fun _=>rfl
  have D14:ZV K mg "law" Zdd Zhs:=⟨_,_,F14,b14,mg_of X G a14⟩
  refine ⟨fnOf "law" "law" (ZR Zdd) (ZH Zdd) (Zi Zdd) .none kV14 dc14 pm14 an14 cd14 ct14,fun s v=>.of_eq rfl,fun base BX BG=>?_⟩
  exact Zjr law_true (Zks F14 D0 D1 D2 D3 D4 D5 D6 D7 D8 D9 D10 D11 D12 D13 g (Zjv BX BG xaC xqC) (Zju BX BG xaC xqC xlC xmC xaW xqW xlW xmW xzI xzV) (ZkI BX BG yaD ylD yeD (by decide) ynD))
theorem Zmi {l:OpenLaw} {q:Program} {loose:List Str} {XP:(Str→Option Value)→Heap→Prop} {YP:World→Heap→Prop} {d:DefRec} {K:Params→Frag} (hn:l.most=some 63) (hdf:d.params.defaults=[])
    (hY:∀(w:World) (h:Heap),YP w h→(K w.params).In h)
    (F:∀(w:World) (mg:Str→Option Value) (fa:Addr) (h:Heap),(K w.params).In h→h.Ns mainGlobals mg→mg d.name=some (.ref fa)→
      ∃fd:FuncData,(∀(s:Shared) (u:Value),BindsTo s fd ⟨[u],[]⟩ [("_law_script",u)])∧∀base:Heap,(K w.params).In base→base.Ns mainGlobals mg→FnOk l.prog w (K w.params) mg base CX0 5 fa fd ["_law_script"] (Zgo (K w.params))) :
    WalkO q loose XP YP l.row.toRowW d [] (fun f vs=>PySem.call f vs):=
  L2.ZiS (n:=63) (k:=5) (x:="_law_script") (CX:=fun _=>CX0) (sp:=fun w=>Zgo (K w.params)) hn (by decide) hdf ⟨rfl,by decide,by decide⟩ hY F (fun _ H a ns hl hO hS=>⟨a,ns,rfl,hO,hS,hl,fun _=>rfl⟩) fun _ _ _ _ _ z=>z
end My
open PySem PySem.W PyProof.Rows
set_option maxRecDepth 100000 in
set_option maxHeartbeats 0 in
theorem PySem.Challenge.cw_wirestream_k06_lines_refused_holds : PySem.Challenge.rw_wirestream_k06_lines_refused.Holds := by
  w_on; o_law; k_head; (case hw=>w_witness2)
  k_fill
  refine My.Zmi (l:=PySem.Challenge.rw_wirestream_k06_lines_refused) rfl rfl (fun w h Y=>PySem.W.kIn_of Y) ?F
  case F=>
    intro w mg fa h KX G hmg
    refine' My.ZkP KX G hmg ?xaC ?xaW ?xqC ?xqW ?xlC ?xlW ?xmC ?xmW ?xzI ?xzV ?yaD ?ylD ?yeD ?ynD ?a0 ?l0 ?c0 ?k0 ?a1 ?l1 ?c1 ?k1 ?a2 ?l2 ?c2 ?k2 ?a3 ?l3 ?c3 ?k3 ?a4 ?l4 ?c4 ?k4 ?a5 ?l5 ?c5 ?k5 ?a6 ?l6 ?c6 ?k6 ?a7 ?l7 ?c7 ?k7 ?a8 ?l8 ?c8 ?k8 ?a9 ?l9 ?c9 ?k9 ?a10 ?l10 ?c10 ?k10 ?a11 ?l11 ?c11 ?k11 ?a12 ?l12 ?c12 ?k12 ?a13 ?l13 ?c13 ?k13 ?a14 ?l14 ?c14 ?k14 ?zg0 ?zg1 ?zg2 ?zg3 ?zg4 ?zg5 ?zg6 ?zg7 ?zg8 ?zg9 ?zg10 ?zg11 ?zg12 ?zg13 ?zg14 ?zg15 ?zg16 ?zg17 ?zg18 ?zg19 ?z_all ?z_int ?z_isinstance ?z_len ?z_range ?z_str ?z_tuple
    case xaC | xaW | xlC | xlW | xzI | xzV | yaD | ylD | a0 | l0 | c0 | k0 | a1 | l1 | c1 | k1 | a2 | l2 | c2 | k2 | a3 | l3 | c3 | k3 | a4 | l4 | c4 | k4 | a5 | l5 | c5 | k5 | a6 | l6 | c6 | k6 | a7 | l7 | c7 | k7 | a8 | l8 | c8 | k8 | a9 | l9 | c9 | k9 | a10 | l10 | c10 | k10 | a11 | l11 | c11 | k11 | a12 | l12 | c12 | k12 | a13 | l13 | c13 | k13 | a14 | l14 | c14 | k14 | zg0 | zg1 | zg2 | zg3 | zg4 | zg5 | zg6 | zg7 | zg8 | zg9 | zg10 | zg11 | zg12 | zg13 | zg14 | zg15 | zg16 | zg17 | zg18 | zg19 | z_all | z_int | z_isinstance | z_len | z_range | z_str | z_tuple=>k_is
    (case xqC=>k_exc)
    (case xqW=>k_exc)
    (case xmC=>rfl)
    (case xmW=>rfl)
    (case yeD=>rfl)
    (case ynD=>rfl)
#print axioms PySem.Challenge.cw_wirestream_k06_lines_refused_holds
