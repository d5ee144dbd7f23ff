import PyProof.Rows.All
import KE.KDictLaws
import KE.KDictOf
import KE.KFromBytes
import KE.KIsAll
import KE.KItem
import Wide.Meth
import KE.KIntText
import KE.KPairComp
import PySem.Challenge.RW_wirestream_k05_lines
set_option compiler.extract_closed false
set_option bootstrap.genMatcherCode false
set_option Elab.async false
set_option linter.all false
set_option maxRecDepth 100000
namespace L2
open PySem PySem.Spec PyProof.Rows
abbrev Key:=Sum Int Str
def Zg6:Key→Value→Bool
  | .inl k,v=>Value.isInt k v
  | .inr x,v=>Value.isStrOf x v
def ZjH (w:World):Key→Int
  | .inl k=>hashInt k
  | .inr x=>hashStr w x
theorem ZS:∀{k:Key} {v:Value},Zg6 k v=true→(∃i t,k=Sum.inl i∧v=Value.int i t)∨(∃x t,k=Sum.inr x∧v=Value.str x t)
  | .inl i,v,h=>by
    obtain ⟨t,e⟩:=Value.isInt_shape (k:=i) (v:=v) h
    exact .inl ⟨i,t,rfl,e⟩
  | .inr x,v,h=>by
    obtain ⟨t,e⟩:=Value.isStrOf_shape (x:=x) (v:=v) h
    exact .inr ⟨x,t,rfl,e⟩
theorem ZhP (a b:Int):decide ((Sum.inl a:Key)=Sum.inl b)=(a == b):=by
  by_cases e:a=b
  · subst e; simp
  · have h:¬(Sum.inl a:Key)=Sum.inl b:=fun q=>e (Sum.inl.inj q)
    rw [decide_eq_false h]
    exact (beq_eq_false_iff_ne.mpr e).symm
theorem ZhM (a b:Str):decide ((Sum.inr a:Key)=Sum.inr b)=decide (a=b):=by
  by_cases e:a=b
  · subst e; simp
  · have h:¬(Sum.inr a:Key)=Sum.inr b:=fun q=>e (Sum.inr.inj q)
    rw [decide_eq_false h,decide_eq_false e]
theorem ZhO (a:Int) (b:Str):decide ((Sum.inl a:Key)=Sum.inr b)=false:=decide_eq_false (fun q=>nomatch q)
theorem ZhN (a:Str) (b:Int):decide ((Sum.inr a:Key)=Sum.inl b)=false:=decide_eq_false (fun q=>nomatch q)
def ZcN (prog:Program) (w:World):PySem.KeyKind prog w Key where
  is:=Zg6
  hash:=ZjH w
  inj:=fun v a b ha hb=>by
    rcases ZS ha with ⟨i,t,rfl,rfl⟩ | ⟨x,t,rfl,rfl⟩
    · rcases ZS hb with ⟨j,u,rfl,e⟩ | ⟨y,u,rfl,e⟩
      · injection e with e1 _; rw [e1]
      · exact nomatch e
    · rcases ZS hb with ⟨j,u,rfl,e⟩ | ⟨y,u,rfl,e⟩
      · exact nomatch e
      · injection e with e1 _; rw [e1]
  byValue:=fun k v h=>by
    rcases ZS h with ⟨i,t,rfl,rfl⟩ | ⟨x,t,rfl,rfl⟩<;>rfl
  pyHash:=fun hv h=>by
    rcases ZS hv with ⟨i,t,rfl,rfl⟩ | ⟨x,t,rfl,rfl⟩
    · exact wpAny_pyHash_int h
    · exact wpAny_pyHash_str h
  eqBool:=fun hu hv h=>by
    rcases ZS hu with ⟨i,t,rfl,rfl⟩ | ⟨x,t,rfl,rfl⟩
    · rcases ZS hv with ⟨j,u,rfl,rfl⟩ | ⟨y,u,rfl,rfl⟩
      · rw [ZhP] at h; exact wpAny_eqBool_int h
      · rw [ZhO] at h; exact SeqAt.EqAt.int_str i t y u _ _ _ _ h
    · rcases ZS hv with ⟨j,u,rfl,rfl⟩ | ⟨y,u,rfl,rfl⟩
      · rw [ZhN] at h; exact SeqAt.EqAt.str_int x t j u _ _ _ _ h
      · rw [ZhM] at h; exact wpAny_eqBool_str h
  «strs»:=fun k x t v h=>by
    rcases ZS h with ⟨i,u,rfl,e⟩ | ⟨y,u,rfl,e⟩
    · exact nomatch e
    · injection e with e1 _
      subst e1
      cases v<;>rfl
end L2
namespace L2
open PySem PySem.Spec PyProof.Rows
inductive V where
  | non | bl (b:Bool) | int (i:Int) | str (x:Str) | byt (b:Array UInt8) | flt (b:UInt64) | ref (a:Addr) | ty (n:String)
  deriving DecidableEq
def RelV:V→Value→Prop
  | .non,u=>u=Value.none
  | .bl b,u=>u=Value.bool b
  | .int i,u=>∃t,u=Value.int i t
  | .str x,u=>∃t,u=Value.str x t
  | .byt b,u=>∃t,u=Value.bytes b t
  | .flt b,u=>∃t,u=Value.float b t
  | .ref a,u=>u=Value.ref a
  | .ty n,u=>u=Value.type n
abbrev Vals:List V→List Value→Prop:=Paired RelV
theorem Vals.length {xs:List V} {us:List Value} (r:Vals xs us):xs.length=us.length:=Paired.length r
theorem Vals.get:∀{xs:List V} {us:List Value} {i:Nat} {x:V},Vals xs us→xs[i]?=some x→∃u,us[i]?=some u∧RelV x u
  | _,_,_,_,.nil,e=>by simp at e
  | _,_,0,_,.cons r _,e=>by simp at e; subst e; exact ⟨_,rfl,r⟩
  | _,_,i+1,x,.cons _ t,e=>by
    obtain ⟨u,h1,h2⟩:=Vals.get (i:=i) (x:=x) t (by simpa using e)
    exact ⟨u,by simpa using h1,h2⟩
theorem Vals.append:∀{xs ys:List V} {us ws:List Value},Vals xs us→Vals ys ws→Vals (xs++ys) (us++ws)
  | _,_,_,_,.nil,s=>s
  | _,_,_,_,.cons r t,s=>.cons r (Vals.append t s)
theorem Vals.take:∀{xs:List V} {us:List Value} (n:Nat),Vals xs us→Vals (xs.take n) (us.take n)
  | _,_,0,_=>.nil
  | _,_,_+1,.nil=>.nil
  | _,_,n+1,.cons r t=>.cons r (Vals.take n t)
theorem Vals.drop:∀{xs:List V} {us:List Value} (n:Nat),Vals xs us→Vals (xs.drop n) (us.drop n)
  | _,_,0,r=>r
  | _,_,_+1,.nil=>.nil
  | _,_,n+1,.cons _ t=>Vals.drop n t
def RelO:Option V→Option Value→Prop
  | some v,some u=>RelV v u
  | none,none=>True
  | _,_=>False
def KV {κ:Type}:List (κ×V)→List (κ×Value)→Prop:=Paired fun (p:κ×V) (q:κ×Value)=>p.1=q.1∧RelV p.2 q.2
def kV:Key→V
  | .inl i=>.int i
  | .inr x=>.str x
inductive HO where
  | lst (xs:List V)
  | tup (xs:List V)
  | dK (kvs:List (Key×V)) | dT (kvs:List (List Key×V))
  | set (S:Int→Bool) (n:Nat)
  | ins (C dx:Addr) (fs:List (Str×V))
  | own (x:Addr)
  | xd (fs:List (Str×V))
  | met (f x:Addr)
  | rng (lo hi:Int)
  | frz (o:Obj) (u:HO)
  | tbl (ps:Array Value)
  | ext (φ:Heap→Prop)
abbrev Hp:=Addr→Option HO
def upd (H:Hp) (a:Addr) (o:HO):Hp:=fun b=>if b=a then some o else H b
theorem Z2 {H:Hp} {a:Addr} {o:HO}:upd H a o a=some o:=by unfold upd; rw [if_pos rfl]
theorem Zl {H:Hp} {a b:Addr} {o:HO} (h:b≠a):upd H a o b=H b:=by unfold upd; rw [if_neg h]
theorem Zu {H:Hp} {a b:Addr} {o:HO} (h:H a=some o) (h':H b=none):a≠b:=by
  intro e; subst e; rw [h] at h'; cases h'
section
variable (P:Program) (w:World)
def ObjOk (H:Hp) (h:Heap) (a:Addr):HO→Prop
  | .lst xs=>xs.length≤sizeLine∧∃(its:List Value) (n:Nat),Vals xs its∧h.get? a=some { cls:=.type "list",data:=.seq its.toArray n }
  | .tup xs=>xs.length≤sizeLine∧∃its:List Value,Vals xs its∧IsTup h a its.toArray
  | .dK kvs=>kvs.length≤sizeLine∧(a == sysModules)=false∧∃vs,KV kvs vs∧h.DictOf (ZcN P w) a vs
  | .dT kvs=>kvs.length≤sizeLine∧(a == sysModules)=false∧∃xs:List (List Key×Addr×Value),
      Paired (fun (p:List Key×V) (q:List Key×Addr×Value)=>p.1=q.1∧H q.2.1=some (.tup (p.1.map kV))∧RelV p.2 q.2.2) kvs xs∧
      ∃o es ep,h.get? a=some o∧o.ExactDict∧o.data=.dict es ep∧es.toList=xs.map (entryOfKey (tupleKind (ZcN P w)))∧(xs.map (·.1)).Nodup
  | .set S n=>h.SetOf (intKind P w) a S n
  | .ins C dx fs=>H dx=some (.own a)∧fs.length≤1000∧dx≠a∧h.get? a=some (PySem.W.instObj C dx)∧
      ∃mA,h.Ns1 dx mA∧(∀f,RelO (fs.lookup f) (mA f))∧PySem.Within mA (fs.map (·.1))
  | .own _=>∃o,h.get? a=some o
  | .xd fs=>∃mA,h.Ns1 a mA∧∀f,RelO (fs.lookup f) (mA f)
  | .rng lo hi=>∃t u v,h.get? a=some { cls:=.type "range",data:=.fields #[.int lo t,.int hi u,.int 1 v] }
  | .frz o u=>h.get? a=some o∧ObjOk H h a u
  | .tbl ps=>h.get? a=some { cls:=.none,data:=.fields ps }
  | .met f x=>h.get? a=some (PySem.W.methodObj (.ref f) (.ref x))
  | .ext φ=>φ h∧(∃o,h.get? a=some o)∧∀h1 h2:Heap,φ h1→(∀o,h1.get? a=some o→h2.get? a=some o)→φ h2
def HOk (H:Hp) (h:Heap):Prop:=∀a o,H a=some o→ObjOk P w H h a o
end
section
variable {P:Program} {w:World} {H H':Hp} {h h':Heap} {a:Addr} {o:HO}
theorem ObjOk.lt (x:ObjOk P w H h a o):a<h.objs.size:=by
  cases o with
  | lst xs=>obtain ⟨_,_,_,_,e⟩:=x; exact Heap.lt_size e
  | tup xs=>obtain ⟨_,_,_,p⟩:=x; exact p.lt
  | dK kvs=>obtain ⟨_,_,_,_,o,_,_,e,_⟩:=x; exact Heap.lt_size e
  | dT kvs=>obtain ⟨_,_,_,_,o,_,_,e,_⟩:=x; exact Heap.lt_size e
  | set S n=>obtain ⟨o,_,_,_,e,_⟩:=x; exact Heap.lt_size e
  | ins C dx fs=>obtain ⟨_,_,_,e,_⟩:=x; exact Heap.lt_size e
  | own y=>obtain ⟨_,e⟩:=x; exact Heap.lt_size e
  | xd fs=>obtain ⟨_,⟨_,_,_,e,_⟩,_⟩:=x; exact Heap.lt_size e
  | rng lo hi=>obtain ⟨_,_,_,e⟩:=x; exact Heap.lt_size e
  | frz ob u=>obtain ⟨e,_⟩:=x; exact Heap.lt_size e
  | tbl ps=>exact Heap.lt_size (show h.get? a=some _ from x)
  | met f y=>exact Heap.lt_size (show h.get? a=some _ from x)
  | ext φ=>obtain ⟨_,⟨_,e⟩,_⟩:=x; exact Heap.lt_size e
theorem Paired.mapP {α β:Type} {F G:α→β→Prop}:∀{l₁:List α} {l₂:List β},Paired F l₁ l₂→(∀a b,F a b→G a b)→Paired G l₁ l₂
  | _,_,.nil,_=>.nil
  | _,_,.cons r t,f=>.cons (f _ _ r) (Paired.mapP t f)
theorem ObjOk.stay (x:ObjOk P w H h a o) (k:∀b u,(b=a∨H b=some (.own a))→h.get? b=some u→h'.get? b=some u)
    (ho:∀b,H b=some (.own a)→H' b=some (.own a)) (ht:∀b xs,H b=some (.tup xs)→H' b=some (.tup xs)):ObjOk P w H' h' a o:=by
  induction o with
  | lst xs=>obtain ⟨z,its,n,r,e⟩:=x; exact ⟨z,its,n,r,k _ _ (.inl rfl) e⟩
  | tup xs=>obtain ⟨z,its,r,ob,e,c⟩:=x; exact ⟨z,its,r,ob,k _ _ (.inl rfl) e,c⟩
  | dK kvs=>obtain ⟨z,y,vs,r,ob,es,ep,e,c⟩:=x; exact ⟨z,y,vs,r,ob,es,ep,k _ _ (.inl rfl) e,c⟩
  | dT kvs=>
    obtain ⟨z,y,xs,r,ob,es,ep,e,c⟩:=x
    exact ⟨z,y,xs,Paired.mapP r fun p q z=>⟨z.1,ht _ _ z.2.1,z.2.2⟩,ob,es,ep,k _ _ (.inl rfl) e,c⟩
  | set S n=>obtain ⟨ob,es,ep,t,e,c⟩:=x; exact ⟨ob,es,ep,t,k _ _ (.inl rfl) e,c⟩
  | ins C dx fs=>
    obtain ⟨d,z,ne,e,mA,⟨od,es,ep,e2,c⟩,r⟩:=x
    exact ⟨ho _ d,z,ne,k _ _ (.inl rfl) e,mA,⟨od,es,ep,k _ _ (.inr d) e2,c⟩,r⟩
  | own y=>obtain ⟨ob,e⟩:=x; exact ⟨ob,k _ _ (.inl rfl) e⟩
  | xd fs=>obtain ⟨mA,⟨od,es,ep,e,c⟩,r⟩:=x; exact ⟨mA,⟨od,es,ep,k _ _ (.inl rfl) e,c⟩,r⟩
  | rng lo hi=>obtain ⟨t,u,v,e⟩:=x; exact ⟨t,u,v,k _ _ (.inl rfl) e⟩
  | frz ob u ih=>obtain ⟨e,q⟩:=x; exact ⟨k _ _ (.inl rfl) e,ih q⟩
  | tbl ps=>
    have e:h.get? a=some { cls:=.none,data:=.fields ps }:=x
    show h'.get? a=some { cls:=.none,data:=.fields ps }
    exact k a _ (.inl rfl) e
  | met f y=>
    have e:h.get? a=some (PySem.W.methodObj (.ref f) (.ref y)):=x
    show h'.get? a=some (PySem.W.methodObj (.ref f) (.ref y))
    exact k a _ (.inl rfl) e
  | ext φ=>obtain ⟨p,⟨o,e⟩,st⟩:=x; exact ⟨st _ _ p fun o q=>k _ _ (.inl rfl) q,⟨o,k _ _ (.inl rfl) e⟩,st⟩
theorem HOk.lt (x:HOk P w H h) (e:H a=some o):a<h.objs.size:=(x a o e).lt
theorem HOk.fresh (x:HOk P w H h) (e:h.objs.size≤a):H a=none:=by
  cases q:H a with
  | none=>rfl
  | some u=>exact absurd (Nat.lt_of_lt_of_le (x.lt q) e) (Nat.lt_irrefl _)
theorem HOk.kept (x:HOk P w H h) (k:∀b u,h.get? b=some u→h'.get? b=some u):HOk P w H h':=fun a o e=>
  (x a o e).stay (fun b u _ q=>k b u q) (fun _ q=>q) fun _ _ q=>q
theorem HOk.laid (x:HOk P w H h) (k:∀b u,h.get? b=some u→h'.get? b=some u) (hp:h.objs.size≤a) (new:ObjOk P w (upd H a o) h' a o):HOk P w (upd H a o) h':=fun b u e=>by
  have hn:=x.fresh hp
  by_cases hb:b=a
  · subst hb; rw [Z2] at e; cases e; exact new
  · rw [Zl hb] at e
    exact (x b u e).stay (fun c v _ q=>k c v q) (fun c q=>by rw [Zl (Zu q hn)]; exact q) fun c xs q=>by rw [Zl (Zu q hn)]; exact q
end
def Rd (H:Hp) (a:Addr) (u:HO):Prop:=H a=some u∨∃o,H a=some (.frz o u)
theorem Rd.ok {P:Program} {w:World} {H:Hp} {h:Heap} {a:Addr} {u:HO} (r:Rd H a u) (x:HOk P w H h):ObjOk P w H h a u:=by
  rcases r with r | ⟨o,r⟩
  · exact x a u r
  · obtain ⟨_,q⟩:=x a _ r
    exact q
def Mut:Option HO→Prop
  | some (.lst _)=>True
  | some (.dK _)=>True
  | some (.dT _)=>True
  | some (.set _ _)=>True
  | some (.ins _ _ _)=>True
  | some (.ext _)=>True
  | _=>False
section
variable {P:Program} {w:World} {H:Hp} {h h':Heap} {x e:Addr} {o':HO}
theorem HOk.write (ok:HOk P w H h) (mu:Mut (H x)) (he:e=x∨H e=some (.own x)) (k:∀b u,b≠e→h.get? b=some u→h'.get? b=some u) (heo:∃u,h'.get? e=some u)
    (new:ObjOk P w (upd H x o') h' x o'):HOk P w (upd H x o') h':=fun b u q=>by
  have nown:∀c y,H c=some (.own y)→c≠x:=fun c y r z=>by subst z; rw [r] at mu; exact mu
  have ntup:∀c xs,H c=some (.tup xs)→c≠x:=fun c xs r z=>by subst z; rw [r] at mu; exact mu
  by_cases hb:b=x
  · subst hb; rw [Z2] at q; cases q; exact new
  · rw [Zl hb] at q
    by_cases hbe:b=e
    · have q':H b=some (.own x):=by
        rcases he with z | z
        · exact absurd (hbe.trans z) hb
        · rw [hbe]; exact z
      rw [q] at q'; cases q'
      obtain ⟨v,hv⟩:=heo
      exact ⟨v,by rw [hbe]; exact hv⟩
    · refine (ok b u q).stay (fun c v hc r=>k c v ?_ r) (fun c r=>by rw [Zl (nown c b r)]; exact r) fun c xs r=>by rw [Zl (ntup c xs r)]; exact r
      rcases hc with rfl | hc
      · exact hbe
      · rintro rfl
        rcases he with z | z
        · exact nown c b hc z
        · rw [hc] at z; cases z; exact hb rfl
end
structure Un (fs ex:List Addr) (H H':Hp) (h h':Heap):Prop where
  keep:∀b o,h.get? b=some o→H b=none→b∉fs→b∉ex→h'.get? b=some o
  slot:∀b o,h.get? b=some o→H b=none→b∈fs→b∉ex→∃sl,h'.get? b=some { o with slots:=sl }
  free:∀b o,h.get? b=some o→H b=none→b∉ex→H' b=none
  there:∀b o,h.get? b=some o→b∉ex→∃o',h'.get? b=some o'
  tups:∀b xs,H b=some (.tup xs)→H' b=some (.tup xs)
  frzs:∀b o u,H b=some (.frz o u)→H' b=some (.frz o u)
  tbls:∀b ps,H b=some (.tbl ps)→∃more,H' b=some (.tbl (ps++more))
section
variable {fs fs' ex ex':List Addr} {H H1 H2:Hp} {h h1 h2 h':Heap} {a x e:Addr} {o:HO}
theorem Un.any (u:Un fs ex H H1 h h1) {b:Addr} {ob:Obj} (q:h.get? b=some ob) (n:H b=none) (hx:b∉ex):∃sl,h1.get? b=some { ob with slots:=sl }:=by
  by_cases hb:b∈fs
  · exact u.slot b ob q n hb hx
  · exact ⟨ob.slots,u.keep b ob q n hb hx⟩
theorem Un.kept (k:∀b u,h.get? b=some u→h'.get? b=some u):Un fs ex H H h h':=
  ⟨fun b ob q _ _ _=>k b ob q,fun b ob q _ _ _=>⟨ob.slots,k b ob q⟩,fun _ _ _ n _=>n,fun b ob q _=>⟨ob,k b ob q⟩,fun _ _ q=>q,fun _ _ _ q=>q,fun _ ps q=>⟨#[],by rw [q]; simp⟩⟩
theorem Un.refl:Un fs ex H H h h:=Un.kept fun _ _ q=>q
theorem Un.laid (k:∀b u,h.get? b=some u→h'.get? b=some u) (hp:h.objs.size≤a) (hn:H a=none):Un fs ex H (upd H a o) h h' where
  keep:=fun b u q _ _ _=>k b u q
  slot:=fun b u q _ _ _=>⟨u.slots,k b u q⟩
  free:=fun b u q n _=>by rw [Zl (Nat.ne_of_lt (Nat.lt_of_lt_of_le (Heap.lt_size q) hp))]; exact n
  there:=fun b u q _=>⟨u,k b u q⟩
  tups:=fun b xs q=>by rw [Zl (Zu q hn)]; exact q
  frzs:=fun b u xs q=>by rw [Zl (Zu q hn)]; exact q
  tbls:=fun b ps q=>⟨#[],by rw [Zl (Zu q hn),q]; simp⟩
theorem Un.write (mu:Mut (H x)) (he:e=x∨H e=some (.own x)) (k:∀b u,b≠e→h.get? b=some u→h'.get? b=some u) (heo:∃u,h'.get? e=some u):Un fs ex H (upd H x o) h h':=by
  have hx:∀b,H b=none→b≠x:=fun b n z=>by subst z; rw [n] at mu; exact mu
  have hb:∀b,H b=none→b≠e:=fun b n z=>by
    subst z
    rcases he with r | r
    · exact hx b n r
    · rw [n] at r; cases r
  have hm:∀b u,H b=some u→¬Mut (some u)→b≠x:=fun b u q nm z=>by subst z; rw [q] at mu; exact nm mu
  refine ⟨fun b u q n _ _=>k b u (hb b n) q,fun b u q n _ _=>⟨u.slots,k b u (hb b n) q⟩,fun b u q n _=>by rw [Zl (hx b n)]; exact n,fun b u q _=>?_,
    fun b xs q=>by rw [Zl (hm b _ q fun z=>z)]; exact q,fun b u xs q=>by rw [Zl (hm b _ q fun z=>z)]; exact q,fun b ps q=>⟨#[],by rw [Zl (hm b _ q fun z=>z),q]; simp⟩⟩
  by_cases hbe:b=e
  · subst hbe; exact heo
  · exact ⟨u,k b u hbe q⟩
end
def trk (h:Heap) (H:Hp):List Addr:=(List.range h.objs.size).filter fun a=>(H a).isSome
def ZcU (h:Heap) (H:Hp):Heap:=PySem.W.hideAll h (trk h H)
theorem Ze1 (h:Heap) (H:Hp):(ZcU h H).objs.size=h.objs.size:=PySem.W.hideAll_size _ _
theorem ZfY {h:Heap} {H:Hp} {b:Addr} {o:Obj} (e:h.get? b=some o) (n:H b=none):(ZcU h H).get? b=some o:=
  PySem.W.hideAll_get _ e fun hm=>by
    have q:(H b).isSome=true:=(List.mem_filter.mp hm).2
    rw [n] at q; simp at q
theorem ZgD {h:Heap} {H:Hp} {b:Addr} {o:Obj} (e:(ZcU h H).get? b=some o):h.get? b=some o∧H b=none:=by
  have e':h.get? b=some o:=PySem.W.of_hideAll (trk h H) e
  refine ⟨e',?_⟩
  cases q:H b with
  | none=>rfl
  | some x=>
    have hm:b∈trk h H:=List.mem_filter.mpr ⟨List.mem_range.mpr (Heap.lt_size e'),by simp [q]⟩
    have z:(ZcU h H).get? b=none:=PySem.W.hideAll_none (trk h H) hm
    rw [z] at e; cases e
def ZgV (g h:Heap) (L:Addr):List (Addr×Obj):=(List.range h.objs.size).filterMap fun a=>if a=L∨(g.get? a).isSome=true then none else (h.get? a).map fun o=>(a,o)
def rest (g h:Heap) (L d:Addr):List (Addr×Obj):=(ZgV g h L).filter fun p=>decide (p.1≠d)
end L2
namespace L2
open PySem PySem.Spec PyProof.Rows
structure Mod (K:PySem.W.Frag) (mg:Str→Option Value) (base:Heap):Prop where
  kin:K.In base
  glob:base.Ns mainGlobals mg
  blt:∃mb,base.Ns builtinsNs mb∧∀x:Str,x≠"__name__"→mb x=bootBuiltins x
  nolimit:base.NoLimit
structure Cx where
  prog:Program
  w:World
  K:PySem.W.Frag
  mg:Str→Option Value
  base:Heap
  A:Around
  N:List Str
  s₀:Shared
  H₀:Hp
  env:Env
  outer:List Env
  stack:List Env
  ex:List Addr
  fn:Str→Bool
  calm:Bool
  pn:List (Addr×Obj)
  xe:Value→Shared→Prop
def frs (l:List Env):List Addr:=l.filterMap (·.frame)
abbrev Cx.fs (X:Cx):List Addr:=frs X.outer
def Vis (sc:Scope) (x:Str):Prop:=sc.names.lookup x=some .local∨sc.names.lookup x=some .cell∨sc.names.lookup x=some .free
def Loc (sc:Scope) (x:Str):Prop:=sc.names.lookup x=some .local∨sc.names.lookup x=some .cell
def ZjT (env:Env) (h:Heap) (m:Str→Option Value) (x:Str) (u:Value):Prop:=
  (env.kindOf x=some .local∧m x=some u)∨((env.kindOf x=some .cell∨env.kindOf x=some .free)∧∃c,env.cells.lookup x=some c∧h.IsCell c (some u))
structure Cx.Ok (X:Cx):Prop where
  mod:Mod X.K X.mg X.base
  kind:X.env.scope.kind=.function
  glob:X.env.globals=mainGlobals
  blt:X.env.builtins=builtinsNs
  above:X.s₀.heap.objs.size≤X.env.locals
  inj:∀x y c,X.env.cells.lookup x=some c→X.env.cells.lookup y=some c→x=y
  has:∀x,(X.env.kindOf x=some .cell∨X.env.kindOf x=some .free)→∃c,X.env.cells.lookup x=some c
  cab:∀x c,X.fn x=true→X.env.cells.lookup x=some c→X.s₀.heap.objs.size≤c
  hd:X.calm=true→X.A.handled=none
  frames:X.A.frames=some X.stack
  stk:X.stack=X.outer∨(X.stack=X.env::X.outer∧X.env.frame=some X.env.locals)
  exf:∀b∈X.ex,b≠X.env.locals∧∀x c,X.env.cells.lookup x=some c→c≠b
  bs:∀b o,X.base.get? b=some o→X.s₀.heap.get? b=some o∧X.H₀ b=none
  bsz:X.base.objs.size≤X.s₀.heap.objs.size
  noex:∀b o,X.base.get? b=some o→b∉X.ex
  exfs:∀b∈X.ex,b∉X.fs
  funs:X.s₀.heap.FunFrames X.base X.outer
  frf:∀b∈X.fs,X.H₀ b=none
structure Inv (X:Cx) (pins:List (Addr×Obj)) (σ:List (Option V)) (H:Hp) (s:Shared):Prop where
  ok:X.Ok
  os:s.os=X.s₀.os
  bare:AllBare s.gens
  base:Un X.fs X.ex X.H₀ H X.s₀.heap s.heap
  loc:∃m,s.heap.Ns X.env.locals m∧∀(i:Nat) (x:Str) (v:V),X.N[i]?=some x→σ[i]?=some (some v)→Vis X.env.scope x→∃u,RelV v u∧ZjT X.env s.heap m x u
  cell:∀x c,X.env.cells.lookup x=some c→∃v,s.heap.IsCell c v
  free:H X.env.locals=none
  freeC:∀x c,X.env.cells.lookup x=some c→H c=none
  pin:∀p∈X.pn++pins,s.heap.get? p.1=some p.2∧H p.1=none∧p.1≠X.env.locals∧p.1∉X.fs∧∀v,p.2.data≠.cell v
  hok:HOk X.prog X.w H s.heap
  len:σ.length=X.N.length
section
variable {X:Cx} {pins:List (Addr×Obj)} {σ:List (Option V)} {H H':Hp} {s:Shared} {h':Heap}
theorem Cx.Ok.nofr (ok:X.Ok) {b:Addr} {o:Obj} (e:X.base.get? b=some o):b∉X.fs:=fun hb=>by
  have:=(ok.funs.mem hb).1
  rw [e] at this; cases this
theorem Inv.bs (I:Inv X pins σ H s):∀b o,X.base.get? b=some o→s.heap.get? b=some o∧H b=none:=fun b o e=>
  ⟨I.base.keep b o (I.ok.bs b o e).1 (I.ok.bs b o e).2 (I.ok.nofr e) (I.ok.noex b o e),I.base.free b o (I.ok.bs b o e).1 (I.ok.bs b o e).2 (I.ok.noex b o e)⟩
theorem Inv.bk (I:Inv X pins σ H s):∀b o,X.base.get? b=some o→s.heap.get? b=some o:=fun b o e=>(I.bs b o e).1
theorem Inv.mod (I:Inv X pins σ H s):Mod X.K X.mg X.base:=I.ok.mod
theorem Inv.kIn (I:Inv X pins σ H s):X.K.In s.heap:=I.ok.mod.kin.keeps I.bk
theorem Inv.lt (I:Inv X pins σ H s):X.env.locals<s.heap.objs.size:=let ⟨_,hn,_⟩:=I.loc; hn.lt
theorem Inv.sz (I:Inv X pins σ H s):X.s₀.heap.objs.size≤s.heap.objs.size:=Nat.le_trans I.ok.above (Nat.le_of_lt I.lt)
theorem Inv.nofs (I:Inv X pins σ H s) {a:Addr} (h:s.heap.objs.size≤a):a∉X.fs:=fun hb=>by
  obtain ⟨_,o,ho,_⟩:=I.ok.funs.mem hb
  exact absurd (Nat.lt_of_lt_of_le (Heap.lt_size ho) (Nat.le_trans I.sz h)) (Nat.lt_irrefl _)
theorem Inv.cne (I:Inv X pins σ H s):∀x c,X.env.cells.lookup x=some c→c≠X.env.locals:=fun x c e z=>by
  obtain ⟨v,o,ho,hd⟩:=I.cell x c e
  obtain ⟨m,⟨o',es,ep,ho',hd',_⟩,_⟩:=I.loc
  rw [z,ho'] at ho; cases ho; rw [hd'] at hd; cases hd
theorem Inv.funs (I:Inv X pins σ H s):s.heap.FunFrames X.base X.outer:=by
  have all:∀(l:List Env),(∀b∈frs l,b∈X.fs)→X.s₀.heap.FunFrames X.base l→s.heap.FunFrames X.base l:=by
    intro l
    induction l with
    | nil=>intro _ _; trivial
    | cons env r ih=>
      intro hs hl
      obtain ⟨hk,⟨L,o,hf,hn,ho,hd⟩,hr⟩:=hl
      have hL:L∈X.fs:=hs L (by unfold frs; rw [List.filterMap_cons,hf]; exact List.mem_cons_self)
      obtain ⟨sl,e⟩:=I.base.slot L o ho (I.ok.frf L hL) hL fun z=>I.ok.exfs L z hL
      exact ⟨hk,⟨L,_,hf,hn,e,hd⟩,ih (fun b hb=>hs b (by unfold frs; rw [List.filterMap_cons,hf]; exact List.mem_cons_of_mem _ hb)) hr⟩
  exact all X.outer (fun _ hb=>hb) I.ok.funs
theorem Inv.stack (I:Inv X pins σ H s):s.heap.FunFrames X.base X.stack:=by
  rcases I.ok.stk with e | ⟨e,hf⟩
  · rw [e]; exact I.funs
  · rw [e]
    obtain ⟨m,hn,_⟩:=I.loc
    refine .cons (by rw [I.ok.kind]; decide) hf hn ?_ I.funs
    exact Heap.get?_none_of_le (Nat.le_trans I.ok.bsz I.ok.above)
theorem Inv.stkSub (I:Inv X pins σ H s):∀b∈frs X.stack,b∈X.env.locals::X.fs:=fun b hb=>by
  rcases I.ok.stk with e | ⟨e,hf⟩
  · rw [e] at hb; exact List.mem_cons_of_mem _ hb
  · rw [e] at hb
    unfold frs at hb
    rw [List.filterMap_cons,hf] at hb
    exact hb
theorem Inv.stkFree (I:Inv X pins σ H s):∀b∈frs X.stack,H b=none:=fun b hb=>by
  rcases List.mem_cons.mp (I.stkSub b hb) with e | hb
  · rw [e]; exact I.free
  · obtain ⟨_,o,ho,_⟩:=I.ok.funs.mem hb
    exact I.base.free b o ho (I.ok.frf b hb) fun z=>I.ok.exfs b z hb
theorem Inv.step {g':Array GenState} {t':Nat} {d':Drawn} {ch:List Addr} (I:Inv X pins σ H s)
    (hch:∀b∈ch,(b∈X.ex∨X.s₀.heap.objs.size≤b)∧b≠X.env.locals∧(∀x c,X.env.cells.lookup x=some c→c≠b)∧∀p∈X.pn++pins,p.1≠b)
    (keep:∀b o,b≠X.env.locals→b∉X.fs→b∉ch→s.heap.get? b=some o→H b=none→h'.get? b=some o)
    (slot:∀b o,b≠X.env.locals→b∈X.fs→b∉ch→s.heap.get? b=some o→H b=none→∃sl,h'.get? b=some { o with slots:=sl }) (free:∀b o,b∉ch→s.heap.get? b=some o→H b=none→H' b=none)
    (there:∀b o,b∉ch→s.heap.get? b=some o→∃o',h'.get? b=some o')
    (tups:∀b xs,H b=some (.tup xs)→H' b=some (.tup xs)) (frzs:∀b o u,H b=some (.frz o u)→H' b=some (.frz o u)) (tbls:∀b ps,H b=some (.tbl ps)→∃more,H' b=some (.tbl (ps++more)))
    (ns:∀m,s.heap.Ns X.env.locals m→h'.Ns X.env.locals m) (hok:HOk X.prog X.w H' h') (hg:AllBare g') :
    Inv X pins σ H' { s with heap:=h',gens:=g',drawn:=d',toks:=t' }:=by
  have neL:∀b o,X.s₀.heap.get? b=some o→b≠X.env.locals:=fun b o e=>Nat.ne_of_lt (Nat.lt_of_lt_of_le (Heap.lt_size e) I.ok.above)
  have neC:∀b o,X.s₀.heap.get? b=some o→b∉X.ex→b∉ch:=fun b o e hx hb=>by
    rcases (hch b hb).1 with z | z
    · exact hx z
    · exact absurd (Nat.lt_of_lt_of_le (Heap.lt_size e) z) (Nat.lt_irrefl _)
  have cellK:∀x c,X.env.cells.lookup x=some c→∀v,s.heap.IsCell c v→h'.IsCell c v:=fun x c e v ⟨o,ho,hd⟩=>by
    have nch:c∉ch:=fun z=>(hch c z).2.2.1 x c e rfl
    by_cases hc:c∈X.fs
    · obtain ⟨sl,q⟩:=slot c o (I.cne x c e) hc nch ho (I.freeC x c e)
      exact ⟨_,q,hd⟩
    · exact ⟨o,keep c o (I.cne x c e) hc nch ho (I.freeC x c e),hd⟩
  refine ⟨I.ok,I.os,hg,⟨fun b o e n hb hx=>?_,fun b o e n hb hx=>?_,fun b o e n hx=>?_,fun b o e hx=>?_,fun b xs e=>tups b xs (I.base.tups b xs e),fun b o xs e=>frzs b o xs (I.base.frzs b o xs e),fun b ps e=>?_⟩,?_,fun x c e=>?_,?_,fun x c e=>?_,fun p hp=>?_,hok,I.len⟩
  · exact keep b o (neL b o e) hb (neC b o e hx) (I.base.keep b o e n hb hx) (I.base.free b o e n hx)
  · obtain ⟨sl,e1⟩:=I.base.slot b o e n hb hx
    obtain ⟨sl',e2⟩:=slot b _ (neL b o e) hb (neC b o e hx) e1 (I.base.free b o e n hx)
    exact ⟨sl',e2⟩
  · obtain ⟨o',e1⟩:=I.base.there b o e hx
    exact free b o' (neC b o e hx) e1 (I.base.free b o e n hx)
  · obtain ⟨o',e1⟩:=I.base.there b o e hx
    exact there b o' (neC b o e hx) e1
  · obtain ⟨m1,e1⟩:=I.base.tbls b ps e
    obtain ⟨m2,e2⟩:=tbls b _ e1
    exact ⟨m1++m2,by rw [e2,Array.append_assoc]⟩
  · obtain ⟨m,hn,hl⟩:=I.loc
    refine ⟨m,ns m hn,fun i x v e1 e2 e3=>?_⟩
    obtain ⟨u,r,l⟩:=hl i x v e1 e2 e3
    refine ⟨u,r,?_⟩
    rcases l with l | ⟨k,c,e,z⟩
    · exact .inl l
    · exact .inr ⟨k,c,e,cellK x c e _ z⟩
  · obtain ⟨v,z⟩:=I.cell x c e
    exact ⟨v,cellK x c e v z⟩
  · obtain ⟨m,⟨o,_,_,ho,_⟩,_⟩:=I.loc
    exact free _ o (fun z=>(hch _ z).2.1 rfl) ho I.free
  · obtain ⟨v,o,ho,hd⟩:=I.cell x c e
    exact free c o (fun z=>(hch c z).2.2.1 x c e rfl) ho (I.freeC x c e)
  · obtain ⟨e,n,ne,nf,d⟩:=I.pin p hp
    have nch:p.1∉ch:=fun z=>(hch p.1 z).2.2.2 p hp rfl
    exact ⟨keep p.1 p.2 ne nf nch e n,free p.1 p.2 nch e n,ne,nf,d⟩
theorem Inv.un {t':Nat} (I:Inv X pins σ H s) (u:Un X.fs [] H H' s.heap h') (hok:HOk X.prog X.w H' h'):Inv X pins σ H' { s with heap:=h',toks:=t' }:=by
  obtain ⟨m,⟨o,es,ep,ho,r⟩,_⟩:=id I.loc
  obtain ⟨sl,hL⟩:=u.any ho I.free (by simp)
  exact I.step (g':=s.gens) (d':=s.drawn) (ch:=[]) (fun _ z=>nomatch z) (fun b o _ hb _ e n=>u.keep b o e n hb (by simp)) (fun b o _ hb _ e n=>u.slot b o e n hb (by simp)) (fun b o _ e n=>u.free b o e n (by simp)) (fun b o _ e=>u.there b o e (by simp)) u.tups u.frzs u.tbls (fun m' hm=>by
    obtain ⟨o',es',ep',ho',r'⟩:=hm
    rw [ho] at ho'; cases ho'
    exact ⟨_,es',ep',hL,r'⟩) hok I.bare
theorem Inv.call {g':Array GenState} {t':Nat} {d':Drawn} {ch:List Addr} (I:Inv X pins σ H s) (u:Un (frs X.stack) ch H H' s.heap h') (hok:HOk X.prog X.w H' h') (hg:AllBare g')
    (hch:∀b∈ch,(b∈X.ex∨X.s₀.heap.objs.size≤b)∧b≠X.env.locals∧(∀x c,X.env.cells.lookup x=some c→c≠b)∧∀p∈X.pn++pins,p.1≠b) :
    Inv X pins σ H' { s with heap:=h',gens:=g',drawn:=d',toks:=t' }:=by
  obtain ⟨m,⟨o,es,ep,ho,r⟩,_⟩:=id I.loc
  obtain ⟨sl,hL⟩:=u.any ho I.free fun z=>(hch _ z).2.1 rfl
  exact I.step (ch:=ch) hch (fun b o hL hb hc e n=>u.keep b o e n (fun z=>(List.mem_cons.mp (I.stkSub b z)).elim hL hb) hc) (fun b o _ _ hc e n=>u.any e n hc) (fun b o hc e n=>u.free b o e n hc) (fun b o hc e=>u.there b o e hc) u.tups u.frzs u.tbls (fun m' hm=>by
    obtain ⟨o',es',ep',ho',r'⟩:=hm
    rw [ho] at ho'; cases ho'
    exact ⟨_,es',ep',hL,r'⟩) hok hg
theorem Inv.turned {t':Nat} {it:Addr} (I:Inv X pins σ H s) (k:∀b o,b≠it→s.heap.get? b=some o→h'.get? b=some o) (hn:H it=none) (hL:it≠X.env.locals)
    (h1:it∈X.ex∨X.s₀.heap.objs.size≤it) (h2:∀x c,X.env.cells.lookup x=some c→c≠it) (h3:∀p∈X.pn++pins,p.1≠it):Inv X pins σ H { s with heap:=h',toks:=t' }:=by
  have nit:∀b u,H b=some u→b≠it:=fun b u e z=>by rw [z,hn] at e; cases e
  refine I.step (g':=s.gens) (d':=s.drawn) (ch:=[it]) (fun b hb=>?_) (fun b o _ _ hc e _=>k b o (fun z=>hc (by simp [z])) e) (fun b o _ _ hc e _=>⟨o.slots,k b o (fun z=>hc (by simp [z])) e⟩) (fun _ _ _ _ n=>n)
    (fun b o hc e=>⟨o,k b o (fun z=>hc (by simp [z])) e⟩) (fun _ _ e=>e) (fun _ _ _ e=>e) (fun b ps e=>⟨#[],by rw [e]; simp⟩) (fun m hm=>?_) (fun b u e=>?_) I.bare
  · have e:b=it:=by simpa using hb
    subst e
    exact ⟨h1,hL,h2,h3⟩
  · obtain ⟨o,es,ep,ho,r⟩:=hm
    exact ⟨o,es,ep,k _ o (Ne.symm hL) ho,r⟩
  · refine (I.hok b u e).stay (fun c v hc q=>k c v ?_ q) (fun _ q=>q) fun _ _ q=>q
    rcases hc with z | z
    · rw [z]; exact nit b u e
    · exact nit c _ z
theorem Inv.tok (I:Inv X pins σ H s) (t:Nat):Inv X pins σ H { s with toks:=t }:=I.un (h':=s.heap) (t':=t) Un.refl I.hok
theorem Inv.kept {t':Nat} (I:Inv X pins σ H s) (k:∀b u,s.heap.get? b=some u→h'.get? b=some u):Inv X pins σ H { s with heap:=h',toks:=t' }:=I.un (Un.kept k) (I.hok.kept k)
theorem Inv.laid {a:Addr} {o:HO} {t':Nat} (I:Inv X pins σ H s) (k:∀b u,s.heap.get? b=some u→h'.get? b=some u) (hp:s.heap.objs.size≤a) (new:ObjOk X.prog X.w (upd H a o) h' a o) :
    Inv X pins σ (upd H a o) { s with heap:=h',toks:=t' }:=I.un (Un.laid k hp (I.hok.fresh hp)) (I.hok.laid k hp new)
theorem Inv.write {x e:Addr} {o:HO} {t':Nat} (I:Inv X pins σ H s) (mu:Mut (H x)) (he:e=x∨H e=some (.own x)) (k:∀b u,b≠e→s.heap.get? b=some u→h'.get? b=some u) (heo:∃u,h'.get? e=some u)
    (new:ObjOk X.prog X.w (upd H x o) h' x o):Inv X pins σ (upd H x o) { s with heap:=h',toks:=t' }:=I.un (Un.write mu he k heo) (I.hok.write mu he k heo new)
theorem Inv.pins_of {pins':List (Addr×Obj)} (I:Inv X pins σ H s) (h:∀p∈pins',s.heap.get? p.1=some p.2∧H p.1=none∧p.1≠X.env.locals∧p.1∉X.fs∧∀v,p.2.data≠.cell v):Inv X pins' σ H s:=
  ⟨I.ok,I.os,I.bare,I.base,I.loc,I.cell,I.free,I.freeC,fun p hp=>(List.mem_append.mp hp).elim (fun z=>I.pin p (List.mem_append_left _ z)) (h p),I.hok,I.len⟩
theorem Zdl {N:List Str} (hN:N.Nodup) {i j:Nat} {x:Str} (a:N[i]?=some x) (b:N[j]?=some x):i=j:=by
  obtain ⟨h1,e1⟩:=List.getElem?_eq_some_iff.mp a
  obtain ⟨h2,e2⟩:=List.getElem?_eq_some_iff.mp b
  exact (List.getElem_inj hN).mp (e1.trans e2.symm)
theorem ZeD {M:Model} {A:Around} {E:Value→Shared→Prop} {i:Nat} {x:Str} {v:V} {u:Value} {Q:Unit→Shared→Prop} (I:Inv X pins σ H s) (hN:X.N.Nodup) (hi:X.N[i]?=some x) (hx:Loc X.env.scope x) (r:RelV v u)
    (h:∀s',Inv X pins (σ.set i (some v)) H s'→(∃a,Heap.SameBut a s.heap s'.heap∧(a=X.env.locals∨X.env.cells.lookup x=some a))→Q () s') (hf:X.fn x=true∨X.env.scope.names.lookup x=some .local:=by first | exact .inl rfl | exact .inr rfl | assumption):wpAny M A (storeName X.env x u) Q E s:=by
  obtain ⟨m,hn,hl⟩:=id I.loc
  have hcls:(X.env.scope.kind == .class || (X.env.scope.kind == .module && X.env.locals != X.env.globals))=false:=by rw [I.ok.kind]; rfl
  have hiσ:i < σ.length:=by rw [I.len]; exact (List.getElem?_eq_some_iff.mp hi).1
  have cne:=I.cne
  have tracked:∀{a:Addr} {h':Heap},(∃o,s.heap.get? a=some o∧H a=none)→Heap.SameBut a s.heap h'→HOk X.prog X.w H h':=fun {a h'} ha hs b ob e=>by
    obtain ⟨_,_,hfree⟩:=ha
    refine (I.hok b ob e).stay (fun c w' hc q=>(hs.2 c ?_).trans q) (fun _ q=>q) fun _ _ q=>q
    rintro rfl
    rcases hc with rfl | hc
    · rw [hfree] at e; cases e
    · rw [hfree] at hc; cases hc
  rcases hx with hk | hk
  · refine wpAny_storeName_local hk hn (fun h' hn' hs=>?_) hcls
    obtain ⟨oL,_,_,hoL,_⟩:=id hn
    refine h _ ⟨I.ok,I.os,I.bare,⟨fun b o e n hb hx=>?_,fun b o e n hb hx=>?_,I.base.free,fun b o e hx=>?_,I.base.tups,I.base.frzs,I.base.tbls⟩,⟨_,hn',fun j y v' e1 e2 e3=>?_⟩,fun y c e=>?_,I.free,I.freeC,fun p hp=>?_,tracked ⟨oL,hoL,I.free⟩ hs,by simpa using I.len⟩ ⟨_,hs,.inl rfl⟩
    · exact (hs.2 b (Nat.ne_of_lt (Nat.lt_of_lt_of_le (Heap.lt_size e) I.ok.above))).trans (I.base.keep b o e n hb hx)
    · obtain ⟨sl,e1⟩:=I.base.slot b o e n hb hx
      exact ⟨sl,(hs.2 b (Nat.ne_of_lt (Nat.lt_of_lt_of_le (Heap.lt_size e) I.ok.above))).trans e1⟩
    · obtain ⟨o',e1⟩:=I.base.there b o e hx
      exact ⟨o',(hs.2 b (Nat.ne_of_lt (Nat.lt_of_lt_of_le (Heap.lt_size e) I.ok.above))).trans e1⟩
    · by_cases hj:j=i
      · subst hj
        rw [hi] at e1; cases e1
        rw [List.getElem?_set_self hiσ] at e2
        cases e2
        exact ⟨u,r,.inl ⟨hk,by simp⟩⟩
      · rw [List.getElem?_set_ne (Ne.symm hj)] at e2
        obtain ⟨u',r',q⟩:=hl j y v' e1 e2 e3
        refine ⟨u',r',?_⟩
        rcases q with ⟨k,e⟩ | ⟨k,c,e,z⟩
        · refine .inl ⟨k,?_⟩
          have:y≠x:=fun e=>hj (Zdl hN e1 (e ▸ hi))
          simp [this,e]
        · exact .inr ⟨k,c,e,z.sameBut hs (cne y c e)⟩
    · obtain ⟨w',z⟩:=I.cell y c e
      exact ⟨w',z.sameBut hs (cne y c e)⟩
    · obtain ⟨e,n,ne,nf,d⟩:=I.pin p hp
      exact ⟨(hs.2 p.1 ne).trans e,n,ne,nf,d⟩
  · have hfn:X.fn x=true:=by
      rcases hf with z | z
      · exact z
      · rw [z] at hk; cases hk
    obtain ⟨c,hc⟩:=I.ok.has x (.inl hk)
    obtain ⟨w',z⟩:=I.cell x c hc
    refine wpAny_storeName_cell I.ok.kind hk hc z (fun h' hc' hs=>?_)
    obtain ⟨oc,hoc,hocd⟩:=id z
    refine h { s with heap:=h' } ⟨I.ok,I.os,I.bare,⟨fun b o e n hb hx=>?_,fun b o e n hb hx=>?_,I.base.free,fun b o e hx=>?_,I.base.tups,I.base.frzs,I.base.tbls⟩,⟨m,hn.sameBut hs (Ne.symm (cne x c hc)),fun j y v' e1 e2 e3=>?_⟩,fun y c' e=>?_,I.free,I.freeC,fun p hp=>?_,tracked ⟨oc,hoc,I.freeC x c hc⟩ hs,by simpa using I.len⟩ ⟨c,hs,.inr hc⟩
    · exact (hs.2 b (Nat.ne_of_lt (Nat.lt_of_lt_of_le (Heap.lt_size e) (I.ok.cab x c hfn hc)))).trans (I.base.keep b o e n hb hx)
    · obtain ⟨sl,e1⟩:=I.base.slot b o e n hb hx
      exact ⟨sl,(hs.2 b (Nat.ne_of_lt (Nat.lt_of_lt_of_le (Heap.lt_size e) (I.ok.cab x c hfn hc)))).trans e1⟩
    · obtain ⟨o',e1⟩:=I.base.there b o e hx
      exact ⟨o',(hs.2 b (Nat.ne_of_lt (Nat.lt_of_lt_of_le (Heap.lt_size e) (I.ok.cab x c hfn hc)))).trans e1⟩
    · by_cases hj:j=i
      · subst hj
        rw [hi] at e1; cases e1
        rw [List.getElem?_set_self hiσ] at e2
        cases e2
        exact ⟨u,r,.inr ⟨.inl hk,c,hc,hc'⟩⟩
      · rw [List.getElem?_set_ne (Ne.symm hj)] at e2
        obtain ⟨u',r',q⟩:=hl j y v' e1 e2 e3
        refine ⟨u',r',?_⟩
        rcases q with q | ⟨k,c',e,z'⟩
        · exact .inl q
        · refine .inr ⟨k,c',e,z'.sameBut hs ?_⟩
          rintro rfl
          exact hj (Zdl hN e1 (I.ok.inj _ _ _ e hc ▸ hi))
    · by_cases hcc:c'=c
      · subst hcc; exact ⟨_,hc'⟩
      · obtain ⟨w2,z2⟩:=I.cell y c' e
        exact ⟨w2,z2.sameBut hs hcc⟩
    · obtain ⟨e,n,ne,nf,d⟩:=I.pin p hp
      refine ⟨(hs.2 p.1 ?_).trans e,n,ne,nf,d⟩
      intro q
      rw [q,hoc] at e
      have q':oc=p.2:=Option.some.inj e
      exact d w' (by rw [←q']; exact hocd)
theorem Zdg {M:Model} {A:Around} {E:Value→Shared→Prop} {i:Nat} {x:Str} {v:V} {u:Value} {Q:Unit→Shared→Prop} (I:Inv X pins σ H s) (hN:X.N.Nodup) (hi:X.N[i]?=some x) (hx:Loc X.env.scope x) (r:RelV v u)
    (h:∀s',Inv X pins (σ.set i (some v)) H s'→Q () s') (hf:X.fn x=true∨X.env.scope.names.lookup x=some .local:=by first | exact .inl rfl | exact .inr rfl | assumption):wpAny M A (storeName X.env x u) Q E s:=
  ZeD I hN hi hx r (fun s' I' _=>h s' I') hf
theorem Inv.call' {s':Shared} {ch:List Addr} (I:Inv X pins σ H s) (ho:s'.os=s.os) (u:Un (frs X.stack) ch H H' s.heap s'.heap) (hok:HOk X.prog X.w H' s'.heap) (hg:AllBare s'.gens)
    (hch:∀b∈ch,(b∈X.ex∨X.s₀.heap.objs.size≤b)∧b≠X.env.locals∧(∀x c,X.env.cells.lookup x=some c→c≠b)∧∀p∈X.pn++pins,p.1≠b):Inv X pins σ H' s':=by
  obtain ⟨h',g',d',t',o'⟩:=s'
  have e:o'=s.os:=ho
  subst e
  exact I.call (g':=g') (t':=t') (d':=d') u hok hg hch
end
abbrev XK:=Value→Option Addr→Hp→Prop
abbrev St:=List (Option V)
abbrev VK:=V→Hp→Prop
abbrev TE:=St→Hp→VK→Prop
abbrev TT:=St→Hp→(Bool→Hp→Prop)→Prop
abbrev TA:=St→Hp→(List V→Hp→Prop)→Prop
structure ZaA where
  nx:St→Hp→Prop
  rt:VK
  bk:St→Hp→Prop:=fun _ _=>False
  ct:St→Hp→Prop:=fun _ _=>False
abbrev TS:=ZaA→St→Hp→Prop
def EP (X:Cx) (pins:List (Addr×Obj)) (σ:St) (Q:VK) (u:Value) (s':Shared):Prop:=∃v H',Inv X pins σ H' s'∧RelV v u∧Q v H'
def TP (X:Cx) (pins:List (Addr×Obj)) (σ:St) (Q:Bool→Hp→Prop) (b:Bool) (s':Shared):Prop:=∃H',Inv X pins σ H' s'∧Q b H'
def AP (X:Cx) (pins:List (Addr×Obj)) (σ:St) (Q:List V→Hp→Prop) (us:List Value) (s':Shared):Prop:=∃vs H',Inv X pins σ H' s'∧Vals vs us∧Q vs H'
def SP (X:Cx) (pins:List (Addr×Obj)) (D:ZaA) (f:Flow) (s':Shared):Prop:=
  match f with
  | .next=>∃σ' H',Inv X pins σ' H' s'∧D.nx σ' H'
  | .brk=>∃σ' H',Inv X pins σ' H' s'∧D.bk σ' H'
  | .cont=>∃σ' H',Inv X pins σ' H' s'∧D.ct σ' H'
  | .ret u=>∃v σ' H',Inv X pins σ' H' s'∧RelV v u∧D.rt v H'
def PE (X:Cx) (e:Expr) (t:TE):Prop:=
  ∀(pins:List (Addr×Obj)) (s:Shared) (σ:St) (H:Hp) (Q:VK),Inv X pins σ H s→t σ H Q→wpAny (model X.prog X.w) X.A (eval e X.env) (EP X pins σ Q) X.xe s
def PT (X:Cx) (e:Expr) (t:TT):Prop:=
  ∀(pins:List (Addr×Obj)) (s:Shared) (σ:St) (H:Hp) (Q:Bool→Hp→Prop),Inv X pins σ H s→t σ H Q→wpAny (model X.prog X.w) X.A (isTrue e X.env (eval e X.env)) (TP X pins σ Q) X.xe s
def PW (X:Cx) (e:Expr) (t:TT):Prop:=
  ∀(whole:Sem Value) (pins:List (Addr×Obj)) (s:Shared) (σ:St) (H:Hp) (Q:Bool→Hp→Prop),Inv X pins σ H s→t σ H Q→wpAny (model X.prog X.w) X.A (isTrue e X.env whole) (TP X pins σ Q) X.xe s
theorem PW.pt {X:Cx} {e:Expr} {t:TT} (h:PW X e t):PT X e t:=h _
def PA (X:Cx) (es:List Expr) (t:TA):Prop:=
  ∀(pos:Pos) (pins:List (Addr×Obj)) (s:Shared) (σ:St) (H:Hp) (Q:List V→Hp→Prop),Inv X pins σ H s→t σ H Q→wpAny (model X.prog X.w) X.A (spliced (backTo pos (starEach es X.env))) (AP X pins σ Q) X.xe s
def PS (X:Cx) (st:Stmt) (t:TS):Prop:=
  ∀(pins:List (Addr×Obj)) (s:Shared) (σ:St) (H:Hp) (D:ZaA),Inv X pins σ H s→t D σ H→wpAny (model X.prog X.w) X.A (exec st X.env) (SP X pins D) X.xe s
def PSs (X:Cx) (st:List Stmt) (t:TS):Prop:=
  ∀(pins:List (Addr×Obj)) (s:Shared) (σ:St) (H:Hp) (D:ZaA),Inv X pins σ H s→t D σ H→wpAny (model X.prog X.w) X.A (execs st X.env) (SP X pins D) X.xe s
theorem thn {α:Type} {t:Sem α} {Q Q':α→Shared→Prop} {M:Model} {A:Around} {E:Value→Shared→Prop} {s:Shared} (h:wpAny M A t Q E s) (hQ:∀a s,Q a s→Q' a s):wpAny M A t Q' E s:=wpAny_mono h hQ fun _ _ x=>x
end L2
namespace L2
open PySem PySem.Spec PyProof.Rows
section
variable {X:Cx}
theorem bin {a b:Expr} {ta tb:TE} (ha:PE X a ta) (hb:PE X b tb) {pins:List (Addr×Obj)} {s:Shared} {σ:St} {H:Hp} {R:V→V→Hp→Prop} (I:Inv X pins σ H s) (h:ta σ H fun x H1=>tb σ H1 fun y H2=>R x y H2)
    {α:Type} {Q:α→Shared→Prop} {f:Value→Value→Sem α}
    (hf:∀v u s2 x y H2,Inv X pins σ H2 s2→RelV x v→RelV y u→R x y H2→wpAny (model X.prog X.w) X.A (f v u) Q X.xe s2) :
    wpAny (model X.prog X.w) X.A (eval a X.env) (fun v s₁=>wpAny (model X.prog X.w) X.A (eval b X.env) (fun u s₂=>wpAny (model X.prog X.w) X.A (f v u) Q X.xe s₂) X.xe s₁) X.xe s:=by
  refine thn (ha pins s σ H _ I h) fun v s1 ⟨x,H1,I1,r1,q1⟩=>?_
  refine thn (hb pins s1 σ H1 _ I1 q1) fun u s2 ⟨y,H2,I2,r2,q2⟩=>?_
  exact hf v u s2 x y H2 I2 r1 r2 q2
def Zjp (i:Nat):TE:=fun σ H Q=>∃v,σ[i]?=some (some v)∧Q v H
def tC (v:V):TE:=fun _ H Q=>Q v H
theorem Zfv {i:Nat} {x:Str} {pos:Pos} (hN:X.N[i]?=some x) (hv:Vis X.env.scope x) (hd:(x == ("__debug__":Str))=false:=by decide) (hcd:(x == ("__classdict__":Str))=false:=by decide):PE X (.Name x pos) (Zjp i):=by
  intro pins s σ H Q I h
  obtain ⟨v,e,h⟩:=h
  obtain ⟨m,hn,hl⟩:=I.loc
  obtain ⟨u,r,l⟩:=hl i x v hN e hv
  have fin:EP X pins σ Q u s:=⟨v,H,I,r,h⟩
  rcases l with ⟨hk,hm⟩ | ⟨hk,c,hc,hcell⟩
  · exact wpAny_Name (wpAny_loadName_local I.ok.kind hk hn hm fin) hd
  · rcases hk with hk | hk
    · exact wpAny_Name (wpAny_loadName_cell I.ok.kind hk hc hcell fin) hd
    · exact wpAny_Name (wpAny_loadName_free I.ok.kind hk hc hcell fin hcd) hd
theorem ZhA {i j pos}:PE X (.Constant (.int i) j pos) (tC (.int i)):=fun _ _ _ H _ I h=>wpAny_Constant_int ⟨.int i,H,I.tok _,⟨_,rfl⟩,h⟩
theorem ZiD {b j pos}:PE X (.Constant (.bool b) j pos) (tC (.bl b)):=fun _ _ _ H _ I h=>Constant_bool ⟨.bl b,H,I,rfl,h⟩
theorem Zhx {x j pos}:PE X (.Constant (.str x) j pos) (tC (.str x)):=fun _ _ _ H _ I h=>Calls.Constant_str ⟨.str x,H,I.tok _,⟨_,rfl⟩,h⟩
def Gl (X:Cx) (x:Str):Prop:=X.env.kindOf x=some .globalImplicit
theorem ZcT {E:Value→Shared→Prop} {pins:List (Addr×Obj)} {s:Shared} {σ:St} {H:Hp} {x:Str} {u:Value} {pos:Pos} {Q:Value→Shared→Prop} (I:Inv X pins σ H s) (hg:Gl X x) (hm:X.mg x=some u) (h:Q u s)
    (hd:(x == ("__debug__":Str))=false:=by decide):wpAny (model X.prog X.w) X.A (eval (.Name x pos) X.env) Q E s:=
  Calls.Name_function_global I.ok.kind hg (Calls.loadGlobal_global (by rw [I.ok.glob]; exact I.mod.glob.keeps I.bk) hm h) hd
theorem ZbZ {E:Value→Shared→Prop} {pins:List (Addr×Obj)} {s:Shared} {σ:St} {H:Hp} {x:Str} {u:Value} {pos:Pos} {Q:Value→Shared→Prop} (I:Inv X pins σ H s) (hg:Gl X x) (hm:X.mg x=none) (hv:bootBuiltins x=some u) (h:Q u s)
    (hn:x≠"__name__":=by decide) (hd:(x == ("__debug__":Str))=false:=by decide):wpAny (model X.prog X.w) X.A (eval (.Name x pos) X.env) Q E s:=by
  obtain ⟨mb,h1,h2⟩:=I.mod.blt
  exact Calls.Name_function_global I.ok.kind hg (Calls.loadGlobal_builtin (by rw [I.ok.glob]; exact I.mod.glob.keeps I.bk) hm (by rw [I.ok.blt]; exact h1.keeps I.bk) ((h2 x hn).trans hv) h) hd
theorem Zee {x:Str} {v:V} {u:Value} {pos:Pos} (hg:Gl X x) (hm:X.mg x=some u) (r:RelV v u) (hd:(x == ("__debug__":Str))=false:=by decide):PE X (.Name x pos) (tC v):=
  fun _ _ _ H _ I h=>ZcT I hg hm ⟨v,H,I,r,h⟩ hd
theorem ZgC {x:Str} {v:V} {u:Value} {pos:Pos} (hg:Gl X x) (hm:X.mg x=none) (hv:bootBuiltins x=some u) (r:RelV v u) (hn:x≠"__name__":=by decide) (hd:(x == ("__debug__":Str))=false:=by decide):PE X (.Name x pos) (tC v):=
  fun _ _ _ H _ I h=>ZbZ I hg hm hv ⟨v,H,I,r,h⟩ hn hd
variable {a b:Expr} {ta tb:TE} {pos:Pos}
variable {tA tB':TT} {rest:List Expr}
def Zjx (t u:TT):TT:=fun σ H Q=>t σ H fun c H1=>if c=true then u σ H1 Q else Q false H1
def tOr (t u:TT):TT:=fun σ H Q=>t σ H fun c H1=>if c=true then Q true H1 else u σ H1 Q
def Zjt (t:TT):TT:=fun σ H Q=>t σ H fun c H1=>Q (!c) H1
theorem Zgp (ha:PT X a tA):PW X (.BoolOp .And [a] pos) tA:=by
  intro wh pins s σ H Q I h
  refine isTrue_and (thn (ha pins s σ H Q I h) fun c s1 e=>?_)
  cases c with
  | true=>exact isTrue_and_nil e
  | false=>exact e
theorem Zhm (ha:PT X a tA):PW X (.BoolOp .Or [a] pos) tA:=by
  intro wh pins s σ H Q I h
  refine isTrue_or (thn (ha pins s σ H Q I h) fun c s1 e=>?_)
  cases c with
  | false=>exact isTrue_or_nil e
  | true=>exact e
theorem Zhn (ha:PT X a tA) (hb:PW X (.BoolOp .And (b::rest) pos) tB'):PW X (.BoolOp .And (a::b::rest) pos) (Zjx tA tB'):=by
  intro wh pins s σ H Q I h
  refine isTrue_and (thn (ha pins s σ H _ I h) fun c s1 ⟨H1,I1,q1⟩=>?_)
  cases c with
  | true=>exact hb wh pins s1 σ H1 Q I1 q1
  | false=>exact ⟨H1,I1,q1⟩
theorem Zix (ha:PT X a tA) (hb:PW X (.BoolOp .Or (b::rest) pos) tB'):PW X (.BoolOp .Or (a::b::rest) pos) (tOr tA tB'):=by
  intro wh pins s σ H Q I h
  refine isTrue_or (thn (ha pins s σ H _ I h) fun c s1 ⟨H1,I1,q1⟩=>?_)
  cases c with
  | true=>exact ⟨H1,I1,q1⟩
  | false=>exact hb wh pins s1 σ H1 Q I1 q1
theorem Zho (ha:PT X a tA):PT X (.UnaryOp .Not a pos) (Zjt tA):=by
  intro pins s σ H Q I h
  exact isTrue_not (ha pins s σ H (fun c H1=>Q (!c) H1) I h)
def Ziq (ta tb:TE):TE:=fun σ H Q=>ta σ H fun x H1=>∃c,x=.bl c∧if c=true then tb σ H1 Q else Q (.bl false) H1
theorem Zhy {op} {t:TE} (h:PE X a t):PE X (.BoolOp op [a] pos) t:=fun pins s σ H Q I hw=>BoolOp_one (h pins s σ H Q I hw)
theorem ZhB (ha:PE X a ta) (hb:PE X (.BoolOp .And (b::rest) pos) tb):PE X (.BoolOp .And (a::b::rest) pos) (Ziq ta tb):=by
  intro pins s σ H Q I h
  refine BoolOp_and (thn (ha pins s σ H _ I h) fun v s1 ⟨x,H1,I1,r1,q1⟩=>?_)
  obtain ⟨c,rfl,q1⟩:=q1
  cases r1
  refine wpAny_truthy_bool ?_
  cases c with
  | true=>exact hb pins s1 σ H1 Q I1 q1
  | false=>exact ⟨.bl false,H1,I1,rfl,q1⟩
def tIf (t:TT) (ta tb:TE):TE:=fun σ H Q=>t σ H fun c H1=>if c=true then ta σ H1 Q else tb σ H1 Q
theorem Zfz {c:Expr} (hc:PT X c tA) (ha:PE X a ta) (hb:PE X b tb):PE X (.IfExp c a b pos) (tIf tA ta tb):=by
  intro pins s σ H Q I h
  refine wpAny_IfExp (thn (hc pins s σ H _ I h) fun d s1 ⟨H1,I1,q1⟩=>?_)
  cases d with
  | true=>exact ha pins s1 σ H1 Q I1 q1
  | false=>exact hb pins s1 σ H1 Q I1 q1
end
end L2
namespace L2
open PySem PySem.Spec PyProof.Rows
def SqL (K:PySem.W.Frag) (H:Hp) (a:Addr) (xs:List V):Prop:=
  Rd H a (.lst xs)∨
    ∃(o:Obj) (its:Array Value) (n:Nat),K.lookup a=some o∧o.cls=.type "list"∧o.dict=none∧o.data=.seq its n∧its.size≤sizeLine∧Vals xs its.toList
def SqT (K:PySem.W.Frag) (H:Hp) (a:Addr) (xs:List V):Prop:=
  Rd H a (.tup xs)∨
    ∃(o:Obj) (its:Array Value) (n:Nat),K.lookup a=some o∧o.cls=.type "tuple"∧o.data=.seq its n∧its.size≤sizeLine∧Vals xs its.toList
def ZjR:Value→Option V
  | .none=>some .non
  | .bool b=>some (.bl b)
  | .int i _=>some (.int i)
  | .str x _=>some (.str x)
  | .bytes b _=>some (.byt b)
  | .float b _=>some (.flt b)
  | .ref a=>some (.ref a)
  | .type n=>some (.ty n)
  | _=>none
theorem RelV.abs {x:V} {u:Value} (r:RelV x u):ZjR u=some x:=by
  cases x with
  | non=>cases r; rfl
  | bl _=>cases r; rfl
  | int _=>obtain ⟨t,rfl⟩:=r; rfl
  | str _=>obtain ⟨t,rfl⟩:=r; rfl
  | byt _=>obtain ⟨t,rfl⟩:=r; rfl
  | flt _=>obtain ⟨t,rfl⟩:=r; rfl
  | ref _=>cases r; rfl
  | ty _=>cases r; rfl
theorem RelV.inj {x y:V} {u:Value} (r:RelV x u) (q:RelV y u):x=y:=Option.some.inj (r.abs.symm.trans q.abs)
theorem Vals.inj:∀{xs ys:List V} {us:List Value},Vals xs us→Vals ys us→xs=ys
  | _,_,_,.nil,.nil=>rfl
  | _,_,_,.cons r t,.cons r' t'=>by rw [r.inj r',Vals.inj t t']
section
variable {X:Cx} {pins:List (Addr×Obj)} {σ:St} {H:Hp} {s:Shared} {a:Addr} {xs ys:List V}
theorem SqL.of {K:PySem.W.Frag} (h:H a=some (.lst xs)):SqL K H a xs:=.inl (.inl h)
theorem SqT.of {K:PySem.W.Frag} (h:H a=some (.tup xs)):SqT K H a xs:=.inl (.inl h)
theorem Inv.list (I:Inv X pins σ H s) (h:SqL X.K H a xs):∃its:List Value,Vals xs its∧PlainL s.heap a its.toArray∧xs.length≤sizeLine:=by
  rcases h with h | ⟨o,its,n,hk,hc,hd,hs,hz,r⟩
  · obtain ⟨z,its,n,r,e⟩:=h.ok I.hok
    exact ⟨its,r,⟨_,n,e,rfl,rfl,rfl⟩,z⟩
  · refine ⟨its.toList,r,⟨o,n,I.kIn a o hk,hc,hd,by simpa using hs⟩,?_⟩
    have e:=r.length
    simp only [Array.length_toList] at e
    omega
theorem Inv.tuple (I:Inv X pins σ H s) (h:SqT X.K H a xs):∃its:List Value,Vals xs its∧IsTup s.heap a its.toArray∧xs.length≤sizeLine:=by
  rcases h with h | ⟨o,its,n,hk,hc,hs,hz,r⟩
  · obtain ⟨z,its,r,p⟩:=h.ok I.hok
    exact ⟨its,r,p,z⟩
  · refine ⟨its.toList,r,⟨o,I.kIn a o hk,hc,n,by simpa using hs⟩,?_⟩
    have e:=r.length
    simp only [Array.length_toList] at e
    omega
theorem Inv.list_inj (I:Inv X pins σ H s) (h:SqL X.K H a xs) (h':SqL X.K H a ys):xs=ys:=by
  obtain ⟨its,r,⟨o,n,e,_,_,d⟩,_⟩:=I.list h
  obtain ⟨its',r',⟨o',n',e',_,_,d'⟩,_⟩:=I.list h'
  rw [e] at e'; cases e'
  rw [d] at d'
  injection d' with d1 _
  have:its=its':=by simpa using congrArg Array.toList d1
  subst this
  exact r.inj r'
theorem Inv.tuple_inj (I:Inv X pins σ H s) (h:SqT X.K H a xs) (h':SqT X.K H a ys):xs=ys:=by
  obtain ⟨its,r,⟨o,e,_,n,d⟩,_⟩:=I.tuple h
  obtain ⟨its',r',⟨o',e',_,n',d'⟩,_⟩:=I.tuple h'
  rw [e] at e'; cases e'
  rw [d] at d'
  injection d' with d1 _
  have:its=its':=by simpa using congrArg Array.toList d1
  subst this
  exact r.inj r'
end
abbrev Cx.wish (X:Cx) (E:Value→Shared→Prop):Cx:={ X with xe:=E }
abbrev Cx.nox (X:Cx):Cx:=X.wish fun _ _=>False
theorem Cx.Ok.wish {X:Cx} (ok:X.Ok) (E:Value→Shared→Prop):(X.wish E).Ok:=
  ⟨ok.mod,ok.kind,ok.glob,ok.blt,ok.above,ok.inj,ok.has,ok.cab,ok.hd,ok.frames,ok.stk,ok.exf,ok.bs,ok.bsz,ok.noex,ok.exfs,ok.funs,ok.frf⟩
theorem Cx.Ok.unwish {X:Cx} {E:Value→Shared→Prop} (ok:(X.wish E).Ok):X.Ok:=
  ⟨ok.mod,ok.kind,ok.glob,ok.blt,ok.above,ok.inj,ok.has,ok.cab,ok.hd,ok.frames,ok.stk,ok.exf,ok.bs,ok.bsz,ok.noex,ok.exfs,ok.funs,ok.frf⟩
section
variable {X:Cx} {pins:List (Addr×Obj)} {σ:St} {H:Hp} {s:Shared} {E:Value→Shared→Prop}
theorem Inv.wish (I:Inv X pins σ H s) (E:Value→Shared→Prop):Inv (X.wish E) pins σ H s:=⟨I.ok.wish E,I.os,I.bare,I.base,I.loc,I.cell,I.free,I.freeC,I.pin,I.hok,I.len⟩
theorem Inv.unwish (I:Inv (X.wish E) pins σ H s):Inv X pins σ H s:=⟨I.ok.unwish,I.os,I.bare,I.base,I.loc,I.cell,I.free,I.freeC,I.pin,I.hok,I.len⟩
theorem SP.unwish {D:ZaA} {f:Flow} {s':Shared} (h:SP (X.wish E) pins D f s'):SP X pins D f s':=by
  cases f with
  | next=>obtain ⟨σ',H',I,q⟩:=h; exact ⟨σ',H',I.unwish,q⟩
  | brk=>obtain ⟨σ',H',I,q⟩:=h; exact ⟨σ',H',I.unwish,q⟩
  | cont=>obtain ⟨σ',H',I,q⟩:=h; exact ⟨σ',H',I.unwish,q⟩
  | ret u=>obtain ⟨v,σ',H',I,r,q⟩:=h; exact ⟨v,σ',H',I.unwish,r,q⟩
theorem PSs.nox {st:List Stmt} {t:TS} (h:PSs X.nox st t):PSs X st t:=fun pins s σ H D I hw=>
  wpAny_mono (h pins s σ H D (I.wish _) hw) (fun _ _ q=>q.unwish) fun _ _ z=>False.elim z
end
section
variable {X:Cx} {st:Stmt} {rest:List Stmt} {t u:TS} {e:Expr} {te:TE} {pos:Pos}
def Zim:TS:=fun D σ H=>D.nx σ H
def Zjr (t u:TS):TS:=fun D σ H=>t { D with nx:=u D } σ H
theorem Zgs:PSs X [] Zim:=fun _ _ σ H _ I h=>wpAny_execs_nil ⟨σ,H,I,h⟩
theorem Zfr (h1:PS X st t) (h2:PSs X rest u):PSs X (st::rest) (Zjr t u):=by
  intro pins s σ H D I h
  refine wpAny_execs_cons (thn (h1 pins s σ H { D with nx:=u D } I h) fun f s1 q=>?_)
  cases f with
  | next=>
    obtain ⟨σ',H',I',q⟩:=q
    exact h2 pins s1 σ' H' D I' q
  | ret v=>exact q
  | brk=>exact q
  | cont=>exact q
theorem Zgr (h1:PS X st t):PSs X [st] t:=by
  intro pins s σ H D I h
  refine wpAny_execs_cons (thn (h1 pins s σ H D I h) fun f s1 q=>?_)
  cases f with
  | next=>exact wpAny_execs_nil q
  | ret v=>exact q
  | brk=>exact q
  | cont=>exact q
theorem Inv.quiet {pins:List (Addr×Obj)} {σ:St} {H:Hp} {s:Shared} (I:Inv X pins σ H s):interactive X.env=false:=by simp [interactive,I.ok.kind]
def Zip (te:TE):TS:=fun D σ H=>te σ H fun _ H1=>D.nx σ H1
theorem Zgt (he:PE X e te) (hs:swapsWith e none pos.line X.env=pure false:=by rfl):PS X (.Expr e pos) (Zip te):=by
  intro pins s σ H D I h
  exact wpAny_Expr_any (thn (he pins s σ H _ I h) fun v s1 ⟨x,H1,I1,r1,q1⟩=>⟨σ,H1,I1,q1⟩) I.quiet hs
def Zjs (te:TE):TS:=fun D σ H=>te σ H D.rt
theorem Zhp (he:PE X e te):PS X (.Return (some e) pos) (Zjs te):=by
  intro pins s σ H D I h
  exact wpAny_Return_some (thn (he pins s σ H _ I h) fun v s1 ⟨x,H1,I1,r1,q1⟩=>⟨x,σ,H1,I1,r1,q1⟩)
def Zjv (c:TT) (t u:TS):TS:=fun D σ H=>c σ H fun b H1=>if b=true then t D σ H1 else u D σ H1
theorem Ziz {c:Expr} {a b:List Stmt} {tc:TT} (hc:PT X c tc) (ha:PSs X a t) (hb:PSs X b u):PS X (.If c a b pos) (Zjv tc t u):=by
  intro pins s σ H D I h
  refine wpAny_If (thn (hc pins s σ H _ I h) fun d s1 ⟨H1,I1,q1⟩=>?_)
  cases d with
  | true=>exact ha pins s1 σ H1 D I1 q1
  | false=>exact hb pins s1 σ H1 D I1 q1
end
abbrev TG:=V→St→Hp→(St→Hp→Prop)→Prop
abbrev TGs:=List V→St→Hp→(St→Hp→Prop)→Prop
def PG (X:Cx) (target:Expr) (t:TG):Prop:=
  ∀(pins:List (Addr×Obj)) (s:Shared) (σ:St) (H:Hp) (v:V) (u:Value) (Q:St→Hp→Prop),Inv X pins σ H s→RelV v u→t v σ H Q→
    wpAny (model X.prog X.w) X.A (assign target X.env u) (fun _ s'=>∃σ' H',Inv X pins σ' H' s'∧Q σ' H') X.xe s
def PGs (X:Cx) (ts:List Expr) (t:TGs):Prop:=
  ∀(pins:List (Addr×Obj)) (s:Shared) (σ:St) (H:Hp) (vs:List V) (us:List Value) (Q:St→Hp→Prop),Inv X pins σ H s→Vals vs us→t vs σ H Q→
    wpAny (model X.prog X.w) X.A (assignInOrder ((assignEach ts X.env).map (·.2)) us) (fun _ s'=>∃σ' H',Inv X pins σ' H' s'∧Q σ' H') X.xe s
section
variable {X:Cx} {pos:Pos}
def ZaE (i:Nat):TG:=fun v σ H Q=>Q (σ.set i (some v)) H
theorem zV {i:Nat} {x:Str} (hN:X.N.Nodup) (hi:X.N[i]?=some x) (hx:Loc X.env.scope x) (hf:X.fn x=true∨X.env.scope.names.lookup x=some .local:=by first | exact .inl rfl | exact .inr rfl | assumption):PG X (.Name x pos) (ZaE i):=by
  intro pins s σ H v u Q I r h
  exact wpAny_assign_Name (Zdg I hN hi hx r (fun s' I'=>⟨_,H,I',h⟩) hf)
def ZiX:TGs:=fun vs σ H Q=>vs=[]∧Q σ H
def Zf1 (t:TG) (u:TGs):TGs:=fun vs σ H Q=>∃v r,vs=v::r∧t v σ H fun σ' H'=>u r σ' H' Q
theorem Zgy:PGs X [] ZiX:=by
  intro pins s σ H vs us Q I r h
  obtain ⟨e,h⟩:=h
  subst e
  cases r
  exact assignInOrder_nil ⟨σ,H,I,h⟩
theorem Zdk {e:Expr} {es:List Expr} {t:TG} {u:TGs} (h1:PG X e t) (h2:PGs X es u)
    (hs:(assignEach (e::es) X.env).map (·.2)=assign e X.env::(assignEach es X.env).map (·.2):=by rfl):PGs X (e::es) (Zf1 t u):=by
  intro pins s σ H vs us Q I r h
  obtain ⟨v,vr,e1,h⟩:=h
  subst e1
  cases r with
  | cons r rr=>
    rw [hs]
    refine assignInOrder_cons (thn (h1 pins s σ H _ _ _ I r h) fun _ s1 ⟨σ1,H1,I1,q1⟩=>?_)
    exact h2 pins s1 σ1 H1 _ _ Q I1 rr q1
def ZiW (K:PySem.W.Frag) (n:Nat) (t:TGs):TG:=fun v σ H Q=>∃a xs,v=.ref a∧SqT K H a xs∧xs.length=n∧t xs σ H Q
theorem Zhv {es:List Expr} {k:Nat} {t:TGs} {n:Nat} (hc:X.calm=true) (h:PGs X es t)
    (hn:(assignEach es X.env).length=n:=by rfl) (hst:(assignEach es X.env).findIdx? (·.1)=none:=by rfl):PG X (.Tuple es k pos) (ZiW X.K n t):=by
  intro pins s σ H v u Q I r hw
  obtain ⟨a,xs,e1,hq,hl,hw⟩:=hw
  subst e1
  cases r
  obtain ⟨its,rv,ht,hz⟩:=I.tuple hq
  refine assign_Tuple_tuple (I.ok.hd hc) ht (by simp [hn,←hl,rv.length]) hst fun h' hx=>?_
  have I1:Inv X pins σ H { s with heap:=h' }:=I.kept (t':=s.toks) fun b o e=>hx b o (Nat.ne_of_lt (Heap.lt_size e)) e
  exact h pins _ σ H xs _ Q I1 (by simpa using rv) hw
def Zhg (te:TE) (g:TG):TS:=fun D σ H=>te σ H fun x H1=>g x σ H1 D.nx
theorem Zfs {i:Nat} {x:Str} {e:Expr} {te:TE} {pos':Pos} (hN:X.N.Nodup) (hi:X.N[i]?=some x) (hx:Loc X.env.scope x) (he:PE X e te) (hs:swapsWith e (some (.Name x pos')) pos.line X.env=pure false:=by rfl) (hf:X.fn x=true∨X.env.scope.names.lookup x=some .local:=by first | exact .inl rfl | exact .inr rfl | assumption) :
    PS X (.Assign [.Name x pos'] e pos) (Zhg te (ZaE i)):=by
  intro pins s σ H D I h
  refine wpAny_Assign_Name (thn (he pins s σ H _ I h) fun v s1 ⟨y,H1,I1,r1,q1⟩=>?_) hs
  exact Zdg I1 hN hi hx r1 (fun s2 I2=>⟨_,H1,I2,q1⟩) hf
end
section
variable {X:Cx} {pos:Pos}
end
structure It where
  go:Nat→Hp→Prop
  yld:Nat→Hp→V→Hp→Prop
  stop:Nat→Hp→Prop
def Zao (X:Cx) (pins:List (Addr×Obj)) (H:Hp) (b:Addr):Prop:=
  H b=none∧b≠X.env.locals∧b∉X.fs∧(b∈X.ex∨X.s₀.heap.objs.size≤b)∧(∀x c,X.env.cells.lookup x=some c→c≠b)∧∀p∈X.pn++pins,p.1≠b
theorem Inv.fpOk {X:Cx} {pins:List (Addr×Obj)} {σ:St} {H H':Hp} {s:Shared} {b:Addr} (I:Inv X pins σ H s) (hb:s.heap.objs.size≤b) (hn:H' b=none):Zao X pins H' b:=by
  refine ⟨hn,Nat.ne_of_gt (Nat.lt_of_lt_of_le I.lt hb),I.nofs hb,.inr (Nat.le_trans I.sz hb),fun x c e z=>?_,fun p hp z=>?_⟩
  · obtain ⟨v,q⟩:=I.cell x c e
    exact absurd (Nat.lt_of_lt_of_le q.lt (by rw [z]; exact hb)) (Nat.lt_irrefl _)
  · exact absurd (Nat.lt_of_lt_of_le (Heap.lt_size (I.pin p hp).1) (by rw [z]; exact hb)) (Nat.lt_irrefl _)
structure Zcf (P:Program) (w:World) (K:PySem.W.Frag) (tg:Expr) (J:It) (fp:List Addr) (it:Addr) (tn:Nat→Heap→Prop):Prop where
  mem:it∈fp
  obj:∀i h,tn i h→∀b∈fp,∃o,h.get? b=some o∧∀v,o.data≠.cell v
  keep:∀i h h',tn i h→(∀b∈fp,∀o,h.get? b=some o→h'.get? b=some o)→tn i h'
  item:∀(X:Cx),X.prog=P→X.w=w→X.K=K→X.calm=true→∀(i:Nat) (pins:List (Addr×Obj)) (s:Shared) (σ:St) (H:Hp) (E:Value→Shared→Prop),Inv X pins σ H s→(∀b∈fp,Zao X pins H b)→tn i s.heap→J.go i H→
    wpAny (model P w) X.A (pyNext (.ref it)) (fun r s1=>∃u,r=some u∧
      wpAny (model P w) X.A (letOwnedTupleGo tg (.ref it) u) (fun _ s2=>∃x H',Inv X pins σ H' s2∧RelV x u∧J.yld i H x H'∧tn (i+1) s2.heap∧∀b∈fp,H' b=none) E s1) E s
  done:∀(X:Cx),X.prog=P→X.w=w→X.K=K→X.calm=true→∀(i:Nat) (pins:List (Addr×Obj)) (s:Shared) (σ:St) (H:Hp) (E:Value→Shared→Prop),Inv X pins σ H s→(∀b∈fp,Zao X pins H b)→tn i s.heap→J.stop i H→
    wpAny (model P w) X.A (pyNext (.ref it)) (fun r s1=>r=none∧Inv X pins σ H s1) E s
  self:∀(A:Around) (i:Nat) (s:Shared) (Q:Value→Shared→Prop) (E:Value→Shared→Prop),tn i s.heap→Q (.ref it) s→wpAny (model P w) A (pyIter (.ref it)) Q E s
abbrev TI:=St→Hp→(It→Hp→Prop)→Prop
def PIE (X:Cx) (pins:List (Addr×Obj)) (σ:St) (tg:Expr) (R:It→Hp→Prop) (itv:Value) (s2:Shared):Prop:=
  ∃(it:Addr) (fp:List Addr) (tn:Nat→Heap→Prop) (J:It) (H':Hp),itv=.ref it∧Inv X pins σ H' s2∧Zcf X.prog X.w X.K tg J fp it tn∧tn 0 s2.heap∧(∀b∈fp,Zao X pins H' b)∧R J H'
def PI (X:Cx) (tg iter:Expr) (wi:TI):Prop:=
  ∀(pins:List (Addr×Obj)) (s:Shared) (σ:St) (H:Hp) (R:It→Hp→Prop),Inv X pins σ H s→wi σ H R→
    wpAny (model X.prog X.w) X.A (eval iter X.env) (fun v s1=>wpAny (model X.prog X.w) X.A (pyIter v) (PIE X pins σ tg R) X.xe s1) X.xe s
theorem Zdu {M:Model} {A:Around} {E:Value→Shared→Prop} {s:Shared} {tg:Expr} {it:Addr} {u:Value} {o:Obj} {n:String} {vs:Array Value} {Q:Unit→Shared→Prop} (ho:s.heap.get? it=some o) (hc:o.cls=.type n) (hd:o.data=.fields vs)
    (hn:["enumerate","zip","dict_itemiterator","dict_reverseitemiterator","odict_iterator","itertools.zip_longest","itertools.pairwise"].contains n=false) (hQ:Q () s):wpAny M A (letOwnedTupleGo tg (.ref it) u) Q E s:=by
  unfold letOwnedTupleGo
  cases tg<;>first
    | exact wpAny_pure hQ
    | (cases u<;>first
        | exact wpAny_pure hQ
        | (refine wpAny_bind (wpAny_load ho ?_)
           rw [hc,hd]
           show wpAny M A (if (["enumerate","zip","dict_itemiterator","dict_reverseitemiterator","odict_iterator","itertools.zip_longest","itertools.pairwise"].contains n && vs[0]? == some (rawInt _))=true then _ else _) Q E s
           rw [if_neg (by intro h; rw [hn,Bool.false_and] at h; cases h)]
           exact wpAny_pure hQ))
def Itl (K:PySem.W.Frag) (a:Addr):It:=
  ⟨fun i H=>∃xs x,SqL K H a xs∧xs[i]?=some x,fun i H x H'=>H'=H∧∀xs,SqL K H a xs→xs[i]?=some x,fun i H=>∃xs,SqL K H a xs∧xs.length≤i⟩
def Itt (K:PySem.W.Frag) (a:Addr):It:=
  ⟨fun i H=>∃xs x,SqT K H a xs∧xs[i]?=some x,fun i H x H'=>H'=H∧∀xs,SqT K H a xs→xs[i]?=some x,fun i H=>∃xs,SqT K H a xs∧xs.length≤i⟩
def Itr (lo:Int) (n:Nat):It:=⟨fun i _=>i<n,fun i H x H'=>H'=H∧x=.int (lo+i),fun i _=>n≤i⟩
theorem ZeB {P:Program} {w:World} {K:PySem.W.Frag} {tg:Expr} (a it:Addr):Zcf P w K tg (Itl K a) [it] it (fun i h=>h.IsListIter it a i) where
  mem:=by simp
  obj:=fun i h st b hb=>by
    have e:b=it:=by simpa using hb
    subst e
    obtain ⟨o,e,c,d⟩:=st
    exact ⟨o,e,fun v z=>by rw [d] at z; cases z⟩
  keep:=fun i h h' st k=>st.at fun o e=>k it (by simp) o e
  item:=by
    intro X hP hw hK hc i pins s σ H E I hf st hg
    subst hP hw hK
    obtain ⟨xs,x,hq,hx⟩:=hg
    obtain ⟨its,rv,p,hz⟩:=I.list hq
    obtain ⟨u,hu,ru⟩:=rv.get hx
    obtain ⟨f0,f1,f2,f3,f4,f5⟩:=hf it (by simp)
    refine wpAny_pyNext_list_item st p.isList (x:=u) (by simpa using hu) fun h' st' sb=>?_
    have I1:Inv X pins σ H { s with heap:=h' }:=I.turned (t':=s.toks) (fun b o hb e=>(sb.2 b hb).trans e) f0 f1 f3 f4 f5
    obtain ⟨o,e,c,d⟩:=id st'
    exact ⟨u,rfl,Zdu (s:={ s with heap:=h' }) e c d (by decide) ⟨x,H,I1,ru,⟨rfl,fun ys hy=>by rw [I.list_inj hy hq]; exact hx⟩,st',fun b hb=>(hf b hb).1⟩⟩
  done:=by
    intro X hP hw hK hc i pins s σ H E I hf st hg
    subst hP hw hK
    obtain ⟨xs,hq,hx⟩:=hg
    obtain ⟨its,rv,p,hz⟩:=I.list hq
    obtain ⟨f0,f1,f2,f3,f4,f5⟩:=hf it (by simp)
    have hl:=rv.length
    exact wpAny_pyNext_list_end (I.ok.hd hc) st p.isList (by simp; omega) fun h' eb=>⟨rfl,I.turned (t':=s.toks) (fun b o hb e=>eb b o hb e) f0 f1 f3 f4 f5⟩
  self:=fun _ _ _ _ _ st h=>wpAny_pyIter_listiter st h
theorem ZdF {P:Program} {w:World} {K:PySem.W.Frag} {tg:Expr} (a it:Addr):Zcf P w K tg (Itt K a) [it] it (fun i h=>h.IsTupleIter it a i) where
  mem:=by simp
  obj:=fun i h st b hb=>by
    have e:b=it:=by simpa using hb
    subst e
    obtain ⟨o,e,c,d⟩:=st
    exact ⟨o,e,fun v z=>by rw [d] at z; cases z⟩
  keep:=fun i h h' st k=>st.at fun o e=>k it (by simp) o e
  item:=by
    intro X hP hw hK hc i pins s σ H E I hf st hg
    subst hP hw hK
    obtain ⟨xs,x,hq,hx⟩:=hg
    obtain ⟨its,rv,p,hz⟩:=I.tuple hq
    obtain ⟨u,hu,ru⟩:=rv.get hx
    obtain ⟨f0,f1,f2,f3,f4,f5⟩:=hf it (by simp)
    refine wpAny_pyNext_tuple_item st (show s.heap.IsTuple a its.toArray from p) (x:=u) (by simpa using hu) fun h' st' sb=>?_
    have I1:Inv X pins σ H { s with heap:=h' }:=I.turned (t':=s.toks) (fun b o hb e=>(sb.2 b hb).trans e) f0 f1 f3 f4 f5
    obtain ⟨o,e,c,d⟩:=id st'
    exact ⟨u,rfl,Zdu (s:={ s with heap:=h' }) e c d (by decide) ⟨x,H,I1,ru,⟨rfl,fun ys hy=>by rw [I.tuple_inj hy hq]; exact hx⟩,st',fun b hb=>(hf b hb).1⟩⟩
  done:=by
    intro X hP hw hK hc i pins s σ H E I hf st hg
    subst hP hw hK
    obtain ⟨xs,hq,hx⟩:=hg
    obtain ⟨its,rv,p,hz⟩:=I.tuple hq
    obtain ⟨f0,f1,f2,f3,f4,f5⟩:=hf it (by simp)
    have hl:=rv.length
    exact wpAny_pyNext_tuple_end (I.ok.hd hc) st (show s.heap.IsTuple a its.toArray from p) (by simp; omega) fun h' eb=>⟨rfl,I.turned (t':=s.toks) (fun b o hb e=>eb b o hb e) f0 f1 f3 f4 f5⟩
  self:=fun _ _ _ _ _ st h=>wpAny_pyIter_tupleiter st h
theorem ZdG {P:Program} {w:World} {K:PySem.W.Frag} {tg:Expr} (it:Addr) (lo:Int) (n:Nat):Zcf P w K tg (Itr lo n) [it] it (fun i h=>IsRangeIter h it (lo+(i:Nat)*1) ((n:Int)-(i:Nat)) 1) where
  mem:=by simp
  obj:=fun i h st b hb=>by
    have e:b=it:=by simpa using hb
    subst e
    exact ⟨_,st,fun v z=>by
      have z':Data.fields _=Data.cell v:=z
      cases z'⟩
  keep:=fun i h h' st k=>k it (by simp) _ st
  item:=by
    intro X hP hw hK hc i pins s σ H E I hf st hg
    subst hP hw hK
    obtain ⟨f0,f1,f2,f3,f4,f5⟩:=hf it (by simp)
    have W:=Walks.range (prog:=X.prog) (w:=X.w) (I.ok.hd hc) it lo 1 n
    refine W.item i s _ _ hg st fun v h' tk hv st' kk=>?_
    obtain ⟨t,rfl⟩:=hv
    have I1:Inv X pins σ H { s with heap:=h',toks:=tk }:=I.turned (fun b o hb e=>kk b o (by simpa using hb) e) f0 f1 f3 f4 f5
    refine ⟨_,rfl,Zdu (s:={ s with heap:=h',toks:=tk }) (n:="range_iterator") st' rfl rfl (by decide) ⟨.int (lo+i),H,I1,⟨t,?_⟩,⟨rfl,rfl⟩,st',fun b hb=>(hf b hb).1⟩⟩
    rw [Int.mul_one]
  done:=by
    intro X hP hw hK hc i pins s σ H E I hf st hg
    subst hP hw hK
    obtain ⟨f0,f1,f2,f3,f4,f5⟩:=hf it (by simp)
    exact wpAny_pyNext_range_end (I.ok.hd hc) st (by have:n≤i:=hg; omega) fun h' eb=>⟨rfl,I.turned (t':=s.toks) (fun b o hb e=>eb b o hb e) f0 f1 f3 f4 f5⟩
  self:=fun _ _ _ _ _ st h=>wpAny_pyIter_rangeiter st h
end L2
namespace L2
open PySem PySem.Spec PyProof.Rows
section
variable {X:Cx} {tg:Expr}
theorem Zfm {pins:List (Addr×Obj)} {σ:St} {H:Hp} {s:Shared} {R:It→Hp→Prop} {E:Value→Shared→Prop} {lo hi:Int} {t u v:Tok} {tk:Nat} (I:Inv X pins σ H s) (h1 : -(2 ^ 62)≤lo) (h2:lo<2 ^ 62) (h3 : -(2 ^ 62)≤hi) (h4:hi<2 ^ 62)
    (q:R (Itr lo (hi-lo).toNat) H):wpAny (model X.prog X.w) X.A (pyIter (.ref s.heap.objs.size)) (PIE X pins σ tg R) E { s with heap:=s.heap.push { cls:=.type "range",data:=.fields #[.int lo t,.int hi u,.int 1 v] },toks:=tk }:=by
  refine wpAny_pyIter_range (IsRange.new ..) (small_one h1 h2 h3 h4) ?_
  have I1:Inv X pins σ H { s with heap:=s.heap.push { cls:=.type "range",data:=.fields #[.int lo t,.int hi u,.int 1 v] },toks:=tk }:=I.kept fun b o e=>Heap.get?_push_of_some _ e
  refine ⟨(s.heap.push { cls:=.type "range",data:=.fields #[.int lo t,.int hi u,.int 1 v] }).objs.size,[(s.heap.push { cls:=.type "range",data:=.fields #[.int lo t,.int hi u,.int 1 v] }).objs.size],_,_,H,rfl,
    I1.kept (t':=tk) fun b o e=>Heap.get?_push_of_some _ e,ZdG _ lo (hi-lo).toNat,?_,fun b hb=>?_,q⟩
  · have e1:lo+((0:Nat):Int)*1=lo:=by simp
    have e2:(((hi-lo).toNat:Nat):Int)-((0:Nat):Int)=Builtin.Range.rangeSize lo hi 1:=by rw [rangeSize_one]; split<;>omega
    show IsRangeIter _ _ (lo+((0:Nat):Int)*1) ((((hi-lo).toNat:Nat):Int)-((0:Nat):Int)) 1
    rw [e1,e2]
    exact Heap.get?_push_size _ rfl
  · have e:b=(s.heap.push { cls:=.type "range",data:=.fields #[.int lo t,.int hi u,.int 1 v] }).objs.size:=by simpa using hb
    subst e
    exact I1.fpOk (Nat.le_refl _) (I1.hok.fresh (Nat.le_refl _))
def ZiV (ta:TA):TI:=fun σ H R=>ta σ H fun vs H1=>∃j:Int,vs=[.int j]∧-(2 ^ 62)≤j∧j<2 ^ 62∧R (Itr 0 j.toNat) H1
theorem ZeK {a:Expr} {ta:TA} {p pos:Pos} (hg:Gl X "range") (hm:X.mg "range"=none) (ha:PA X [a] ta) (hs:starEach [a] X.env=[(false,eval a X.env)]:=by rfl):PI X tg (.Call (.Name "range" p) [a] [] pos) (ZiV ta):=by
  intro pins s σ H R I h
  refine Call_ (ZbZ I hg hm boot_range (PyProof.Rows.callWith_type1 (thn (ha pos pins s σ H _ I h) fun us s1 ⟨vs,H1,I1,r1,q1⟩=>?_) hs rfl))
  obtain ⟨j,e,q1,q2,q⟩:=q1
  subst e
  cases r1 with
  | cons r rr=>
    cases rr
    obtain ⟨t,rfl⟩:=r
    exact call_range_1 (Zfm I1 (by omega) (by omega) q1 q2 (by simpa using q))
def Zjw (wi:TI) (g:TG) (tb:TS):TS:=fun D σ H=>wi σ H fun J H1=>∃W:Nat→Nat→St→Hp→Prop,(∃m,W 0 m σ H1)∧∀i m σ H,W i m σ H→
  (J.stop i H∧D.nx σ H)∨(J.go i H∧∃N:St→Hp→Prop,(∀σ' H',N σ' H'→∃m',m'<m∧W (i+1) m' σ' H')∧∀x H',J.yld i H x H'→g x σ H' fun σ2 H2=>tb { D with nx:=N,ct:=N,bk:=D.nx } σ2 H2)
def ZcK (fp:List Addr) (h:Heap):List (Addr×Obj):=fp.filterMap fun b=>(h.get? b).map fun o=>(b,o)
theorem ZH {fp:List Addr} {h:Heap} {b:Addr} {o:Obj} (hb:b∈fp) (e:h.get? b=some o):(b,o)∈ZcK fp h:=List.mem_filterMap.mpr ⟨b,hb,by rw [e]; rfl⟩
theorem ZeN {fp:List Addr} {h:Heap} {p:Addr×Obj} (hp:p∈ZcK fp h):p.1∈fp∧h.get? p.1=some p.2:=by
  obtain ⟨b,hb,e⟩:=List.mem_filterMap.mp hp
  cases q:h.get? b with
  | none=>rw [q] at e; cases e
  | some o=>
    rw [q] at e
    have e':(b,o)=p:=Option.some.inj e
    subst e'
    exact ⟨hb,q⟩
theorem Inv.pinned {pins:List (Addr×Obj)} {σ:St} {H:Hp} {s:Shared} {fp:List Addr} (I:Inv X pins σ H s) (hf:∀b∈fp,Zao X pins H b) (ho:∀b∈fp,∃o,s.heap.get? b=some o∧∀v,o.data≠.cell v):Inv X (pins++ZcK fp s.heap) σ H s:=
  I.pins_of fun p hp=>(List.mem_append.mp hp).elim (fun z=>I.pin p (List.mem_append_right _ z)) fun z=>by
    obtain ⟨hb,e⟩:=ZeN z
    obtain ⟨f0,f1,f2,_⟩:=hf p.1 hb
    obtain ⟨o,e',d⟩:=ho p.1 hb
    rw [e] at e'; cases e'
    exact ⟨e,f0,f1,f2,d⟩
theorem Inv.unpinned {pins pl:List (Addr×Obj)} {σ:St} {H:Hp} {s:Shared} (I:Inv X (pins++pl) σ H s):Inv X pins σ H s:=I.pins_of fun p hp=>I.pin p (List.mem_append_right _ (List.mem_append_left _ hp))
theorem Zhr {iter:Expr} {body:List Stmt} {wi:TI} {g:TG} {tb:TS} {pos:Pos} (hp:PassesOwn (model X.prog X.w) X.A X.env X.xe) (hc:X.calm=true) (hi:PI X tg iter wi) (hg:PG X tg g) (hb:PSs X body tb)
    (hs:∀x,foldedSetIterable iter X.env x=pure x:=by intro _; rfl):PS X (.For tg iter body [] pos) (Zjw wi g tb):=by
  intro pins s σ H D I h
  refine wpAny_For (thn (hi pins s σ H _ I h) fun v s1 h1=>thn h1 fun itv s2 h2=>?_) hs
  obtain ⟨it,fp,tn,J,H2,e,I2,T,st2,f2,W,⟨m0,w0⟩,turn⟩:=h2
  subst e
  have stat:∀{H':Hp},(∀b∈fp,H' b=none)→∀b∈fp,Zao X pins H' b:=fun hn b hb=>⟨hn b hb,(f2 b hb).2⟩
  refine codeAny_forLoop_any (fun n s'=>∃i σ' H',Inv X pins σ' H' s'∧tn i s'.heap∧(∀b∈fp,H' b=none)∧W i n σ' H') ?_ m0 ⟨0,σ,H2,I2,st2,fun b hb=>(f2 b hb).1,w0⟩
  rintro n s3 ⟨i,σ3,H3,I3,st3,fr3,w3⟩
  rcases turn i n σ3 H3 w3 with ⟨stop,qn⟩ | ⟨go,N,hN,step⟩
  · refine wpAny_passesOwn hp (thn (T.done X rfl rfl rfl hc i pins s3 σ3 H3 X.xe I3 (stat fr3) st3 stop) fun r s4 ⟨hr,I4⟩=>?_)
    subst hr
    exact wpAny_execs_nil ⟨σ3,H3,I4,qn⟩
  · refine wpAny_passesOwn hp (thn (T.item X rfl rfl rfl hc i pins s3 σ3 H3 X.xe I3 (stat fr3) st3 go) fun r s4 ⟨u,hr,h4⟩=>?_)
    subst hr
    refine wpAny_passesOwn hp (thn h4 fun _ s5 ⟨x,H5,I5,r5,y5,st5,fr5⟩=>?_)
    have I5':=I5.pinned (stat fr5) (T.obj _ _ st5)
    refine wpAny_passesOwn hp (thn (hg _ s5 σ3 H5 x u _ I5' r5 (step x H5 y5)) fun _ s6 ⟨σ6,H6,I6,q6⟩=>?_)
    refine wpAny_passesOwn hp (thn (hb _ s6 σ6 H6 _ I6 q6) fun f s7 q7=>?_)
    have again:∀{σ7:St} {H7:Hp},Inv X (pins++ZcK fp s5.heap) σ7 H7 s7→N σ7 H7→∃m,m<n∧∃i σ' H',Inv X pins σ' H' s7∧tn i s7.heap∧(∀b∈fp,H' b=none)∧W i m σ' H':=fun {σ7 H7} I7 n7=>by
      obtain ⟨m',hm,w7⟩:=hN σ7 H7 n7
      refine ⟨m',hm,i+1,σ7,H7,I7.unpinned,T.keep _ _ _ st5 fun b hb o e=>(I7.pin (b,o) (List.mem_append_right _ (List.mem_append_right _ (ZH hb e)))).1,fun b hb=>?_,w7⟩
      obtain ⟨o,e,d⟩:=T.obj _ _ st5 b hb
      exact (I7.pin (b,o) (List.mem_append_right _ (List.mem_append_right _ (ZH hb e)))).2.1
    cases f with
    | next=>obtain ⟨σ7,H7,I7,n7⟩:=q7; exact again I7 n7
    | cont=>obtain ⟨σ7,H7,I7,n7⟩:=q7; exact again I7 n7
    | brk=>obtain ⟨σ7,H7,I7,q7⟩:=q7; exact ⟨σ7,H7,I7.unpinned,q7⟩
    | ret v=>obtain ⟨x7,σ7,H7,I7,r7,q7⟩:=q7; exact ⟨x7,σ7,H7,I7.unpinned,r7,q7⟩
end
end L2
namespace L2
open PySem PySem.Spec PyProof.Rows
abbrev R2:=V→V→Hp→VK→Prop
def OpR (X:Cx) (f:Value→Value→Sem Value) (r:R2):Prop:=
  ∀(pins:List (Addr×Obj)) (s:Shared) (σ:St) (H:Hp) (x y:V) (v u:Value) (Q:VK),Inv X pins σ H s→RelV x v→RelV y u→r x y H Q→
    wpAny (model X.prog X.w) X.A (f v u) (EP X pins σ Q) X.xe s
def CallR (X:Cx) (f:Value) (r:List V→Hp→VK→Prop):Prop:=
  ∀(pins:List (Addr×Obj)) (s:Shared) (σ:St) (H:Hp) (xs:List V) (us:List Value) (Q:VK),Inv X pins σ H s→Vals xs us→r xs H Q→
    wpAny (model X.prog X.w) X.A (call f us) (EP X pins σ Q) X.xe s
def ZjS (X:Cx) (r:V→Hp→(Bool→Hp→Prop)→Prop):Prop:=
  ∀(pins:List (Addr×Obj)) (s:Shared) (σ:St) (H:Hp) (x:V) (v:Value) (Q:Bool→Hp→Prop),Inv X pins σ H s→RelV x v→r x H Q→
    wpAny (model X.prog X.w) X.A (truthy v) (TP X pins σ Q) X.xe s
def tOp (r:R2) (ta tb:TE):TE:=fun σ H Q=>ta σ H fun x H1=>tb σ H1 fun y H2=>r x y H2 Q
def rI (C:Int→Int→Prop) (g:Int→Int→V):R2:=fun x y H Q=>∃i j,x=.int i∧y=.int j∧C i j∧Q (g i j) H
def rI0 (g:Int→Int→V):R2:=fun x y H Q=>∃i j,x=.int i∧y=.int j∧Q (g i j) H
section
variable {X:Cx} {a b c:Expr} {ta tb tc:TE} {pos:Pos}
theorem Zh0 (ha:PE X a ta) (hb:PE X b tb) {pins:List (Addr×Obj)} {s:Shared} {σ:St} {H:Hp} {R:V→V→Hp→Prop} (I:Inv X pins σ H s)
    (h:ta σ H fun x H1=>tb σ H1 fun y H2=>R x y H2) {Q:Value→Shared→Prop} {f:Value→Value→Sem Value}
    (hf:∀v u s2 x y H2,Inv X pins σ H2 s2→RelV x v→RelV y u→R x y H2→wpAny (model X.prog X.w) X.A (f v u) Q X.xe s2) :
    wpAny (model X.prog X.w) X.A (eval a X.env) (fun v s₁=>wpAny (model X.prog X.w) X.A (eval b X.env) (fun u s₂=>wpAny (model X.prog X.w) X.A (f v u) Q X.xe s₂) X.xe s₁) X.xe s:=by
  refine thn (ha pins s σ H _ I h) fun v s1 ⟨x,H1,I1,r1,q1⟩=>?_
  refine thn (hb pins s1 σ H1 _ I1 q1) fun u s2 ⟨y,H2,I2,r2,q2⟩=>?_
  exact hf v u s2 x y H2 I2 r1 r2 q2
theorem ZiB {op:Operator} {r:R2} (ho:OpR X (binaryOp op) r) (ha:PE X a ta) (hb:PE X b tb):PE X (.BinOp a op b pos) (tOp r ta tb):=by
  intro pins s σ H Q I h
  exact wpAny_BinOp (Zh0 ha hb I h fun v u s2 x y H2 I2 rx ry q=>ho pins s2 σ H2 x y v u Q I2 rx ry q)
theorem opI {f:Value→Value→Sem Value} {C:Int→Int→Prop} {g:Int→Int→Int}
    (rule:∀(i j:Int) (t u:Tok) (s:Shared) (Q:Value→Shared→Prop) (E:Value→Shared→Prop),C i j→Q (.int (g i j) s.toks) { s with toks:=s.toks+1 }→wpAny (model X.prog X.w) X.A (f (.int i t) (.int j u)) Q E s) :
    OpR X f (rI C fun i j=>.int (g i j)):=by
  intro pins s σ H x y v u Q I rx ry h
  obtain ⟨i,j,rfl,rfl,hc,q⟩:=h
  obtain ⟨t,rfl⟩:=rx
  obtain ⟨t',rfl⟩:=ry
  exact rule i j t t' s _ _ hc ⟨.int (g i j),H,I.tok _,⟨_,rfl⟩,q⟩
theorem ZiI {f:Value→Value→Sem Value} {g:Int→Int→Int}
    (rule:∀(i j:Int) (t u:Tok) (s:Shared) (Q:Value→Shared→Prop) (E:Value→Shared→Prop),Q (.int (g i j) s.toks) { s with toks:=s.toks+1 }→wpAny (model X.prog X.w) X.A (f (.int i t) (.int j u)) Q E s) :
    OpR X f (rI0 fun i j=>.int (g i j)):=by
  intro pins s σ H x y v u Q I rx ry h
  obtain ⟨i,j,rfl,rfl,q⟩:=h
  obtain ⟨t,rfl⟩:=rx
  obtain ⟨t',rfl⟩:=ry
  exact rule i j t t' s _ _ ⟨.int (g i j),H,I.tok _,⟨_,rfl⟩,q⟩
theorem ZiJ {f:Value→Value→Sem Value} {g:Int→Int→Bool}
    (rule:∀(i j:Int) (t u:Tok) (s:Shared) (Q:Value→Shared→Prop) (E:Value→Shared→Prop),Q (.bool (g i j)) s→wpAny (model X.prog X.w) X.A (f (.int i t) (.int j u)) Q E s) :
    OpR X f (rI0 fun i j=>.bl (g i j)):=by
  intro pins s σ H x y v u Q I rx ry h
  obtain ⟨i,j,rfl,rfl,q⟩:=h
  obtain ⟨t,rfl⟩:=rx
  obtain ⟨t',rfl⟩:=ry
  exact rule i j t t' s _ _ ⟨.bl (g i j),H,I,rfl,q⟩
def CMul (i j:Int):Prop:=(-(2 ^ 64)<i∧i<2 ^ 64)∨(-(2 ^ 64)<j∧j<2 ^ 64)
theorem CMul.ok {i j:Int} (h:CMul i j):IntMulOk i j:=by
  rcases h with ⟨h1,h2⟩ | ⟨h1,h2⟩
  · exact .of_left (intBits_le_64 h1 h2)
  · exact .of_right (intBits_le_64 h1 h2)
theorem op_add:OpR X (binaryOp .Add) (rI0 fun i j=>.int (i+j)):=ZiI fun _ _ _ _ _ _ _ q=>add_int q
theorem op_mul:OpR X (binaryOp .Mult) (rI CMul fun i j=>.int (i*j)):=opI fun _ _ _ _ _ _ _ hc q=>mul_int q hc.ok
theorem ZhE:OpR X (binaryOp .Mod) (rI (fun _ j=>0<j) fun i j=>.int (i % j)):=opI fun i j _ _ _ _ _ hc q=>by
  have h1:(0:Int)<j:=hc
  exact mod_int' (by omega) (by rw [Int.fmod_eq_emod_of_nonneg i (by omega)]; exact q)
theorem ZhH:OpR X (binaryOp .BitAnd) (rI0 fun i j=>.int (Builtin.bitAnd i j)):=ZiI fun _ _ _ _ _ _ _ q=>and_int q
end
section
variable {X:Cx} {a b c:Expr} {ta tb tc:TE} {pos:Pos}
theorem ZhW {pins:List (Addr×Obj)} {σ:St} {H:Hp} {s:Shared} {Q:VK} {k k':Bool} (I:Inv X pins σ H s) (q:Q (.bl k) H) (e:k=k'):EP X pins σ Q (.bool k') s:=by
  subst e
  exact ⟨.bl k,H,I,rfl,q⟩
theorem ZiG:OpR X (compareOp .Lt) (rI0 fun i j=>.bl (decide (i<j))):=ZiJ fun _ _ _ _ _ _ _ q=>lt_int q
theorem ZiH:OpR X (compareOp .Gt) (rI0 fun i j=>.bl (decide (j<i))):=ZiJ fun _ _ _ _ _ _ _ q=>gt_int q
theorem ZeM:OpR X (compareOp .In) (fun x y H Q=>∃i j,x=.str i∧y=.str j∧Q (.bl (!(Builtin.Str.occurrences j i 0 j.length 1).isEmpty)) H):=by
  intro pins s σ H x y v u Q I rx ry h
  obtain ⟨i,j,rfl,rfl,q⟩:=h
  obtain ⟨t,rfl⟩:=rx
  obtain ⟨t',rfl⟩:=ry
  exact in_str (ZhW I q rfl)
theorem OpR.or {f:Value→Value→Sem Value} {r r':R2} (h:OpR X f r) (h':OpR X f r'):OpR X f (fun x y H Q=>r x y H Q∨r' x y H Q):=by
  intro pins s σ H x y v u Q I rx ry q
  rcases q with q | q
  · exact h pins s σ H x y v u Q I rx ry q
  · exact h' pins s σ H x y v u Q I rx ry q
theorem ZfE (b:Expr) {op:CmpOp} (h:op≠.In:=by decide) (h2:op≠.NotIn:=by decide):behindInMarks op b=false:=by
  have e1:(op == CmpOp.In)=false:=by cases op<;>first | rfl | exact absurd rfl h
  have e2:(op == CmpOp.NotIn)=false:=by cases op<;>first | rfl | exact absurd rfl h2
  cases b<;>simp [behindInMarks,e1,e2]
theorem ZgA {op:CmpOp} {r:R2} (ho:OpR X (compareOp op) r) (ha:PE X a ta) (hb:PE X b tb) (hm:behindInMarks op b=false):PE X (.Compare a [op] [b] pos) (tOp r ta tb):=by
  intro pins s σ H Q I h
  exact wpAny_Compare1 (Zh0 ha hb I h fun v u s2 x y H2 I2 rx ry q=>ho pins s2 σ H2 x y v u Q I2 rx ry q) hm
def Zik (t:TE):TT:=fun σ H Q=>t σ H fun x H'=>∃k,x=.bl k∧Q k H'
theorem Zgq {op:CmpOp} {r:R2} (ho:OpR X (compareOp op) r) (ha:PE X a ta) (hb:PE X b tb) (hm:behindInMarks op b=false):PT X (.Compare a [op] [b] pos) (Zik (tOp r ta tb)):=by
  intro pins s σ H Q I h
  refine wpAny_isTrue_Compare1 (thn (ha pins s σ H _ I h) fun v s1 ⟨x,H1,I1,r1,q1⟩=>thn (hb pins s1 σ H1 _ I1 q1) fun u s2 ⟨y,H2,I2,r2,q2⟩=>
    thn (ho pins s2 σ H2 x y v u _ I2 r1 r2 q2) fun c s3 ⟨z,H3,I3,r3,k,e,q3⟩=>?_) hm
  subst e
  cases r3
  exact wpAny_truthy_bool ⟨H3,I3,q3⟩
def TruV (K:PySem.W.Frag) (x:V) (H:Hp) (k:Bool):Prop:=
  match x with
  | .non=>k=false
  | .bl b=>k=b
  | .int i=>k=(i != 0)
  | .str y=>y.length≤sizeLine∧k=((y.length:Int) != 0)
  | .byt y=>y.size≤sizeLine∧k=((y.size:Int) != 0)
  | .ref p=>(∃xs,SqL K H p xs∧k=!xs.isEmpty)∨(∃xs,SqT K H p xs∧k=!xs.isEmpty)∨∃kvs,H p=some (.dK kvs)∧k=!kvs.isEmpty
  | _=>False
theorem ZdX {κ:Type} {kvs:List (κ×V)} {vs:List (κ×Value)} (r:KV kvs vs):(!vs.isEmpty)=!kvs.isEmpty:=by
  cases r<;>rfl
theorem Zb0 {xs:List V} {its:List Value} (r:Vals xs its):(!its.toArray.isEmpty)=!xs.isEmpty:=by
  cases r<;>simp
theorem Zbc:(sizeLine:Nat)<2 ^ 63:=by rw [sizeLine_eq]; decide
theorem Zhf:ZjS X (fun x H Q=>∃k,TruV X.K x H k∧Q k H):=by
  intro pins s σ H x v Q I rx h
  obtain ⟨k,e,q⟩:=h
  have hl:=Zbc
  have hs:sizeLine=16777216:=sizeLine_eq
  cases x with
  | non=>
    cases rx
    have e':k=false:=e
    subst e'
    exact truthy_none ⟨H,I,q⟩
  | bl b=>
    cases rx
    have e':k=b:=e
    subst e'
    exact wpAny_truthy_bool ⟨H,I,q⟩
  | int i=>
    obtain ⟨t,rfl⟩:=rx
    have e':k=(i != 0):=e
    subst e'
    exact PySem.P.truthy_int ⟨H,I,q⟩
  | str y=>
    obtain ⟨t,rfl⟩:=rx
    obtain ⟨hy,e'⟩:y.length≤sizeLine∧k=((y.length:Int) != 0):=e
    subst e'
    exact PySem.P.truthy_str (by omega) ⟨H,I.tok _,q⟩
  | byt y=>
    obtain ⟨t,rfl⟩:=rx
    obtain ⟨hy,e'⟩:y.size≤sizeLine∧k=((y.size:Int) != 0):=e
    subst e'
    exact PySem.W.truthy_bytes (by omega) ⟨H,I.tok _,q⟩
  | ref p=>
    cases rx
    have e':(∃xs,SqL X.K H p xs∧k=!xs.isEmpty)∨(∃xs,SqT X.K H p xs∧k=!xs.isEmpty)∨∃kvs,H p=some (.dK kvs)∧k=!kvs.isEmpty:=e
    rcases e' with ⟨xs,hx,e'⟩ | ⟨xs,hx,e'⟩ | ⟨kvs,hx,e'⟩
    · subst e'
      obtain ⟨its,r,pl,hz⟩:=I.list hx
      have hlen:=r.length
      exact wpAny_truthy_list pl.isList (by simp only [List.size_toArray]; omega) ⟨H,I.tok _,by rw [Zb0 r]; exact q⟩
    · subst e'
      obtain ⟨its,r,pl,hz⟩:=I.tuple hx
      have hlen:=r.length
      exact truthy_tuple pl (by simp only [List.size_toArray]; omega) ⟨H,I.tok _,by rw [Zb0 r]; exact q⟩
    · subst e'
      obtain ⟨hz,hS,vs,r,m⟩:kvs.length≤sizeLine∧(p == sysModules)=false∧∃vs,KV kvs vs∧s.heap.DictOf (ZcN X.prog X.w) p vs:=I.hok p _ hx
      have hlen:kvs.length=vs.length:=Paired.length r
      exact wpAny_truthy_dict hS m (by omega) ⟨H,I.tok _,by rw [ZdX r]; exact q⟩
  | _=>exact (show False from e).elim
theorem Zfq (ha:PE X a ta) (he:∀whole,isTrue a X.env whole=(do let v ←whole; standAt a.pos; holding [v] (truthy v))) :
    PT X a (fun σ H Q=>ta σ H fun x H'=>∃k,TruV X.K x H' k∧Q k H'):=by
  intro pins s σ H Q I h
  exact isTrue_plain (thn (ha pins s σ H _ I h) fun v s1 ⟨x,H1,I1,r1,q1⟩=>Zhf pins s1 σ H1 x v Q I1 r1 q1) (he _)
theorem op_add_str:OpR X (binaryOp .Add) (fun x y H Q=>∃i j,x=.str i∧y=.str j∧i.length+j.length≤sizeLine∧Q (.str (i++j)) H):=by
  intro pins s σ H x y v u Q I rx ry h
  obtain ⟨i,j,rfl,rfl,hz,q⟩:=h
  obtain ⟨t,rfl⟩:=rx
  obtain ⟨t',rfl⟩:=ry
  exact add_str (fun t' tk=>⟨.str (i++j),H,I.tok _,⟨_,rfl⟩,q⟩) hz
theorem Zcj {x:V} {us:List Value} (r:Vals [x] us):∃u,us=[u]∧RelV x u:=by
  cases r with
  | cons r1 r2=>cases r2; exact ⟨_,rfl,r1⟩
theorem ZcW:CallR X (.type "str") (fun xs H Q=>∃i,xs=[.int i]∧i.natAbs.log2<1920∧Q (.str (toString i)) H):=by
  intro pins s σ H xs us Q I r h
  obtain ⟨i,rfl,hz,q⟩:=h
  obtain ⟨u,rfl,t,rfl⟩:=Zcj r
  exact PySem.P.str_of_int hz ⟨.str _,H,I.tok _,⟨_,rfl⟩,q⟩
end
end L2
namespace L2
open PySem PySem.Spec PyProof.Rows
structure ObjM (h:Heap) (x dx C:Addr) (mA:Str→Option Value):Prop where
  obj:h.get? x=some (PySem.W.instObj C dx)
  ns:h.Ns1 dx mA
  ne:dx≠x
theorem ZeY {h:Heap} {dx:Addr} {mA:Str→Option Value} (n:h.Ns1 dx mA):∃od,h.get? dx=some od∧∀name,PySem.W.lookIn name od=some (mA name):=by
  obtain ⟨o,es,ep,ho,hd,hk,_,hm⟩:=n
  refine ⟨o,ho,fun name=>?_⟩
  have e:=hm name
  unfold nsFind findBy at e
  rw [←Array.find?_toList] at e
  unfold PySem.W.lookIn
  rw [hd]
  dsimp only
  split
  · rename_i y q
    rw [q] at e
    exact congrArg some e
  · rename_i q
    rw [q] at e
    have a:es.toList.any (·.refKey)=false:=by
      rw [List.any_eq_false]
      intro y hy
      obtain ⟨z,t,hkey⟩:=hk y (Array.mem_toList_iff.mp hy)
      simp [DictEntry.refKey,hkey]
    have a':¬es.toList.any (·.refKey)=true:=by rw [a]; exact Bool.false_ne_true
    rw [if_neg a']
    exact congrArg some e
theorem ObjM.look {h:Heap} {x dx C:Addr} {mA:Str→Option Value} (I:ObjM h x dx C mA):∃od,PySem.W.InstAt h x (PySem.W.instObj C dx) C (some od)∧∀name,PySem.W.lookIn name od=some (mA name):=
  let ⟨od,ho,hl⟩:=ZeY I.ns
  ⟨od,⟨I.obj,rfl,rfl,ho⟩,hl⟩
section
variable {prog:Program} {w:World} {A:Around} {E:Value→Shared→Prop} {s:Shared} {K:PySem.W.Frag} {x dx C f:Addr} {mA:Str→Option Value} {name:Str} {v:Value}
end
section
variable {P:Program} {w:World} {H H':Hp} {h h':Heap} {a C dx:Addr} {fs fs':List (Str×V)}
theorem ZgO (hok:HOk P w H h) (e:H a=some (.ins C dx fs)):∃mA,ObjM h a dx C mA∧(∀f,RelO (fs.lookup f) (mA f))∧PySem.Within mA (fs.map (·.1))∧fs.length≤1000∧H dx=some (.own a):=by
  obtain ⟨d,z,ne,ob,mA,n,r,q⟩:=(show ObjOk P w H h a (.ins C dx fs) from hok a _ e)
  exact ⟨mA,⟨ob,n,ne⟩,r,q,z,d⟩
end
structure Cls (K:PySem.W.Frag) (C:Addr):Prop where
  pg:PySem.W.plainGet K C Str.empty=true
  hd:PySem.W.hasDictIn K C=true
  po:PySem.W.plainOver K C=true
  sa:PySem.W.findIn K (.ref C) "__setattr__"=some (some (.builtin "object.__setattr__"))
theorem Cls.get {K:PySem.W.Frag} {C:Addr} (c:Cls K C) (f:Str):PySem.W.plainGet K C f=true:=c.pg
structure Con (K:PySem.W.Frag) (C:Addr) (f:Str) (v:V) (u:Value):Prop where
  at_:PySem.W.findIn K (.ref C) f=some (some u)
  rel:RelV v u
  get:PySem.W.specialIn K u "__get__"=some none
  cp:PySem.W.copiedNames.contains f=false
structure Zki (K:PySem.W.Frag) (C:Addr) (m:Str) (f:Addr):Prop where
  at_:PySem.W.findIn K (.ref C) m=some (some (.ref f))
  fn:PySem.W.isFn K (.ref f)=true
  kp:PySem.W.keepIn K (.ref f)=true
section
variable {X:Cx} {pins:List (Addr×Obj)} {σ:St} {H:Hp} {s:Shared} {a C dx:Addr} {fs:List (Str×V)} {f:Str} {v:V} {A:Around} {E:Value→Shared→Prop}
end
section
variable {X:Cx} {o e value:Expr} {f:Str} {pos pos' tpos:Pos} {ta tv:TE}
end
section
variable {X:Cx} {pins:List (Addr×Obj)} {σ:St} {H:Hp} {s:Shared} {A:Around} {E:Value→Shared→Prop} {Q:Value→Shared→Prop} {c:Value} {b:Bool}
inductive Za1 (K:PySem.W.Frag) (H:Hp):V→Value→Prop where
  | non:Za1 K H .non (.type "NoneType")
  | bl (x:Bool):Za1 K H (.bl x) (.type "bool")
  | int (i:Int):Za1 K H (.int i) (.type "int")
  | str (x:Str):Za1 K H (.str x) (.type "str")
  | flt (x:UInt64):Za1 K H (.flt x) (.type "float")
  | lst {a:Addr} {xs:List V} (e:H a=some (.lst xs)):Za1 K H (.ref a) (.type "list")
  | frz {a:Addr} {o:Obj} {xs:List V} (e:H a=some (.frz o (.lst xs))):Za1 K H (.ref a) (.type "list")
  | tup {a:Addr} {xs:List V} (e:H a=some (.tup xs)):Za1 K H (.ref a) (.type "tuple")
  | dK {a:Addr} {kvs:List (Key×V)} (e:H a=some (.dK kvs)):Za1 K H (.ref a) (.type "dict")
  | dT {a:Addr} {kvs:List (List Key×V)} (e:H a=some (.dT kvs)):Za1 K H (.ref a) (.type "dict")
  | ins {a C dx:Addr} {fs:List (Str×V)} (e:H a=some (.ins C dx fs)) (cl:Cls K C) (ha:PySem.W.findIn K (.ref C) "__class__"=some (some (.builtin "object.__class__")))
      (hn:PySem.W.specialIn K (.builtin "object.__class__") "__get__"=some (some (.builtin "getset_descriptor.__get__"))) (htk:PySem.W.takesIn K (.builtin "object.__class__")=some true)
      (hm:PySem.W.mroIn K C (.type "object")=some true):Za1 K H (.ref a) (.ref C)
theorem ZeZ {x:V} {u t:Value} (I:Inv X pins σ H s) (rx:RelV x u) (ty:Za1 X.K H x t) (e:PySem.W.kitOne X.K t c=some b) (h:∀tk,Q (.bool b) { s with toks:=tk }) :
    wpAny (model X.prog X.w) A (call (.builtin "isinstance") [u,c]) Q E s:=by
  cases ty with
  | non=>cases (show u=Value.none from rx); exact PySem.W.kia_one PySem.W.kitx_none I.kIn True.intro e (fun z=>nomatch z) h
  | bl y=>cases (show u=Value.bool y from rx); exact PySem.W.kia_one PySem.W.kitx_bool I.kIn True.intro e (fun z=>nomatch z) h
  | int i=>obtain ⟨t,q⟩:=(show ∃t,u=Value.int i t from rx); cases q; exact PySem.W.kia_one PySem.W.kitx_int I.kIn True.intro e (fun z=>nomatch z) h
  | str y=>obtain ⟨t,q⟩:=(show ∃t,u=Value.str y t from rx); cases q; exact PySem.W.kia_one PySem.W.kitx_str I.kIn True.intro e (fun z=>nomatch z) h
  | flt y=>obtain ⟨t,q⟩:=(show ∃t,u=Value.float y t from rx); cases q; exact PySem.W.kia_one PySem.W.kitx_float I.kIn True.intro e (fun z=>nomatch z) h
  | @lst a xs ea=>
    cases (show u=Value.ref a from rx)
    obtain ⟨_,_,n,_,h1⟩:=(show ObjOk X.prog X.w H s.heap a (.lst xs) from I.hok a _ ea)
    exact PySem.W.kia_one PySem.W.kitx_list I.kIn ⟨_,h1,rfl⟩ e (fun z=>nomatch z) h
  | @frz a ob xs ea=>
    cases (show u=Value.ref a from rx)
    obtain ⟨_,_,_,n,_,h1⟩:=(show ObjOk X.prog X.w H s.heap a (.frz ob (.lst xs)) from I.hok a _ ea)
    exact PySem.W.kia_one PySem.W.kitx_list I.kIn ⟨_,h1,rfl⟩ e (fun z=>nomatch z) h
  | @tup a xs ea=>
    cases (show u=Value.ref a from rx)
    obtain ⟨_,_,_,p⟩:=(show ObjOk X.prog X.w H s.heap a (.tup xs) from I.hok a _ ea)
    obtain ⟨o,h1,h2,_⟩:=p
    exact PySem.W.kia_one PySem.W.kitx_tuple I.kIn ⟨o,h1,h2⟩ e (fun z=>nomatch z) h
  | @dK a kvs ea=>
    cases (show u=Value.ref a from rx)
    obtain ⟨_,_,vs,_,p⟩:=(show ObjOk X.prog X.w H s.heap a (.dK kvs) from I.hok a _ ea)
    obtain ⟨o,es,ep,h1,h2,_⟩:=p
    exact PySem.W.kia_one PySem.W.kitx_dict I.kIn ⟨o,h1,h2.1⟩ e (fun z=>nomatch z) h
  | @dT a kvs ea=>
    cases (show u=Value.ref a from rx)
    obtain ⟨_,_,xs,_,o,es,ep,h1,h2,_⟩:=(show ObjOk X.prog X.w H s.heap a (.dT kvs) from I.hok a _ ea)
    exact PySem.W.kia_one PySem.W.kitx_dict I.kIn ⟨o,h1,h2.1⟩ e (fun z=>nomatch z) h
  | @ins a C dx fs ea cl ha hn htk hm=>
    cases (show u=Value.ref a from rx)
    obtain ⟨mA,O,_⟩:=ZgO I.hok ea
    obtain ⟨od,J,_⟩:=O.look
    exact PySem.W.kia_one (PySem.W.kitx_own (cl.get _) cl.hd ha hn htk hm) I.kIn J e (fun z=>nomatch z) h
end
end L2
namespace L2
open PySem PySem.Spec PyProof.Rows
structure Room (k:Nat) (A:Around):Prop where
  hd:A.handled=none
  dp:A.depth+3*k+5<recursionLimit
  un:A.units+16*k+200<cLine
theorem Room.mono {j k:Nat} {A:Around} (r:Room k A) (h:j≤k):Room j A:=⟨r.hd,by have:=r.dp; omega,by have:=r.un; omega⟩
theorem Room.deeper {k:Nat} {A:Around} (r:Room (k+1) A) (env:Env):Room k (A.deeper env):=
  ⟨r.hd,by have:=r.dp; show A.depth+1+3*k+5<_; omega,by have:=r.un; show A.units+3+16*k+200<_; omega⟩
theorem Room.depth {k:Nat} {A:Around} (r:Room k A):A.depth<recursionLimit:=by have:=r.dp; omega
theorem Room.units {k:Nat} {A:Around} (r:Room k A):A.units+64<cLine:=by have:=r.un; omega
def Zff:TA:=fun _ H Q=>Q [] H
def Zdf (ta:TE) (tr:TA):TA:=fun σ H Q=>ta σ H fun x H1=>tr σ H1 fun xs H2=>Q (x::xs) H2
section
variable {X:Cx} {e:Expr} {es:List Expr} {te:TE} {t:TA} {pos:Pos}
theorem zW:PA X [] Zff:=fun _ _ _ _ H Q I h=>Calls.spliced_nil ⟨[],H,I,.nil,h⟩
theorem zx (ha:PE X e te) (hr:PA X es t) (hs:starEach (e::es) X.env=(false,eval e X.env)::starEach es X.env:=by rfl):PA X (e::es) (Zdf te t):=by
  intro pos pins s σ H Q I h
  rw [hs]
  show wpAny _ _ (spliced ((false,eval e X.env)::backTo pos (starEach es X.env))) _ _ s
  refine Calls.spliced_cons (thn (ha pins s σ H _ I h) fun u s1 ⟨x,H1,I1,r1,q1⟩=>?_)
  exact thn (hr pos pins s1 σ H1 _ I1 q1) fun us s2 ⟨xs,H2,I2,r2,q2⟩=>⟨x::xs,H2,I2,.cons r1 r2,q2⟩
def Zjq (t:TA):TE:=fun σ H Q=>t σ H fun xs H1=>xs.length≤sizeLine∧∀p,H1 p=none→Q (.ref p) (upd H1 p (.tup xs))
def Zju (t:TA):TE:=fun σ H Q=>t σ H fun xs H1=>xs.length≤sizeLine∧∀p,H1 p=none→Q (.ref p) (upd H1 p (.lst xs))
theorem Zhw {x1} (h:PA X es t):PE X (.Tuple es x1 pos) (Zjq t):=by
  intro pins s σ H Q I hq
  refine wpAny_Tuple_spliced (thn (h pos pins s σ H _ I hq) fun us s1 ⟨xs,H1,I1,r,z,q⟩=>⟨by rw [←r.length]; exact z,?_⟩)
  have hf:H1 s1.heap.objs.size=none:=I1.hok.fresh (Nat.le_refl _)
  refine ⟨.ref s1.heap.objs.size,upd H1 s1.heap.objs.size (.tup xs),I1.laid (t':=s1.toks) (fun b u e=>Heap.get?_push_of_some _ e) (Nat.le_refl _) ?_,rfl,q _ hf⟩
  exact ⟨z,us,r,⟨_,Heap.get?_push_size _ rfl,rfl,_,rfl⟩⟩
theorem Zfx (h:PA X es t):PE X (.List es pos) (Zju t):=by
  intro pins s σ H Q I hq
  refine wpAny_List_spliced (thn (h pos pins s σ H _ I hq) fun us s1 ⟨xs,H1,I1,r,z,q⟩=>⟨by rw [←r.length]; exact z,?_⟩)
  have hf:H1 s1.heap.objs.size=none:=I1.hok.fresh (Nat.le_refl _)
  refine ⟨.ref s1.heap.objs.size,upd H1 s1.heap.objs.size (.lst xs),I1.laid (t':=s1.toks) (fun b u e=>Heap.get?_push_of_some _ e) (Nat.le_refl _) ?_,rfl,q _ hf⟩
  exact ⟨z,us,0,r,Heap.get?_push_size _ rfl⟩
end
abbrev Sp:=List V→Hp→VK→XK→Prop
abbrev CXT:=List Env→Hp→Shared→XK→Value→Shared→Prop
structure ZgX (P:Program) (w:World) (K:PySem.W.Frag) (mg:Str→Option Value) (base:Heap) (A:Around) (outer:List Env) (s:Shared) (H:Hp):Prop where
  frames:A.frames=some outer
  mod:Mod K mg base
  bs:∀b o,base.get? b=some o→s.heap.get? b=some o∧H b=none
  bsz:base.objs.size≤s.heap.objs.size
  funs:s.heap.FunFrames base outer
  frf:∀b∈frs outer,H b=none
  hok:HOk P w H s.heap
  bare:AllBare s.gens
def CE (outer:List Env) (P:Program) (w:World) (H:Hp) (s:Shared) (Q:VK) (u:Value) (s':Shared):Prop:=
  ∃v H',s'.os=s.os∧AllBare s'.gens∧Un (frs outer) [] H H' s.heap s'.heap∧HOk P w H' s'.heap∧RelV v u∧Q v H'
def CR (CX:CXT) (outer:List Env) (P:Program) (w:World) (H:Hp) (s:Shared) (Q:VK) (E:XK) (r:Result) (s':Shared):Prop:=
  match r with
  | .ok (.ret u)=>CE outer P w H s Q u s'
  | .ok _=>False
  | .error e=>CX outer H s E e s'
structure FnOk (P:Program) (w:World) (K:PySem.W.Frag) (mg:Str→Option Value) (base:Heap) (CX:CXT) (k:Nat) (f:Addr) (fd:FuncData) (ps:List Str) (sp:Sp):Prop where
  len:∀vs H Q E,sp vs H Q E→vs.length=ps.length
  run:∀(A:Around) (outer:List Env) (s:Shared) (H:Hp) (args:Args) (us:List Value) (vs:List V) (Q:VK) (E:XK),Room k A→ZgX P w K mg base A outer s H→BindsTo s fd args (ps.zip us)→Vals vs us→sp vs H Q E→
    codeAny (model P w) A (.call (.ref f) args) (CR CX outer P w H s Q E) s
theorem FnOk.imp {P:Program} {w:World} {K:PySem.W.Frag} {mg:Str→Option Value} {base:Heap} {CX:CXT} {k:Nat} {f:Addr} {fd:FuncData} {ps:List Str} {sp sp':Sp} (F:FnOk P w K mg base CX k f fd ps sp)
    (h:∀vs H Q E,sp' vs H Q E→sp vs H Q E):FnOk P w K mg base CX k f fd ps sp':=
  ⟨fun vs H Q E q=>F.len vs H Q E (h _ _ _ _ q),fun A outer s H args us vs Q E hr he hb hv hs=>F.run A outer s H args us vs Q E hr he hb hv (h _ _ _ _ hs)⟩
section
variable {X:Cx} {pins:List (Addr×Obj)} {σ:St} {H:Hp} {s s':Shared}
theorem Inv.env0 (I:Inv X pins σ H s):ZgX X.prog X.w X.K X.mg X.base X.A X.stack s H:=
  ⟨I.ok.frames,I.ok.mod,I.bs,Nat.le_trans I.ok.bsz I.sz,I.stack,I.stkFree,I.hok,I.bare⟩
theorem Inv.after {Q:VK} {u:Value} (I:Inv X pins σ H s) (h:CE X.stack X.prog X.w H s Q u s'):EP X pins σ Q u s':=by
  obtain ⟨v,H',os,bare,un,hok,r,q⟩:=h
  obtain ⟨hh,g,d,t,os'⟩:=s'
  obtain rfl:os'=s.os:=os
  exact ⟨v,H',I.call (h':=hh) (g':=g) (d':=d) (t':=t) (ch:=[]) un hok bare (fun b z=>absurd z (by simp)),r,q⟩
end
def Zg1 (sp:Sp) (dvs:List V) (E:XK) (t:TA):TE:=fun σ H Q=>t σ H fun vs H1=>sp (vs++dvs) H1 Q E
def Binds (K:PySem.W.Frag) (fd:FuncData) (ps:List Str) (ds:List Value):Prop:=
  ∀(s:Shared) (us:List Value),K.In s.heap→(us++ds).length=ps.length→BindsTo s fd ⟨us,[]⟩ (ps.zip (us++ds))
theorem Binds.all {K:PySem.W.Frag} {fd:FuncData} {ps:List Str} (h:∀us:List Value,us.length=ps.length→bindArgs fd ⟨us,[]⟩=pure (ps.zip us)):Binds K fd ps []:=fun s us _ hl=>by
  rw [List.append_nil] at hl ⊢
  exact .of_eq (h us hl)
def Zd4 (CX:CXT) (X:Cx) (E:XK):Prop:=∀(pins:List (Addr×Obj)) (σ:St) (H:Hp) (s:Shared) (e:Value) (s':Shared),Inv X pins σ H s→CX X.stack H s E e s'→X.xe e s'
section
variable {X:Cx} {CX:CXT} {k:Nat} {f C:Addr} {fd:FuncData} {ps:List Str} {sp:Sp} {dvs:List V} {ds:List Value} {E:XK} {x m:Str} {p pos apos:Pos} {e o:Expr} {es:List Expr} {ta:TE} {t:TA}
theorem Zhl {pins:List (Addr×Obj)} {σ:St} {H:Hp} {s:Shared} {Q:VK} {us:List Value} {vs:List V} (F:FnOk X.prog X.w X.K X.mg X.base CX k f fd ps sp) (hr:Room k X.A) (hb:Binds X.K fd ps ds) (hd:Vals dvs ds) (hx:Zd4 CX X E)
    (I:Inv X pins σ H s) (r:Vals vs us) (h:sp (vs++dvs) H Q E):wpAny (model X.prog X.w) X.A (call (.ref f) us) (EP X pins σ Q) X.xe s:=by
  have r2:Vals (vs++dvs) (us++ds):=r.append hd
  have hl:(us++ds).length=ps.length:=by rw [←r2.length]; exact F.len _ _ _ _ h
  refine wpAny_call (codeAny_mono (F.run X.A X.stack s H ⟨us,[]⟩ (us++ds) (vs++dvs) Q E hr I.env0 (hb s us I.kIn hl) r2 h) fun r s' hq=>?_)
  cases r with
  | error e=>exact hx pins σ H s e s' I hq
  | ok fl=>
    cases fl with
    | ret u=>exact I.after hq
    | next=>exact False.elim hq
    | brk=>exact False.elim hq
    | cont=>exact False.elim hq
theorem ZgB (F:FnOk X.prog X.w X.K X.mg X.base CX k f fd ps sp) (hr:Room k X.A) (hg:Gl X x) (hm:X.mg x=some (.ref f)) (hk:PySem.W.keepIn X.K (.ref f)=true) (hb:Binds X.K fd ps ds) (hd:Vals dvs ds) (hx:Zd4 CX X E)
    (ha:PA X (e::es) t) (hdb:(x == ("__debug__":Str))=false:=by decide) (he:starEach (e::es) X.env=(false,eval e X.env)::starEach es X.env:=by rfl) (hpl:(backTo pos (starEach es X.env)).any (·.1)=false:=by rfl) :
    PE X (.Call (.Name x p) (e::es) [] pos) (Zg1 sp dvs E t):=by
  intro pins s σ H Q I h
  refine wpAny_Call_Name_kw (ZcT I hg hm ?_ hdb)
  refine PySem.W.callWith_K (h₀:=X.base) I.ok.mod.kin hk (thn (ha pos pins s σ H _ I h) fun us s1 ⟨vs,H1,I1,r,q⟩=>⟨I1.kIn,?_⟩) he hpl
  exact Zhl F hr hb hd hx I1 r q
structure Mk (K:PySem.W.Frag) (C f:Addr):Prop where
  makes:PySem.W.makesIn K C=true
  init:PySem.W.findIn K (.ref C) "__init__"=some (some (.ref f))
  fn:PySem.W.isFn K (.ref f)=true
  kp:PySem.W.keepIn K (.ref C)=true
end
section
variable {X:Cx} {CX:CXT} {k:Nat} {f C:Addr} {fd:FuncData} {ps ks:List Str} {sp:Sp} {E:XK} {x m:Str} {p pos apos kpos:Pos} {e o:Expr} {es:List Expr} {kws:List Keyword} {te ta:TE} {t tk:TA} {nm:Option Str}
structure ZjU (K:PySem.W.Frag) (fd:FuncData) (ps ks:List Str) (g:List Value→List Value→List Value) (gV:List V→List V→List V):Prop where
  to:∀(s:Shared) (us ws:List Value),K.In s.heap→(g us ws).length=ps.length→BindsTo s fd ⟨us,ks.zip ws⟩ (ps.zip (g us ws))
  rel:∀{vs:List V} {us:List Value} {zs:List V} {ws:List Value},Vals vs us→Vals zs ws→Vals (gV vs zs) (g us ws)
variable {g:List Value→List Value→List Value} {gV:List V→List V→List V}
end
structure ZF (N P:List Str) (sc:Scope):Prop where
  kind:sc.kind=.function
  co:sc.isCoroutine=false
  gen:sc.isGenerator=false
  nd:N.Nodup
  pre:N.take P.length=P
  par:∀x∈P,sc.names.lookup x=some .local∨sc.names.lookup x=some .cell
  nofree:∀y∈sc.names,y.2≠.free
theorem Zcw {kindOf:Str→Option NameKind} {x:Str}:∀{binds:List (Str×Value)} {m:Str→Option Value},(∀v,(x,v)∉binds)→bindL kindOf binds m x=m x
  | [],_,_=>rfl
  | (n,v)::r,m,h=>by
    unfold bindL
    rw [Zcw fun w hw=>h w (List.mem_cons_of_mem _ hw)]
    split
    · have:x≠n:=by rintro rfl; exact h v List.mem_cons_self
      simp [this]
    · rfl
theorem Zcy {kindOf:Str→Option NameKind} {x:Str}:∀{binds:List (Str×Value)} {m:Str→Option Value},(∀v,(x,v)∉binds)→bindC kindOf binds m x=m x
  | [],_,_=>rfl
  | (n,v)::r,m,h=>by
    unfold bindC
    rw [Zcy fun w hw=>h w (List.mem_cons_of_mem _ hw)]
    split
    · rfl
    · have:x≠n:=by rintro rfl; exact h v List.mem_cons_self
      simp [this]
theorem Zcx {kindOf:Str→Option NameKind} {x:Str} {v:Value}:∀{P:List Str} {vs:List Value} {i:Nat} {m:Str→Option Value},P.Nodup→P[i]?=some x→vs[i]?=some v→kindOf x=some .local→
    bindL kindOf (P.zip vs) m x=some v
  | [],_,_,_,_,h,_,_=>by simp at h
  | _::_,[],_,_,_,_,h,_=>by simp at h
  | p::P,w::vs,0,m,nd,h1,h2,hk=>by
    simp at h1 h2; subst h1; subst h2
    show bindL kindOf ((p,w)::P.zip vs) m p=_
    unfold bindL
    rw [Zcw fun v hv=>(List.nodup_cons.mp nd).1 (List.of_mem_zip hv).1,if_pos hk]
    simp
  | p::P,w::vs,i+1,m,nd,h1,h2,hk=>by
    show bindL kindOf ((p,w)::P.zip vs) m x=_
    unfold bindL
    exact Zcx (i:=i) (List.nodup_cons.mp nd).2 (by simpa using h1) (by simpa using h2) hk
theorem Zcz {kindOf:Str→Option NameKind} {x:Str} {v:Value}:∀{P:List Str} {vs:List Value} {i:Nat} {m:Str→Option Value},P.Nodup→P[i]?=some x→vs[i]?=some v→kindOf x≠some .local→
    bindC kindOf (P.zip vs) m x=some v
  | [],_,_,_,_,h,_,_=>by simp at h
  | _::_,[],_,_,_,_,h,_=>by simp at h
  | p::P,w::vs,0,m,nd,h1,h2,hk=>by
    simp at h1 h2; subst h1; subst h2
    show bindC kindOf ((p,w)::P.zip vs) m p=_
    unfold bindC
    rw [Zcy fun v hv=>(List.nodup_cons.mp nd).1 (List.of_mem_zip hv).1,if_neg hk]
    simp
  | p::P,w::vs,i+1,m,nd,h1,h2,hk=>by
    show bindC kindOf ((p,w)::P.zip vs) m x=_
    unfold bindC
    exact Zcz (i:=i) (List.nodup_cons.mp nd).2 (by simpa using h1) (by simpa using h2) hk
def Zaa (N:List Str) (vs:List V):St:=vs.map some++List.replicate (N.length-vs.length) none
def ZcV (CX:CXT) (P:Program) (w:World) (K:PySem.W.Frag) (mg:Str→Option Value) (base:Heap) (N:List Str) (qual:Str) (scope:Scope) (f:Addr) (cd:Value) (A:Around) (outer:List Env) (s:Shared) (H:Hp) (E:XK):Cx where
  prog:=P
  w:=w
  K:=K
  mg:=mg
  base:=base
  A:=A.deeper (envOfC qual scope s.heap.objs.size f cd)
  N:=N
  s₀:=s
  H₀:=H
  env:=envOfC qual scope s.heap.objs.size f cd
  outer:=outer
  stack:=envOfC qual scope s.heap.objs.size f cd::outer
  ex:=[]
  calm:=true
  fn:=fun _=>true
  pn:=[]
  xe:=fun e s'=>wpAny (model P w) (A.deeper (envOfC qual scope s.heap.objs.size f cd)) (leaving (envOfC qual scope s.heap.objs.size f cd) e) (fun _ s''=>CX outer H s E e s'') (fun e' s''=>CX outer H s E e' s'') s'
theorem Zdz {sc:Scope} {n:Nat} {x:Str} (h:sc.names.lookup x=some .cell):∃c,(cellsFrom n sc.names []).lookup x=some c:=by
  have q:=PySem.W.cellsFrom_some sc.names n [] (.inl h)
  exact Option.isSome_iff_exists.mp q
theorem Ze0 {CX:CXT} {P:Program} {w:World} {K:PySem.W.Frag} {mg:Str→Option Value} {base:Heap} {N ps:List Str} {qual:Str} {scope:Scope} {f:Addr} {cd:Value} {A:Around} {outer:List Env} {s s1:Shared} {H:Hp} {E:XK} {us:List Value} {vs:List V}
    (S:ZF N ps scope) (hd:A.handled=none) (e0:ZgX P w K mg base A outer s H) (hl:vs.length=ps.length) (r:Vals vs us)
    (x:InCallC s s.heap.objs.size (bindL (envOfC qual scope s.heap.objs.size f cd).kindOf (ps.zip us) fun _=>none) (cellsFrom (s.heap.objs.size+1) scope.names []) (bindC (envOfC qual scope s.heap.objs.size f cd).kindOf (ps.zip us) fun _=>none) s1) :
    Inv (ZcV CX P w K mg base N qual scope f cd A outer s H E) [] (Zaa N vs) H s1:=by
  have hpl:ps.length≤N.length:=by have:=congrArg List.length S.pre; rw [List.length_take] at this; omega
  obtain ⟨h1,tk,rfl,hk⟩:=x.done
  have noA:∀b:Addr,b∉(ZcV CX P w K mg base N qual scope f cd A outer s H E).ex:=fun b z=>absurd (show b∈([]:List Addr) from z) (by simp)
  refine ⟨⟨e0.mod,S.kind,rfl,rfl,Nat.le_refl _,fun y z c h1 h2=>?_,fun y hy=>?_,fun y c _ h=>?_,fun _=>hd,Around.frames_deeper e0.frames,.inr ⟨rfl,rfl⟩,fun b z=>absurd z (noA b),e0.bs,e0.bsz,fun b _ _=>noA b,fun b z=>absurd z (noA b),e0.funs,e0.frf⟩,
    rfl,e0.bare,Un.kept hk,⟨_,x.toInCall.ns,fun i y v h1 h2 h3=>?_⟩,fun y c h=>⟨_,x.cell y c h⟩,e0.hok.fresh (Nat.le_refl _),fun y c h=>?_,fun p hp=>absurd (show p∈([]:List (Addr×Obj)) from hp) (by simp),e0.hok.kept hk,?_⟩
  · exact name_of_addr x.apart (PySem.mem_of_lookup h1) (PySem.mem_of_lookup h2)
  · have hy:scope.names.lookup y=some .cell∨scope.names.lookup y=some .free:=hy
    rcases hy with hy | hy
    · exact Zdz hy
    · exact absurd rfl (S.nofree _ (PySem.mem_of_lookup hy))
  · exact Nat.le_of_lt (x.above y c (PySem.mem_of_lookup h))
  · have hi:i<vs.length:=by
      unfold Zaa at h2
      by_cases hi:i<vs.length
      · exact hi
      · rw [List.getElem?_append_right (by simpa using hi)] at h2
        rw [List.getElem?_replicate] at h2
        split at h2<;>cases h2
    have ha:vs[i]?=some v:=by
      unfold Zaa at h2
      rw [List.getElem?_append_left (by simpa using hi),List.getElem?_map] at h2
      cases e:vs[i]? with
      | none=>rw [e] at h2; cases h2
      | some a=>rw [e] at h2; cases h2; rfl
    obtain ⟨u,hu,rv⟩:=r.get ha
    have hp:ps[i]?=some y:=by
      rw [←S.pre,List.getElem?_take_of_lt (by omega)]; exact h1
    have ndP:ps.Nodup:=by rw [←S.pre]; exact S.nd.sublist (List.take_sublist _ _)
    refine ⟨u,rv,?_⟩
    rcases S.par y (List.mem_of_getElem? hp) with k | k
    · exact .inl ⟨k,Zcx ndP hp hu k⟩
    · obtain ⟨c,e⟩:=Zdz (n:=s.heap.objs.size+1) k
      refine .inr ⟨.inl k,c,e,?_⟩
      have q:=x.cell y c e
      rw [Zcz ndP hp hu (by show scope.names.lookup y≠_; rw [k]; decide)] at q
      exact q
  · exact e0.hok.fresh (Nat.le_of_lt (x.above y c (PySem.mem_of_lookup h)))
  · unfold Zaa
    show _=N.length
    rw [List.length_append,List.length_map,List.length_replicate]
    omega
theorem ZiZ {CX:CXT} {P:Program} {w:World} {K:PySem.W.Frag} {mg:Str→Option Value} {base:Heap} {k:Nat} {f:Addr} {name qual:Str} {params:Arguments} {body:List Stmt} {scope:Scope} {dV kV doc pm cdv ct oc:Value} {an od:Option Addr}
    {osl:Array (Option Value)} {N ps:List Str} {sp:Sp} (lk:K.lookup f=some ⟨oc,od,.func (PySem.W.fnOf name qual params body scope dV kV doc pm an cdv ct),osl⟩) (hcd:PySem.W.codeIn K cdv qual=true) (S:ZF N ps scope)
    (len:∀vs H Q E,sp vs H Q E→vs.length=ps.length)
    (hbody:∀(A:Around) (outer:List Env) (s:Shared) (H:Hp) (vs:List V) (Q:VK) (E:XK),Room k (A.deeper (envOfC qual scope s.heap.objs.size f cdv))→sp vs H Q E→
      ∃t,PSs (ZcV CX P w K mg base N qual scope f cdv A outer s H E) body t∧t { nx:=fun _ H'=>Q .non H',rt:=Q } (Zaa N vs) H) :
    FnOk P w K mg base CX (k+1) f (PySem.W.fnOf name qual params body scope dV kV doc pm an cdv ct) ps sp:=by
  refine ⟨len,fun A outer s H args us vs Q E hr e0 hb r hsp=>?_⟩
  have hl:=len _ _ _ _ hsp
  have KX:K.In s.heap:=e0.mod.kin.keeps fun b o e=>(e0.bs b o e).1
  have lim:s.heap.NoLimit:=e0.mod.nolimit.keeps fun b o e=>(e0.bs b o e).1
  have hkind:∀y∈ps.zip us,scope.names.lookup y.1=some .local∨(scope.names.lookup y.1=some .cell∧((cellsFrom (s.heap.objs.size+1) scope.names []).lookup y.1).isSome=true):=fun ⟨n,v⟩ hy=>by
    rcases S.par n (List.of_mem_zip hy).1 with q | q
    · exact .inl q
    · exact .inr ⟨q,PySem.W.cellsFrom_some _ _ _ (.inl q)⟩
  refine codeAny_call_function hr.depth (KX _ _ lk) rfl S.co S.gen rfl (PySem.W.codeRec_of KX hcd) (hb _ _ _ _ ?_)
  refine wpAny_newFunctionEnv_cells S.kind hkind fun env he s1 x=>?_
  subst he
  refine ⟨lim.keeps x.toInCall.keep,codeAny_func ?_⟩
  obtain ⟨t,ht,hq⟩:=hbody A outer s H vs Q E (hr.deeper _) hsp
  have I:Inv (ZcV CX P w K mg base N qual scope f cdv A outer s H E) [] (Zaa N vs) H s1:=Ze0 S hr.hd e0 hl r x
  refine wpAny_mono (ht [] s1 (Zaa N vs) H _ I hq) (fun fl s' hs=>?_) fun e s' hs=>hs
  have fin:∀{σ':St} {H':Hp} {v:V} {u:Value},Inv (ZcV CX P w K mg base N qual scope f cdv A outer s H E) [] σ' H' s'→RelV v u→Q v H'→CE outer P w H s Q u s':=
    fun {σ' H' v u} J rv q=>⟨v,H',J.os,J.bare,J.base,J.hok,rv,q⟩
  cases fl with
  | ret u=>
    obtain ⟨v,σ',H',J,rv,q⟩:=hs
    exact fin J rv q
  | next=>
    obtain ⟨σ',H',J,q⟩:=hs
    exact fin (v:=V.non) (u:=Value.none) J rfl q
  | brk=>
    obtain ⟨_,_,_,q⟩:=hs
    exact False.elim q
  | cont=>
    obtain ⟨_,_,_,q⟩:=hs
    exact False.elim q
end L2
namespace L2
open PySem PySem.Spec PyProof.Rows
section
variable {X:Cx} {x:Str} {p pos:Pos} {e:Expr} {es:List Expr} {t:TA} {id T:String} {r:List V→Hp→VK→Prop}
def tCB (r:List V→Hp→VK→Prop) (t:TA):TE:=fun σ H Q=>t σ H fun vs H1=>r vs H1 Q
theorem ZfB (hc:CallR X (.builtin id) r) (hg:Gl X x) (hm:X.mg x=none) (hv:bootBuiltins x=some (.builtin id)) (ha:PA X (e::es) t) (hn:x≠"__name__":=by decide) (hdb:(x == ("__debug__":Str))=false:=by decide)
    (he:starEach (e::es) X.env=(false,eval e X.env)::starEach es X.env:=by rfl) (hpl:(backTo pos (starEach es X.env)).any (·.1)=false:=by rfl):PE X (.Call (.Name x p) (e::es) [] pos) (tCB r t):=by
  intro pins s σ H Q I h
  refine wpAny_Call_Name_kw (ZbZ I hg hm hv ?_ hn hdb)
  exact PyProof.Rows.callWith_builtin1 (thn (ha pos pins s σ H _ I h) fun us s1 ⟨vs,H1,I1,r1,q1⟩=>hc pins s1 σ H1 vs us Q I1 r1 q1) he hpl
theorem ZeL (hc:CallR X (.type T) r) (hg:Gl X x) (hm:X.mg x=none) (hv:bootBuiltins x=some (.type T)) (ha:PA X (e::es) t) (hn:x≠"__name__":=by decide) (hdb:(x == ("__debug__":Str))=false:=by decide)
    (he:starEach (e::es) X.env=(false,eval e X.env)::starEach es X.env:=by rfl) (hpl:(backTo pos (starEach es X.env)).any (·.1)=false:=by rfl):PE X (.Call (.Name x p) (e::es) [] pos) (tCB r t):=by
  intro pins s σ H Q I h
  refine wpAny_Call_Name_kw (ZbZ I hg hm hv ?_ hn hdb)
  exact PyProof.Rows.callWith_type1 (thn (ha pos pins s σ H _ I h) fun us s1 ⟨vs,H1,I1,r1,q1⟩=>hc pins s1 σ H1 vs us Q I1 r1 q1) he hpl
end
end L2
namespace HT
open PySem PyProof.Rows
section
open PySem.SeqAt
open PySem.AutoSeq1 (wpAny_loadPart')
open PySem.MeetsSeq PySem.MeetsSeq2 PySem.MeetsSeq3
end
section
variable {prog:Program} {w:World} {A:Around} {E:Value→Shared→Prop} {s:Shared}
theorem cat_tup {t b:Addr} {vs ws:List Value} {Q:Value→Shared→Prop} (ht:IsTup s.heap t vs.toArray) (hb:IsTup s.heap b ws.toArray) (hv:vs≠[])
    (h1:ws=[]→Q (.ref t) s) (h2:ws≠[]→Q (.ref s.heap.objs.size) { s with heap:=s.heap.push { cls:=.type "tuple",data:=.seq (vs++ws).toArray } })
    (hsz:vs.length+ws.length≤sizeLine):wpAny (model prog w) A (binaryOp .Add (.ref t) (.ref b)) Q E s:=by
  obtain ⟨⟨cls,dd,data,sl⟩,ho,hc,n,hd⟩:=id ht
  obtain ⟨⟨cls2,dd2,data2,sl2⟩,ho2,hc2,n2,hd2⟩:=id hb
  simp only at hc hd hc2 hd2
  subst hc hd hc2 hd2
  have e:vs.toArray++ws.toArray=(vs++ws).toArray:=by simp
  by_cases hw:ws=[]
  · exact concat_meets ⟨_,ho,rfl⟩ ⟨_,ho2,rfl⟩ noFill_tuple_add seq_tuple_add PySem.F.slot_tuple_add PySem.F.entry_tuple_add (PySem.F.args_tuple_add_2 _ _)
      (tuple_addW1 t b vs.toArray ws.toArray n n2 dd dd2 sl sl2 (by simpa using hv) (by simp [hw])) ⟨ho,ho2,h1 hw⟩
  · refine concat_meets ⟨_,ho,rfl⟩ ⟨_,ho2,rfl⟩ noFill_tuple_add seq_tuple_add PySem.F.slot_tuple_add PySem.F.entry_tuple_add (PySem.F.args_tuple_add_2 _ _)
      (tuple_addW2 t b vs.toArray ws.toArray n n2 dd dd2 sl sl2 (by simpa using hv) (by simpa using hw) (by rw [List.size_toArray,List.size_toArray]; exact hsz)) ⟨ho,ho2,?_⟩
    rw [e]
    exact h2 hw
def sIx (n d:Nat):Option Int→Nat
  | none=>d
  | some v=>if v<0 then (v+(n:Int)).toNat else min v.toNat n
theorem Zhk (n d:Nat) (hd:d≤n) (o:Option Int):sIx n d o≤n:=by
  cases o with
  | none=>exact hd
  | some v=>
    show (if v<0 then (v+(n:Int)).toNat else min v.toNat n)≤n
    by_cases hv:v<0
    · rw [if_pos hv]; omega
    · rw [if_neg hv]; exact Nat.min_le_right _ _
theorem Zep (v:Int) (n d:Nat):(if v<0 then max (v+(n:Int)) 0 else min v (n:Int))=((sIx n d (some v):Nat):Int):=by
  show (if v<0 then max (v+(n:Int)) 0 else min v (n:Int))=(((if v<0 then (v+(n:Int)).toNat else min v.toNat n):Nat):Int)
  by_cases hv:v<0
  · simp only [if_pos hv]; omega
  · simp only [if_neg hv]; omega
theorem Zd3 (lo hi:Option Int) (n:Nat):Builtin.Slice.sliceAdjust lo hi 1 (n:Int)=(((sIx n 0 lo:Nat):Int),((sIx n n hi:Nat):Int)):=by
  have h1:¬((1:Int)<0):=by omega
  unfold Builtin.Slice.sliceAdjust
  simp only [h1,if_false]
  refine Prod.ext ?_ ?_
  · cases lo with
    | none=>rfl
    | some v=>exact Zep v n 0
  · cases hi with
    | none=>rfl
    | some v=>exact Zep v n n
theorem ZdP (i j:Nat):Builtin.Slice.slicePlaces (i:Int) (j:Int) 1=j-i:=by
  unfold Builtin.Slice.slicePlaces
  have h1:(1:Int) > 0:=by omega
  simp only [h1,if_true,Int.ediv_one]
  split<;>omega
theorem ZbJ {v:Value} {o:Option Int} {Q:Option Int→Shared→Prop} (p:IsPart v o) (h:Q o s):wpAny (model prog w) A (Builtin.Slice.slicePartIndex v) Q E s:=by
  cases p with
  | none=>exact slicePart_none h
  | int i t=>exact slicePart_int h
theorem Za5 {sl:Addr} {vl vu:Value} {lo hi:Option Int} {n:Nat} {Q:Int×Int×Nat→Shared→Prop} (hs:s.heap.IsSliceOf sl vl vu .none) (pl:IsPart vl lo) (pu:IsPart vu hi)
    (h:Q (((sIx n 0 lo:Nat):Int),1,sIx n n hi-sIx n 0 lo) s):wpAny (model prog w) A (Builtin.Slice.sliceApplied (.ref sl) (pure (n:Int))) Q E s:=by
  obtain ⟨os,hos,hcs,hds⟩:=id hs
  unfold Builtin.Slice.sliceApplied Builtin.Slice.sliceFields
  refine wpAny_bind (wpAny_bind (wpAny_field hos hds (x:=vl) rfl (wpAny_bind (wpAny_field hos hds (x:=vu) rfl (wpAny_bind (wpAny_field hos hds (x:=.none) rfl (wpAny_pure ?_)))))))
  refine wpAny_bind (slicePart_none ?_)
  show wpAny _ _ (if ((1:Int) == 0)=true then _ else _) _ _ s
  rw [if_neg (by decide)]
  refine wpAny_bind (ZbJ pl (wpAny_bind (ZbJ pu (wpAny_bind (wpAny_pure ?_)))))
  show wpAny _ _ (match Builtin.Slice.sliceAdjust lo hi 1 (n:Int) with | (lo,hi)=>pure (lo,(1:Int),Builtin.Slice.slicePlaces lo hi 1)) _ _ s
  rw [Zd3 lo hi n]
  show wpAny _ _ (pure (((sIx n 0 lo:Nat):Int),(1:Int),Builtin.Slice.slicePlaces ((sIx n 0 lo:Nat):Int) ((sIx n n hi:Nat):Int) 1)) _ _ s
  rw [ZdP]
  exact wpAny_pure h
theorem Zft (xs:Array Value) (i k:Nat):((List.range k).filterMap fun (m:Nat)=>xs[((i:Int)+(m:Int)*1).toNat]?).toArray=((xs.toList.drop i).take k).toArray:=by
  have e:(fun (m:Nat)=>xs[((i:Int)+(m:Int)*1).toNat]?)=fun m=>xs[i+m]?:=by
    funext m
    have:((i:Int)+(m:Int)*1).toNat=i+m:=by omega
    rw [this]
  rw [e]
  have:=pick_run xs i k
  rw [List.filterMap_map] at this
  have e2:((fun x=>xs[x]?)∘fun x=>i+x)=fun m=>xs[i+m]?:=rfl
  rw [e2] at this
  rw [this]
theorem getItem_tuple_cut {t sl:Addr} {items:Array Value} {vl vu:Value} {lo hi:Option Int} {Q:Value→Shared→Prop} (ht:IsTup s.heap t items) (hs:s.heap.IsSliceOf sl vl vu .none) (pl:IsPart vl lo) (pu:IsPart vu hi)
    (hw:¬(sIx items.size 0 lo=0∧sIx items.size items.size hi=items.size))
    (h:Q (.ref s.heap.objs.size) { s with heap:=s.heap.push { cls:=.type "tuple",data:=.seq ((items.toList.drop (sIx items.size 0 lo)).take (sIx items.size items.size hi-sIx items.size 0 lo)).toArray } })
    (hsz:items.size≤sizeLine):wpAny (model prog w) A (getItem (.ref t) (.ref sl)) Q E s:=by
  have htake:sizeOk (.seq ((items.toList.drop (sIx items.size 0 lo)).take (sIx items.size items.size hi-sIx items.size 0 lo)).toArray):=by
    show ((items.toList.drop (sIx items.size 0 lo)).take (sIx items.size items.size hi-sIx items.size 0 lo)).toArray.size≤sizeLine
    rw [List.size_toArray,List.length_take,List.length_drop,Array.length_toList]
    omega
  have hj:sIx items.size items.size hi≤items.size:=Zhk _ _ (Nat.le_refl _) hi
  obtain ⟨os,hos,hcs,hds⟩:=id hs
  have hTs:s.TypeIs (.ref sl) "slice":=⟨os,hos,hcs⟩
  unfold getItem
  try with_reducible refine wpAny_holding ?_
  first | refine wpAny_bind (wpAny_pure ?_) | skip
  refine wpAny_bind (wpAny_sequenceKey ht.typeIs (by decide) ?_)
  refine wpAny_bind (wpAny_callSpecial?_slot (name:=Str.ofString "__getitem__") ht.typeIs PyProof.Rows.slot_tuple_getitem
    (wpAny_call_entry PyProof.Rows.slot_tuple_getitem ht.typeIs entry_tuple_getitem ?_ (args_tuple_getitem _ _)))
  show wpAny _ _ (Builtin.Tuple.tupleItemsOf (.ref t) >>= _) _ _ s
  refine wpAny_bind (tupleItemsOf_ ht ?_)
  refine wpAny_bind (wpAny_typeOf hTs ?_)
  rw [if_pos (by decide)]
  refine wpAny_bind (Za5 hs pl pu ?_)
  have hno:¬((((sIx items.size 0 lo:Nat):Int) == 0 && (1:Int) == 1 && (sIx items.size items.size hi-sIx items.size 0 lo) == items.size)=true):=by
    intro q
    rw [Bool.and_eq_true,Bool.and_eq_true] at q
    have q1:((sIx items.size 0 lo:Nat):Int)=0:=eq_of_beq q.1.1
    have q2:sIx items.size items.size hi-sIx items.size 0 lo=items.size:=eq_of_beq q.2
    exact hw ⟨by omega,by omega⟩
  show wpAny _ _ (if (((sIx items.size 0 lo:Nat):Int) == 0 && (1:Int) == 1 && (sIx items.size items.size hi-sIx items.size 0 lo) == items.size)=true then _ else _) _ _ s
  rw [if_neg hno,Zft]
  first
    | exact wpAny_bind (m:=Builtin.Tuple.tupleExact _) (wpAny_newObj_type (wpAny_pure ⟨_,rfl,wpAny_pure h⟩) htake)
    | exact wpAny_bind (m:=Builtin.Tuple.tupleExact _) (wpAny_newObj_type (wpAny_bind (wpAny_pure (wpAny_pure ⟨_,rfl,wpAny_pure h⟩))) htake)
    | exact wpAny_bind (wpAny_bind (m:=Builtin.Tuple.tupleExact _) (wpAny_newObj_type (wpAny_pure (wpAny_pure ⟨_,rfl,wpAny_pure h⟩)) htake))
    | exact wpAny_bind (wpAny_bind (m:=Builtin.Tuple.tupleExact _) (wpAny_newObj_type (wpAny_pure ⟨_,rfl,wpAny_pure h⟩) htake))
end
end HT
namespace L2
open PySem PySem.Spec PyProof.Rows
abbrev TO:=St→Hp→(Option Int→Hp→Prop)→Prop
def PO (X:Cx) (e:Option Expr) (t:TO):Prop:=
  ∀(pins:List (Addr×Obj)) (s:Shared) (σ:St) (H:Hp) (Q:Option Int→Hp→Prop),Inv X pins σ H s→t σ H Q→
    wpAny (model X.prog X.w) X.A (evalPart e X.env) (fun u s'=>∃o H',Inv X pins σ H' s'∧IsPart u o∧Q o H') X.xe s
def Zgk:TO:=fun _ H Q=>Q none H
def Zil (t:TE):TO:=fun σ H Q=>t σ H fun x H1=>∃i,x=.int i∧Q (some i) H1
section
variable {X:Cx} {e:Expr} {te:TE} {lo hi:Option Expr} {tl th:TO} {pos p2:Pos}
theorem Zgv:PO X none Zgk:=by
  intro pins s σ H Q I h
  rw [evalPart_none]
  exact wpAny_pure ⟨none,H,I,.none,h⟩
theorem Zgu (h:PE X e te):PO X (some e) (Zil te):=by
  intro pins s σ H Q I hw
  rw [evalPart_some]
  refine thn (h pins s σ H _ I hw) fun u s1 ⟨x,H1,I1,r1,q1⟩=>?_
  obtain ⟨i,rfl,q⟩:=q1
  obtain ⟨t,rfl⟩:=r1
  exact ⟨some i,H1,I1,.int i t,q⟩
def SlR (X:Cx) (r:V→Option Int→Option Int→Hp→VK→Prop):Prop:=
  ∀(pins:List (Addr×Obj)) (s:Shared) (σ:St) (H:Hp) (x:V) (v vl vu:Value) (lo hi:Option Int) (sl:Addr) (Q:VK),Inv X pins σ H s→RelV x v→s.heap.IsSliceOf sl vl vu .none→IsPart vl lo→IsPart vu hi→r x lo hi H Q→
    ∃T id,typeLookup (.type T) "__getitem__"=pure (some (.builtin id))∧s.TypeIs v T∧wpAny (model X.prog X.w) X.A (getItem v (.ref sl)) (EP X pins σ Q) X.xe s
theorem SlR.or {r r':V→Option Int→Option Int→Hp→VK→Prop} (h:SlR X r) (h':SlR X r'):SlR X (fun x lo hi H Q=>r x lo hi H Q∨r' x lo hi H Q):=by
  intro pins s σ H x v vl vu lo hi sl Q I rx hs pl pu q
  rcases q with q | q
  · exact h pins s σ H x v vl vu lo hi sl Q I rx hs pl pu q
  · exact h' pins s σ H x v vl vu lo hi sl Q I rx hs pl pu q
def tSl (r:V→Option Int→Option Int→Hp→VK→Prop) (te:TE) (tl th:TO):TE:=fun σ H Q=>te σ H fun x H1=>tl σ H1 fun l H2=>th σ H2 fun u H3=>r x l u H3 Q
theorem Zfw {r:V→Option Int→Option Int→Hp→VK→Prop} (hr:SlR X r) (he:PE X e te) (hl:PO X lo tl) (hu:PO X hi th):PE X (.Subscript e (.Slice lo hi none p2) pos) (tSl r te tl th):=by
  intro pins s σ H Q I h
  refine Subscript_ (thn (he pins s σ H _ I h) fun v s1 ⟨x,H1,I1,r1,q1⟩=>?_)
  refine wpAny_Slice (thn (hl pins s1 σ H1 _ I1 q1) fun vl s2 ⟨l,H2,I2,pl,q2⟩=>thn (hu pins s2 σ H2 _ I2 q2) fun vu s3 ⟨u,H3,I3,pu,q3⟩=>?_)
  rw [evalPart_none]
  refine wpAny_pure ?_
  have I4:Inv X pins σ H3 { s3 with heap:=s3.heap.push { cls:=.type "slice",data:=.fields #[vl,vu,.none] } }:=I3.kept (t':=s3.toks) fun b ob q=>Heap.get?_push_of_some _ q
  obtain ⟨T,id,hT,ht,hg⟩:=hr pins { s3 with heap:=s3.heap.push { cls:=.type "slice",data:=.fields #[vl,vu,.none] } } σ H3 x v vl vu l u s3.heap.objs.size Q I4 r1 (Heap.IsSliceOf.new ..) pl pu q3
  show wpAny (model X.prog X.w) X.A (subscriptTail e (.Slice lo hi none p2) v (.ref s3.heap.objs.size)) (EP X pins σ Q) X.xe { s3 with heap:=s3.heap.push { cls:=.type "slice",data:=.fields #[vl,vu,.none] } }
  exact tail_any (ops:=[.ref s3.heap.objs.size,v]) ht hT hg (by with_unfolding_all rfl)
def Zdw (xs:List V) (lo hi:Option Int):List V:=(xs.drop (HT.sIx xs.length 0 lo)).take (HT.sIx xs.length xs.length hi-HT.sIx xs.length 0 lo)
theorem Zbq (xs:List V) (lo hi:Option Int):(Zdw xs lo hi).length≤xs.length:=by
  unfold Zdw
  rw [List.length_take,List.length_drop]
  omega
def Zjy (K:PySem.W.Frag):V→Option Int→Option Int→Hp→VK→Prop:=fun x lo hi H Q=>∃a xs,x=.ref a∧SqT K H a xs∧
  ¬(HT.sIx xs.length 0 lo=0∧HT.sIx xs.length xs.length hi=xs.length)∧∀p,H p=none→Q (.ref p) (upd H p (.tup (Zdw xs lo hi)))
theorem Zhj:SlR X (Zjy X.K):=by
  intro pins s σ H x v vl vu lo hi sl Q I rx hs pl pu h
  obtain ⟨a,xs,rfl,hx,hw,q⟩:=h
  cases rx
  obtain ⟨its,r,ht,hz⟩:=I.tuple hx
  have hlen:its.toArray.size=xs.length:=by rw [List.size_toArray]; exact r.length.symm
  refine ⟨"tuple",_,PyProof.Rows.slot_tuple_getitem.lookup,ht.typeIs,?_⟩
  refine HT.getItem_tuple_cut ht hs pl pu (by rw [hlen]; exact hw) ?_ (by rw [hlen]; exact hz)
  rw [hlen]
  refine ⟨.ref s.heap.objs.size,_,I.laid (t':=s.toks) (o:=.tup (Zdw xs lo hi)) (fun b ob q=>Heap.get?_push_of_some _ q) (Nat.le_refl _) ?_,rfl,q _ (I.hok.fresh (Nat.le_refl _))⟩
  exact ⟨Nat.le_trans (Zbq xs lo hi) hz,_,(r.drop (HT.sIx xs.length 0 lo)).take (HT.sIx xs.length xs.length hi-HT.sIx xs.length 0 lo),IsTup.new _ _⟩
def Ziw (K:PySem.W.Frag):R2:=fun x y H Q=>∃a b xs ys,x=.ref a∧y=.ref b∧SqT K H a xs∧SqT K H b ys∧xs≠[]∧xs.length+ys.length≤sizeLine∧
  (ys=[]→Q (.ref a) H)∧(ys≠[]→∀p,H p=none→Q (.ref p) (upd H p (.tup (xs++ys))))
theorem Vals.nil_iff {xs:List V} {us:List Value} (r:Vals xs us):us=[]↔xs=[]:=by
  cases r with
  | nil=>simp
  | cons _ _=>simp
theorem op_catT:OpR X (binaryOp .Add) (Ziw X.K):=by
  intro pins s σ H x y v u Q I rx ry h
  obtain ⟨a,b,xs,ys,rfl,rfl,ha,hb,hx,hz,q1,q2⟩:=h
  cases rx
  cases ry
  obtain ⟨its,r1,p1,_⟩:=I.tuple ha
  obtain ⟨its2,r2,p2,_⟩:=I.tuple hb
  refine HT.cat_tup p1 p2 (fun z=>hx (r1.nil_iff.mp z)) (fun z=>⟨.ref a,H,I,rfl,q1 (r2.nil_iff.mp z)⟩) (fun z=>?_) (by rw [←r1.length,←r2.length]; exact hz)
  refine ⟨.ref s.heap.objs.size,_,I.laid (t':=s.toks) (o:=.tup (xs++ys)) (fun b ob q=>Heap.get?_push_of_some _ q) (Nat.le_refl _) ?_,rfl,q2 (fun w=>z (r2.nil_iff.mpr w)) _ (I.hok.fresh (Nat.le_refl _))⟩
  exact ⟨by rw [List.length_append]; exact hz,_,r1.append r2,IsTup.new _ _⟩
end
end L2
namespace L2
open PySem PySem.Spec PyProof.Rows
def ixN (n:Nat) (i:Int):Option Nat:=if 0≤i then (if i<n then some i.toNat else none) else if -(n:Int)≤i then some (i+n).toNat else none
def atI {α:Type} (xs:List α) (i:Int):Option α:=(ixN xs.length i).bind fun j=>xs[j]?
theorem ZgM {n:Nat} {i:Int} {j:Nat} (h:ixN n i=some j):seqIndex? i n=some j∧j<n∧-(n:Int)≤i∧i<n:=by
  unfold ixN at h
  by_cases h0:0≤i
  · rw [if_pos h0] at h
    by_cases h1:i<n
    · rw [if_pos h1] at h
      have e:i.toNat=j:=Option.some.inj h
      exact ⟨by rw [seqIndex_of h0 h1,e],by omega,by omega,h1⟩
    · rw [if_neg h1] at h; cases h
  · rw [if_neg h0] at h
    by_cases h1 : -(n:Int)≤i
    · rw [if_pos h1] at h
      have e:(i+n).toNat=j:=Option.some.inj h
      exact ⟨by rw [seqIndex_neg (by omega) h1,e],by omega,h1,by omega⟩
    · rw [if_neg h1] at h; cases h
theorem Zc1 {α:Type} {xs:List α} {i:Int} {v:α} (h:atI xs i=some v):∃j,seqIndex? i xs.length=some j∧xs[j]?=some v∧j<xs.length∧-(xs.length:Int)≤i∧i<xs.length:=by
  unfold atI at h
  cases e:ixN xs.length i with
  | none=>rw [e] at h; cases h
  | some j=>
    rw [e] at h
    obtain ⟨h1,h2,h3,h4⟩:=ZgM e
    exact ⟨j,h1,h,h2,h3,h4⟩
theorem Zc0 {α:Type} {xs:List α} {j:Nat} {v:α} (h:xs[j]?=some v):atI xs (j:Int)=some v:=by
  have hj:j<xs.length:=(List.getElem?_eq_some_iff.mp h).1
  have e:ixN xs.length (j:Int)=some j:=by
    unfold ixN
    rw [if_pos (by omega),if_pos (by omega)]; simp
  unfold atI; rw [e]; exact h
def Zew (b:Expr):Prop:=∀o i,subscripted b false o i=operate [o,i] (getItem o i)
def IxR (X:Cx) (r:R2):Prop:=
  ∀(value slice:Expr) (pins:List (Addr×Obj)) (s:Shared) (σ:St) (H:Hp) (x y:V) (v u:Value) (Q:VK),Inv X pins σ H s→RelV x v→RelV y u→r x y H Q→
    subscripted slice false v u=operate [v,u] (getItem v u)→wpAny (model X.prog X.w) X.A (subscriptTail value slice v u) (EP X pins σ Q) X.xe s
def MtR (X:Cx) (id:String) (r:V→List V→Hp→VK→Prop):Prop:=
  ∀(pins:List (Addr×Obj)) (s:Shared) (σ:St) (H:Hp) (x:V) (xs:List V) (v:Value) (us:List Value) (Q:VK),Inv X pins σ H s→RelV x v→Vals xs us→r x xs H Q→
    wpAny (model X.prog X.w) X.A (call (.builtin id) (v::us)) (EP X pins σ Q) X.xe s
section
variable {X:Cx} {a b:Expr} {ta tb:TE} {pos:Pos}
theorem IxR.or {r r':R2} (h:IxR X r) (h':IxR X r'):IxR X (fun x y H Q=>r x y H Q∨r' x y H Q):=by
  intro value slice pins s σ H x y v u Q I rx ry q hs
  rcases q with q | q
  · exact h value slice pins s σ H x y v u Q I rx ry q hs
  · exact h' value slice pins s σ H x y v u Q I rx ry q hs
theorem ZiC {r:R2} (hr:IxR X r) (ha:PE X a ta) (hb:PE X b tb) (hs:Zew b):PE X (.Subscript a b pos) (tOp r ta tb):=by
  intro pins s σ H Q I h
  exact Subscript_ (Zh0 ha hb I h fun v u s2 x y H2 I2 rx ry q=>hr a b pins s2 σ H2 x y v u Q I2 rx ry q (hs _ _))
def Ziv (K:PySem.W.Frag):R2:=fun x y H Q=>∃p xs i v,x=.ref p∧y=.int i∧SqL K H p xs∧atI xs i=some v∧Q v H
def Zit (K:PySem.W.Frag):R2:=fun x y H Q=>∃p xs i v,x=.ref p∧y=.int i∧SqT K H p xs∧atI xs i=some v∧Q v H
def Ziu:R2:=fun x y H Q=>∃z i c,x=.str z∧y=.int i∧z.length≤sizeLine∧atI z.cps.toList i=some c∧Q (.str ⟨#[c]⟩) H
theorem ix_list:IxR X (Ziv X.K):=by
  intro value slice pins s σ H x y v u Q I rx ry h hs
  obtain ⟨p,xs,i,z,rfl,rfl,hq,he,q⟩:=h
  cases rx
  obtain ⟨t,rfl⟩:=ry
  obtain ⟨its,r,pl,hz⟩:=I.list hq
  obtain ⟨j,h1,h2,h3,h4,h5⟩:=Zc1 he
  obtain ⟨w,ew,rw'⟩:=r.get h2
  have hl:=r.length
  have hn:=Zbc
  have fin:EP X pins σ Q w s:=⟨z,H,I,rw',q⟩
  by_cases h0:0≤i
  · have hj:i.toNat=j:=by
      rw [seqIndex_of h0 h5] at h1
      exact Option.some.inj h1
    exact item_listR pl.isList h0 (by omega) (by rw [hj]; simpa using ew) fin hs
  · have hj:(i+(its.toArray.size:Int)).toNat=j:=by
      rw [seqIndex_neg (by omega) h4] at h1
      rw [List.size_toArray,←hl]
      exact Option.some.inj h1
    exact subscriptTail_builtinR (x:=w) pl.isList.typeIs slot_list_getitem.lookup
      (wpAny_getItem_list_neg (Q:=fun r s'=>r=w∧EP X pins σ Q r s') pl.isList (by omega) (by rw [List.size_toArray]<;>omega) (by omega) (by rw [hj]; simpa using ew) ⟨rfl,fin⟩) hs
theorem ix_tup:IxR X (Zit X.K):=by
  intro value slice pins s σ H x y v u Q I rx ry h hs
  obtain ⟨p,xs,i,z,rfl,rfl,hq,he,q⟩:=h
  cases rx
  obtain ⟨t,rfl⟩:=ry
  obtain ⟨its,r,pl,hz⟩:=I.tuple hq
  obtain ⟨j,h1,h2,h3,h4,h5⟩:=Zc1 he
  obtain ⟨w,ew,rw'⟩:=r.get h2
  have hl:=r.length
  have hn:=Zbc
  have fin:EP X pins σ Q w s:=⟨z,H,I,rw',q⟩
  exact subscriptTail_builtinR (x:=w) pl.typeIs slot_tuple_getitem.lookup
    (getItem_tuple (j:=j) (Q:=fun r s'=>r=w∧EP X pins σ Q r s') pl (by omega) (by omega) (by rw [List.size_toArray,←hl]; exact h1) (by simpa using ew) ⟨rfl,fin⟩) hs
theorem ZhQ:IxR X Ziu:=by
  intro value slice pins s σ H x y v u Q I rx ry h hs
  obtain ⟨z,i,c,rfl,rfl,hz,he,q⟩:=h
  obtain ⟨t,rfl⟩:=rx
  obtain ⟨t',rfl⟩:=ry
  obtain ⟨j,h1,h2,h3,h4,h5⟩:=Zc1 he
  have hl:z.cps.toList.length=z.length:=by simp [Str.length]
  rw [hl] at h1 h4 h5
  have hn:=Zbc
  exact tail_any (typeIs_str s z t) slot_str_getitem.lookup (getItem_str (c:=c) (by
    have e1:decide (i < -(2 ^ 63:Int))=false:=decide_eq_false (by omega)
    have e2:decide (i≥2 ^ 63)=false:=decide_eq_false (by omega)
    rw [e1,e2,Bool.or_false]) (by rw [h1]; simpa using h2) ⟨.str ⟨#[c]⟩,H,I.tok _,⟨_,rfl⟩,q⟩) hs
def rIx (K:PySem.W.Frag):R2:=fun x y H Q=>Ziv K x y H Q∨Zit K x y H Q∨Ziu x y H Q
theorem ZhR:IxR X (rIx X.K):=ix_list.or (ix_tup.or ZhQ)
theorem ZcH (lo hi:Option Int) (n:Nat):(sliceBounds lo hi none n).1=((HT.sIx n 0 lo:Nat):Int)∧(sliceBounds lo hi none n).2.1=((HT.sIx n n hi:Nat):Int)∧(sliceBounds lo hi none n).2.2=1:=by
  refine ⟨?_,?_,rfl⟩
  · cases lo with
    | none=>simp [sliceBounds,HT.sIx]
    | some i=>
      simp only [sliceBounds,HT.sIx,Option.getD_none,show (1:Int) > 0 by decide,if_true]
      by_cases h:i<0
      · simp only [h,if_true]<;>omega
      · simp only [h,if_false]<;>omega
  · cases hi with
    | none=>simp [sliceBounds,HT.sIx]
    | some i=>
      simp only [sliceBounds,HT.sIx,Option.getD_none,show (1:Int) > 0 by decide,if_true]
      by_cases h:i<0
      · simp only [h,if_true]<;>omega
      · simp only [h,if_false]<;>omega
theorem Zcd (its:List Value) (lo hi:Option Int):slicePick its.toArray lo hi none=((its.drop (HT.sIx its.length 0 lo)).take (HT.sIx its.length its.length hi-HT.sIx its.length 0 lo)).toArray:=by
  obtain ⟨h1,h2,h3⟩:=ZcH lo hi its.toArray.size
  unfold slicePick
  rw [h1,h2,h3]
  simp only [sliceRange_one,pick_run,List.size_toArray]<;>rfl
def Zir (K:PySem.W.Frag):V→Option Int→Option Int→Hp→VK→Prop:=fun x lo hi H Q=>∃a xs,x=.ref a∧SqL K H a xs∧∀p,H p=none→Q (.ref p) (upd H p (.lst (Zdw xs lo hi)))
theorem sl_list:SlR X (Zir X.K):=by
  intro pins s σ H x v vl vu lo hi sl Q I rx hs pl pu h
  obtain ⟨a,xs,rfl,hx,q⟩:=h
  cases rx
  obtain ⟨its,r,ht,hz⟩:=I.list hx
  have hlen:=r.length
  refine ⟨"list",_,slot_list_getitem.lookup,ht.isList.typeIs,?_⟩
  refine wpAny_getItem_list_slice ht.isList hs pl pu .none (by simp) ?_ (by rw [List.size_toArray]<;>omega)
  rw [Zcd,←hlen]
  refine ⟨.ref s.heap.objs.size,_,I.laid (t':=s.toks) (o:=.lst (Zdw xs lo hi)) (fun b ob q=>Heap.get?_push_of_some _ q) (Nat.le_refl _) ?_,rfl,q _ (I.hok.fresh (Nat.le_refl _))⟩
  exact ⟨Nat.le_trans (Zbq xs lo hi) hz,_,0,(r.drop (HT.sIx xs.length 0 lo)).take (HT.sIx xs.length xs.length hi-HT.sIx xs.length 0 lo),Heap.get?_push_size _ rfl⟩
def zF:V→Bool
  | .non=>true
  | .bl _=>true
  | .int _=>true
  | .str _=>true
  | _=>false
def eqV:V→V→Bool
  | .non,.non=>true
  | .bl a,.bl b=>a == b
  | .bl a,.int b=>(if a then 1 else 0) == b
  | .int a,.bl b=>a == (if b then 1 else 0)
  | .int a,.int b=>a == b
  | .str a,.str b=>a == b
  | _,_=>false
theorem ZhY {A:Around} {s:Shared} {y x:V} {u v:Value} (ry:RelV y u) (rx:RelV x v) (fy:zF y=true) (fx:zF x=true):SeqAt.EqAt A s u v (eqV y x):=by
  cases y with
  | non=>
    cases ry
    cases x with
    | non=>cases rx; exact SeqAt.EqAt.same _
    | bl b=>cases rx; exact SeqAt.EqAt.none_bool b
    | int b=>obtain ⟨t,rfl⟩:=rx; exact SeqAt.EqAt.none_int b t
    | str b=>obtain ⟨t,rfl⟩:=rx; exact SeqAt.EqAt.none_str b t
    | _=>exact absurd (show false=true from fx) Bool.false_ne_true
  | bl a=>
    cases ry
    cases x with
    | non=>cases rx; exact SeqAt.EqAt.bool_none a
    | bl b=>cases rx; exact SeqAt.EqAt.bool_bool a b
    | int b=>obtain ⟨t,rfl⟩:=rx; exact SeqAt.EqAt.bool_int a b t
    | str b=>obtain ⟨t,rfl⟩:=rx; exact SeqAt.EqAt.bool_str a b t
    | _=>exact absurd (show false=true from fx) Bool.false_ne_true
  | int a=>
    obtain ⟨t',rfl⟩:=ry
    cases x with
    | non=>cases rx; exact SeqAt.EqAt.int_none a t'
    | bl b=>cases rx; exact SeqAt.EqAt.int_bool a t' b
    | int b=>obtain ⟨t,rfl⟩:=rx; exact SeqAt.EqAt.int_int a t' b t
    | str b=>obtain ⟨t,rfl⟩:=rx; exact SeqAt.EqAt.int_str a t' b t
    | _=>exact absurd (show false=true from fx) Bool.false_ne_true
  | str a=>
    obtain ⟨t',rfl⟩:=ry
    cases x with
    | non=>cases rx; exact SeqAt.EqAt.str_none a t'
    | bl b=>cases rx; exact SeqAt.EqAt.str_bool a t' b
    | int b=>obtain ⟨t,rfl⟩:=rx; exact SeqAt.EqAt.str_int a t' b t
    | str b=>obtain ⟨t,rfl⟩:=rx; exact SeqAt.EqAt.str_str a t' b t
    | _=>exact absurd (show false=true from fx) Bool.false_ne_true
  | _=>exact absurd (show false=true from fy) Bool.false_ne_true
def eqU (x:V) (u:Value):Bool:=match u with
  | .none=>eqV .non x
  | .bool b=>eqV (.bl b) x
  | .int i _=>eqV (.int i) x
  | .str z _=>eqV (.str z) x
  | _=>false
theorem Zf5 {x y:V} {u:Value} (r:RelV y u) (f:zF y=true):eqU x u=eqV y x:=by
  cases y with
  | non=>cases r; rfl
  | bl b=>cases r; rfl
  | int i=>obtain ⟨t,rfl⟩:=r; rfl
  | str z=>obtain ⟨t,rfl⟩:=r; rfl
  | _=>exact absurd (show false=true from f) Bool.false_ne_true
theorem Zc3 {x:V}:∀{xs:List V} {us:List Value},Vals xs us→xs.all zF=true→us.any (eqU x)=xs.any fun y=>eqV y x
  | _,_,.nil,_=>rfl
  | y::xs,u::us,.cons r t,f=>by
    rw [List.all_cons,Bool.and_eq_true] at f
    rw [List.any_cons,List.any_cons,Zf5 r f.1,Zc3 t f.2]
theorem ZbV {A:Around} {s:Shared} {x:V} {v:Value} (rx:RelV x v) (fx:zF x=true):∀{xs:List V} {us:List Value},Vals xs us→xs.all zF=true→∀u∈us,SeqAt.EqAt A s u v (eqU x u)
  | _,_,.nil,_=>fun u hu=>by cases hu
  | y::xs,u::us,.cons r t,f=>fun u' hu=>by
    rw [List.all_cons,Bool.and_eq_true] at f
    rcases List.mem_cons.mp hu with rfl | hu
    · rw [Zf5 r f.1]; exact ZhY r rx f.1 fx
    · exact ZbV rx fx t f.2 u' hu
def inV (x:V) (xs:List V):Bool:=xs.any fun y=>eqV y x
def rIn (K:PySem.W.Frag) (neg:Bool):R2:=fun x y H Q=>∃p xs,y=.ref p∧(SqL K H p xs∨SqT K H p xs)∧zF x=true∧xs.all zF=true∧Q (.bl (if neg then !inV x xs else inV x xs)) H
theorem ZcL:OpR X (compareOp .NotIn) (rIn X.K true):=by
  intro pins s σ H x y v u Q I rx ry h
  obtain ⟨p,xs,rfl,hq,fx,fs,q⟩:=h
  cases ry
  rcases hq with hq | hq
  · obtain ⟨its,r,pl,hz⟩:=I.list hq
    refine SeqAt.notIn_listAt (eqU x) pl.isList (fun w hw=>ZbV rx fx r fs w (by simpa using hw)) ⟨.bl _,H,I,rfl,?_⟩
    rw [show its.toArray.any (eqU x)=its.any (eqU x) by simp,Zc3 r fs]
    exact q
  · obtain ⟨its,r,pl,hz⟩:=I.tuple hq
    refine SeqAt.notIn_tupleAt (eqU x) pl (fun w hw=>ZbV rx fx r fs w (by simpa using hw)) ⟨.bl _,H,I,rfl,?_⟩
    rw [show its.toArray.any (eqU x)=its.any (eqU x) by simp,Zc3 r fs]
    exact q
theorem ZcX:CallR X (.builtin "len") (fun xs H Q=>∃p ys,xs=[.ref p]∧(SqL X.K H p ys∨SqT X.K H p ys)∧Q (.int ys.length) H):=by
  intro pins s σ H xs us Q I r h
  obtain ⟨p,ys,rfl,hq,q⟩:=h
  obtain ⟨u,rfl,rx⟩:=Zcj r
  cases rx
  have hn:=Zbc
  rcases hq with hq | hq
  · obtain ⟨its,r',pl,hz⟩:=I.list hq
    have hlen:=r'.length
    exact Calls.call_len_list pl.isList (by simp only [List.size_toArray]<;>omega) ⟨.int ys.length,H,I.tok _,⟨s.toks+1,by rw [List.size_toArray,hlen]⟩,q⟩
  · obtain ⟨its,r',pl,hz⟩:=I.tuple hq
    have hlen:=r'.length
    exact len_tuple pl (by simp only [List.size_toArray]<;>omega) ⟨.int ys.length,H,I.tok _,⟨s.toks+1,by rw [List.size_toArray,hlen]⟩,q⟩
theorem call_len_str:CallR X (.builtin "len") (fun xs H Q=>∃z,xs=[.str z]∧z.length≤sizeLine∧Q (.int z.length) H):=by
  intro pins s σ H xs us Q I r h
  obtain ⟨z,rfl,hz,q⟩:=h
  obtain ⟨u,rfl,t,rfl⟩:=Zcj r
  have hn:=Zbc
  exact len_str (by omega) ⟨.int z.length,H,I.tok _,⟨_,rfl⟩,q⟩
theorem CallR.or {f:Value} {r r':List V→Hp→VK→Prop} (h:CallR X f r) (h':CallR X f r'):CallR X f (fun xs H Q=>r xs H Q∨r' xs H Q):=by
  intro pins s σ H xs us Q I rs q
  rcases q with q | q
  · exact h pins s σ H xs us Q I rs q
  · exact h' pins s σ H xs us Q I rs q
theorem Zce:CallR X (.type "tuple") (fun xs H Q=>∃p ys,xs=[.ref p]∧((SqL X.K H p ys∧∀l,H l=none→Q (.ref l) (upd H l (.tup ys)))∨(SqT X.K H p ys∧Q (.ref p) H))):=by
  intro pins s σ H xs us Q I r h
  obtain ⟨p,ys,rfl,h⟩:=h
  obtain ⟨u,rfl,rx⟩:=Zcj r
  cases rx
  rcases h with ⟨hq,q⟩ | ⟨hq,q⟩
  · obtain ⟨its,r',pl,hz⟩:=I.list hq
    have hlen:=r'.length
    refine call_tuple_list pl.isList (fun h' kp=>?_) (by simp only [List.size_toArray]<;>omega)
    have I1:Inv X pins σ H { s with heap:=h' }:=I.kept (t':=s.toks) kp
    have I2:Inv X pins σ (upd H h'.objs.size (.tup ys)) { s with heap:=h'.push { cls:=.type "tuple",data:=.seq its.toArray } }:=
      I1.laid (t':=s.toks) (fun b o e=>Heap.get?_push_of_some _ e) (Nat.le_refl _) (show ObjOk X.prog X.w _ _ _ (.tup ys) from ⟨hz,its,r',IsTup.new _ _⟩)
    exact ⟨.ref h'.objs.size,_,I2,rfl,q _ (I1.hok.fresh (Nat.le_refl _))⟩
  · obtain ⟨its,r',pl,hz⟩:=I.tuple hq
    exact call_tuple_same pl ⟨.ref p,H,I,rfl,q⟩
def tyV (K:PySem.W.Frag) (T:String) (x:V) (H:Hp):Prop:=match x with
  | .str _=>T = "str"
  | .int _=>T = "int"
  | .ref p=>(T = "list"∧∃xs,SqL K H p xs)∨(T = "tuple"∧∃o,K.lookup p=some o∧o.cls=.type "tuple"∧o.dict=none)∨
      (T = "dict"∧((∃kvs,H p=some (.dK kvs))∨∃kvs,H p=some (.dT kvs)))∨(T = "set"∧∃S n,H p=some (.set S n))
  | _=>False
theorem Zhd {pins:List (Addr×Obj)} {σ:St} {H:Hp} {s:Shared} {T:String} {x:V} {v:Value} (I:Inv X pins σ H s) (r:RelV x v) (ty:tyV X.K T x H) :
    s.TypeIs v T∧∀a,v=.ref a→∃ob,s.heap.get? a=some ob∧ob.dict=none:=by
  cases x with
  | str z=>
    obtain ⟨t,rfl⟩:=r
    cases (show T = "str" from ty)
    exact ⟨typeIs_str s z t,fun _ e=>nomatch e⟩
  | int i=>
    obtain ⟨t,rfl⟩:=r
    cases (show T = "int" from ty)
    exact ⟨typeIs_int s i t,fun _ e=>nomatch e⟩
  | ref p=>
    cases r
    rcases ty with ⟨rfl,xs,hq⟩ | ⟨rfl,o,hk,hc,hd⟩ | ⟨rfl,hk⟩ | ⟨rfl,S,n,hk⟩
    · obtain ⟨its,_,pl,_⟩:=I.list hq
      refine ⟨pl.isList.typeIs,fun a e=>?_⟩
      cases e
      obtain ⟨o,n,e,c,hd,_⟩:=pl
      exact ⟨o,e,hd⟩
    · refine ⟨⟨o,I.kIn p o hk,hc⟩,fun a e=>?_⟩
      cases e
      exact ⟨o,I.kIn _ o hk,hd⟩
    · have z:∃o,s.heap.get? p=some o∧o.ExactDict:=by
        rcases hk with ⟨kvs,hk⟩ | ⟨kvs,hk⟩
        · obtain ⟨_,_,_,_,o,_,_,e,ex,_⟩:=I.hok p _ hk
          exact ⟨o,e,ex⟩
        · obtain ⟨_,_,_,_,o,_,_,e,ex,_⟩:=I.hok p _ hk
          exact ⟨o,e,ex⟩
      obtain ⟨o,e,ex⟩:=z
      refine ⟨⟨o,e,ex.1⟩,fun a e2=>?_⟩
      cases e2
      exact ⟨o,e,ex.2.1⟩
    · obtain ⟨o,_,_,_,e,ex,_⟩:=I.hok p _ hk
      refine ⟨⟨o,e,ex.1⟩,fun a e2=>?_⟩
      cases e2
      exact ⟨o,e,ex.2.1⟩
  | _=>exact False.elim ty
def tBM (K:PySem.W.Frag) (T:String) (r:V→List V→Hp→VK→Prop) (to:TE) (t:TA):TE:=fun σ H Q=>to σ H fun x H1=>tyV K T x H1∧t σ H1 fun xs H2=>r x xs H2 Q
variable {o e:Expr} {es:List Expr} {to:TE} {t:TA} {name:Str} {apos cpos:Pos} {T id:String} {r:V→List V→Hp→VK→Prop}
theorem Zbp (pa:PlainAttrs T) (slot:Slot T name id) (hty:typeOf (.builtin id)=pure (.type "method_descriptor")) (hm:MtR X id r) (ho:PE X o to) (ha:PA X (e::es) t)
    (hbase:attributeBase o name X.env (eval o X.env)=eval o X.env:=by rfl)
    (hfew:((backTo cpos (starEach (e::es) X.env)).all (fun x=>!x.1) && (backToKw cpos (keywordEach [] X.env)).all (fun x=>x.1.isSome)
      && decide ((e::es).length+([]:List Keyword).length+(if ([]:List Keyword).isEmpty then 0 else 1)<30))=true:=by rfl)
    (hline:(apos.endLine == cpos.line)=true:=by rfl) (hs:starEach (e::es) X.env=(false,eval e X.env)::starEach es X.env:=by rfl) (hplain:(backTo cpos (starEach es X.env)).any (·.1)=false:=by rfl) :
    PE X (.Call (.Attribute o name apos) (e::es) [] cpos) (tBM X.K T r to t):=by
  intro pins s σ H Q I h
  refine wpAny_Call_method_late hbase hfew hline rfl (thn (ho pins s σ H _ I h) fun v s1 ⟨x,H1,I1,r1,ty,q1⟩=>?_)
  obtain ⟨h1,h2⟩:=Zhd I1 r1 ty
  refine ⟨T,id,pa,slot,hty,h1,h2,?_⟩
  have hA:=ha cpos pins s1 σ H1 _ I1 q1
  rw [hs] at hA ⊢
  refine Calls.callWith_builtin (by show (false || (backTo cpos (starEach es X.env)).any (·.1))=false; rw [hplain]<;>rfl) (Calls.evalArgs_plain ?_)
  exact thn hA fun us s2 ⟨vs,H2,I2,r2,q2⟩=>hm pins s2 σ H2 x vs v us Q I2 r1 r2 q2
end
end L2
namespace L2
open PySem PySem.Spec PyProof.Rows
def MtM (X:Cx) (id:String) (r:V→List V→Hp→VK→Prop):Prop:=
  ∀(pins:List (Addr×Obj)) (s:Shared) (σ:St) (H:Hp) (x:V) (xs:List V) (v:Value) (us:List Value) (Q:VK),Inv X pins σ H s→RelV x v→Vals xs us→r x xs H Q→
    wpAny (model X.prog X.w) X.A (call (.builtin id) (v::us)) (EP X pins σ Q) X.xe s
theorem Vals.one:∀{x:V} {us:List Value},Vals [x] us→∃u,us=[u]∧RelV x u
  | _,_,.cons r .nil=>⟨_,rfl,r⟩
theorem Vals.rep {xs:List V} {us:List Value} (h:Vals xs us):∀k:Nat,Vals (List.replicate k xs).flatten (List.replicate k us).flatten
  | 0=>.nil
  | k+1=>by
    rw [List.replicate_succ,List.replicate_succ,List.flatten_cons,List.flatten_cons]
    exact Vals.append h (Vals.rep h k)
theorem Zas (its:List Value):∀(k:Nat) (acc:List Value),
    List.foldl (fun x1 x2=>x1++x2) acc.toArray (List.replicate k its.toArray)=(acc++(List.replicate k its).flatten).toArray
  | 0,acc=>by simp
  | k+1,acc=>by
    have e:acc.toArray++its.toArray=(acc++its).toArray:=by simp
    have e2:(acc++its)++(List.replicate k its).flatten=acc++(List.replicate (k+1) its).flatten:=by
      rw [List.replicate_succ,List.flatten_cons,List.append_assoc]
    rw [←e2,←Zas its k (acc++its),←e,List.replicate_succ,List.foldl_cons]
section
variable {X:Cx} {pins:List (Addr×Obj)} {σ:St} {H:Hp} {s:Shared} {l b:Addr} {xs ys zs:List V}
theorem Inv.lset {its its':List Value} {n:Nat} {f:Array Value→Array Value} {t':Nat} (I:Inv X pins σ H s) (hH:H l=some (.lst xs))
    (e:s.heap.get? l=some { cls:=.type "list",data:=.seq its.toArray n }) (hf:f its.toArray=its'.toArray) (hv:Vals ys its') (hz:ys.length≤sizeLine) :
    Inv X pins σ (upd H l (.lst ys)) { s with heap:=s.heap.update l (Obj.mapSeq f),toks:=t' }:=by
  have q:=PySem.IsL.update e f
  rw [hf] at q
  refine I.write (x:=l) (e:=l) (by rw [hH]; exact trivial) (.inl rfl) (fun b' u hb hu=>(Heap.get?_update_other s.heap (Obj.mapSeq f) (Ne.symm hb)).trans hu) ⟨_,q⟩ ?_
  exact ⟨hz,its',_,hv,q⟩
theorem Inv.lnew {its:List Value} {t':Nat} (I:Inv X pins σ H s) (hv:Vals ys its) (hz:ys.length≤sizeLine) :
    Inv X pins σ (upd H s.heap.objs.size (.lst ys)) { s with heap:=s.heap.push { cls:=.type "list",data:=.seq its.toArray },toks:=t' }:=
  I.laid (fun _ _ q=>Heap.get?_push_of_some _ q) (Nat.le_refl _) ⟨hz,its,0,hv,Heap.get?_push_size _ rfl⟩
theorem Inv.fresh (I:Inv X pins σ H s):H s.heap.objs.size=none:=I.hok.fresh (Nat.le_refl _)
theorem Inv.lstM (I:Inv X pins σ H s) (hH:H l=some (.lst xs)):xs.length≤sizeLine∧∃(its:List Value) (n:Nat),Vals xs its∧xs.length=its.length∧s.heap.get? l=some { cls:=.type "list",data:=.seq its.toArray n }:=by
  obtain ⟨z,its,n,r,e⟩:=I.hok l _ hH
  exact ⟨z,its,n,r,r.length,e⟩
theorem ZaS {n:Nat} (h:n≤sizeLine):Builtin.List.listTooLong n=false:=by
  unfold Builtin.List.listTooLong
  exact decide_eq_false (by omega)
end
section
variable {X:Cx}
def Zeb:V→List V→Hp→VK→Prop:=fun x vs H Q=>∃l xs y,x=.ref l∧vs=[y]∧H l=some (.lst xs)∧xs.length<sizeLine∧Q .non (upd H l (.lst (xs++[y])))
theorem ZeO:MtM X "list.append" Zeb:=by
  intro pins s σ H x vs v us Q I rx rv h
  obtain ⟨l,xs,y,rfl,rfl,hH,hz,q⟩:=h
  cases rx
  obtain ⟨u,rfl,ru⟩:=rv.one
  obtain ⟨z,its,n,r,hl,e⟩:=I.lstM hH
  refine call_meets F.slot_list_append ⟨_,e,rfl⟩ F.entry_list_append (F.args_list_append_2 _ _) (PySem.list_append l its.toArray n u (by rw [List.size_toArray]; omega)) ⟨e,?_⟩
  refine ⟨.non,_,I.lset (its':=its++[u]) hH e (by simp) (r.append (.cons ru .nil)) ?_,rfl,q⟩
  rw [List.length_append,List.length_singleton]
  omega
def Zgo:V→List V→Hp→VK→Prop:=fun x vs H Q=>∃l b xs zs,x=.ref l∧vs=[.ref b]∧H l=some (.lst xs)∧H b=some (.lst zs)∧xs.length+zs.length≤sizeLine∧Q .non (upd H l (.lst (xs++zs)))
theorem Zh7:MtM X "list.extend" Zgo:=by
  intro pins s σ H x vs v us Q I rx rv h
  obtain ⟨l,b,xs,zs,rfl,rfl,hH,hB,hz,q⟩:=h
  cases rx
  obtain ⟨u,rfl,ru⟩:=rv.one
  cases ru
  obtain ⟨z,its,n,r,hl,e⟩:=I.lstM hH
  obtain ⟨z2,its2,n2,r2,hl2,e2⟩:=I.lstM hB
  have hsz:its.toArray.size+its2.toArray.size≤sizeLine:=by rw [List.size_toArray,List.size_toArray]; omega
  have hlong:¬(!its.toArray.isEmpty && Builtin.List.listTooLong (its.toArray.size+its2.toArray.size))=true:=by
    rw [ZaS hsz,Bool.and_false]
    exact Bool.false_ne_true
  refine call_meets F.slot_list_extend ⟨_,e,rfl⟩ F.entry_list_extend (F.args_list_extend_2 _ _)
    (AutoSeq1.list_extend_list_list_0 l its.toArray n b its2.toArray n2 hlong (by rw [List.size_toArray]; omega) (by omega)) ⟨e,e2,?_⟩
  refine ⟨.non,_,I.lset (its':=its++its2) hH e (by simp) (r.append r2) ?_,rfl,q⟩
  rw [List.length_append]
  omega
def ZjA:R2:=fun x y H Q=>∃l b xs zs,x=.ref l∧y=.ref b∧H l=some (.lst xs)∧H b=some (.lst zs)∧xs.length+zs.length≤sizeLine∧∀p,H p=none→Q (.ref p) (upd H p (.lst (xs++zs)))
theorem ZhG:OpR X (binaryOp .Add) ZjA:=by
  intro pins s σ H x y v u Q I rx ry h
  obtain ⟨l,b,xs,zs,rfl,rfl,hH,hB,hz,q⟩:=h
  cases rx
  cases ry
  obtain ⟨z,its,n,r,hl,e⟩:=I.lstM hH
  obtain ⟨z2,its2,n2,r2,hl2,e2⟩:=I.lstM hB
  refine PySem.P.add_list e e2 ?_ (by rw [List.size_toArray,List.size_toArray]; omega)
  have ea:its.toArray++its2.toArray=(its++its2).toArray:=by simp
  rw [ea]
  exact ⟨.ref _,_,I.lnew (t':=s.toks) (r.append r2) (by rw [List.length_append]; omega),rfl,q _ I.fresh⟩
def Zjz:R2:=fun x y H Q=>∃l k xs,x=.ref l∧y=.int k∧H l=some (.lst xs)∧-(2 ^ 63)≤k∧k<2 ^ 63∧xs.length*k.toNat≤sizeLine∧
  ∀p,H p=none→Q (.ref p) (upd H p (.lst (List.replicate k.toNat xs).flatten))
theorem ZcS {α:Type} (xs:List α) (k:Nat):(List.replicate k xs).flatten.length=k*xs.length:=by
  induction k with
  | zero=>simp
  | succ k ih=>rw [List.replicate_succ,List.flatten_cons,List.length_append,ih,Nat.succ_mul,Nat.add_comm]
theorem ZhC:OpR X (binaryOp .Mult) Zjz:=by
  intro pins s σ H x y v u Q I rx ry h
  obtain ⟨l,k,xs,rfl,rfl,hH,h1,h2,hz,q⟩:=h
  cases rx
  obtain ⟨t,rfl⟩:=ry
  obtain ⟨z,its,n,r,hl,e⟩:=I.lstM hH
  have hlen:its.toArray.size*k.toNat≤sizeLine:=by rw [List.size_toArray,←hl]; exact hz
  have hcap:¬its.toArray.size*k.toNat > (2 ^ 63-1)/8:=by
    have:(sizeLine:Nat)≤(2 ^ 63-1)/8:=by decide
    omega
  have hfit:¬(!Builtin.List.listFitsIndex k)=true:=by
    rw [fitsIndex_both h1 h2]
    exact Bool.false_ne_true
  have hlong:¬Builtin.List.listTooLong (its.toArray.size*k.toNat)=true:=by
    rw [ZaS hlen]
    exact Bool.false_ne_true
  have hnew:List.foldl (fun x1 x2=>x1++x2) #[] (List.replicate (if its.toArray.isEmpty=true then 0 else k.toNat) its.toArray)=(List.replicate k.toNat its).flatten.toArray:=by
    have f0:∀m:Nat,List.foldl (fun x1 x2=>x1++x2) #[] (List.replicate m its.toArray)=(List.replicate m its).flatten.toArray:=fun m=>by
      have:=Zas its m []
      rw [List.nil_append] at this
      exact this
    rw [f0]
    cases its with
    | nil=>simp
    | cons a r'=>rw [if_neg (by simp)]
  refine wpAny_binaryOp_repeat_ref (T:="list") (U:="int") (by decide) ⟨_,e,rfl⟩ (fun s'=>typeIs_int s' k t) noFill_list_mul F.fills_int_mul F.slot_int_rmul repeat_list F.slot_int_index.lookup
    (call_meets F.slot_int_rmul (typeIs_int s k t) F.entry_int_rmul (F.args_int_rmul_2 _ _) (int___rmul___int_list k t l its.toArray n)
      ⟨e,rfl,⟨_,e,rfl⟩,call_meets F.slot_list_mul ⟨_,e,rfl⟩ F.entry_list_mul (F.args_list_mul_2 _ _) (AutoListH.list___mul___list_int_3 l its.toArray n k t hfit hcap hlong) ⟨e,?_⟩⟩)
  rw [hnew]
  exact ⟨.ref _,_,I.lnew (t':=s.toks) (r.rep k.toNat) (by rw [ZcS,Nat.mul_comm]; exact hz),rfl,q _ I.fresh⟩
end
section
variable {prog:Program} {w:World} {A:Around} {E:Value→Shared→Prop} {s:Shared}
theorem Zd2 {a c n:Nat} (hac:a≤c) (hc:c≤n):sliceBounds (some (a:Int)) (some (c:Int)) none n=((a:Int),(c:Int),1):=by
  simp only [sliceBounds,Option.getD_none]
  have h1:¬((a:Int)<0):=by omega
  have h2:¬((c:Int)<0):=by omega
  simp only [h1,h2,if_false,show (1:Int) > 0 by decide,if_true]
  congr 1
  · omega
  · congr 1; omega
set_option maxRecDepth 100000 in
theorem Zge {l b sl:Addr} {items new:Array Value} {n n2:Nat} {vl vu:Value} {a c:Nat} {Q:Unit→Shared→Prop}
    (e:s.heap.get? l=some { cls:=.type "list",data:=.seq items n }) (e2:s.heap.get? b=some { cls:=.type "list",data:=.seq new n2 }) (hne:l≠b)
    (hs:s.heap.IsSliceOf sl vl vu .none) (pl:IsPart vl (some (a:Int))) (pu:IsPart vu (some (c:Int))) (hac:a≤c) (hc:c≤items.size)
    (hsz:items.size+new.size≤sizeLine) (h:Q () { s with heap:=s.heap.update l (Obj.mapSeq fun xs=>xs.extract 0 a++new++xs.extract c xs.size) }) :
    wpAny (model prog w) A (setItem (.ref l) (.ref sl) (.ref b)) Q E s:=by
  have hl:s.heap.IsList l items:=PySem.IsL.isList e
  have hb:s.heap.IsList b new:=PySem.IsL.isList e2
  obtain ⟨os,hos,hcs,hds⟩:=id hs
  have hTs:s.TypeIs (.ref sl) "slice":=⟨os,hos,hcs⟩
  have hstep:¬((rawPart none == rawInt 0)=true):=Bool.false_ne_true
  have hsame:Builtin.List.listSameRef (.ref l) (.ref b)=false:=by
    unfold Builtin.List.listSameRef
    exact beq_eq_false_iff_ne.mpr hne
  have hmax:(max (a:Int) (c:Int)).toNat=c:=by omega
  have hz':((fun xs:Array Value=>xs.extract 0 a++new++xs.extract c xs.size) items).size≤sizeLine+1:=by
    simp only [Array.size_append,Array.size_extract]
    omega
  unfold setItem
  try with_reducible refine wpAny_holding ?_
  first | refine wpAny_bind (wpAny_pure ?_) | skip
  refine wpAny_bind (wpAny_sequenceKey hl.typeIs (by decide) ?_)
  refine wpAny_bind (wpAny_callSpecial?_slot (name:=Str.ofString "__setitem__") hl.typeIs slot_list_setitem
    (wpAny_call_entry slot_list_setitem hl.typeIs entry_list_setitem ?_ (args_list_setitem _ _ _)))
  show wpAny _ _ (Builtin.List.listSubscript? (.ref sl) >>= _) _ _ s
  refine wpAny_bind ?_
  unfold Builtin.List.listSubscript?
  refine wpAny_bind (wpAny_specialOf hTs slice_no_index ?_)
  simp only [Option.isNone_none,if_true]
  refine wpAny_pure ?_
  show wpAny _ _ (typeOf (.ref sl) >>= _) _ _ s
  refine wpAny_bind (wpAny_typeOf hTs ?_)
  first
    | rw [if_neg (by decide)]
    | refine PySem.W.KFB.if_not (by decide) ?_
  rw [listSliceParts_eq]
  refine wpAny_bind (wpAny_bind (wpAny_field hos hds (x:=.none) rfl (wpAny_bind (wpAny_listPart .none ?_))))
  rw [if_neg hstep]
  refine wpAny_bind (wpAny_field hos hds (x:=vl) rfl (wpAny_bind (wpAny_listPart pl ?_)))
  refine wpAny_bind (wpAny_field hos hds (x:=vu) rfl (wpAny_bind (wpAny_listPart pu (wpAny_pure ?_))))
  first
    | simp only [hsame,Bool.false_eq_true,if_false]
    | refine PySem.W.KFB.if_not hsame ?_
    | (dsimp only
       rw [if_neg (by rw [hsame]; exact Bool.false_ne_true)])
  refine wpAny_bind (m:=Builtin.List.listAllItems (.ref b) "must assign iterable to extended slice") ?_
  unfold Builtin.List.listAllItems
  refine wpAny_bind (wpAny_typeOf hb.typeIs ?_)
  first
    | refine PySem.W.KFB.if_so (by decide) ?_
    | rw [if_pos (by decide)]
    | simp only [beq_self_eq_true,Bool.true_or,if_true]
  unfold Builtin.List.listItems
  refine wpAny_bind (wpAny_seqItems e2 rfl (wpAny_pure ?_))
  refine wpAny_bind (wpAny_bind (wpAny_seqItems e rfl (wpAny_pure ?_)))
  refine wpAny_bind (wpAny_of_eq ((sliceIndices_raw (some (a:Int)) (some (c:Int)) none items.size (by simp)).trans (congrArg (pure:Int×Int×Int→Sem (Int×Int×Int)) (Zd2 hac hc))) ?_)
  show wpAny _ _ (if ((1:Int) == 1)=true then _ else _) _ _ s
  rw [if_pos (by decide)]
  refine wpAny_bind (wpAny_rule ?_)
  first
    | simp only [ZaS hsz,Bool.false_eq_true,if_false]
    | refine PySem.W.KFB.if_not (ZaS hsz) ?_
  first | refine wpAny_bind (wpAny_pure ?_) | skip
  show wpAny _ _ (updateSeq l (fun xs=>xs.extract 0 ((a:Int)).toNat++new++xs.extract (max (a:Int) (c:Int)).toNat xs.size) >>= _) _ _ s
  rw [hmax,Int.toNat_natCast]
  refine wpAny_bind (wpAny_updateSeq (hz:=Nat.le_trans (Nat.le_add_right _ _) hsz) (_hz':=hz') e rfl ?_)
  refine wpAny_bind (wpAny_letGo ?_)
  first
    | exact wpAny_bind (wpAny_pure (wpAny_pure ⟨.none,rfl,wpAny_pure h⟩))
    | exact wpAny_pure ⟨.none,rfl,wpAny_pure h⟩
end
section
variable {X:Cx}
end
end L2
namespace Att
open PySem PySem.W PySem.Calls PyProof.Rows
theorem Zbw {P:Params} {h:Heap}:∀(ns:List Int) (vs:List Value),WellAll P h vs (ns.map WData.int)→IntsAre vs ns:=by
  intro ns
  induction ns with
  | nil=>
    intro vs w
    rw [List.map_nil] at w
    cases w
    exact .nil
  | cons n ns ih=>
    intro vs w
    rw [List.map_cons] at w
    cases w with
    | cons a b=>
      cases a
      exact .cons _ _ (ih _ b)
theorem ZeH {l:OpenLaw} {n:Nat} (hn:l.most=some n) {P:Params} {h:Heap} {args:List WData} {vals:List Value}
    (hpre:l.row.toRowW.claim.pre args=true) (hwl:WellAll P h vals args) :
    ∃a vs ns,vals=[Value.ref a]∧args=[WData.list (ns.map WData.int)]∧h.get? a=some { cls:=.type "list",data:=.seq vs.toArray }∧IntsAre vs ns∧ns.length≤n:=by
  have hsh:WShape.hasAll [] args [.list .int]=true:=(pre_splitW hpre).1
  have hc:l.pre.holds [] { args:=args }=true:=(pre_splitW hpre).2
  obtain ⟨d,r,rfl,h1,h2⟩:=hasAllW_cons hsh
  obtain rfl:=hasAllW_nil h2
  obtain ⟨xs,rfl,h3⟩:=hasW_list h1
  obtain ⟨ns,rfl⟩:=items_int h3
  have hlen:ns.length≤n:=by
    unfold OpenLaw.pre at hc
    have h4:(WTm.not (.lt (.lit (.int (n:Int))) (.len (.arg 0)))).holds [] { args:=[.list (ns.map .int)] }=true:=by
      have h4:=(holds_andW hc).1
      rw [hn] at h4
      exact h4
    have h5:=condW_of h4 (w_not (w_lt w_lit (w_len_list (w_arg rfl))))
    rw [List.length_map] at h5
    refine Nat.le_of_not_lt fun q=>?_
    have q':(n:Int)<((ns.length:Nat):Int):=by omega
    first
      | (rw [decide_eq_true q'] at h5; exact absurd h5 (by decide))
      | (simp at h5; omega)
  cases hwl with
  | cons w1 w2=>
    cases w2
    cases w1 with
    | list ho hall=>exact ⟨_,_,ns,rfl,rfl,ho,Zbw ns _ hall,hlen⟩
theorem ZeJ (l:OpenLaw) (args:List WData):l.row.toRowW.claim.post args (.bool true) args=true:=
  postW_of (r:=l.row.toRowW) (X:=(true == true))
    (show WShape.has [] (.bool true) .bool=true by first | rfl | decide | simp [WShape.has,WShape.arms,WShape.armsAll])
    (show (WTm.eq .res (.lit (.bool true))).value [] { args:=args,res:=some (.bool true),after:=args }=some (.bool (true == true)) from w_eq_bool (w_res rfl) w_lit) rfl
theorem attach_call {l:OpenLaw} {n:Nat} {q:Program} {loose:List Str} {XP:(Str→Option Value)→Heap→Prop} {YP:World→Heap→Prop} {d:DefRec}
    (hn:l.most=some n) (hdf:d.params.defaults=[])
    (call:∀(w:World) (s₀ s₁:Shared) (mg mb:Str→Option Value) (fa:Addr) (o:Obj) (pm cd doc:Value) (a:Addr) (vs:List Value) (ns:List Int),
      Ground q loose [] XP w s₀ mg mb s₁.heap→YP w s₁.heap→
      s₁.heap.get? fa=some o→o.data=.func (docDef d.name d.params d.body d.scope pm cd doc)→s₁.heap.CodeRec cd d.name→mg d.name=some (.ref fa)→
      s₁.heap.get? a=some { cls:=.type "list",data:=.seq vs.toArray }→IntsAre vs ns→ns.length≤n→s₁.gens=#[]→
      codeAny (model l.prog w) callerA (.call (.ref fa) ⟨[.ref a],[]⟩) (fun r s'=>r=.ok (.ret (.bool true))∧OldK s₁.heap s'.heap∧s'.os=s₁.os∧AllBare s'.gens) s₁) :
    WalkO q loose XP YP l.row.toRowW d [] (fun f vs=>PySem.call f vs):=by
  intro w s₀ s₁ mg mb G Y fa o pm cd doc dV kV ho hd hcd hD hmg hg args vals as hpre hlay hrd hwl hlo
  obtain rfl:dV=.none:=Dflts.none hD hdf
  obtain rfl:kV=.none:=Dflts.noKw hD
  obtain ⟨a,vs,ns,rfl,rfl,hobj,hints,hlen⟩:=ZeH hn hpre hwl
  refine enter_call (codeAny_mono (call w s₀ s₁ mg mb fa o pm cd doc a vs ns G Y ho (fd_plain hd) hcd hmg hobj hints hlen hg) fun r s' hq=>?_)
  obtain ⟨rfl,h2,h3,h4⟩:=hq
  exact ⟨.inl ⟨.bool true,.bool true,[],rfl,fun _=>rfl,.bool true,ZeJ l _,fun _=>⟨List.Pairwise.nil,fun _ hm=>(nomatch hm)⟩⟩,h2,h3,h4⟩
section
variable {prog:Program} {w:World} {A:Around} {E:Value→Shared→Prop} {s:Shared} {K:Frag}
end
end Att
namespace L2
open PySem PySem.Spec PyProof.Rows
theorem Zci:∀{vs:List Value} {ns:List Int},IntsAre vs ns→Vals (ns.map V.int) vs
  | _,_,.nil=>.nil
  | _,_,.cons n t h=>.cons ⟨t,rfl⟩ (Zci h)
def ZgW (H:Hp):Prop:=∀b,H b=none∨∃o xs,H b=some (.frz o (.lst xs))
theorem ZfT {P:Program} {w:World} {K:PySem.W.Frag} {mg mb:Str→Option Value} {CX:CXT} {k:Nat} {fa a:Addr} {fd:FuncData} {x:Str} {sp:Sp} {s₁:Shared} {vs:List Value} {ns:List Int}
    (KX:K.In s₁.heap) (hns:s₁.heap.Ns mainGlobals mg) (hb:s₁.heap.Ns builtinsNs mb) (hbb:∀x:Str,x≠"__name__"→mb x=bootBuiltins x) (hlim:s₁.heap.NoLimit) (hg:s₁.gens=#[])
    (ha:s₁.heap.get? a=some { cls:=.type "list",data:=.seq vs.toArray }) (hi:IntsAre vs ns) (hl:ns.length≤sizeLine) (hr:Room k callerA)
    (F:∀base:Heap,K.In base→base.Ns mainGlobals mg→FnOk P w K mg base CX k fa fd [x] sp) (hbind:∀(s:Shared) (u:Value),BindsTo s fd ⟨[u],[]⟩ [(x,u)])
    (hsp:∀H:Hp,ZgW H→SqL K H a (ns.map V.int)→sp [.ref a] H (fun v _=>v=.bl true) fun _ _ _=>False)
    (hCX:∀H e s',CX [] H s₁ (fun _ _ _=>False) e s'→False) :
    codeAny (model P w) callerA (.call (.ref fa) ⟨[.ref a],[]⟩) (fun r s'=>r=.ok (.ret (.bool true))∧OldK s₁.heap s'.heap∧s'.os=s₁.os∧AllBare s'.gens) s₁:=by
  have rv:=Zci hi
  have lenV:=hi.length
  have core:∀H:Hp,ZgW H→SqL K H a (ns.map V.int)→HOk P w H s₁.heap→(∀b,H b≠none→b=a)→(H a≠none→K.lookup a=none)→
      codeAny (model P w) callerA (.call (.ref fa) ⟨[.ref a],[]⟩) (fun r s'=>r=.ok (.ret (.bool true))∧OldK s₁.heap s'.heap∧s'.os=s₁.os∧AllBare s'.gens) s₁:=by
    intro H hO hS hok hA hK
    have base_of:∀{b:Addr} {o:Obj},s₁.heap.get? b=some o→H b=none→(ZcU s₁.heap H).get? b=some o:=fun e n=>ZfY e n
    have noA:∀{b:Addr} {o:Obj} {es:Array DictEntry} {ep:Nat},s₁.heap.get? b=some o→o.data=.dict es ep→H b=none:=fun {b o es ep} e d=>by
      cases q:H b with
      | none=>rfl
      | some u=>
        have e':b=a:=hA b (by rw [q]; simp)
        subst e'
        rw [ha] at e; cases e
        have d':Data.seq vs.toArray _=Data.dict es ep:=d
        cases d'
    have nsK:∀{b:Addr} {m:Str→Option Value},s₁.heap.Ns b m→(ZcU s₁.heap H).Ns b m:=fun {b m} ⟨o,es,ep,e,d,r⟩=>⟨o,es,ep,base_of e (noA e d),d,r⟩
    have hKb:K.In (ZcU s₁.heap H):=fun b o e=>base_of (KX b o e) (by
      cases q:H b with
      | none=>rfl
      | some u=>
        have e':b=a:=hA b (by rw [q]; simp)
        subst e'
        rw [hK (by rw [q]; simp)] at e; cases e)
    have hM:Mod K mg (ZcU s₁.heap H):=⟨hKb,nsK hns,⟨mb,nsK hb,hbb⟩,let ⟨mc,h1,h2⟩:=hlim; ⟨mc,nsK h1,h2⟩⟩
    have e0:ZgX P w K mg (ZcU s₁.heap H) callerA [] s₁ H:=⟨rfl,hM,fun b o e=>ZgD e,Nat.le_of_eq (Ze1 _ _),trivial,fun b hb=>absurd (show b∈([]:List Addr) from hb) (by simp),hok,.of_eq hg⟩
    refine codeAny_mono ((F _ hKb (nsK hns)).run callerA [] s₁ H ⟨[.ref a],[]⟩ [.ref a] [.ref a] _ _ hr e0 (hbind s₁ (.ref a)) (.cons rfl .nil) (hsp H hO hS)) fun r s' h=>?_
    cases r with
    | error e=>exact (hCX H e s' h).elim
    | ok fl=>
      cases fl with
      | next=>exact False.elim h
      | brk=>exact False.elim h
      | cont=>exact False.elim h
      | ret u=>
        obtain ⟨v,H',os,bare,un,hok',r',q⟩:=h
        have q':v=.bl true:=q
        subst q'
        obtain rfl:u=Value.bool true:=r'
        refine ⟨rfl,OldK.of_keep fun b o e=>?_,os,bare⟩
        cases q:H b with
        | none=>exact un.keep b o e q (by intro z; exact absurd (show b∈([]:List Addr) from z) (by simp)) (by simp)
        | some u=>
          rcases hO b with z | ⟨ob,xs,z⟩
          · rw [q] at z; cases z
          · have z2:=un.frzs b ob _ z
            obtain ⟨e1,_⟩:=hok b _ z
            obtain ⟨e2,_⟩:=hok' b _ z2
            rw [e] at e1; cases e1
            exact e2
  cases hk:K.lookup a with
  | some o=>
    have e:=KX a o hk
    rw [ha] at e
    cases e
    refine core (fun _=>none) (fun _=>.inl rfl) (.inr ⟨_,vs.toArray,_,hk,rfl,rfl,rfl,by rw [List.size_toArray,lenV]; exact hl,by simpa using rv⟩) (fun b u z=>by have z':(none:Option HO)=some u:=z; cases z') (fun b z=>absurd rfl z) fun z=>absurd rfl z
  | none=>
    refine core (fun b=>if b=a then some (.frz { cls:=.type "list",data:=.seq vs.toArray } (.lst (ns.map V.int))) else none) (fun b=>?_) (.inl (.inr ⟨{ cls:=.type "list",data:=.seq vs.toArray },if_pos rfl⟩)) (fun b u z=>?_) (fun b z=>?_) fun _=>hk
    · by_cases hb:b=a
      · exact .inr ⟨_,_,if_pos hb⟩
      · exact .inl (if_neg hb)
    · by_cases hb:b=a
      · have z':=(if_pos hb).symm.trans z
        cases z'
        subst hb
        exact ⟨ha,by rw [List.length_map]; exact hl,vs,_,rv,ha⟩
      · have z':=(if_neg hb).symm.trans z
        cases z'
    · by_cases hb:b=a
      · exact hb
      · exact absurd (if_neg hb) z
end L2
namespace L2
open PySem PySem.Spec PyProof.Rows
theorem Zgf {l:PySem.W.OpenLaw} {n k:Nat} {q:Program} {loose:List Str} {XP:(Str→Option Value)→Heap→Prop} {YP:World→Heap→Prop} {d:DefRec} {K:Params→PySem.W.Frag} {CX:World→CXT} {sp:World→Sp} {x:Str}
    (hn:l.most=some n) (hn2:n≤sizeLine) (hdf:d.params.defaults=[]) (hr:Room k callerA)
    (hY:∀(w:World) (h:Heap),YP w h→(K w.params).In h)
    (F:∀(w:World) (mg:Str→Option Value) (fa:Addr) (h:Heap),(K w.params).In h→h.Ns mainGlobals mg→mg d.name=some (.ref fa)→
      ∃fd:FuncData,(∀(s:Shared) (u:Value),BindsTo s fd ⟨[u],[]⟩ [(x,u)])∧
        ∀base:Heap,(K w.params).In base→base.Ns mainGlobals mg→FnOk l.prog w (K w.params) mg base (CX w) k fa fd [x] (sp w))
    (hsp:∀(w:World) (H:Hp) (a:Addr) (ns:List Int),ns.length≤n→ZgW H→SqL (K w.params) H a (ns.map V.int)→sp w [.ref a] H (fun v _=>v=.bl true) fun _ _ _=>False)
    (hCX:∀(w:World) (H:Hp) (s:Shared) (e:Value) (s':Shared),CX w [] H s (fun _ _ _=>False) e s'→False) :
    PySem.W.WalkO q loose XP YP l.row.toRowW d [] (fun f vs=>PySem.call f vs):=by
  refine Att.attach_call hn hdf fun w s₀ s₁ mg mb fa o pm cd doc a vs ns G Y ho hd hcd hmg hobj hints hlen hg=>?_
  have KX:=hY w _ Y
  obtain ⟨fd,hb,hF⟩:=F w mg fa _ KX G.T.g hmg
  exact ZfT KX G.T.g G.T.b G.T.builtins G.T.nolimit hg hobj hints (Nat.le_trans hlen hn2) hr hF hb (fun H hO hS=>hsp w H a ns hlen hO hS) fun H e s'=>hCX w H s₁ e s'
end L2
namespace L2
open PySem PySem.Spec PyProof.Rows
def ZD (s:Stmt):Arguments:=match s with
  | .FunctionDef _ a _ _ _ _ _ _ _ _=>a
  | _=>{ posonlyargs:=[],args:=[],vararg:=none,kwonlyargs:=[],kw_defaults:=[],kwarg:=none,defaults:=[] }
def Zx (s:Stmt):List Stmt:=match s with
  | .FunctionDef _ _ b _ _ _ _ _ _ _=>b
  | _=>[]
def Zg (s:Stmt):Scope:=match s with
  | .FunctionDef _ _ _ _ _ _ sc _ _ _=>sc
  | _=>{ kind:=.function,names:=[],isGenerator:=false,isCoroutine:=false }
abbrev CX0:CXT:=fun _ _ _ _ _ _=>False
abbrev E0:XK:=fun _ _ _=>False
theorem ZiE {X:Cx}:Zd4 CX0 X E0:=fun _ _ _ _ _ _ _ h=>h.elim
structure Fun (K:PySem.W.Frag) (x qual:Str) (st:Stmt) (f:Addr) (fd:FuncData):Prop where
  ex:∃(oc:Value) (od:Option Addr) (kV doc pm:Value) (an:Option Addr) (cdv ct:Value) (osl:Array (Option Value)),
    fd=PySem.W.fnOf x qual (ZD st) (Zx st) (Zg st) .none kV doc pm an cdv ct∧K.lookup f=some ⟨oc,od,.func fd,osl⟩∧PySem.W.codeIn K cdv qual=true
  kp:PySem.W.keepIn K (.ref f)=true
section
variable {P:Program} {w:World} {K:PySem.W.Frag} {mg:Str→Option Value} {base:Heap}
theorem Fun.ok {x qual:Str} {st:Stmt} {f:Addr} {fd:FuncData} {N ps:List Str} {k:Nat} {sp:Sp} (F:Fun K x qual st f fd) (S:ZF N ps (Zg st)) (len:∀vs H Q E,sp vs H Q E→vs.length=ps.length)
    (hbody:∀(cdv:Value) (A:Around) (outer:List Env) (s:Shared) (H:Hp) (vs:List V) (Q:VK) (E:XK),Room k (A.deeper (envOfC qual (Zg st) s.heap.objs.size f cdv))→sp vs H Q E→
      ∃t,PSs (ZcV CX0 P w K mg base N qual (Zg st) f cdv A outer s H E).nox (Zx st) t∧t { nx:=fun _ H'=>Q .non H',rt:=Q } (Zaa N vs) H):FnOk P w K mg base CX0 (k+1) f fd ps sp:=by
  obtain ⟨oc,od,kV,doc,pm,an,cdv,ct,osl,rfl,lk,hcd⟩:=F.ex
  refine ZiZ lk hcd S len fun A outer s H vs Q E hr hsp=>?_
  obtain ⟨t,h,q⟩:=hbody cdv A outer s H vs Q E hr hsp
  exact ⟨t,h.nox,q⟩
theorem Fun.binds {x qual:Str} {st:Stmt} {f:Addr} {fd:FuncData} {ps:List Str} (F:Fun K x qual st f fd)
    (h:∀(kV doc pm:Value) (an:Option Addr) (cdv ct:Value) (us:List Value),us.length=ps.length→bindArgs (PySem.W.fnOf x qual (ZD st) (Zx st) (Zg st) .none kV doc pm an cdv ct) ⟨us,[]⟩=pure (ps.zip us)):Binds K fd ps []:=by
  obtain ⟨oc,od,kV,doc,pm,an,cdv,ct,osl,rfl,lk,hcd⟩:=F.ex
  exact .all (h kV doc pm an cdv ct)
theorem za {x qual:Str} {st:Stmt} {f:Addr} {oc:Value} {od an:Option Addr} {osl:Array (Option Value)} {kV doc pm cdv ct:Value} (l:K.lookup f=some ⟨oc,od,.func (PySem.W.fnOf x qual (ZD st) (Zx st) (Zg st) .none kV doc pm an cdv ct),osl⟩)
    (c:PySem.W.codeIn K cdv qual=true) (k:PySem.W.keepIn K (.ref f)=true):Fun K x qual st f (PySem.W.fnOf x qual (ZD st) (Zx st) (Zg st) .none kV doc pm an cdv ct):=⟨⟨oc,od,kV,doc,pm,an,cdv,ct,osl,rfl,l,c⟩,k⟩
end
section
variable {X:Cx}
end
end L2
namespace L2
open PySem PySem.Spec PyProof.Rows
section
variable {P:Program} {w:World} {K:PySem.W.Frag} {mg:Str→Option Value} {base:Heap}
def ZT (K:PySem.W.Frag) (mg:Str→Option Value) (x:Str) (st:Stmt) (ps:List Str):Prop:=
  ∃(f:Addr) (fd:FuncData),Fun K x x st f fd∧Binds K fd ps []∧mg x=some (.ref f)
def Def (P:Program) (w:World) (K:PySem.W.Frag) (mg:Str→Option Value) (base:Heap) (k:Nat) (x:Str) (ps:List Str) (sp:Sp):Prop:=
  ∃(f:Addr) (fd:FuncData),FnOk P w K mg base CX0 k f fd ps sp∧Binds K fd ps []∧PySem.W.keepIn K (.ref f)=true∧mg x=some (.ref f)
end
section
variable {X:Cx} {k:Nat} {x:Str} {ps:List Str} {sp:Sp} {p pos:Pos} {e:Expr} {es:List Expr} {t:TA}
theorem ZfA {j:Nat} (D:Def X.prog X.w X.K X.mg X.base k x ps sp) (hr:Room j X.A) (hj:k≤j) (ha:PA X (e::es) t) (hg:Gl X x:=by rfl) (hdb:(x == ("__debug__":Str))=false:=by decide)
    (he:starEach (e::es) X.env=(false,eval e X.env)::starEach es X.env:=by rfl) (hpl:(backTo pos (starEach es X.env)).any (·.1)=false:=by rfl):PE X (.Call (.Name x p) (e::es) [] pos) (Zg1 sp [] E0 t):=by
  obtain ⟨f,fd,F,b,kp,m⟩:=D
  exact ZgB F (hr.mono hj) hg m kp b .nil ZiE ha hdb he hpl
theorem Zgz {i:Int} (h:∃t,X.mg x=some (.int i t)) (hg:Gl X x:=by rfl) (hd:(x == ("__debug__":Str))=false:=by decide):PE X (.Name x pos) (tC (.int i)):=by
  obtain ⟨t,h⟩:=h
  exact Zee hg h ⟨t,rfl⟩ hd
def Zi8 (_ j:Int):Prop:=0<j∧j.natAbs.log2<9000
theorem ZfC:OpR X (binaryOp .FloorDiv) (rI Zi8 fun i j=>.int (i/j)):=opI fun i j _ _ _ _ _ hc q=>by
  have h1:(0:Int)<j:=hc.1
  exact floordiv_int (by omega) (by rw [Int.fdiv_eq_ediv_of_nonneg i (by omega)]; exact q) (.inl (PyProof.noPylong_of_log2 hc.2))
theorem ZdB:CallR X (.builtin "isinstance") (fun xs H Q=>∃(x:V) (n:String) (t:Value) (b:Bool),xs=[x,.ty n]∧Za1 X.K H x t∧PySem.W.kitOne X.K t (.type n)=some b∧Q (.bl b) H):=by
  intro pins s σ H xs us Q I r h
  obtain ⟨x,n,t,b,rfl,ty,e,q⟩:=h
  cases r with
  | cons rx rr=>
    cases rr with
    | cons ry rr=>
      cases rr
      cases ry
      exact ZeZ I rx ty e fun tk=>⟨.bl b,H,I.tok tk,rfl,q⟩
theorem ZiA {x:Str} {n:String} {pos:Pos} (hm:X.mg x=none) (hv:bootBuiltins x=some (.type n)) (hg:Gl X x:=by rfl) (hn:x≠"__name__":=by decide) (hd:(x == ("__debug__":Str))=false:=by decide):PE X (.Name x pos) (tC (.ty n)):=
  ZgC hg hm hv rfl hn hd
end
end L2
set_option maxHeartbeats 4000000
namespace L2
open PySem PySem.Spec PyProof.Rows
theorem zy {scope:Scope} {env:Env} (h:∀x∈scope.names,x.2=.free→∃c,env.cells.lookup x.1=some c) :
    ∃cl:List (Str×Addr),closureFor scope env=pure cl∧(∀n c,(n,c)∈cl→env.cells.lookup n=some c)∧∀x∈scope.names,x.2=.free→∃c,(x.1,c)∈cl:=by
  have key:∀(names:List (Str×NameKind)) (acc:List (Str×Addr)),(∀x∈names,x.2=.free→∃c,env.cells.lookup x.1=some c)→(∀n c,(n,c)∈acc→env.cells.lookup n=some c)→
      ∃cl:List (Str×Addr),(forIn names acc fun (x:Str×NameKind) (cs:List (Str×Addr))=>if (x.2 == NameKind.free)=true then (do let c ←cellOf env x.1; pure (ForInStep.yield ((x.1,c)::cs)):Sem _) else pure (ForInStep.yield cs))=(pure cl:Sem _)∧
        (∀n c,(n,c)∈cl→env.cells.lookup n=some c)∧(∀p∈acc,p∈cl)∧∀x∈names,x.2=.free→∃c,(x.1,c)∈cl:=by
    intro names
    induction names with
    | nil=>intro acc _ ha; exact ⟨acc,rfl,ha,fun _ p=>p,fun x hx=>nomatch hx⟩
    | cons y r ih=>
      intro acc hx ha
      obtain ⟨n,k⟩:=y
      by_cases hk:k=.free
      · subst hk
        obtain ⟨c,hc⟩:=hx (n,.free) List.mem_cons_self rfl
        obtain ⟨cl,e,h1,h2,h3⟩:=ih ((n,c)::acc) (fun x z=>hx x (List.mem_cons_of_mem _ z)) (fun m d z=>by
          rcases List.mem_cons.mp z with z | z
          · cases z; exact hc
          · exact ha m d z)
        refine ⟨cl,?_,h1,fun p z=>h2 p (List.mem_cons_of_mem _ z),fun x z zf=>?_⟩
        · have ec:cellOf env n=pure c:=by unfold cellOf; rw [hc]
          rw [List.forIn_cons]
          simp only [beq_self_eq_true,if_true,ec,pure_bind]
          exact e
        · rcases List.mem_cons.mp z with z | z
          · cases z; exact ⟨c,h2 _ List.mem_cons_self⟩
          · exact h3 x z zf
      · obtain ⟨cl,e,h1,h2,h3⟩:=ih acc (fun x z=>hx x (List.mem_cons_of_mem _ z)) ha
        refine ⟨cl,?_,h1,h2,fun x z zf=>?_⟩
        · have hb:(k == NameKind.free)=false:=by simpa using hk
          rw [List.forIn_cons]
          simp only [hb,Bool.false_eq_true,if_false,pure_bind]
          exact e
        · rcases List.mem_cons.mp z with z | z
          · cases z; exact absurd zf hk
          · exact h3 x z zf
  obtain ⟨cl,e,h1,_,h3⟩:=key scope.names [] h (fun n c z=>nomatch z)
  refine ⟨cl,?_,h1,h3⟩
  simp only [closureFor]
  rw [e]
  rfl
def Cx.comp (X:Cx) (scope:Scope) (N':List Str) (cl:List (Str×Addr)) (C:Addr) (s₀:Shared) (H₀:Hp) (fp:List Addr):Cx where
  prog:=X.prog
  w:=X.w
  K:=X.K
  mg:=X.mg
  base:=X.base
  A:=X.A
  N:=N'
  s₀:=s₀
  H₀:=H₀
  env:=compEnvC scope cl C X.env
  outer:=X.stack
  stack:=X.stack
  ex:=fp
  fn:=fun _=>false
  calm:=X.calm
  pn:=[]
  xe:=fun _ _=>False
def inner (src:List Nat) (σ:St) (x:Option V):St:=x::src.map fun j=>(σ[j]?).join
theorem z6 {α:Type} {l:List (Str×α)} {n:Str} {c:α} (h:(n,c)∈l):∃d,l.lookup n=some d:=by
  induction l with
  | nil=>cases h
  | cons y r ih=>
    obtain ⟨m,d⟩:=y
    by_cases e:n == m
    · exact ⟨d,by rw [List.lookup_cons,e]⟩
    · rcases List.mem_cons.mp h with z | z
      · cases z; exact absurd (beq_self_eq_true n) e
      · obtain ⟨d',q⟩:=ih z
        exact ⟨d',by rw [List.lookup_cons,Bool.eq_false_iff.mpr e]; exact q⟩
theorem zd {env:Env} {n:Str}:∀{names:List (Str×NameKind)} {k:NameKind},(∀y∈names,y.2≠.cell)→
    (names.map fun (n,k)=>if (k == NameKind.free && env.scope.kind == .function && env.kindOf n == some .cell) then (n,NameKind.cell) else (n,k)).lookup n=some k→(k=.cell∨k=.free)→(n,NameKind.free)∈names
  | [],_,_,h,_=>by simp at h
  | (m,j)::r,k,hc,h,hk=>by
    have nc:j≠.cell:=hc (m,j) List.mem_cons_self
    rw [List.map_cons] at h
    by_cases e:n == m
    · have en:n=m:=by simpa using e
      subst en
      by_cases cnd:(j == NameKind.free && env.scope.kind == .function && env.kindOf n == some .cell)=true
      · have:j=.free:=by
          simp only [Bool.and_eq_true,beq_iff_eq] at cnd
          exact cnd.1.1
        rw [this]
        exact List.mem_cons_self
      · simp only [cnd] at h
        rw [if_neg (by simp),List.lookup_cons,beq_self_eq_true] at h
        cases h
        rcases hk with rfl | rfl
        · exact absurd rfl nc
        · exact List.mem_cons_self
    · refine List.mem_cons_of_mem _ (zd (env:=env) (k:=k) (fun y hy=>hc y (List.mem_cons_of_mem _ hy)) ?_ hk)
      rw [List.lookup_cons] at h
      have e2:(n == (if (j == NameKind.free && env.scope.kind == .function && env.kindOf m == some .cell)=true then (m,NameKind.cell) else (m,j)).1)=false:=by
        split<;>exact Bool.eq_false_iff.mpr e
      rw [e2] at h
      exact h
theorem zU {env:Env}:∀{names:List (Str×NameKind)} {x:Str},names.lookup x=some .free→
    (names.map fun (n,k)=>if (k == NameKind.free && env.scope.kind == .function && env.kindOf n == some .cell) then (n,NameKind.cell) else (n,k)).lookup x=some .cell∨
    (names.map fun (n,k)=>if (k == NameKind.free && env.scope.kind == .function && env.kindOf n == some .cell) then (n,NameKind.cell) else (n,k)).lookup x=some .free
  | [],_,h=>by simp at h
  | (n,k)::r,x,h=>by
    have ih:=@zU env r x
    rw [List.map_cons]
    cases hx:x == n with
    | true=>
      simp only [List.lookup_cons,hx] at h
      cases h
      by_cases hc:(NameKind.free == NameKind.free && env.scope.kind == .function && env.kindOf n == some .cell)=true
      · left
        show List.lookup x ((if (NameKind.free == NameKind.free && env.scope.kind == .function && env.kindOf n == some .cell)=true then (n,NameKind.cell) else (n,NameKind.free))::_)=_
        rw [if_pos hc,List.lookup_cons,hx]
      · right
        show List.lookup x ((if (NameKind.free == NameKind.free && env.scope.kind == .function && env.kindOf n == some .cell)=true then (n,NameKind.cell) else (n,NameKind.free))::_)=_
        rw [if_neg hc,List.lookup_cons,hx]
    | false=>
      simp only [List.lookup_cons,hx] at h
      have e:∀t,List.lookup x ((if (k == NameKind.free && env.scope.kind == .function && env.kindOf n == some .cell)=true then (n,NameKind.cell) else (n,k))::t)=List.lookup x t:=fun t=>by
        split<;>rw [List.lookup_cons,hx]
      rcases ih h with q | q
      · exact .inl ((e _).trans q)
      · exact .inr ((e _).trans q)
section
variable {X:Cx} {x:Str} {px:Pos} {iter elt:Expr} {scope:Scope} {pos:Pos} {N':List Str} {src:List Nat} {wi:TI} {te:TE}
structure Zs (scope sc:Scope) (x:Str) (N N':List Str) (src:List Nat):Prop where
  kind:scope.kind=.function
  cell:∀y∈scope.names,y.2≠.cell
  loc:∀y∈scope.names,y.2=.local→scope.names.lookup y.1=some .local
  own:scope.names.lookup x=some .local
  free:∀y∈scope.names,y.2=.free→sc.names.lookup y.1=some .cell
  nd:N'.Nodup
  names:N'=x::src.map fun j=>N.getD j x
  all:∀j∈src,j<N.length
  fr:∀j∈src,sc.names.lookup (N.getD j x)=some .cell∧scope.names.lookup (N.getD j x)=some .free
theorem Zb5 {pins:List (Addr×Obj)} {σ:St} {H:Hp} {s s':Shared} {C:Addr} {cl:List (Str×Addr)} {fp:List Addr} (I:Inv X pins σ H s) (S:Zs scope X.env.scope x X.N N' src)
    (hcl:∀n c,(n,c)∈cl→X.env.cells.lookup n=some c) (hcl2:∀y∈scope.names,y.2=.free→∃c,(y.1,c)∈cl) (hC:s.heap.objs.size≤C) (hfp:∀b∈fp,Zao X pins H b) (hfl:∀b∈fp,b<s.heap.objs.size)
    (hn:∃m,s'.heap.Ns C m) (hk:∀b o,s.heap.get? b=some o→s'.heap.get? b=some o) (ho:s'.os=s.os) (hg:s'.gens=s.gens) :
    Inv (X.comp scope N' cl C s H fp) [] (inner src σ none) H s':=by
  have cll:∀n c,cl.lookup n=some c→X.env.cells.lookup n=some c:=fun n c e=>hcl n c (PySem.mem_of_lookup e)
  refine ⟨⟨I.ok.mod,S.kind,I.ok.glob,I.ok.blt,hC,fun y z c h1 h2=>I.ok.inj y z c (cll _ _ h1) (cll _ _ h2),fun y hy=>?_,fun y c h=>absurd (show false=true from h) (by decide),I.ok.hd,I.ok.frames,.inl rfl,fun b hb=>⟨Nat.ne_of_lt (Nat.lt_of_lt_of_le (hfl b hb) hC),fun y c e=>(hfp b hb).2.2.2.2.1 y c (cll y c e)⟩,
    I.bs,Nat.le_trans I.ok.bsz I.sz,fun b o e hb=>?_,fun b hb=>?_,I.stack,I.stkFree⟩,ho,?_,Un.kept hk,?_,fun y c e=>?_,I.hok.fresh hC,fun y c e=>I.freeC y c (cll y c e),fun p hp=>absurd (show p∈([]:List (Addr×Obj)) from hp) (by simp),I.hok.kept hk,?_⟩
  · have hy':(relabel scope X.env).names.lookup y=some .cell∨(relabel scope X.env).names.lookup y=some .free:=hy
    have:(y,NameKind.free)∈scope.names:=by
      rcases hy' with h | h
      · exact zd S.cell h (.inl rfl)
      · exact zd S.cell h (.inr rfl)
    obtain ⟨c,hc⟩:=hcl2 _ this rfl
    exact z6 hc
  · rcases (hfp b hb).2.2.2.1 with z | z
    · exact I.ok.noex b o e z
    · exact absurd (Nat.lt_of_lt_of_le (Heap.lt_size e) (Nat.le_trans I.ok.bsz z)) (Nat.lt_irrefl _)
  · intro hs
    rcases List.mem_cons.mp (I.stkSub b hs) with z | z
    · exact (hfp b hb).2.1 z
    · exact (hfp b hb).2.2.1 z
  · rw [hg]; exact I.bare
  · obtain ⟨m,hm⟩:=hn
    refine ⟨m,hm,fun i y v h1 h2 h3=>?_⟩
    have h1':N'[i]?=some y:=h1
    rw [S.names] at h1'
    cases i with
    | zero=>cases (show (some none:Option (Option V))=some (some v) from h2)
    | succ k=>
      rw [List.getElem?_cons_succ,List.getElem?_map] at h1'
      have h2':(src.map fun j=>(σ[j]?).join)[k]?=some (some v):=h2
      rw [List.getElem?_map] at h2'
      cases e:src[k]? with
      | none=>rw [e] at h1'; cases h1'
      | some j=>
        rw [e] at h1' h2'
        have hj:=List.mem_of_getElem? e
        have ey:X.N.getD j x=y:=Option.some.inj h1'
        have ev:(σ[j]?).join=some v:=Option.some.inj h2'
        have eN:X.N[j]?=some y:=by
          have:=S.all j hj
          rw [List.getElem?_eq_getElem this]
          rw [List.getD_eq_getElem?_getD,List.getElem?_eq_getElem this] at ey
          exact congrArg some ey
        have eσ:σ[j]?=some (some v):=by
          cases q:σ[j]? with
          | none=>rw [q] at ev; cases ev
          | some z=>rw [q] at ev; exact congrArg some ev
        obtain ⟨k1,k2⟩:=S.fr j hj
        rw [ey] at k1 k2
        obtain ⟨mo,hmo,hl⟩:=I.loc
        obtain ⟨u,r,l⟩:=hl j y v eN eσ (.inr (.inl k1))
        refine ⟨u,r,?_⟩
        rcases l with ⟨z,_⟩ | ⟨_,c,hc,hcell⟩
        · have z':X.env.scope.names.lookup y=some .local:=z
          rw [k1] at z'; cases z'
        · obtain ⟨c',hc'⟩:=hcl2 _ (PySem.mem_of_lookup k2) rfl
          obtain ⟨d,hd⟩:=z6 hc'
          have ed:d=c:=by
            have:=cll _ _ hd
            rw [hc] at this
            exact (Option.some.inj this).symm
          subst ed
          obtain ⟨o,e1,e2⟩:=hcell
          refine .inr ⟨?_,d,hd,o,hk _ _ e1,e2⟩
          rcases h3 with z | z | z
          · have z':(relabel scope X.env).names.lookup y=some .local:=z
            rcases zU (env:=X.env) k2 with w | w
            · have w':(relabel scope X.env).names.lookup y=some .cell:=w
              rw [w'] at z'; cases z'
            · have w':(relabel scope X.env).names.lookup y=some .free:=w
              rw [w'] at z'; cases z'
          · exact .inl z
          · exact .inr z
  · obtain ⟨v,o,e1,e2⟩:=I.cell y c (cll y c e)
    exact ⟨v,o,hk _ _ e1,e2⟩
  · show (inner src σ none).length=N'.length
    rw [S.names]
    unfold inner
    rw [List.length_cons,List.length_cons,List.length_map,List.length_map]
theorem Zdy {prog:Program} {w:World} {A:Around} {R:Result→Shared→Prop} {s:Shared} {elt target iter:Expr} {scope:Scope} {pos:Pos} {it acc:Value} {env:Env} (I:Nat→Shared→Prop)
    (turn:∀n s,I n s→wpAny (model prog w) A (pyNext it) (fun r s₁=>match r with
      | none=>R (.ok .next) s₁
      | some v=>wpAny (model prog w) A (letOwnedTupleGo target it v) (fun _ s₂=>wpAny (model prog w) A (assign target env v) (fun _ s₃=>wpAny (model prog w) A (eval elt env) (fun x s₄=>
          wpAny (model prog w) A (call (.builtin "list.append") [acc,x]) (fun _ s₅=>∃m,m<n∧I m s₅) (notedBy (model prog w) A env fun e s'=>R (.error e) s') s₄) (notedBy (model prog w) A env fun e s'=>R (.error e) s') s₃)
          (notedBy (model prog w) A env fun e s'=>R (.error e) s') s₂) (notedBy (model prog w) A env fun e s'=>R (.error e) s') s₁) (notedBy (model prog w) A env fun e s'=>R (.error e) s') s)
    (n:Nat) (h:I n s):codeAny (model prog w) A (.compLoop (.ListComp elt [⟨target,iter,[],0⟩] scope pos) 0 it acc env) R s:=by
  refine codeAny_loop rfl I (fun n s hI=>?_) n h
  show wpAny _ A ((compTurn (.ListComp elt [⟨target,iter,[],0⟩] scope pos) 0 it acc env).onRaise (fun x=>do noteFrame x env; theTreesLotGoes x)) _ _ s
  refine wpAny_noted ?_
  rw [compTurn_list1]
  refine wpAny_bind (wpAny_standAt (wpAny_bind (thn (turn n s hI) fun r s₁ h₁=>?_)))
  cases r with
  | none=>exact wpAny_pure h₁
  | some v=>
    refine wpAny_bind (thn h₁ fun _ s₂ h₂=>wpAny_bind (thn h₂ fun _ s₃ h₃=>?_))
    exact wpAny_bind (wpAny_bind (thn h₃ fun x s₄ h₄=>wpAny_bind (thn h₄ fun _ s₅ h₅=>wpAny_pure (wpAny_pure ⟨rfl,h₅⟩))))
def lcR (J:It) (src:List Nat) (σ:St) (te:TE) (H1:Hp) (Q:VK):Prop:=∃(n:Nat) (Pv:Nat→List V→Hp→Prop),n≤sizeLine∧Pv 0 [] H1∧
  (∀i ys H,i<n→Pv i ys H→J.go i H∧∀y H',J.yld i H y H'→te (inner src σ (some y)) H' fun z H2=>Pv (i+1) (ys++[z]) H2)∧
  ∀ys H,Pv n ys H→J.stop n H∧∀p,H p=none→Q (.ref p) (upd H p (.lst ys))
def tLc (wi:TI) (src:List Nat) (te:TE):TE:=fun σ H Q=>wi σ H fun J H1=>lcR J src σ te H1 Q
theorem HOk.lay {P:Program} {w:World} {H:Hp} {h:Heap} {a:Addr} {o:HO} (x:HOk P w H h) (hn:H a=none) (new:ObjOk P w (upd H a o) h a o):HOk P w (upd H a o) h:=fun b u e=>by
  by_cases hb:b=a
  · subst hb; rw [Z2] at e; cases e; exact new
  · rw [Zl hb] at e
    exact (x b u e).stay (fun c v _ q=>q) (fun c q=>by rw [Zl (Zu q hn)]; exact q) fun c xs q=>by rw [Zl (Zu q hn)]; exact q
theorem Un.lay {fs ex:List Addr} {H H1:Hp} {h h1:Heap} {a:Addr} {o:HO} (u:Un fs ex H H1 h h1) (hn:H1 a=none) (hh:h.get? a=none):Un fs ex H (upd H1 a o) h h1 where
  keep:=u.keep
  slot:=u.slot
  free:=fun b ob q n hx=>by rw [Zl (fun z=>by rw [z,hh] at q; cases q)]; exact u.free b ob q n hx
  there:=u.there
  tups:=fun b xs q=>by rw [Zl (Zu (u.tups b xs q) hn)]; exact u.tups b xs q
  frzs:=fun b ob xs q=>by rw [Zl (Zu (u.frzs b ob xs q) hn)]; exact u.frzs b ob xs q
  tbls:=fun b ps q=>by
    obtain ⟨m,e⟩:=u.tbls b ps q
    exact ⟨m,by rw [Zl (Zu e hn)]; exact e⟩
theorem ZfS {pins:List (Addr×Obj)} {σ:St} {H:Hp} {s:Shared} {cl:List (Str×Addr)} {it:Addr} {fp:List Addr} {tn:Nat→Heap→Prop} {J:It} {n:Nat} {Pv:Nat→List V→Hp→Prop} {RR:Value→Addr→Result→Shared→Prop} {E:Value→Shared→Prop}
    (I:Inv X pins σ H s) (hcm:X.calm=true) (S:Zs scope X.env.scope x X.N N' src) (hcl:∀n c,(n,c)∈cl→X.env.cells.lookup n=some c) (hcl2:∀y∈scope.names,y.2=.free→∃c,(y.1,c)∈cl)
    (T:Zcf X.prog X.w X.K (.Name x px) J fp it tn) (t0:tn 0 s.heap) (hfp:∀b∈fp,Zao X pins H b)
    (helt:∀(cl:List (Str×Addr)) (C:Addr) (s₀:Shared) (H₀:Hp) (fp:List Addr),PE (X.comp scope N' cl C s₀ H₀ fp) elt te)
    (hn:n≤sizeLine) (p0:Pv 0 [] H) (turn:∀i ys H,i<n→Pv i ys H→J.go i H∧∀y H',J.yld i H y H'→te (inner src σ (some y)) H' fun z H2=>Pv (i+1) (ys++[z]) H2) (stop:∀ys H,Pv n ys H→J.stop n H)
    (hR:∀(D C:Addr) (o:Obj) (ys:List V) (H':Hp) (s':Shared),Pv n ys H'→H' D=none→Inv X (pins++[(C,o)]) σ (upd H' D (.lst ys)) s'→(∃m,s'.heap.Ns C m)→Zao X pins (upd H' D (.lst ys)) C→RR (.ref D) C (.ok .next) s') :
    wpAny (model X.prog X.w) X.A (newList []) (fun acc s₃=>wpAny (model X.prog X.w) X.A (newFunctionEnv scope X.env.globals cl [] X.env.qual none .none (some X.env)) (fun cenv s₄=>
      codeAny (model X.prog X.w) X.A (.compStart (.ListComp elt [⟨.Name x px,iter,[],0⟩] scope pos) 0 (.ref it) acc { cenv with scope:=relabel scope X.env }) (RR acc cenv.locals) s₄) E s₃) E s:=by
  refine wpAny_newObj_type (wpAny_newFunctionEnv S.cell (by intro y hy; simp at hy) (fun h₁ hns₁ hsb₁=>?_) S.kind)
  dsimp only at hns₁ hsb₁ ⊢
  generalize hH2:s.heap.push { cls:=.type "list",dict:=none,data:=.seq ([]:List Value).toArray }=H2 at hns₁ hsb₁ ⊢
  have hC:H2.objs.size=s.heap.objs.size+1:=by rw [←hH2,Heap.size_push]
  have hDC:s.heap.objs.size≠H2.objs.size:=by rw [hC]; exact Nat.ne_of_lt (Nat.lt_succ_self _)
  have hCle:s.heap.objs.size≤H2.objs.size:=by rw [hC]; exact Nat.le_succ _
  have below:∀b,b<s.heap.objs.size→b≠H2.objs.size∧b≠s.heap.objs.size:=fun b hb=>⟨by rw [hC]; exact Nat.ne_of_lt (Nat.lt_succ_of_lt hb),Nat.ne_of_lt hb⟩
  have old:∀b o,s.heap.get? b=some o→h₁.get? b=some o:=fun b o e=>hsb₁.extBut b o (below b (Heap.lt_size e)).1 (Heap.get?_push_of_some _ (hH2 ▸ Heap.get?_push_of_some _ e))
  have hacc:h₁.PlainList s.heap.objs.size #[]:=⟨_,hsb₁.extBut _ _ hDC (Heap.get?_push_of_some _ (hH2 ▸ Heap.get?_push_size _ rfl))⟩
  have hfl:∀b∈fp,b<s.heap.objs.size:=fun b hb=>by
    obtain ⟨o,e,_⟩:=T.obj 0 _ t0 b hb
    exact Heap.lt_size e
  have fresh:∀a,s.heap.objs.size≤a→s.heap.get? a=none:=fun a ha=>by
    cases e:s.heap.get? a with
    | none=>rfl
    | some o'=>exact absurd (Heap.lt_size e) (Nat.not_lt.mpr ha)
  generalize eD:s.heap.objs.size=D at hDC hacc hCle below fresh hfl hC ⊢
  generalize eC:H2.objs.size=C at hDC hCle below hC hns₁ hsb₁ ⊢
  have I1:Inv (X.comp scope N' cl C s H fp) [] (inner src σ none) H { s with heap:=h₁,toks:=s.toks+([]:List (Str×Value)).length }:=
    Zb5 I S hcl hcl2 (by rw [eD]; exact hCle) hfp (by rw [eD]; exact hfl) ⟨_,hns₁⟩ old rfl rfl
  have stat:∀{H':Hp} {pl:List (Addr×Obj)},(∀p∈pl,p.1=D)→(∀b∈fp,H' b=none)→∀b∈fp,Zao (X.comp scope N' cl C s H fp) pl H' b:=fun {H' pl} hp hn b hb=>
    ⟨hn b hb,(below b (hfl b hb)).1,fun z=>by
      rcases List.mem_cons.mp (I.stkSub b z) with q | q
      · exact (hfp b hb).2.1 q
      · exact (hfp b hb).2.2.1 q,.inl hb,fun y c e=>(hfp b hb).2.2.2.2.1 y c (hcl y c (PySem.mem_of_lookup e)),fun p hq=>by
      rw [hp p (by rcases List.mem_append.mp hq with z | z; exact absurd (show p∈([]:List (Addr×Obj)) from z) (by simp); exact z)]
      exact Ne.symm (below b (hfl b hb)).2⟩
  have nD:D∉frs X.stack:=fun z=>by
    rcases List.mem_cons.mp (I.stkSub D z) with q | q
    · have:=I.lt; rw [←q,eD] at this; exact Nat.lt_irrefl _ this
    · exact I.nofs (a:=D) (by rw [eD]; exact Nat.le_refl _) q
  have nC:C∉X.fs:=I.nofs (by rw [eD]; exact hCle)
  have cellD:∀y c,cl.lookup y=some c→c<D:=fun y c e=>by
    obtain ⟨v,q⟩:=I.cell y c (hcl y c (PySem.mem_of_lookup e))
    have:=q.lt
    rw [eD] at this
    exact this
  have loop:∀s₃:Shared,s₃={ s with heap:=h₁,toks:=s.toks+([]:List (Str×Value)).length }→
      codeAny (model X.prog X.w) X.A (.compLoop (.ListComp elt [⟨.Name x px,iter,[],0⟩] scope pos) 0 (.ref it) (.ref D) (compEnvC scope cl C X.env)) (RR (.ref D) C) s₃:=by
    rintro s₃ rfl
    refine Zdy (fun k s'=>∃(i:Nat) (ys:List V) (its:List Value) (H':Hp) (xo:Option V),Inv (X.comp scope N' cl C s H fp) [] (inner src σ xo) H' s'∧tn i s'.heap∧(∀b∈fp,H' b=none)∧s'.heap.PlainList D its.toArray∧Vals ys its∧H' D=none∧
      Pv i ys H'∧ys.length=i∧i≤n∧k=n+1-i) ?_ (n+1) ⟨0,[],[],H,none,I1,T.keep _ _ _ t0 (fun b _ o e=>old b o e),fun b hb=>(hfp b hb).1,hacc,.nil,I.hok.fresh (by rw [eD]; exact Nat.le_refl _),p0,rfl,Nat.zero_le _,rfl⟩
    rintro k s' ⟨i,ys,its,H',xo,I3,t3,f3,l3,v3,d3,p3,e3,le3,rfl⟩
    by_cases hlt:i<n
    · obtain ⟨go,step⟩:=turn i ys H' hlt p3
      obtain ⟨nn,oD⟩:=id l3
      have I3p:Inv (X.comp scope N' cl C s H fp) [(D,{ cls:=.type "list",data:=.seq its.toArray nn })] (inner src σ xo) H' s':=
        I3.pins_of fun p hp=>by
          have ep:p=(D,{ cls:=.type "list",data:=.seq its.toArray nn }):=by simpa using hp
          subst ep
          exact ⟨oD,d3,hDC,nD,fun v z=>by cases z⟩
      refine thn (T.item (X.comp scope N' cl C s H fp) rfl rfl rfl hcm i _ s' _ H' _ I3p (stat (by simp) f3) t3 go) fun r s4 ⟨u,hr,h4⟩=>?_
      subst hr
      refine thn h4 fun _ s5 ⟨y,H5,I5,r5,y5,st5,fr5⟩=>?_
      have I5':=I5.pinned (stat (by simp) fr5) (T.obj _ _ st5)
      have hg:PG (X.comp scope N' cl C s H fp) (.Name x px) (ZaE 0):=
        zV S.nd (by show N'[0]?=some x; rw [S.names]; rfl) (.inl (lookup_relabel_local S.own)) (.inr (lookup_relabel_local S.own))
      refine wpAny_mono (hg _ s5 _ H5 y u (fun σ2 H2=>σ2=inner src σ (some y)∧H2=H5) I5' r5 ⟨rfl,rfl⟩) (fun _ s6 ⟨σ6,H6,I6,e6,e6'⟩=>?_) fun _ _ z=>False.elim z
      subst e6 e6'
      refine wpAny_mono (helt cl C s H fp _ s6 _ _ _ I6 (step y _ y5)) (fun v s7 ⟨z,H7,I7,r7,q7⟩=>?_) fun _ _ z=>False.elim z
      have o7:=I7.pin (D,{ cls:=.type "list",data:=.seq its.toArray nn }) (by simp)
      have hys:its.toArray.size≤sizeLine:=by
        have:=v3.length
        rw [List.size_toArray]
        omega
      refine wpAny_list_append_plain (hsz:=hys) (items:=its.toArray) (s:=s7) ⟨nn,o7.1⟩ fun h8 hl8 hs8=>?_
      refine ⟨n+1-(i+1),by omega,i+1,ys++[z],its++[v],H7,some y,?_,?_,?_,?_,v3.append (.cons r7 .nil),o7.2.1,q7,by rw [List.length_append,e3]<;>rfl,hlt,rfl⟩
      · have I7':Inv (X.comp scope N' cl C s H fp) [] (inner src σ (some y)) H7 s7:=I7.pins_of fun p hp=>absurd hp (by simp)
        exact I7'.turned (t':=s7.toks) (it:=D) (fun b o hb e=>(hs8.2 b hb).trans e) o7.2.1 hDC (.inr (by show s.heap.objs.size≤D; rw [eD]; exact Nat.le_refl _)) (fun y c e=>Nat.ne_of_lt (cellD y c e)) fun p hp=>absurd (show p∈([]:List (Addr×Obj)) from hp) (by simp)
      · refine T.keep _ _ _ st5 fun b hb o e=>(hs8.2 b (below b (hfl b hb)).2).trans ?_
        exact (I7.pin (b,o) (List.mem_append_right _ (List.mem_append_right _ (ZH hb e)))).1
      · intro b hb
        obtain ⟨o,e,_⟩:=T.obj _ _ st5 b hb
        exact (I7.pin (b,o) (List.mem_append_right _ (List.mem_append_right _ (ZH hb e)))).2.1
      · have:(its++[v]).toArray=its.toArray.push v:=by simp
        rw [this]; exact hl8
    · have ein:i=n:=by omega
      subst ein
      obtain ⟨nn,oD⟩:=id l3
      have I3p:Inv (X.comp scope N' cl C s H fp) [(D,{ cls:=.type "list",data:=.seq its.toArray nn })] (inner src σ xo) H' s':=
        I3.pins_of fun p hp=>by
          have ep:p=(D,{ cls:=.type "list",data:=.seq its.toArray nn }):=by simpa using hp
          subst ep
          exact ⟨oD,d3,hDC,nD,fun v z=>by cases z⟩
      refine thn (T.done (X.comp scope N' cl C s H fp) rfl rfl rfl hcm i _ s' _ H' _ I3p (stat (by simp) f3) t3 (stop ys H' p3)) fun r s4 ⟨hr,I4⟩=>?_
      subst hr
      have o4:=I4.pin (D,{ cls:=.type "list",data:=.seq its.toArray nn }) (by simp)
      have newI:Inv X pins σ (upd H' D (.lst ys)) s4:=I.call' (ch:=fp) I4.os (I4.base.lay d3 (fresh D (Nat.le_refl _))) (I4.hok.lay d3 ⟨by omega,its,nn,v3,o4.1⟩) I4.bare (fun b hb=>
        ⟨(hfp b hb).2.2.2.1,(hfp b hb).2.1,(hfp b hb).2.2.2.2.1,(hfp b hb).2.2.2.2.2⟩)
      obtain ⟨m,hm,_⟩:=I4.loc
      obtain ⟨o,es,ep,ho,hd,_⟩:=id hm
      refine hR D C o ys H' s4 p3 d3 (newI.pins_of fun p hp=>?_) ⟨m,hm⟩ (I.fpOk (by rw [eD]; exact hCle) (by rw [Zl (Ne.symm hDC)]; exact I4.free))
      rcases List.mem_append.mp hp with z | z
      · exact newI.pin p (List.mem_append_right _ z)
      · have ep:p=(C,o):=by simpa using z
        subst ep
        refine ⟨ho,by rw [Zl (Ne.symm hDC)]; exact I4.free,fun z=>?_,nC,fun v z=>?_⟩
        · have:=I.lt
          rw [eD,←z] at this
          exact absurd (Nat.lt_of_lt_of_le this hCle) (Nat.lt_irrefl _)
        · have z':o.data=.cell v:=z
          rw [hd] at z'; cases z'
  exact codeAny_compStart_list (loop _ rfl) (T.self _ 0 _ _ _ (T.keep _ _ _ t0 (fun b _ o e=>old b o e)) (loop _ rfl))
theorem Zfy {sc:Scope} {N:List Str} (S:Zs scope sc x N N' src) (hsc:X.env.scope=sc) (hN:X.N=N) (hi:PI X (.Name x px) iter wi)
    (helt:∀(cl:List (Str×Addr)) (C:Addr) (s₀:Shared) (H₀:Hp) (fp:List Addr),PE (X.comp scope N' cl C s₀ H₀ fp) elt te) (hcm:X.calm=true:=by rfl) (hs:∀v,foldedSetIterable iter X.env v=pure v:=by intro _; rfl) :
    PE X (.ListComp elt [⟨.Name x px,iter,[],0⟩] scope pos) (tLc wi src te):=by
  subst hsc hN
  intro pins s σ H Q I h
  obtain ⟨cl,hclos,hcl,hcl2⟩:=zy (scope:=scope) (env:=X.env) fun y hy hf=>I.ok.has y.1 (.inl (S.free y hy hf))
  rw [eval_ListComp]
  refine wpAny_comprehension_free (use:=none) rfl hs hclos S.kind S.loc ?_
  refine thn (hi pins s σ H _ I h) fun v s1 h1=>thn h1 fun itv s2 h2=>?_
  obtain ⟨it,fp,tn,J,H2,e,I2,T,st2,f2,n,Pv,hn,p0,turn,done⟩:=h2
  subst e
  refine ZfS I2 hcm S hcl hcl2 T st2 f2 helt hn p0 turn (fun ys H p=>(done ys H p).1) fun D C o ys H' s' p d J' hm ho=>?_
  obtain ⟨m,hm⟩:=hm
  refine ⟨m,hm,fun h' hs'=>?_⟩
  have J2:Inv X pins σ (upd H' D (.lst ys)) s':=J'.pins_of fun q hq=>J'.pin q (List.mem_append_right _ (List.mem_append_left _ hq))
  obtain ⟨f0,f1,f2,f3,f4,f5⟩:=ho
  exact ⟨.ref D,_,J2.turned (t':=s'.toks) (it:=C) (fun b o hb e=>(hs'.2 b hb).trans e) f0 f1 f3 f4 f5,rfl,(done ys H' p).2 D d⟩
theorem Ziy {sc:Scope} {N:List Str} {i:Nat} {y:Str} {py spos:Pos} (hnd:X.N.Nodup) (hi':X.N[i]?=some y) (S:Zs scope sc x N N' src) (hsc:X.env.scope=sc) (hN:X.N=N) (hi:PI X (.Name x px) iter wi)
    (helt:∀(cl:List (Str×Addr)) (C:Addr) (s₀:Shared) (H₀:Hp) (fp:List Addr),PE (X.comp scope N' cl C s₀ H₀ fp) elt te) (hsw:swapsWith (.ListComp elt [⟨.Name x px,iter,[],0⟩] scope pos) (some (.Name y py)) spos.line X.env=pure true:=by rfl)
    (hy:X.env.scope.names.lookup y=some .local:=by rfl) (hcm:X.calm=true:=by rfl) (hs:∀v,foldedSetIterable iter X.env v=pure v:=by intro _; rfl) :
    PS X (.Assign [.Name y py] (.ListComp elt [⟨.Name x px,iter,[],0⟩] scope pos) spos) (Zhg (tLc wi src te) (ZaE i)):=by
  subst hsc hN
  intro pins s σ H Dn I h
  obtain ⟨cl,hclos,hcl,hcl2⟩:=zy (scope:=scope) (env:=X.env) fun y hy hf=>I.ok.has y.1 (.inl (S.free y hy hf))
  rw [exec_Assign_Name_used _ _ _ _ hsw]
  refine wpAny_bind (wpAny_standAt (wpAny_bind ?_))
  show wpAny _ X.A (do let _ ←comprehension (.ListComp elt [⟨.Name x px,iter,[],0⟩] scope pos) scope X.env _ (newList []) false (eval iter X.env) (some (assign (.Name y py) X.env))) _ _ s
  refine wpAny_bind (wpAny_mono (wpAny_comprehension_free (use:=some (assign (.Name y py) X.env)) (Q:=fun _ s'=>SP X pins Dn .next s') rfl hs hclos S.kind S.loc ?_) (fun _ s' hq=>wpAny_pure (wpAny_pure hq)) fun _ _ e=>e)
  refine thn (hi pins s σ H _ I h) fun v s1 h1=>thn h1 fun itv s2 h2=>?_
  obtain ⟨it,fp,tn,J,H2,e,I2,T,st2,f2,n,Pv,hn,p0,turn,done⟩:=h2
  subst e
  refine ZfS I2 hcm S hcl hcl2 T st2 f2 helt hn p0 turn (fun ys H p=>(done ys H p).1) fun D C o ys H' s' p d J' hm ho=>?_
  show wpAny _ X.A (assign (.Name y py) X.env (.ref D)) _ _ _
  obtain ⟨m,hm⟩:=hm
  have hg:PG X (.Name y py) (ZaE i):=zV hnd hi' (.inl hy) (.inr hy)
  refine thn (hg _ s' σ _ (.ref D) (.ref D) (fun σ2 H3=>σ2=σ.set i (some (.ref D))∧H3=upd H' D (.lst ys)) J' rfl ⟨rfl,rfl⟩) fun _ s6 ⟨σ6,H6,I6,e6,e7⟩=>?_
  subst e6 e7
  have pc:=I6.pin (C,o) (by simp)
  have pc':=J'.pin (C,o) (by simp)
  refine ⟨m,hm.at fun q e=>?_,fun h' hs'=>?_⟩
  · rw [pc'.1] at e; cases e; exact pc.1
  have J2:Inv X pins (σ.set i (some (.ref D))) (upd H' D (.lst ys)) s6:=I6.pins_of fun q hq=>I6.pin q (List.mem_append_right _ (List.mem_append_left _ hq))
  obtain ⟨f0,f1,f2,f3,f4,f5⟩:=ho
  exact ⟨_,_,J2.turned (t':=s6.toks) (it:=C) (fun b o hb e=>(hs'.2 b hb).trans e) f0 f1 f3 f4 f5,(done ys H' p).2 D d⟩
end
end L2
namespace L2
open PySem PySem.Spec PyProof.Rows PySem.SeqAt
section
variable {X:Cx}
theorem Ze4 {bs:List Bool}:(List.range bs.length).all (fun i=>bs.getD i false)=bs.all id:=by
  induction bs with
  | nil=>rfl
  | cons b r ih=>
    rw [List.length_cons,List.range_succ_eq_map,List.all_cons,List.all_map,List.all_cons]
    have:((fun i=>(b::r).getD i false)∘Nat.succ)=fun i=>r.getD i false:=by funext i; rfl
    rw [this,ih]
    rfl
theorem Zf8 (hc:X.calm=true):CallR X (.builtin "all") (fun xs H Q=>∃(p:Addr) (bs:List Bool),xs=[.ref p]∧SqL X.K H p (bs.map V.bl)∧Q (.bl (bs.all id)) H):=by
  intro pins s σ H xs us Q I r h
  obtain ⟨p,bs,rfl,hq,q⟩:=h
  obtain ⟨u,rfl,rx⟩:=Zcj r
  cases rx
  obtain ⟨its,r',pl,hz⟩:=I.list hq
  have hl:=r'.length
  rw [List.length_map] at hl
  refine call_all_walk (wpAny_pyIter_list pl.isList ?_)
  have hne:p≠s.heap.objs.size:=by
    obtain ⟨o,n,e,_⟩:=pl
    exact Nat.ne_of_lt (Heap.lt_size e)
  refine ⟨s.heap.objs.size,_,_,_,_,_,fun i=>bs.getD i false,rfl,Walks.list (A:=X.A.in1) (I.ok.hd hc) _ p hne its.toArray,⟨⟨_,Heap.get?_push_size _ rfl,rfl,rfl⟩,?_⟩,?_,fun h' tk hk=>?_⟩
  · obtain ⟨o,n,e,hc',hd,hs⟩:=pl
    exact ⟨o,Heap.get?_push_of_some _ e,hc',n,hs⟩
  · intro i v s2 Q2 E2 hp q2
    have hp':its[i]?=some v:=by simpa using hp
    have hi:i<bs.length:=by rw [hl]; exact (List.getElem?_eq_some_iff.mp hp').1
    obtain ⟨u,hu,ru⟩:=r'.get (i:=i) (x:=.bl (bs.getD i false)) (by rw [List.getElem?_map,List.getElem?_eq_getElem hi,List.getD_eq_getElem?_getD,List.getElem?_eq_getElem hi]; rfl)
    rw [hp'] at hu; cases hu
    cases ru
    exact wpAny_truthy_bool q2
  · refine ⟨.bl (bs.all id),H,(I.kept (t':=s.toks) fun b o e=>Heap.get?_push_of_some _ e).turned (it:=s.heap.objs.size) (fun b o hb e=>hk b o (by simpa using hb) e) (I.hok.fresh (Nat.le_refl _)) (Nat.ne_of_gt I.lt) (.inr I.sz) (fun x c e z=>?_) (fun q hq z=>?_),?_,q⟩
    · obtain ⟨v,w'⟩:=I.cell x c e
      exact absurd w'.lt (by rw [z]; exact Nat.lt_irrefl _)
    · exact absurd (Heap.lt_size (I.pin q hq).1) (by rw [z]; exact Nat.lt_irrefl _)
    · show Value.bool _=Value.bool _
      rw [List.size_toArray,←hl,Ze4]
mutual
inductive RdV (K:PySem.W.Frag) (H:Hp):V→PyData→Prop
  | non:RdV K H .non .none
  | bl (b:Bool):RdV K H (.bl b) (.bool b)
  | int (i:Int):RdV K H (.int i) (.int i)
  | str (x:Str):RdV K H (.str x) (.str x)
  | lst {a:Addr} {xs:List V} {ds:List PyData}:SqL K H a xs→RdVs K H xs ds→RdV K H (.ref a) (.list ds)
  | tup {a:Addr} {xs:List V} {ds:List PyData}:SqT K H a xs→RdVs K H xs ds→RdV K H (.ref a) (.tuple ds)
inductive RdVs (K:PySem.W.Frag) (H:Hp):List V→List PyData→Prop
  | nil:RdVs K H [] []
  | cons {x:V} {xs:List V} {d:PyData} {ds:List PyData}:RdV K H x d→RdVs K H xs ds→RdVs K H (x::xs) (d::ds)
end
mutual
theorem RdV.reads {pins:List (Addr×Obj)} {σ:St} {H:Hp} {s:Shared} (I:Inv X pins σ H s):∀{x:V} {d:PyData} {u:Value},RdV X.K H x d→RelV x u→∃as,Reads s.heap u d as
  | _,_,_,.non,r=>by cases r; exact ⟨_,.none⟩
  | _,_,_,.bl b,r=>by cases r; exact ⟨_,.bool b⟩
  | _,_,_,.int i,r=>by obtain ⟨t,rfl⟩:=r; exact ⟨_,.int i t⟩
  | _,_,_,.str x,r=>by obtain ⟨t,rfl⟩:=r; exact ⟨_,.str x t⟩
  | _,_,_,.lst h hs,r=>by
    cases r
    obtain ⟨its,rv,⟨o,n,e,hc,hd,hq⟩,_⟩:=I.list h
    obtain ⟨as,q⟩:=RdVs.reads I hs rv
    exact ⟨_,.list e hc hq (by simpa using q)⟩
  | _,_,_,.tup h hs,r=>by
    cases r
    obtain ⟨its,rv,⟨o,e,hc,n,hq⟩,_⟩:=I.tuple h
    obtain ⟨as,q⟩:=RdVs.reads I hs rv
    exact ⟨_,.tuple e hc hq (by simpa using q)⟩
theorem RdVs.reads {pins:List (Addr×Obj)} {σ:St} {H:Hp} {s:Shared} (I:Inv X pins σ H s):∀{xs:List V} {ds:List PyData} {us:List Value},RdVs X.K H xs ds→Vals xs us→∃as,ReadsAll s.heap us ds as
  | _,_,_,.nil,r=>by cases r; exact ⟨_,.nil⟩
  | _,_,_,.cons h hs,r=>by
    cases r with
    | cons r rr=>
      obtain ⟨as,q⟩:=RdV.reads I h r
      obtain ⟨bs,q2⟩:=RdVs.reads I hs rr
      exact ⟨_,.cons q q2⟩
end
theorem ZhF (hu:X.A.units+64<cLine):OpR X (compareOp .Eq) (fun x y H Q=>∃d e:PyData,RdV X.K H x d∧RdV X.K H y e∧shaped d=true∧shaped e=true∧noMix d e=true∧Q (.bl (same d e)) H):=by
  intro pins s σ H x y v u Q I rx ry h
  obtain ⟨d,e,hd,he,sd,se,hm,q⟩:=h
  obtain ⟨as,ra⟩:=hd.reads I rx
  obtain ⟨bs,rb⟩:=he.reads I ry
  exact eq_dataH_same ra rb sd se hu hm ⟨.bl _,H,I,rfl,q⟩
theorem ZhD (hu:X.A.units+64<cLine):OpR X (compareOp .NotEq) (fun x y H Q=>∃d e:PyData,RdV X.K H x d∧RdV X.K H y e∧shaped d=true∧shaped e=true∧noMix d e=true∧Q (.bl (!same d e)) H):=by
  intro pins s σ H x y v u Q I rx ry h
  obtain ⟨d,e,hd,he,sd,se,hm,q⟩:=h
  obtain ⟨as,ra⟩:=hd.reads I rx
  obtain ⟨bs,rb⟩:=he.reads I ry
  exact ne_dataH_same ra rb sd se hu hm ⟨.bl _,H,I,rfl,q⟩
theorem Za9:fillsNumberSlot (.type "tuple") "mul"=pure false:=
  PySem.fillsNumberSlot_seq (id:="tuple.__mul__") (r:=some (.builtin "tuple.__rmul__")) F.slot_tuple_mul.lookup (by decide +kernel) F.slot_tuple_rmul.lookup (by decide +kernel)
theorem ZcJ:seqRepeat? (.type "tuple")=pure (some (.builtin "tuple.__mul__")):=by
  unfold seqRepeat?
  rw [PySem.seqSlot_of (T:="tuple") (name:="__mul__") (id:="tuple.__mul__") F.slot_tuple_mul.lookup (by decide +kernel),PySem.seqSlot_of (T:="tuple") (name:="__rmul__") (id:="tuple.__rmul__") F.slot_tuple_rmul.lookup (by decide +kernel)]
  rfl
end
end L2
namespace L2
open PySem PySem.Spec PyProof.Rows Builtin
theorem Zb1 (a:Int) (t:Tok) (l:Addr) (items:Array Value) (n:Nat) (dd:Option Addr) (sl:Array (Option Value)) :
    Meets (Builtin.«int.__rmul__» ⟨[.int a t,.ref l],[]⟩) (fun _ R s=>s.heap.get? l=some { cls:=.type "tuple",dict:=dd,data:=.seq items n,slots:=sl }∧R (.ok (.ret Value.notImplemented)) s):=
  .of_wp fun prog w A R s h=>by obtain ⟨hp,g,d,tk,os⟩:=s; obtain ⟨hl,h⟩:=h; wp_walk; exact ⟨_,rfl,h⟩
theorem Zcc (l:Addr) (items:Array Value) (n:Nat) (dd:Option Addr) (sl:Array (Option Value)) (u:Tok) :
    Meets (Builtin.«tuple.__mul__» ⟨[.ref l,.int 1 u],[]⟩) (fun _ R s=>s.heap.get? l=some { cls:=.type "tuple",dict:=dd,data:=.seq items n,slots:=sl }∧R (.ok (.ret (Value.ref l))) s):=
  .of_wp fun prog w A R s h=>by
    obtain ⟨hp,g,d,tk,os⟩:=s; obtain ⟨hl,h⟩:=h
    wp_walk
    exact ⟨_,rfl,h⟩
theorem ZbD (l:Addr) (items:Array Value) (n:Nat) (dd:Option Addr) (sl:Array (Option Value)) (u:Tok) (h0:items.isEmpty=false) :
    Meets (Builtin.«tuple.__mul__» ⟨[.ref l,.int 0 u],[]⟩) (fun _ R s=>s.heap.get? l=some { cls:=.type "tuple",dict:=dd,data:=.seq items n,slots:=sl }∧R (.ok (.ret (Value.ref s.heap.objs.size))) { s with heap:=s.heap.push { cls:=.type "tuple",data:=.seq #[] } }):=
  .of_wp fun prog w A R s h=>by
    obtain ⟨hp,g,d,tk,os⟩:=s; obtain ⟨hl,h⟩:=h
    wp_walk
    exact ⟨_,rfl,h⟩
theorem ZbE (l:Addr) (items:Array Value) (n:Nat) (dd:Option Addr) (sl:Array (Option Value)) (x:Int) (u:Tok) (h0:items.isEmpty=false) (h1:2≤x) (h2:x<1000) (h3:items.size*x≤1000) :
    Meets (Builtin.«tuple.__mul__» ⟨[.ref l,.int x u],[]⟩) (fun _ R s=>s.heap.get? l=some { cls:=.type "tuple",dict:=dd,data:=.seq items n,slots:=sl }∧R (.ok (.ret (Value.ref s.heap.objs.size))) { s with heap:=s.heap.push { cls:=.type "tuple",data:=.seq (List.foldl (fun x1 x2=>x1++x2) #[] (List.replicate x.toNat items)) } }):=
  .of_wp fun prog w A R s h=>by
    obtain ⟨hp,g,d,tk,os⟩:=s; obtain ⟨hl,h⟩:=h
    have c1:¬(decide (x < -(2 ^ 63)) || decide (x≥2 ^ 63))=true:=by rw [decide_eq_false (by omega),decide_eq_false (by omega)]; decide
    have c2:¬(items.isEmpty || x == 1)=true:=by
      have:(x == 1)=false:=by simp; omega
      rw [h0,this]; decide
    have c3:¬(decide (x≤0) || items.isEmpty)=true:=by rw [h0,decide_eq_false (by omega)]; decide
    have c4:¬((items.size:Int)*x > (2 ^ 63-1)/8):=by omega
    have c5:¬Tuple.tupleTooMany ((items.size:Int)*x)=true:=by
      unfold Tuple.tupleTooMany
      rw [decide_eq_false (by rw [sizeLine_eq]; omega)]
      decide
    wp_walk
    rw [if_neg c1]
    wp_walk
    rw [if_neg c2]
    show wpAny (model prog w) A.in1 (if (decide (x≤0) || items.isEmpty)=true then _ else if (items.size:Int)*x > (2 ^ 63-1)/8 then _ else if Tuple.tupleTooMany ((items.size:Int)*x)=true then _ else _) _ _ _
    rw [if_neg c3,if_neg c4,if_neg c5]
    have hz:(List.foldl (fun x1 x2=>x1++x2) #[] (List.replicate x.toNat items)).size≤sizeLine:=by
      have:(List.replicate x.toNat items).foldl (fun x1 x2=>x1++x2) #[]=(List.replicate x.toNat items.toList).flatten.toArray:=by
        have:=Zas items.toList x.toNat []
        simpa using this
      rw [this,List.size_toArray,ZcS,sizeLine_eq]
      have e:items.toList.length=items.size:=by simp
      rw [e]
      have e2:((x.toNat*items.size:Nat):Int)=(items.size:Int)*x:=by
        rw [Int.natCast_mul,Int.mul_comm]
        congr 1
        omega
      omega
    wp_walk
    exact ⟨_,rfl,h⟩
section
variable {X:Cx}
def Zis (K:PySem.W.Frag):R2:=fun x y H Q=>∃(a:Addr) (k:Int) (xs:List V),x=.ref a∧y=.int k∧SqT K H a xs∧xs≠[]∧0≤k∧k<1000∧(xs.length:Int)*k≤1000∧
  (k=1→Q (.ref a) H)∧(k≠1→∀p,H p=none→Q (.ref p) (upd H p (.tup (List.replicate k.toNat xs).flatten)))
theorem op_repT:OpR X (binaryOp .Mult) (Zis X.K):=by
  intro pins s σ H x y v u Q I rx ry h
  obtain ⟨a,k,xs,rfl,rfl,hH,hne,h0,h1,h2,q1,q2⟩:=h
  cases rx
  obtain ⟨t,rfl⟩:=ry
  obtain ⟨its,r,pl,hz⟩:=I.tuple hH
  obtain ⟨⟨oc,dd,data,sl⟩,e,hc,n,hd⟩:=pl
  simp only at hc hd
  subst hc hd
  have hl:=r.length
  have he:its.toArray.isEmpty=false:=by
    cases r with
    | nil=>exact absurd rfl hne
    | cons _ _=>rfl
  refine wpAny_binaryOp_repeat_ref (T:="tuple") (U:="int") (by decide) ⟨_,e,rfl⟩ (fun s'=>typeIs_int s' k t) Za9 F.fills_int_mul F.slot_int_rmul ZcJ F.slot_int_index.lookup
    (call_meets F.slot_int_rmul (typeIs_int s k t) F.entry_int_rmul (F.args_int_rmul_2 _ _) (Zb1 k t a its.toArray n dd sl) ⟨e,rfl,⟨_,e,rfl⟩,?_⟩)
  by_cases k1:k=1
  · subst k1
    exact call_meets F.slot_tuple_mul ⟨_,e,rfl⟩ F.entry_tuple_mul (F.args_tuple_mul_2 _ _) (Zcc a its.toArray n dd sl t) ⟨e,.ref a,H,I,rfl,q1 rfl⟩
  · by_cases k0:k=0
    · subst k0
      refine call_meets F.slot_tuple_mul ⟨_,e,rfl⟩ F.entry_tuple_mul (F.args_tuple_mul_2 _ _) (ZbD a its.toArray n dd sl t he) ⟨e,.ref s.heap.objs.size,_,I.laid (t':=s.toks) (o:=.tup []) (fun b ob q=>Heap.get?_push_of_some _ q) (Nat.le_refl _) ?_,rfl,?_⟩
      · exact ⟨Nat.zero_le _,[],.nil,IsTup.new _ _⟩
      · exact q2 k1 _ (I.hok.fresh (Nat.le_refl _))
    · refine call_meets F.slot_tuple_mul ⟨_,e,rfl⟩ F.entry_tuple_mul (F.args_tuple_mul_2 _ _) (ZbE a its.toArray n dd sl k t he (by omega) h1 (by rw [List.size_toArray,←hl]; exact h2)) ⟨e,?_⟩
      have hnew:List.foldl (fun x1 x2=>x1++x2) #[] (List.replicate k.toNat its.toArray)=(List.replicate k.toNat its).flatten.toArray:=by
        have:=Zas its k.toNat []
        rw [List.nil_append] at this
        exact this
      rw [hnew]
      refine ⟨.ref s.heap.objs.size,_,I.laid (t':=s.toks) (o:=.tup (List.replicate k.toNat xs).flatten) (fun b ob q=>Heap.get?_push_of_some _ q) (Nat.le_refl _) ?_,rfl,q2 k1 _ (I.hok.fresh (Nat.le_refl _))⟩
      refine ⟨?_,_,r.rep k.toNat,IsTup.new _ _⟩
      rw [ZcS,sizeLine_eq]
      have e2:((k.toNat*xs.length:Nat):Int)=(xs.length:Int)*k:=by
        rw [Int.natCast_mul,Int.mul_comm]
        congr 1
        omega
      omega
end
end L2
namespace My
open PySem L2
end My
namespace L2.MM
open PySem PySem.Spec PyProof.Rows
theorem nr {α:Sort _} {a b:α} (h:a=b):a=b:=h
inductive D where
  | non | bl (b:Bool) | int (i:Int) | str (x:Str) | ty (n:String)
  | scr (ns:List Int) | tup (xs:List D) | lst (xs:List D) | ref (l:Nat)
  deriving Inhabited
inductive Zgd where
  | lst (xs:List D) | dK (kvs:List (Key×D)) | dT (kvs:List (List Key×D)) | ins (C:Str) (fs:List (Str×D))
abbrev Sto:=List Zgd
structure Bx where
  n:Nat
  m:Nat→Addr
  F:Addr→Prop
  os:List Addr
  ks:Addr→List Int→Prop
def Bx.ok (B:Bx) (a:Addr):Prop:=(∀i,i<B.n→B.m i≠a)∧¬B.F a∧a∉B.os
mutual
def RepV (B:Bx) (H:Hp):D→V→Prop
  | .non,v=>v=.non
  | .bl b,v=>v=.bl b
  | .int i,v=>v=.int i
  | .str x,v=>v=.str x
  | .ty n,v=>v=.ty n
  | .scr ns,v=>∃a,v=.ref a∧((∃o,H a=some (.frz o (.lst (ns.map V.int)))∧B.ok a)∨B.ks a ns)
  | .tup xs,v=>∃a vs,v=.ref a∧H a=some (.tup vs)∧B.ok a∧RepL B H xs vs
  | .lst xs,v=>∃a vs,v=.ref a∧H a=some (.lst vs)∧B.ok a∧RepL B H xs vs
  | .ref l,v=>l<B.n∧v=.ref (B.m l)
def RepL (B:Bx) (H:Hp):List D→List V→Prop
  | [],vs=>vs=[]
  | d::ds,vs=>∃v r,vs=v::r∧RepV B H d v∧RepL B H ds r
end
abbrev RepKV {κ:Type} (B:Bx) (H:Hp):List (κ×D)→List (κ×V)→Prop:=Paired fun p q=>p.1=q.1∧RepV B H p.2 q.2
structure ExtS (B B':Bx) (H H':Hp):Prop where
  n:B.n≤B'.n
  m:∀i,i<B.n→B'.m i=B.m i
  fr:∀i,B.n≤i→i<B'.n→H (B'.m i)=none
  keep:∀a o,H a=some o→(∀i,i<B.n→B.m i≠a)→a∉B.os→H' a=some o
  sm:∀a,H a≠none→H' a≠none
  os:∀a,a∈B'.os→a∈B.os∨H a=none
  F:B'.F=B.F
  ks:B'.ks=B.ks
structure ExtE (B B':Bx) (H H':Hp):Prop extends ExtS B B' H H' where
  osE:B'.os=B.os
  ko:∀a o,a∈B.os→(∀i,i<B.n→B.m i≠a)→H a=some o→H' a=some o
theorem ExtS.refl (B:Bx) (H:Hp):ExtS B B H H:=⟨Nat.le_refl _,fun _ _=>rfl,fun i h h'=>absurd h' (Nat.not_lt.mpr h),fun _ _ h _ _=>h,fun _ h=>h,fun _ h=>.inl h,rfl,rfl⟩
theorem ExtE.refl (B:Bx) (H:Hp):ExtE B B H H:=⟨ExtS.refl B H,rfl,fun _ _ _ _ h=>h⟩
section
variable {B B' B'':Bx} {H H' H'':Hp}
theorem Bx.ok.ext {a:Addr} {o:HO} (k:B.ok a) (E:ExtS B B' H H') (h:H a=some o):B'.ok a∧H' a=some o:=by
  refine ⟨⟨fun i hi e=>?_,by rw [E.F]; exact k.2.1,fun z=>?_⟩,E.keep a o h k.1 k.2.2⟩
  · by_cases q:i<B.n
    · rw [E.m i q] at e; exact k.1 i q e
    · have:=E.fr i (Nat.not_lt.mp q) hi
      rw [e,h] at this; cases this
  · rcases E.os a z with z | z
    · exact k.2.2 z
    · rw [h] at z; cases z
theorem ExtS.trans (E:ExtS B B' H H') (E':ExtS B' B'' H' H''):ExtS B B'' H H'' where
  n:=Nat.le_trans E.n E'.n
  m:=fun i hi=>(E'.m i (Nat.lt_of_lt_of_le hi E.n)).trans (E.m i hi)
  fr:=fun i h1 h2=>by
    by_cases q:i<B'.n
    · rw [E'.m i q]; exact E.fr i h1 q
    · cases z:H (B''.m i) with
      | none=>rfl
      | some o=>exact absurd (E'.fr i (Nat.not_lt.mp q) h2) (E.sm _ (by rw [z]; simp))
  keep:=fun a o h h1 h2=>by
    have h':=E.keep a o h h1 h2
    refine E'.keep a o h' (fun i hi e=>?_) (fun z=>?_)
    · by_cases q:i<B.n
      · rw [E.m i q] at e; exact h1 i q e
      · have:=E.fr i (Nat.not_lt.mp q) hi
        rw [e,h] at this; cases this
    · rcases E.os a z with z | z
      · exact h2 z
      · rw [h] at z; cases z
  sm:=fun a h=>E'.sm a (E.sm a h)
  os:=fun a h=>by
    rcases E'.os a h with z | z
    · exact E.os a z
    · right
      cases q:H a with
      | none=>rfl
      | some o=>exact absurd z (E.sm a (by rw [q]; simp))
  F:=E'.F.trans E.F
  ks:=E'.ks.trans E.ks
theorem ExtE.trans (E:ExtE B B' H H') (E':ExtE B' B'' H' H''):ExtE B B'' H H'' where
  toExtS:=E.toExtS.trans E'.toExtS
  osE:=E'.osE.trans E.osE
  ko:=fun a o ha h1 h=>by
    have h':=E.ko a o ha h1 h
    refine E'.ko a o (by rw [E.osE]; exact ha) (fun i hi e=>?_) h'
    by_cases q:i<B.n
    · rw [E.m i q] at e; exact h1 i q e
    · have:=E.fr i (Nat.not_lt.mp q) hi
      rw [e,h] at this; cases this
mutual
theorem RepV.ext (E:ExtS B B' H H'):∀{d:D} {v:V},RepV B H d v→RepV B' H' d v
  | .non,_,h=>h
  | .bl _,_,h=>h
  | .int _,_,h=>h
  | .str _,_,h=>h
  | .ty _,_,h=>h
  | .scr _,_,h=>by
    obtain ⟨a,e,h⟩:=h
    refine ⟨a,e,?_⟩
    rcases h with ⟨o,h,k⟩ | h
    · obtain ⟨k',h'⟩:=k.ext E h
      exact .inl ⟨o,h',k'⟩
    · exact .inr (by rw [E.ks]; exact h)
  | .tup _,_,h=>by
    obtain ⟨a,vs,e,h,k,l⟩:=h
    obtain ⟨k',h'⟩:=k.ext E h
    exact ⟨a,vs,e,h',k',RepL.ext E l⟩
  | .lst _,_,h=>by
    obtain ⟨a,vs,e,h,k,l⟩:=h
    obtain ⟨k',h'⟩:=k.ext E h
    exact ⟨a,vs,e,h',k',RepL.ext E l⟩
  | .ref l,_,h=>⟨Nat.lt_of_lt_of_le h.1 E.n,by rw [h.2,E.m l h.1]⟩
theorem RepL.ext (E:ExtS B B' H H'):∀{ds:List D} {vs:List V},RepL B H ds vs→RepL B' H' ds vs
  | [],_,h=>h
  | _::_,_,h=>by
    obtain ⟨v,r,e,hv,hr⟩:=h
    exact ⟨v,r,e,RepV.ext E hv,RepL.ext E hr⟩
end
theorem RepL.len:∀{ds:List D} {vs:List V},RepL B H ds vs→vs.length=ds.length
  | [],_,h=>by cases (show _=[] from h); rfl
  | _::_,_,h=>by
    obtain ⟨v,r,rfl,_,hr⟩:=h
    simp [RepL.len hr]
theorem RepL.app:∀{ds es:List D} {vs us:List V},RepL B H ds vs→RepL B H es us→RepL B H (ds++es) (vs++us)
  | [],_,_,_,h,q=>by cases (show _=[] from h); exact q
  | _::_,_,_,_,h,q=>by
    obtain ⟨v,r,rfl,hv,hr⟩:=h
    exact ⟨v,_,rfl,hv,RepL.app hr q⟩
theorem RepL.get:∀{ds:List D} {vs:List V} {i:Nat} {d:D},RepL B H ds vs→ds[i]?=some d→∃v,vs[i]?=some v∧RepV B H d v
  | [],_,_,_,_,e=>by simp at e
  | _::_,_,0,_,h,e=>by
    obtain ⟨v,r,rfl,hv,_⟩:=h
    simp at e; subst e
    exact ⟨v,rfl,hv⟩
  | _::_,_,i+1,_,h,e=>by
    obtain ⟨v,r,rfl,_,hr⟩:=h
    obtain ⟨w,q1,q2⟩:=RepL.get (i:=i) hr (by simpa using e)
    exact ⟨w,by simpa using q1,q2⟩
theorem RepL.take:∀{ds:List D} {vs:List V} (n:Nat),RepL B H ds vs→RepL B H (ds.take n) (vs.take n)
  | _,_,0,_=>by rw [List.take_zero,List.take_zero]; exact rfl
  | [],_,n+1,h=>by cases (show _=[] from h); exact rfl
  | _::_,_,n+1,h=>by
    obtain ⟨v,r,rfl,hv,hr⟩:=h
    exact ⟨v,_,rfl,hv,RepL.take n hr⟩
theorem RepL.drop:∀{ds:List D} {vs:List V} (n:Nat),RepL B H ds vs→RepL B H (ds.drop n) (vs.drop n)
  | _,_,0,h=>h
  | [],_,n+1,h=>by cases (show _=[] from h); exact rfl
  | _::_,_,n+1,h=>by
    obtain ⟨v,r,rfl,hv,hr⟩:=h
    exact RepL.drop n hr
theorem RepL.map {α:Type} {f:α→D} {g:α→V} (q:∀a,RepV B H (f a) (g a)):∀l:List α,RepL B H (l.map f) (l.map g)
  | []=>rfl
  | a::l=>⟨_,_,rfl,q a,RepL.map q l⟩
theorem RepKV.ext {κ:Type} (E:ExtS B B' H H'):∀{ks:List (κ×D)} {vs:List (κ×V)},RepKV B H ks vs→RepKV B' H' ks vs
  | _,_,.nil=>.nil
  | _,_,.cons h t=>.cons ⟨h.1,RepV.ext E h.2⟩ (RepKV.ext E t)
end
structure Mo where
  cl:Str→Addr
  K:PySem.W.Frag
def KL (K:PySem.W.Frag) (a:Addr) (ns:List Int):Prop:=∃(o:Obj) (its:Array Value) (n:Nat),K.lookup a=some o∧o.cls=.type "list"∧o.dict=none∧o.data=.seq its n∧its.size≤sizeLine∧Vals (ns.map V.int) its.toList
def CellOk (cl:Mo) (B:Bx) (H:Hp) (a:Addr):Zgd→Prop
  | .lst xs=>∃vs,H a=some (.lst vs)∧RepL B H xs vs
  | .dK kvs=>∃vs,H a=some (.dK vs)∧RepKV B H kvs vs
  | .dT kvs=>∃vs,H a=some (.dT vs)∧RepKV B H kvs vs
  | .ins C fs=>∃dx vs,H a=some (.ins (cl.cl C) dx vs)∧RepKV B H fs vs
structure Good (cl:Mo) (B:Bx) (θ:Sto) (H:Hp):Prop where
  len:θ.length=B.n
  inj:∀i j,i<B.n→j<B.n→B.m i=B.m j→i=j
  cel:∀i c,θ[i]?=some c→CellOk cl B H (B.m i) c
  cF:∀i,i<B.n→¬B.F (B.m i)∧B.m i∉B.os
  Fs:∀a,B.F a→H a≠none
  oS:∀a,a∈B.os→H a≠none
  oF:∀a,a∈B.os→¬B.F a
  kc:∀a ns,B.ks a ns→KL cl.K a ns
section
variable {cl:Mo} {B B' B'':Bx} {H H' H'':Hp} {θ θ':Sto}
theorem CellOk.ext {a:Addr} {c:Zgd} (k:CellOk cl B H a c) (E:ExtS B B' H H') (h:∀o,H a=some o→H' a=some o):CellOk cl B' H' a c:=by
  cases c with
  | lst xs=>obtain ⟨vs,e,r⟩:=k; exact ⟨vs,h _ e,r.ext E⟩
  | dK kvs=>obtain ⟨vs,e,r⟩:=k; exact ⟨vs,h _ e,r.ext E⟩
  | dT kvs=>obtain ⟨vs,e,r⟩:=k; exact ⟨vs,h _ e,r.ext E⟩
  | ins C fs=>obtain ⟨dx,vs,e,r⟩:=k; exact ⟨dx,vs,h _ e,r.ext E⟩
theorem CellOk.there {a:Addr} {c:Zgd} (k:CellOk cl B H a c):H a≠none:=by
  cases c with
  | lst xs=>obtain ⟨vs,e,r⟩:=k; rw [e]; simp
  | dK kvs=>obtain ⟨vs,e,r⟩:=k; rw [e]; simp
  | dT kvs=>obtain ⟨vs,e,r⟩:=k; rw [e]; simp
  | ins C fs=>obtain ⟨dx,vs,e,r⟩:=k; rw [e]; simp
theorem Good.there (G:Good cl B θ H) {i:Nat} (hi:i<B.n):H (B.m i)≠none:=by
  have:i < θ.length:=by rw [G.len]; exact hi
  exact (G.cel i _ (List.getElem?_eq_getElem this)).there
theorem Good.okNone (G:Good cl B θ H) {p:Addr} (h:H p=none):B.ok p:=
  ⟨fun i hi e=>G.there hi (by rw [e]; exact h),fun z=>G.Fs p z h,fun z=>G.oS p z h⟩
theorem z7 (G:Good cl B θ H) {p:Addr} (h:H p=none) (o:HO):ExtE B B H (upd H p o):=by
  have ne:∀a u,H a=some u→upd H p o a=some u:=fun a u e=>by rw [Zl (Zu e h)]; exact e
  exact ⟨⟨Nat.le_refl _,fun _ _=>rfl,fun i h h'=>absurd h' (Nat.not_lt.mpr h),fun a u e _ _=>ne a u e,fun a e=>by
    cases q:H a with
    | none=>exact absurd q e
    | some u=>rw [ne a u q]; simp,fun _ h=>.inl h,rfl,rfl⟩,rfl,fun a u _ _ e=>ne a u e⟩
theorem ZaY (G:Good cl B θ H) {p:Addr} (h:H p=none) (o:HO):Good cl B θ (upd H p o):=by
  have E:=z7 G h o
  exact ⟨G.len,G.inj,fun i c e=>(G.cel i c e).ext E.toExtS fun u q=>by rw [Zl (Zu q h)]; exact q,G.cF,fun a z=>E.sm a (G.Fs a z),fun a z=>E.sm a (G.oS a z),G.oF,G.kc⟩
theorem Zgm (G:Good cl B θ H) {p:Addr} (h:H p=none) {xs:List D} {vs:List V} (r:RepL B H xs vs):RepV B (upd H p (.lst vs)) (.lst xs) (.ref p):=
  ⟨p,vs,rfl,Z2,G.okNone h,r.ext (z7 G h _).toExtS⟩
theorem Zgl (G:Good cl B θ H) {p:Addr} (h:H p=none) {xs:List D} {vs:List V} (r:RepL B H xs vs):RepV B (upd H p (.tup vs)) (.tup xs) (.ref p):=
  ⟨p,vs,rfl,Z2,G.okNone h,r.ext (z7 G h _).toExtS⟩
end
inductive R (α:Type) where
  | ok (a:α) (θ:Sto) | ex (c:Str) (θ:Sto) | bad
def R.bind {α β:Type} (r:R α) (k:α→Sto→R β):R β:=match r with
  | .ok a θ=>k a θ
  | .ex c θ=>.ex c θ
  | .bad=>.bad
@[simp] theorem R.bind_ok {α β:Type} (a:α) (θ:Sto) (k:α→Sto→R β):(R.ok a θ).bind k=k a θ:=nr rfl
@[simp] theorem R.bind_bad {α β:Type} (k:α→Sto→R β):(R.bad:R α).bind k=.bad:=nr rfl
inductive Sl where
  | no | val (d:D) | own (xs:List D)
structure Frm (cl:Mo) (B:Bx) (θ:Sto) (ρ:List Sl) (σ:St) (H:Hp):Prop where
  good:Good cl B θ H
  len:ρ.length=σ.length
  val:∀(i:Nat) (d:D),ρ[i]?=some (Sl.val d)→∃v,σ[i]?=some (some v)∧RepV B H d v
  own:∀(i:Nat) (xs:List D),ρ[i]?=some (Sl.own xs)→∃a vs,σ[i]?=some (some (.ref a))∧a∈B.os∧H a=some (.lst vs)∧RepL B H xs vs
  ne:∀(i j:Nat) (xs ys:List D) (a:Addr),i≠j→ρ[i]?=some (Sl.own xs)→ρ[j]?=some (Sl.own ys)→σ[i]?=some (some (.ref a))→σ[j]?≠some (some (.ref a))
theorem Frm.ext {cl:Mo} {B B':Bx} {θ θ':Sto} {ρ:List Sl} {σ:St} {H H':Hp} (F:Frm cl B θ ρ σ H) (E:ExtE B B' H H') (G:Good cl B' θ' H'):Frm cl B' θ' ρ σ H' where
  good:=G
  len:=F.len
  val:=fun i d e=>let ⟨v,h1,h2⟩:=F.val i d e; ⟨v,h1,h2.ext E.toExtS⟩
  own:=fun i xs e=>by
    obtain ⟨a,vs,h1,h2,h3,h4⟩:=F.own i xs e
    exact ⟨a,vs,h1,by rw [E.osE]; exact h2,E.ko a _ h2 (fun i hi z=>(F.good.cF i hi).2 (by rw [z]; exact h2)) h3,h4.ext E.toExtS⟩
  ne:=F.ne
def Zd0 (mg:Str→Option Value) (x:Str):Addr:=match mg x with
  | some (.ref a)=>a
  | _=>0
abbrev _root_.L2.Cx.cl (X:Cx):Mo:=⟨Zd0 X.mg,X.K⟩
def XE (X:Cx) (σ:St) (B:Bx) (H:Hp) (c:Str) (θ':Sto):Prop:=False
theorem XE.trans {X:Cx} {σ:St} {B B':Bx} {H H':Hp} {c:Str} {θ':Sto} (h:XE X σ B H c θ') (E:ExtE B B' H H'):XE X σ B' H' c θ':=h
def wpR (X:Cx) (σ:St) {α β:Type} (Rel:Bx→Hp→α→β→Prop) (B:Bx) (H:Hp) (r:R α) (Q:β→Hp→Prop):Prop:=match r with
  | .ok a θ'=>∀B' H' b,ExtE B B' H H'→Good X.cl B' θ' H'→Rel B' H' a b→Q b H'
  | .ex c θ'=>XE X σ B H c θ'
  | .bad=>False
section
variable {X:Cx} {σ:St} {α β γ δ:Type} {Rel:Bx→Hp→α→β→Prop} {Rel':Bx→Hp→γ→δ→Prop} {B B':Bx} {H H':Hp}
theorem wpR.mono {r:R α} {Q Q':β→Hp→Prop} (h:wpR X σ Rel B H r Q) (hQ:∀b H',Q b H'→Q' b H'):wpR X σ Rel B H r Q':=by
  cases r with
  | ok a θ'=>exact fun B' H' b e g q=>hQ _ _ (h B' H' b e g q)
  | ex c θ'=>exact h
  | bad=>exact h
theorem wpR.trans {r:R α} {Q:β→Hp→Prop} (h:wpR X σ Rel B H r Q) (E:ExtE B B' H H'):wpR X σ Rel B' H' r Q:=by
  cases r with
  | ok a θ'=>exact fun B2 H2 b e g q=>h B2 H2 b (E.trans e) g q
  | ex c θ'=>exact XE.trans (c:=c) (θ':=θ') (σ:=σ) (X:=X) h E
  | bad=>exact h
theorem wpR.bind {r:R α} {k:α→Sto→R γ} {Q:δ→Hp→Prop} (h:wpR X σ Rel' B H (r.bind k) Q) :
    wpR X σ Rel B H r (fun b H1=>∃B1 θ1 a,ExtE B B1 H H1∧Good X.cl B1 θ1 H1∧Rel B1 H1 a b∧wpR X σ Rel' B1 H1 (k a θ1) Q):=by
  cases r with
  | ok a θ'=>exact fun B1 H1 b E g q=>⟨B1,θ',a,E,g,q,wpR.trans h E⟩
  | ex c θ'=>exact h
  | bad=>exact h
end
abbrev EM:=List Sl→Sto→R D
abbrev TMr:=List Sl→Sto→R Bool
abbrev AM:=List Sl→Sto→R (List D)
def EqB (_:Bx) (_:Hp) (a b:Bool):Prop:=a=b
def tM (X:Cx) (f:EM):TE:=fun σ H Q=>∃B θ ρ,Frm X.cl B θ ρ σ H∧wpR X σ RepV B H (f ρ θ) Q
def tMT (X:Cx) (f:TMr):TT:=fun σ H Q=>∃B θ ρ,Frm X.cl B θ ρ σ H∧wpR X σ EqB B H (f ρ θ) Q
def tMA (X:Cx) (f:AM):TA:=fun σ H Q=>∃B θ ρ,Frm X.cl B θ ρ σ H∧wpR X σ RepL B H (f ρ θ) Q
def ME (X:Cx) (e:Expr) (f:EM):Prop:=PE X e (tM X f)
def MT (X:Cx) (e:Expr) (f:TMr):Prop:=PT X e (tMT X f)
def MW (X:Cx) (e:Expr) (f:TMr):Prop:=PW X e (tMT X f)
def MA (X:Cx) (es:List Expr) (f:AM):Prop:=PA X es (tMA X f)
section
variable {X:Cx} {σ:St} {H:Hp} {γ δ:Type} {Rel':Bx→Hp→γ→δ→Prop}
theorem ZB {f:EM} {Q Q':VK} (h:tM X f σ H Q) (hQ:∀v H',Q v H'→Q' v H'):tM X f σ H Q':=let ⟨B,θ,ρ,F,w⟩:=h; ⟨B,θ,ρ,F,w.mono hQ⟩
theorem Zag {f:TMr} {Q Q':Bool→Hp→Prop} (h:tMT X f σ H Q) (hQ:∀v H',Q v H'→Q' v H'):tMT X f σ H Q':=let ⟨B,θ,ρ,F,w⟩:=h; ⟨B,θ,ρ,F,w.mono hQ⟩
theorem zn {f:AM} {Q Q':List V→Hp→Prop} (h:tMA X f σ H Q) (hQ:∀v H',Q v H'→Q' v H'):tMA X f σ H Q':=let ⟨B,θ,ρ,F,w⟩:=h; ⟨B,θ,ρ,F,w.mono hQ⟩
variable {B:Bx} {θ:Sto} {ρ:List Sl}
theorem step {f:EM} {k:D→Sto→R γ} {Q:δ→Hp→Prop} (F:Frm X.cl B θ ρ σ H) (h:wpR X σ Rel' B H ((f ρ θ).bind k) Q) :
    tM X f σ H (fun v H1=>∃B1 θ1 d,ExtE B B1 H H1∧Frm X.cl B1 θ1 ρ σ H1∧RepV B1 H1 d v∧wpR X σ Rel' B1 H1 (k d θ1) Q):=
  ⟨B,θ,ρ,F,(wpR.bind (Rel:=RepV) h).mono fun v H1 ⟨B1,θ1,d,E,G,r,w⟩=>⟨B1,θ1,d,E,F.ext E G,r,w⟩⟩
theorem Zd9 {f:TMr} {k:Bool→Sto→R γ} {Q:δ→Hp→Prop} (F:Frm X.cl B θ ρ σ H) (h:wpR X σ Rel' B H ((f ρ θ).bind k) Q) :
    tMT X f σ H (fun c H1=>∃B1 θ1,ExtE B B1 H H1∧Frm X.cl B1 θ1 ρ σ H1∧wpR X σ Rel' B1 H1 (k c θ1) Q):=
  ⟨B,θ,ρ,F,(wpR.bind (Rel:=EqB) h).mono fun v H1 ⟨B1,θ1,d,E,G,r,w⟩=>by cases (show d=v from r); exact ⟨B1,θ1,E,F.ext E G,w⟩⟩
theorem ZbH {f:AM} {k:List D→Sto→R γ} {Q:δ→Hp→Prop} (F:Frm X.cl B θ ρ σ H) (h:wpR X σ Rel' B H ((f ρ θ).bind k) Q) :
    tMA X f σ H (fun v H1=>∃B1 θ1 d,ExtE B B1 H H1∧Frm X.cl B1 θ1 ρ σ H1∧RepL B1 H1 d v∧wpR X σ Rel' B1 H1 (k d θ1) Q):=
  ⟨B,θ,ρ,F,(wpR.bind (Rel:=RepL) h).mono fun v H1 ⟨B1,θ1,d,E,G,r,w⟩=>⟨B1,θ1,d,E,F.ext E G,r,w⟩⟩
theorem Zr {α β:Type} {Rel:Bx→Hp→α→β→Prop} {a:α} {b:β} {Q:β→Hp→Prop} (G:Good X.cl B θ H) (r:Rel B H a b) (h:wpR X σ Rel B H (.ok a θ) Q):Q b H:=h B H b (ExtE.refl B H) G r
end
theorem PE.imp {X:Cx} {e:Expr} {t t':TE} (h:PE X e t) (hi:∀σ H Q,t' σ H Q→t σ H Q):PE X e t':=fun pins s σ H Q I q=>h pins s σ H Q I (hi σ H Q q)
theorem PT.imp {X:Cx} {e:Expr} {t t':TT} (h:PT X e t) (hi:∀σ H Q,t' σ H Q→t σ H Q):PT X e t':=fun pins s σ H Q I q=>h pins s σ H Q I (hi σ H Q q)
theorem PW.imp {X:Cx} {e:Expr} {t t':TT} (h:PW X e t) (hi:∀σ H Q,t' σ H Q→t σ H Q):PW X e t':=fun wh pins s σ H Q I q=>h wh pins s σ H Q I (hi σ H Q q)
theorem PA.imp {X:Cx} {es:List Expr} {t t':TA} (h:PA X es t) (hi:∀σ H Q,t' σ H Q→t σ H Q):PA X es t':=fun pos pins s σ H Q I q=>h pos pins s σ H Q I (hi σ H Q q)
theorem OpR.imp {X:Cx} {f:Value→Value→Sem Value} {r r':R2} (h:OpR X f r) (hi:∀x y H Q,r' x y H Q→r x y H Q):OpR X f r':=fun pins s σ H x y v u Q I rx ry q=>h pins s σ H x y v u Q I rx ry (hi x y H Q q)
theorem IxR.imp {X:Cx} {r r':R2} (h:IxR X r) (hi:∀x y H Q,r' x y H Q→r x y H Q):IxR X r':=fun pins s σ H x y v u Q v1 s1 I rx ry q=>h pins s σ H x y v u Q v1 s1 I rx ry (hi _ _ _ _ q)
theorem CallR.imp {X:Cx} {f:Value} {r r':List V→Hp→VK→Prop} (h:CallR X f r) (hi:∀xs H Q,r' xs H Q→r xs H Q):CallR X f r':=fun pins s σ H xs us Q I r q=>h pins s σ H xs us Q I r (hi _ _ _ q)
end L2.MM
namespace L2.MM
open PySem PySem.Spec PyProof.Rows
noncomputable section
variable {X:Cx}
def ZO (θ:Sto):D→Option (List D)
  | .lst xs=>some xs
  | .ref l=>match θ[l]? with
    | some (.lst xs)=>some xs
    | _=>none
  | _=>none
def seqOf (θ:Sto):D→Option (List D)
  | .tup xs=>some xs
  | .scr ns=>some (ns.map D.int)
  | d=>ZO θ d
theorem ZR {cl:Mo} {B:Bx} {θ:Sto} {H:Hp} (G:Good cl B θ H) {d:D} {v:V} {xs:List D} (r:RepV B H d v) (h:ZO θ d=some xs):∃a vs,v=.ref a∧H a=some (.lst vs)∧RepL B H xs vs:=by
  cases d with
  | lst ys=>
    obtain ⟨a,vs,e,h1,_,h2⟩:=r
    cases h
    exact ⟨a,vs,e,h1,h2⟩
  | ref l=>
    obtain ⟨hl,rfl⟩:=r
    simp only [ZO] at h
    split at h
    · rename_i ys e
      cases h
      obtain ⟨vs,q1,q2⟩:=G.cel l _ e
      exact ⟨_,vs,rfl,q1,q2⟩
    · cases h
  | _=>cases h
theorem zL {cl:Mo} {B:Bx} {θ:Sto} {H:Hp} (G:Good cl B θ H) {d:D} {v:V} {xs:List D} (r:RepV B H d v) (h:seqOf θ d=some xs) :
    ∃a vs,v=.ref a∧(SqL cl.K H a vs∨SqT cl.K H a vs)∧RepL B H xs vs:=by
  cases d with
  | tup ys=>
    obtain ⟨a,vs,e,h1,_,h2⟩:=r
    cases h
    exact ⟨a,vs,e,.inr (SqT.of h1),h2⟩
  | scr ns=>
    obtain ⟨a,e,h1⟩:=r
    cases h
    refine ⟨a,ns.map V.int,e,.inl ?_,RepL.map (f:=D.int) (g:=V.int) (fun _=>rfl) ns⟩
    rcases h1 with ⟨o,h1,_⟩ | h1
    · exact .inl (.inr ⟨o,h1⟩)
    · exact .inr (G.kc a ns h1)
  | lst ys=>
    obtain ⟨a,vs,e,h1,h2⟩:=ZR G r (show ZO θ (.lst ys)=some xs from h)
    exact ⟨a,vs,e,.inl (SqL.of h1),h2⟩
  | ref l=>
    obtain ⟨a,vs,e,h1,h2⟩:=ZR G r (show ZO θ (.ref l)=some xs from h)
    exact ⟨a,vs,e,.inl (SqL.of h1),h2⟩
  | _=>cases h
abbrev BIG:Nat:=100000
theorem Zy {n:Nat} (h:n≤BIG):n≤sizeLine:=Nat.le_trans h (by rw [sizeLine_eq]; decide)
def Zd (i:Nat):EM:=fun ρ θ=>match ρ[i]? with
  | some (Sl.val d)=>.ok d θ
  | _=>.bad
def mC (d:D):EM:=fun _ θ=>.ok d θ
section
variable {a b c e:Expr} {pos:Pos} {fa fb fc:EM} {ft fu:TMr}
theorem Zb (i:Nat) {x:Str} {pos:Pos} (hN:X.N[i]?=some x:=by rfl) (hv:Vis X.env.scope x:=by first | exact Or.inl rfl | exact Or.inr (Or.inl rfl) | exact Or.inr (Or.inr rfl))
    (hd:(x == ("__debug__":Str))=false:=by decide) (hcd:(x == ("__classdict__":Str))=false:=by decide):ME X (.Name x pos) (Zd i):=by
  refine PE.imp (Zfv hN hv hd hcd) fun σ H Q h=>?_
  obtain ⟨B,θ,ρ,F,w⟩:=h
  unfold Zd at w
  split at w
  · rename_i d e
    obtain ⟨v,h1,h2⟩:=F.val i d e
    exact ⟨v,h1,Zr F.good h2 w⟩
  · exact w.elim
theorem ZeU {d:D} {v:V} (h:PE X e (tC v)) (r:∀B H,RepV B H d v):ME X e (mC d):=by
  refine PE.imp h fun σ H Q h=>?_
  obtain ⟨B,θ,ρ,F,w⟩:=h
  exact Zr F.good (r B H) w
theorem Ze {i j pos}:ME X (.Constant (.int i) j pos) (mC (.int i)):=ZeU ZhA fun _ _=>rfl
theorem ZiO {i j pos}:ME X (.Constant (.bool i) j pos) (mC (.bl i)):=ZeU ZiD fun _ _=>rfl
theorem ZW {i j pos}:ME X (.Constant (.str i) j pos) (mC (.str i)):=ZeU Zhx fun _ _=>rfl
theorem Zo {x:Str} {i:Int} (h:∃t,X.mg x=some (.int i t)) (hg:Gl X x:=by rfl) (hd:(x == ("__debug__":Str))=false:=by decide):ME X (.Name x pos) (mC (.int i)):=ZeU (Zgz h hg hd) fun _ _=>rfl
theorem z0 {x:Str} {y:Str} (h:∃t,X.mg x=some (.str y t)) (hg:Gl X x:=by rfl) (hd:(x == ("__debug__":Str))=false:=by decide):ME X (.Name x pos) (mC (.str y)):=by
  obtain ⟨t,h⟩:=h
  exact ZeU (Zee hg h (v:=.str y) ⟨t,rfl⟩ hd) fun _ _=>rfl
theorem ZfL {x:Str} {n:String} {pos:Pos} (hm:X.mg x=none) (hv:bootBuiltins x=some (.type n)) (hg:Gl X x:=by rfl) (hn:x≠"__name__":=by decide) (hd:(x == ("__debug__":Str))=false:=by decide):ME X (.Name x pos) (mC (.ty n)):=
  ZeU (ZiA hm hv hg hn hd) fun _ _=>rfl
abbrev OM:=D→D→Sto→R D
def mOp (g:OM) (fa fb:EM):EM:=fun ρ θ=>(fa ρ θ).bind fun x θ=>(fb ρ θ).bind fun y θ=>g x y θ
def rM (X:Cx) (g:OM):R2:=fun x y H Q=>∃σ B θ d e,Good X.cl B θ H∧RepV B H d x∧RepV B H e y∧wpR X σ RepV B H (g d e θ) Q
theorem Zd7 {g:OM} (σ:St) (H:Hp) (Q:VK) (h:tM X (mOp g fa fb) σ H Q):tOp (rM X g) (tM X fa) (tM X fb) σ H Q:=by
  obtain ⟨B,θ,ρ,F,w⟩:=h
  refine ZB (step F w) ?_
  rintro x' H1 ⟨B1,θ1,x,E1,F1,rx,w1⟩
  refine ZB (step F1 w1) ?_
  rintro y' H2 ⟨B2,θ2,y,E2,F2,ry,w2⟩
  exact ⟨σ,B2,θ2,x,y,F2.good,rx.ext E2.toExtS,ry,w2⟩
theorem Zi {op:Operator} {g:OM} (ho:OpR X (binaryOp op) (rM X g)) (ha:ME X a fa) (hb:ME X b fb):ME X (.BinOp a op b pos) (mOp g fa fb):=PE.imp (ZiB ho ha hb) Zd7
theorem ZdV {op:CmpOp} {g:OM} (ho:OpR X (compareOp op) (rM X g)) (ha:ME X a fa) (hb:ME X b fb) (hm:behindInMarks op b=false:=by first | exact ZfE _ | rfl):ME X (.Compare a [op] [b] pos) (mOp g fa fb):=PE.imp (ZgA ho ha hb hm) Zd7
theorem ZI {g:OM} (hr:IxR X (rM X g)) (ha:ME X a fa) (hb:ME X b fb) (hs:Zew b:=by intro _ _; rfl):ME X (.Subscript a b pos) (mOp g fa fb):=PE.imp (ZiC hr ha hb hs) Zd7
def ZL (f:EM):TMr:=fun ρ θ=>(f ρ θ).bind fun x θ=>match x with
  | .bl k=>.ok k θ
  | _=>.bad
theorem Zfk {f:EM} (σ:St) (H:Hp) (Q:Bool→Hp→Prop) (h:tMT X (ZL f) σ H Q):tM X f σ H (fun v H1=>∃k,v=.bl k∧Q k H1):=by
  obtain ⟨B,θ,ρ,F,w⟩:=h
  refine ZB (step F w) ?_
  rintro v H1 ⟨B1,θ1,x,E1,F1,rx,w1⟩
  cases x with
  | bl k=>exact ⟨k,rx,Zr (Rel:=EqB) F1.good rfl w1⟩
  | _=>exact w1.elim
theorem ZK {op:CmpOp} {g:OM} (ho:OpR X (compareOp op) (rM X g)) (ha:ME X a fa) (hb:ME X b fb) (hm:behindInMarks op b=false:=by first | exact ZfE _ | rfl):MT X (.Compare a [op] [b] pos) (ZL (mOp g fa fb)):=by
  refine PT.imp (Zgq ho ha hb hm) fun σ H Q h=>?_
  have q:=Zfk σ H Q h
  exact Zd7 σ H _ q
def ZjF (g g':OM) (fa fb fc:EM):EM:=fun ρ θ=>(fa ρ θ).bind fun x θ=>(fb ρ θ).bind fun y θ=>(g x y θ).bind fun z θ=>match z with
  | .bl true=>(fc ρ θ).bind fun w θ=>g' y w θ
  | .bl false=>.ok (.bl false) θ
  | _=>.bad
def ZbG (θ:Sto):D→Option Bool
  | .non=>some false
  | .bl b=>some b
  | .int i=>some (i != 0)
  | .str x=>if x.length≤BIG then some ((x.length:Int) != 0) else none
  | d=>(seqOf θ d).map fun xs=>!xs.isEmpty
def Zdo (f:EM):TMr:=fun ρ θ=>(f ρ θ).bind fun x θ=>match ZbG θ x with
  | some k=>.ok k θ
  | none=>.bad
theorem RepL.emp {B:Bx} {H:Hp} {xs:List D} {vs:List V} (r:RepL B H xs vs):vs.isEmpty=xs.isEmpty:=by
  cases xs with
  | nil=>cases (show vs=[] from r); rfl
  | cons _ _=>obtain ⟨v,q,rfl,_,_⟩:=r; rfl
theorem Zgg {cl:Mo} {B:Bx} {θ:Sto} {H:Hp} (G:Good cl B θ H) {d:D} {v:V} {k:Bool} (r:RepV B H d v) (h:ZbG θ d=some k):TruV cl.K v H k:=by
  have sq:∀xs,seqOf θ d=some xs→((seqOf θ d).map fun xs=>!xs.isEmpty)=some k→TruV cl.K v H k:=fun xs e q=>by
    rw [e] at q
    cases q
    obtain ⟨a,vs,rfl,h1,h2⟩:=zL G r e
    show TruV cl.K (V.ref a) H (!xs.isEmpty)
    rw [←h2.emp]
    rcases h1 with h1 | h1
    · exact .inl ⟨vs,h1,rfl⟩
    · exact .inr (.inl ⟨vs,h1,rfl⟩)
  cases d with
  | non=>cases (show v=.non from r); cases h; rfl
  | bl b=>cases (show v=.bl b from r); cases h; rfl
  | int i=>cases (show v=.int i from r); cases h; rfl
  | str x=>
    cases (show v=.str x from r)
    simp only [ZbG] at h
    split at h
    · rename_i hz; cases h; exact ⟨Zy hz,rfl⟩
    · cases h
  | ty n=>simp [ZbG,seqOf,ZO] at h
  | scr ns=>exact sq _ rfl h
  | tup xs=>exact sq _ rfl h
  | lst xs=>exact sq _ rfl h
  | ref l=>
    cases e:seqOf θ (.ref l) with
    | none=>simp only [ZbG,e] at h; cases h
    | some xs=>exact sq xs e h
theorem Zai (ha:ME X a fa) (he:∀whole,isTrue a X.env whole=(do let v ←whole; standAt a.pos; holding [v] (truthy v)):=by intro _; rfl):MT X a (Zdo fa):=by
  refine PT.imp (Zfq ha he) fun σ H Q h=>?_
  obtain ⟨B,θ,ρ,F,w⟩:=h
  refine ZB (step F w) ?_
  rintro v H1 ⟨B1,θ1,x,E1,F1,rx,w1⟩
  cases e:ZbG θ1 x with
  | none=>rw [e] at w1; exact w1.elim
  | some k=>rw [e] at w1; exact ⟨k,Zgg F1.good rx e,Zr (Rel:=EqB) F1.good rfl w1⟩
def ZgI (f g:TMr):TMr:=fun ρ θ=>(f ρ θ).bind fun k θ=>if k=true then g ρ θ else .ok false θ
def mOr (f g:TMr):TMr:=fun ρ θ=>(f ρ θ).bind fun k θ=>if k=true then .ok true θ else g ρ θ
def ZfQ (f:TMr):TMr:=fun ρ θ=>(f ρ θ).bind fun k θ=>.ok (!k) θ
theorem ZbS (ha:MT X a ft):MW X (.BoolOp .And [a] pos) ft:=Zgp ha
theorem zM (ha:MT X a ft):MW X (.BoolOp .Or [a] pos) ft:=Zhm ha
theorem ZfH {rest:List Expr} (ha:MT X a ft) (hb:MW X (.BoolOp .And (b::rest) pos) fu):MW X (.BoolOp .And (a::b::rest) pos) (ZgI ft fu):=by
  refine PW.imp (Zhn ha hb) fun σ H Q h=>?_
  obtain ⟨B,θ,ρ,F,w⟩:=h
  refine Zag (Zd9 F w) ?_
  rintro k H1 ⟨B1,θ1,E1,F1,w1⟩
  cases k with
  | true=>rw [if_pos rfl] at w1 ⊢; exact ⟨B1,θ1,ρ,F1,w1⟩
  | false=>rw [if_neg Bool.false_ne_true] at w1 ⊢; exact Zr (Rel:=EqB) F1.good rfl w1
theorem Zcq {rest:List Expr} (ha:MT X a ft) (hb:MW X (.BoolOp .Or (b::rest) pos) fu):MW X (.BoolOp .Or (a::b::rest) pos) (mOr ft fu):=by
  refine PW.imp (Zix ha hb) fun σ H Q h=>?_
  obtain ⟨B,θ,ρ,F,w⟩:=h
  refine Zag (Zd9 F w) ?_
  rintro k H1 ⟨B1,θ1,E1,F1,w1⟩
  cases k with
  | true=>rw [if_pos rfl] at w1 ⊢; exact Zr (Rel:=EqB) F1.good rfl w1
  | false=>rw [if_neg Bool.false_ne_true] at w1 ⊢; exact ⟨B1,θ1,ρ,F1,w1⟩
theorem MW.mt {e:Expr} {f:TMr} (h:MW X e f):MT X e f:=PW.pt h
theorem ZdU (ha:MT X a ft):MT X (.UnaryOp .Not a pos) (ZfQ ft):=by
  refine PT.imp (Zho ha) fun σ H Q h=>?_
  obtain ⟨B,θ,ρ,F,w⟩:=h
  refine Zag (Zd9 F w) ?_
  rintro k H1 ⟨B1,θ1,E1,F1,w1⟩
  exact Zr (Rel:=EqB) F1.good rfl w1
def ZbY (f g:EM):EM:=fun ρ θ=>(f ρ θ).bind fun x θ=>match x with
  | .bl true=>g ρ θ
  | .bl false=>.ok (.bl false) θ
  | _=>.bad
theorem ZfO {op} (h:ME X a fa):ME X (.BoolOp op [a] pos) fa:=Zhy h
theorem ZdW {rest:List Expr} (ha:ME X a fa) (hb:ME X (.BoolOp .And (b::rest) pos) fb):ME X (.BoolOp .And (a::b::rest) pos) (ZbY fa fb):=by
  refine PE.imp (ZhB ha hb) fun σ H Q h=>?_
  obtain ⟨B,θ,ρ,F,w⟩:=h
  refine ZB (step F w) ?_
  rintro v H1 ⟨B1,θ1,x,E1,F1,rx,w1⟩
  cases x with
  | bl k=>
    refine ⟨k,rx,?_⟩
    cases k with
    | true=>rw [if_pos rfl]; exact ⟨B1,θ1,ρ,F1,w1⟩
    | false=>rw [if_neg Bool.false_ne_true]; exact Zr F1.good (show RepV B1 H1 (.bl false) (.bl false) from rfl) w1
  | _=>exact w1.elim
def ZeV (t:TMr) (f g:EM):EM:=fun ρ θ=>(t ρ θ).bind fun k θ=>if k=true then f ρ θ else g ρ θ
theorem ZcO {c:Expr} (hc:MT X c ft) (ha:ME X a fa) (hb:ME X b fb):ME X (.IfExp c a b pos) (ZeV ft fa fb):=by
  refine PE.imp (Zfz hc ha hb) fun σ H Q h=>?_
  obtain ⟨B,θ,ρ,F,w⟩:=h
  refine Zag (Zd9 F w) ?_
  rintro k H1 ⟨B1,θ1,E1,F1,w1⟩
  cases k with
  | true=>rw [if_pos rfl] at w1 ⊢; exact ⟨B1,θ1,ρ,F1,w1⟩
  | false=>rw [if_neg Bool.false_ne_true] at w1 ⊢; exact ⟨B1,θ1,ρ,F1,w1⟩
def Zj:AM:=fun _ θ=>.ok [] θ
def Zc (f:EM) (g:AM):AM:=fun ρ θ=>(f ρ θ).bind fun x θ=>(g ρ θ).bind fun xs θ=>.ok (x::xs) θ
theorem Zf:MA X [] Zj:=PA.imp zW fun σ H Q h=>by
  obtain ⟨B,θ,ρ,F,w⟩:=h
  exact Zr (Rel:=RepL) F.good (show RepL B H [] [] from rfl) w
theorem Za {es:List Expr} {fs:AM} (ha:ME X e fa) (hr:MA X es fs) (hs:starEach (e::es) X.env=(false,eval e X.env)::starEach es X.env:=by rfl):MA X (e::es) (Zc fa fs):=by
  refine PA.imp (zx ha hr hs) fun σ H Q h=>?_
  obtain ⟨B,θ,ρ,F,w⟩:=h
  refine ZB (step F w) ?_
  rintro x' H1 ⟨B1,θ1,x,E1,F1,rx,w1⟩
  refine zn (ZbH F1 w1) ?_
  rintro xs' H2 ⟨B2,θ2,xs,E2,F2,rxs,w2⟩
  exact Zr (Rel:=RepL) F2.good (show RepL B2 H2 (x::xs) (x'::xs') from ⟨x',xs',rfl,rx.ext E2.toExtS,rxs⟩) w2
def ZaK (f:AM):EM:=fun ρ θ=>(f ρ θ).bind fun xs θ=>if xs.length≤BIG then .ok (.tup xs) θ else .bad
def ZaU (f:AM):EM:=fun ρ θ=>(f ρ θ).bind fun xs θ=>if xs.length≤BIG then .ok (.lst xs) θ else .bad
theorem ZbC {σ:St} {B:Bx} {θ:Sto} {H:Hp} {xs:List D} {vs:List V} {Q:VK} (G:Good X.cl B θ H) (r:RepL B H xs vs) (w:wpR X σ RepV B H (.ok (.tup xs) θ) Q):∀p,H p=none→Q (.ref p) (upd H p (.tup vs)):=
  fun p hp=>w B _ _ (z7 G hp _) (ZaY G hp _) (Zgl G hp r)
theorem zT {σ:St} {B:Bx} {θ:Sto} {H:Hp} {xs:List D} {vs:List V} {Q:VK} (G:Good X.cl B θ H) (r:RepL B H xs vs) (w:wpR X σ RepV B H (.ok (.lst xs) θ) Q):∀p,H p=none→Q (.ref p) (upd H p (.lst vs)):=
  fun p hp=>w B _ _ (z7 G hp _) (ZaY G hp _) (Zgm G hp r)
theorem zC {es:List Expr} {fs:AM} {x1} (h:MA X es fs):ME X (.Tuple es x1 pos) (ZaK fs):=by
  refine PE.imp (Zhw h) fun σ H Q h=>?_
  obtain ⟨B,θ,ρ,F,w⟩:=h
  refine zn (ZbH F w) ?_
  rintro xs' H2 ⟨B2,θ2,xs,E2,F2,rxs,w2⟩
  split at w2
  · rename_i hz
    exact ⟨by rw [rxs.len]; exact Zy hz,ZbC F2.good rxs w2⟩
  · exact w2.elim
theorem Zaj {es:List Expr} {fs:AM} (h:MA X es fs):ME X (.List es pos) (ZaU fs):=by
  refine PE.imp (Zfx h) fun σ H Q h=>?_
  obtain ⟨B,θ,ρ,F,w⟩:=h
  refine zn (ZbH F w) ?_
  rintro xs' H2 ⟨B2,θ2,xs,E2,F2,rxs,w2⟩
  split at w2
  · rename_i hz
    exact ⟨by rw [rxs.len]; exact Zy hz,zT F2.good rxs w2⟩
  · exact w2.elim
abbrev GM:=List D→Sto→R D
def mCB (g:GM) (f:AM):EM:=fun ρ θ=>(f ρ θ).bind fun xs θ=>g xs θ
def rC (X:Cx) (g:GM):List V→Hp→VK→Prop:=fun xs H Q=>∃σ B θ ds,Good X.cl B θ H∧RepL B H ds xs∧wpR X σ RepV B H (g ds θ) Q
theorem Zg0 {g:GM} {fs:AM} (σ:St) (H:Hp) (Q:VK) (h:tM X (mCB g fs) σ H Q):tCB (rC X g) (tMA X fs) σ H Q:=by
  obtain ⟨B,θ,ρ,F,w⟩:=h
  refine zn (ZbH F w) ?_
  rintro xs' H2 ⟨B2,θ2,xs,E2,F2,rxs,w2⟩
  exact ⟨σ,B2,θ2,xs,F2.good,rxs,w2⟩
theorem ZQ {x:Str} {id:String} {p:Pos} {es:List Expr} {fs:AM} {g:GM} (hc:CallR X (.builtin id) (rC X g)) (hm:X.mg x=none) (hv:bootBuiltins x=some (.builtin id)) (ha:MA X (e::es) fs) (hg:Gl X x:=by rfl) (hn:x≠"__name__":=by decide) (hdb:(x == ("__debug__":Str))=false:=by decide)
    (he:starEach (e::es) X.env=(false,eval e X.env)::starEach es X.env:=by rfl) (hpl:(backTo pos (starEach es X.env)).any (·.1)=false:=by rfl):ME X (.Call (.Name x p) (e::es) [] pos) (mCB g fs):=
  PE.imp (ZfB hc hg hm hv ha hn hdb he hpl) Zg0
theorem Z1 {x:Str} {T:String} {p:Pos} {es:List Expr} {fs:AM} {g:GM} (hc:CallR X (.type T) (rC X g)) (hm:X.mg x=none) (hv:bootBuiltins x=some (.type T)) (ha:MA X (e::es) fs) (hg:Gl X x:=by rfl) (hn:x≠"__name__":=by decide) (hdb:(x == ("__debug__":Str))=false:=by decide)
    (he:starEach (e::es) X.env=(false,eval e X.env)::starEach es X.env:=by rfl) (hpl:(backTo pos (starEach es X.env)).any (·.1)=false:=by rfl):ME X (.Call (.Name x p) (e::es) [] pos) (mCB g fs):=
  PE.imp (ZeL hc hg hm hv ha hn hdb he hpl) Zg0
end
end
end L2.MM
namespace L2.MM
open PySem PySem.Spec PyProof.Rows PySem.SeqAt
noncomputable section
variable {X:Cx}
section
open Classical in
def opI (C:Int→Int→Prop) (g:Int→Int→D):OM:=fun x y θ=>match x,y with
  | .int i,.int j=>if C i j then .ok (g i j) θ else .bad
  | _,_=>.bad
open Classical in
@[simp] theorem Zja (C:Int→Int→Prop) (g:Int→Int→D) (i j:Int) (θ:Sto):opI C g (.int i) (.int j) θ=if C i j then .ok (g i j) θ else .bad:=nr rfl
open Classical in
theorem ZbM {f:Value→Value→Sem Value} {C:Int→Int→Prop} {g:Int→Int→D} {gV:Int→Int→V} (h:OpR X f (rI C gV)) (r:∀B H i j,RepV B H (g i j) (gV i j)):OpR X f (rM X (opI C g)):=by
  refine OpR.imp h fun x y H Q q=>?_
  obtain ⟨σ,B,θ,d,e,G,rd,re,w⟩:=q
  unfold opI at w
  split at w
  · rename_i i j
    split at w
    · rename_i hc
      exact ⟨i,j,rd,re,hc,Zr G (r B H i j) w⟩
    · exact w.elim
  · exact w.elim
theorem Zfp {f:Value→Value→Sem Value} {g:Int→Int→V} (h:OpR X f (rI0 g)):OpR X f (rI (fun _ _=>True) g):=OpR.imp h fun x y H Q ⟨i,j,a,b,_,q⟩=>⟨i,j,a,b,q⟩
abbrev Zaz:OM:=opI (fun _ j=>0<j∧j<18446744073709551616) fun i j=>.int (i/j)
abbrev Z7:OM:=opI (fun _ j=>0<j) fun i j=>.int (i % j)
abbrev Zi2:OM:=opI (fun _ _=>True) fun i j=>.int (Builtin.bitAnd i j)
abbrev ltM:OM:=opI (fun _ _=>True) fun i j=>.bl (decide (i<j))
abbrev gtM:OM:=opI (fun _ _=>True) fun i j=>.bl (decide (j<i))
theorem ZbP:OpR X (binaryOp .FloorDiv) (rM X Zaz):=ZbM (OpR.imp ZfC fun x y H Q ⟨i,j,a,b,c,q⟩=>⟨i,j,a,b,⟨c.1,by
  have h:j.natAbs<2 ^ 64:=by have:=c.1; have:=c.2; omega
  have h0:j.natAbs≠0:=by have:=c.1; omega
  have:=(Nat.log2_lt h0).mpr h
  omega⟩,q⟩) fun _ _ _ _=>rfl
theorem Z3:OpR X (binaryOp .Mod) (rM X Z7):=ZbM ZhE fun _ _ _ _=>rfl
theorem ZiL:OpR X (binaryOp .BitAnd) (rM X Zi2):=ZbM (Zfp ZhH) fun _ _ _ _=>rfl
theorem ZjB:OpR X (compareOp .Lt) (rM X ltM):=ZbM (Zfp ZiG) fun _ _ i j=>by show _=V.bl _; congr
theorem ZdR:OpR X (compareOp .Gt) (rM X gtM):=ZbM (Zfp ZiH) fun _ _ i j=>by show _=V.bl _; congr
def Zp:OM:=fun x y θ=>match x,y with
  | .int i,.int j=>.ok (.int (i+j)) θ
  | .str i,.str j=>if i.length+j.length≤BIG then .ok (.str (i++j)) θ else .bad
  | .tup xs,.tup ys=>if xs.isEmpty=false∧xs.length+ys.length≤BIG then .ok (.tup (xs++ys)) θ else .bad
  | x,y=>match ZO θ x,ZO θ y with
    | some xs,some ys=>if xs.length+ys.length≤BIG then .ok (.lst (xs++ys)) θ else .bad
    | _,_=>.bad
@[simp] theorem Zi7 (i j:Int) (θ:Sto):Zp (.int i) (.int j) θ=.ok (.int (i+j)) θ:=nr rfl
@[simp] theorem Zi5 (xs ys:List D) (θ:Sto):Zp (.tup xs) (.tup ys) θ=if xs.isEmpty=false∧xs.length+ys.length≤BIG then .ok (.tup (xs++ys)) θ else .bad:=nr rfl
@[simp] theorem Zi6 (i j:Str) (θ:Sto):Zp (.str i) (.str j) θ=if i.length+j.length≤BIG then .ok (.str (i++j)) θ else .bad:=nr rfl
theorem Zw:OpR X (binaryOp .Add) (rM X Zp):=by
  refine OpR.imp (op_add.or (op_add_str.or (op_catT.or ZhG))) fun x y H Q q=>?_
  obtain ⟨σ,B,θ,d,e,G,rd,re,w⟩:=q
  unfold Zp at w
  split at w
  · exact .inl ⟨_,_,rd,re,Zr G (show RepV B H (.int _) (.int _) from rfl) w⟩
  · split at w
    · rename_i hz
      exact .inr (.inl ⟨_,_,rd,re,Zy hz,Zr G (show RepV B H (.str _) (.str _) from rfl) w⟩)
    · exact w.elim
  · split at w
    · rename_i xs ys hz
      obtain ⟨a,vs,rfl,h1,k1,l1⟩:=rd
      obtain ⟨b,us,rfl,h2,k2,l2⟩:=re
      refine .inr (.inr (.inl ⟨a,b,vs,us,rfl,rfl,SqT.of h1,SqT.of h2,?_,?_,fun z=>?_,fun _=>ZbC G (l1.app l2) w⟩))
      · intro z
        have:=l1.emp
        rw [z,hz.1] at this
        simp at this
      · rw [l1.len,l2.len]; exact Zy hz.2
      · have e0:ys=[]:=by
          have:=l2.emp
          rw [z] at this
          cases ys with
          | nil=>rfl
          | cons _ _=>simp at this
        subst e0
        rw [List.append_nil] at w
        exact Zr G (show RepV B H (.tup xs) (.ref a) from ⟨a,vs,rfl,h1,k1,l1⟩) w
    · exact w.elim
  · split at w
    · rename_i xs ys e1 e2
      split at w
      · rename_i hz
        obtain ⟨a,vs,rfl,h1,l1⟩:=ZR G rd e1
        obtain ⟨b,us,rfl,h2,l2⟩:=ZR G re e2
        exact .inr (.inr (.inr ⟨a,b,vs,us,rfl,rfl,h1,h2,by rw [l1.len,l2.len]; exact Zy hz,zT G (l1.app l2) w⟩))
      · exact w.elim
    · exact w.elim
def Zd5 (i j:Int):Prop:=(-18446744073709551616<i∧i<18446744073709551616)∨(-18446744073709551616<j∧j<18446744073709551616)
instance {i j:Int}:Decidable (Zd5 i j):=by unfold Zd5; infer_instance
def ZbT:OM:=fun x y θ=>match x,y with
  | .int i,.int j=>if Zd5 i j then .ok (.int (i*j)) θ else .bad
  | .tup xs,.int k=>if xs.isEmpty=false∧0≤k∧k<1000∧(xs.length:Int)*k≤1000 then .ok (.tup (List.replicate k.toNat xs).flatten) θ else .bad
  | x,.int k=>match ZO θ x with
    | some xs=>if -1000000≤k∧k≤1000000∧xs.length*k.toNat≤BIG then .ok (.lst (List.replicate k.toNat xs).flatten) θ else .bad
    | _=>.bad
  | _,_=>.bad
@[simp] theorem ZiM (i j:Int) (θ:Sto):ZbT (.int i) (.int j) θ=if Zd5 i j then .ok (.int (i*j)) θ else .bad:=nr rfl
@[simp] theorem ZfI (xs:List D) (k:Int) (θ:Sto):ZbT (.tup xs) (.int k) θ=if xs.isEmpty=false∧0≤k∧k<1000∧(xs.length:Int)*k≤1000 then .ok (.tup (List.replicate k.toNat xs).flatten) θ else .bad:=nr rfl
theorem RepL.rep {B:Bx} {H:Hp} {xs:List D} {vs:List V} (r:RepL B H xs vs):∀k:Nat,RepL B H (List.replicate k xs).flatten (List.replicate k vs).flatten
  | 0=>rfl
  | k+1=>by
    rw [List.replicate_succ,List.replicate_succ,List.flatten_cons,List.flatten_cons]
    exact r.app (RepL.rep r k)
theorem Zcp:OpR X (binaryOp .Mult) (rM X ZbT):=by
  refine OpR.imp (op_mul.or (op_repT.or ZhC)) fun x y H Q q=>?_
  obtain ⟨σ,B,θ,d,e,G,rd,re,w⟩:=q
  unfold ZbT at w
  split at w
  · split at w
    · rename_i hc
      exact .inl ⟨_,_,rd,re,hc.imp (fun h=>⟨by have:=h.1; omega,by have:=h.2; omega⟩) (fun h=>⟨by have:=h.1; omega,by have:=h.2; omega⟩),Zr G (show RepV B H (.int _) (.int _) from rfl) w⟩
    · exact w.elim
  · split at w
    · rename_i xs k hz
      obtain ⟨a,vs,rfl,h1,k1,l1⟩:=rd
      obtain ⟨z1,z2,z3,z4⟩:=hz
      refine .inr (.inl ⟨a,k,vs,rfl,re,SqT.of h1,?_,z2,z3,by rw [l1.len]; exact z4,fun z=>?_,fun _=>ZbC G (l1.rep _) w⟩)
      · intro z
        have:=l1.emp
        rw [z,z1] at this
        simp at this
      · subst z
        have e0:(List.replicate (1:Int).toNat xs).flatten=xs:=by simp
        rw [e0] at w
        exact Zr G (show RepV B H (.tup xs) (.ref a) from ⟨a,vs,rfl,h1,k1,l1⟩) w
    · exact w.elim
  · split at w
    · rename_i xs e1
      split at w
      · rename_i hz
        obtain ⟨a,vs,rfl,h1,l1⟩:=ZR G rd e1
        exact .inr (.inr ⟨a,_,vs,rfl,re,h1,by have:=hz.1; omega,by have:=hz.2.1; omega,by rw [l1.len]; exact Zy hz.2.2,zT G (l1.rep _) w⟩)
      · exact w.elim
    · exact w.elim
  · exact w.elim
def ZjE (f:EM):EM:=fun ρ θ=>(f ρ θ).bind fun x θ=>match x with
  | .int i=>.ok (.int (-i)) θ
  | _=>.bad
mutual
def dat:D→PyData
  | .bl b=>.bool b
  | .int i=>.int i
  | .str x=>.str x
  | .tup xs=>.tuple (Zak xs)
  | .lst xs=>.list (Zak xs)
  | _=>.none
def Zak:List D→List PyData
  | []=>[]
  | d::r=>dat d::Zak r
end
mutual
def zo:D→Bool
  | .non=>true
  | .bl _=>true
  | .int _=>true
  | .str _=>true
  | .tup xs=>ze xs
  | .lst xs=>ze xs
  | _=>false
def ze:List D→Bool
  | []=>true
  | d::r=>zo d && ze r
end
mutual
theorem rdv {B:Bx} {H:Hp} {K:PySem.W.Frag}:∀{d:D} {v:V},zo d=true→RepV B H d v→RdV K H v (dat d)
  | .non,_,_,r=>by cases (show _=V.non from r); exact .non
  | .bl b,_,_,r=>by cases (show _=V.bl b from r); exact .bl b
  | .int i,_,_,r=>by cases (show _=V.int i from r); exact .int i
  | .str x,_,_,r=>by cases (show _=V.str x from r); exact .str x
  | .tup xs,_,p,r=>by
    obtain ⟨a,vs,rfl,h,_,l⟩:=r
    exact .tup (SqT.of h) (Zgn p l)
  | .lst xs,_,p,r=>by
    obtain ⟨a,vs,rfl,h,_,l⟩:=r
    exact .lst (SqL.of h) (Zgn p l)
  | .ty _,_,p,_=>nomatch p
  | .scr _,_,p,_=>nomatch p
  | .ref _,_,p,_=>nomatch p
theorem Zgn {B:Bx} {H:Hp} {K:PySem.W.Frag}:∀{ds:List D} {vs:List V},ze ds=true→RepL B H ds vs→RdVs K H vs (Zak ds)
  | [],_,_,r=>by cases (show _=[] from r); exact .nil
  | d::ds,_,p,r=>by
    obtain ⟨v,q,rfl,hv,hq⟩:=r
    have p':zo d=true∧ze ds=true:=by simpa [ze] using p
    exact .cons (rdv p'.1 hv) (Zgn p'.2 hq)
end
mutual
theorem Zdi:∀{d e:D},zo d=true→zo e=true→(same (dat d) (dat e)=true↔d=e):=fun {d e} p q=>by
  cases d with
  | ty _=>exact nomatch p
  | scr _=>exact nomatch p
  | ref _=>exact nomatch p
  | non=>cases e<;>simp_all [zo,dat,same]
  | bl _=>cases e<;>simp_all [zo,dat,same]
  | int _=>cases e<;>simp_all [zo,dat,same]
  | str _=>cases e<;>simp_all [zo,dat,same]
  | tup xs=>
    cases e with
    | tup ys=>
      simp only [dat,same,D.tup.injEq]
      exact Za6 p q
    | ty _=>exact nomatch q
    | scr _=>exact nomatch q
    | ref _=>exact nomatch q
    | _=>simp [dat,same]
  | lst xs=>
    cases e with
    | lst ys=>
      simp only [dat,same,D.lst.injEq]
      exact Za6 p q
    | ty _=>exact nomatch q
    | scr _=>exact nomatch q
    | ref _=>exact nomatch q
    | _=>simp [dat,same]
theorem Za6:∀{ds es:List D},ze ds=true→ze es=true→(sameAll (Zak ds) (Zak es)=true↔ds=es)
  | [],[],_,_=>by simp [Zak,sameAll]
  | [],_::_,_,_=>by simp [Zak,sameAll]
  | _::_,[],_,_=>by simp [Zak,sameAll]
  | d::ds,e::es,p,q=>by
    have p':zo d=true∧ze ds=true:=by simpa [ze] using p
    have q':zo e=true∧ze es=true:=by simpa [ze] using q
    simp only [Zak,sameAll,Bool.and_eq_true,List.cons.injEq]
    rw [Zdi p'.1 q'.1,Za6 p'.2 q'.2]
end
def look (θ:Sto) (d:D):D:=match d with
  | .ref l=>match θ[l]? with
    | some (.lst xs)=>.lst xs
    | _=>.ref l
  | d=>d
theorem ZaW {B:Bx} {θ:Sto} {H:Hp} {K:PySem.W.Frag} (G:Good X.cl B θ H) {d:D} {v:V} (r:RepV B H d v) (p:zo (look θ d)=true):RdV K H v (dat (look θ d)):=by
  cases d with
  | ref l=>
    unfold look at p ⊢
    simp only at p ⊢
    split at p
    · rename_i xs e
      obtain ⟨hl,rfl⟩:=r
      obtain ⟨vs,h1,h2⟩:=G.cel l _ e
      exact .lst (SqL.of h1) (Zgn p h2)
    · exact nomatch p
  | _=>exact rdv p r
structure ZdD (x y:D):Prop where
  px:zo x=true
  py:zo y=true
  sx:shaped (dat x)=true
  sy:shaped (dat y)=true
  nm:noMix (dat x) (dat y)=true
open Classical in
def eqM:OM:=fun x y θ=>if ZdD (look θ x) (look θ y) then .ok (.bl (decide (look θ x=look θ y))) θ else .bad
open Classical in
def neM:OM:=fun x y θ=>if ZdD (look θ x) (look θ y) then .ok (.bl (!decide (look θ x=look θ y))) θ else .bad
open Classical in
theorem Zdj {d e:D} (p:zo d=true) (q:zo e=true):same (dat d) (dat e)=decide (d=e):=by
  rw [Bool.eq_iff_iff,Zdi p q,decide_eq_true_iff]
open Classical in
theorem Zbv (hu:X.A.units+64<cLine):OpR X (compareOp .Eq) (rM X eqM):=by
  refine OpR.imp (ZhF hu) fun x y H Q q=>?_
  obtain ⟨σ,B,θ,d,e,G,rd,re,w⟩:=q
  unfold eqM at w
  split at w
  · rename_i c
    refine ⟨_,_,ZaW G rd c.px,ZaW G re c.py,c.sx,c.sy,c.nm,?_⟩
    rw [Zdj c.px c.py]
    exact Zr G (show RepV B H (.bl _) (.bl _) from rfl) w
  · exact w.elim
open Classical in
theorem ZfD (hu:X.A.units+64<cLine):OpR X (compareOp .NotEq) (rM X neM):=by
  refine OpR.imp (ZhD hu) fun x y H Q q=>?_
  obtain ⟨σ,B,θ,d,e,G,rd,re,w⟩:=q
  unfold neM at w
  split at w
  · rename_i c
    refine ⟨_,_,ZaW G rd c.px,ZaW G re c.py,c.sx,c.sy,c.nm,?_⟩
    rw [Zdj c.px c.py]
    exact Zr G (show RepV B H (.bl _) (.bl _) from rfl) w
  · exact w.elim
def Zc5:List D→Bool
  | []=>true
  | .int _::r=>Zc5 r
  | _=>false
def Zc4:List D→Bool
  | []=>true
  | .str _::r=>Zc4 r
  | _=>false
def memI (i:Int):List D→Bool
  | .int j::r=>decide (j=i) || memI i r
  | _=>false
def memS (x:Str):List D→Bool
  | .str y::r=>decide (y=x) || memS x r
  | _=>false
def inD (θ:Sto) (x y:D):Option Bool:=match seqOf θ y with
  | none=>none
  | some ys=>match x with
    | .int i=>if Zc5 ys=true then some (memI i ys) else none
    | .str z=>if Zc4 ys=true then some (memS z ys) else none
    | _=>none
def inM:OM:=fun x y θ=>match inD θ x y with
  | some k=>.ok (.bl k) θ
  | none=>.bad
def ZbQ:OM:=fun x y θ=>match inD θ x y with
  | some k=>.ok (.bl (!k)) θ
  | none=>.bad
theorem Zbt {B:Bx} {H:Hp}:∀{ys:List D} {vs:List V},Zc5 ys=true→RepL B H ys vs→vs.all zF=true∧∀i:Int,inV (.int i) vs=memI i ys
  | [],_,_,r=>by cases (show _=[] from r); exact ⟨rfl,fun _=>rfl⟩
  | d::ys,_,h,r=>by
    cases d with
    | int j=>
      obtain ⟨v,q,rfl,hv,hq⟩:=r
      cases (show v=V.int j from hv)
      obtain ⟨h1,h2⟩:=Zbt (show Zc5 ys=true from h) hq
      refine ⟨by simp [zF] at h1 ⊢; exact h1,fun i=>?_⟩
      have:=h2 i
      unfold inV at this ⊢
      rw [List.any_cons,this]
      show (j == i || memI i ys)=(decide (j=i) || memI i ys)
      rw [Bool.beq_eq_decide_eq]
    | _=>exact nomatch h
theorem Zbs {B:Bx} {H:Hp}:∀{ys:List D} {vs:List V},Zc4 ys=true→RepL B H ys vs→vs.all zF=true∧∀i:Str,inV (.str i) vs=memS i ys
  | [],_,_,r=>by cases (show _=[] from r); exact ⟨rfl,fun _=>rfl⟩
  | d::ys,_,h,r=>by
    cases d with
    | str j=>
      obtain ⟨v,q,rfl,hv,hq⟩:=r
      cases (show v=V.str j from hv)
      obtain ⟨h1,h2⟩:=Zbs (show Zc4 ys=true from h) hq
      refine ⟨by simp [zF] at h1 ⊢; exact h1,fun i=>?_⟩
      have:=h2 i
      unfold inV at this ⊢
      rw [List.any_cons,this]
      show (j == i || memS i ys)=(decide (j=i) || memS i ys)
      rw [Bool.beq_eq_decide_eq]
    | _=>exact nomatch h
theorem ZhT {cl:Mo} {B:Bx} {θ:Sto} {H:Hp} (G:Good cl B θ H) {d e:D} {x y:V} {k:Bool} (rd:RepV B H d x) (re:RepV B H e y) (h:inD θ d e=some k) :
    ∃p xs,y=.ref p∧(SqL cl.K H p xs∨SqT cl.K H p xs)∧zF x=true∧xs.all zF=true∧inV x xs=k:=by
  unfold inD at h
  split at h
  · cases h
  · rename_i ys e1
    obtain ⟨a,vs,rfl,h1,h2⟩:=zL G re e1
    split at h
    · split at h
      · rename_i i hz
        cases h
        cases (show x=V.int i from rd)
        obtain ⟨q1,q2⟩:=Zbt hz h2
        exact ⟨a,vs,rfl,h1,rfl,q1,q2 i⟩
      · cases h
    · split at h
      · rename_i i hz
        cases h
        cases (show x=V.str i from rd)
        obtain ⟨q1,q2⟩:=Zbs hz h2
        exact ⟨a,vs,rfl,h1,rfl,q1,q2 i⟩
      · cases h
    · cases h
theorem ZgE:OpR X (compareOp .NotIn) (rM X ZbQ):=by
  refine OpR.imp ZcL fun x y H Q q=>?_
  obtain ⟨σ,B,θ,d,e,G,rd,re,w⟩:=q
  unfold ZbQ at w
  split at w
  · rename_i k e1
    obtain ⟨p,xs,h1,h2,h3,h4,h5⟩:=ZhT G rd re e1
    exact ⟨p,xs,h1,h2,h3,h4,by rw [h5]; exact Zr G (show RepV B H (.bl _) (.bl _) from rfl) w⟩
  · exact w.elim
end
end
end L2.MM
namespace L2.MM
open PySem PySem.Spec PyProof.Rows PySem.SeqAt
noncomputable section
variable {X:Cx}
section
def ixD (θ:Sto) (x:D) (i:Int):Option D:=match x with
  | .str z=>if z.length≤BIG then (atI z.cps.toList i).map fun c=>.str ⟨#[c]⟩ else none
  | x=>(seqOf θ x).bind (atI · i)
def ixM:OM:=fun x y θ=>match y with
  | .int i=>match ixD θ x i with
    | some d=>.ok d θ
    | none=>.bad
  | _=>.bad
theorem RepL.atI {B:Bx} {H:Hp} {xs:List D} {vs:List V} {i:Int} {d:D} (r:RepL B H xs vs) (h:atI xs i=some d):∃v,atI vs i=some v∧RepV B H d v:=by
  unfold L2.atI at h ⊢
  rw [r.len]
  cases e:ixN xs.length i with
  | none=>rw [e] at h; cases h
  | some j=>
    rw [e] at h
    exact r.get h
theorem ZJ:IxR X (rM X ixM):=by
  refine IxR.imp ZhR fun x y H Q q=>?_
  obtain ⟨σ,B,θ,d,e,G,rd,re,w⟩:=q
  unfold ixM at w
  split at w
  · rename_i i
    split at w
    · rename_i r e1
      have sq:(seqOf θ d).bind (L2.atI · i)=some r→rIx X.K x y H Q:=fun h=>by
        cases e2:seqOf θ d with
        | none=>rw [e2] at h; cases h
        | some xs=>
          rw [e2] at h
          obtain ⟨a,vs,rfl,h1,h2⟩:=zL G rd e2
          obtain ⟨v,h3,h4⟩:=h2.atI h
          have q:=Zr G h4 w
          rcases h1 with h1 | h1
          · exact .inl ⟨a,vs,i,v,rfl,re,h1,h3,q⟩
          · exact .inr (.inl ⟨a,vs,i,v,rfl,re,h1,h3,q⟩)
      cases d with
      | str z=>
        simp only [ixD] at e1
        split at e1
        · rename_i hz
          cases e2:L2.atI z.cps.toList i with
          | none=>rw [e2] at e1; cases e1
          | some c=>
            rw [e2] at e1
            cases e1
            exact .inr (.inr ⟨z,i,c,rd,re,Zy hz,e2,Zr G (show RepV B H (.str _) (.str _) from rfl) w⟩)
        · cases e1
      | non=>exact sq e1
      | bl _=>exact sq e1
      | int _=>exact sq e1
      | ty _=>exact sq e1
      | scr _=>exact sq e1
      | tup _=>exact sq e1
      | lst _=>exact sq e1
      | ref _=>exact sq e1
    · exact w.elim
  · exact w.elim
abbrev PM:=List Sl→Sto→R (Option Int)
def EqO (_:Bx) (_:Hp) (a b:Option Int):Prop:=a=b
def tMO (X:Cx) (f:PM):TO:=fun σ H Q=>∃B θ ρ,Frm X.cl B θ ρ σ H∧wpR X σ EqO B H (f ρ θ) Q
def MO (X:Cx) (e:Option Expr) (f:PM):Prop:=PO X e (tMO X f)
theorem Zde {f:PM} {σ:St} {H:Hp} {Q Q':Option Int→Hp→Prop} (h:tMO X f σ H Q) (hQ:∀v H',Q v H'→Q' v H'):tMO X f σ H Q':=let ⟨B,θ,ρ,F,w⟩:=h; ⟨B,θ,ρ,F,w.mono hQ⟩
theorem Zg2 {σ:St} {H:Hp} {γ δ:Type} {Rel':Bx→Hp→γ→δ→Prop} {B:Bx} {θ:Sto} {ρ:List Sl} {f:PM} {k:Option Int→Sto→R γ} {Q:δ→Hp→Prop} (F:Frm X.cl B θ ρ σ H) (h:wpR X σ Rel' B H ((f ρ θ).bind k) Q) :
    tMO X f σ H (fun c H1=>∃B1 θ1,ExtE B B1 H H1∧Frm X.cl B1 θ1 ρ σ H1∧wpR X σ Rel' B1 H1 (k c θ1) Q):=
  ⟨B,θ,ρ,F,(wpR.bind (Rel:=EqO) h).mono fun v H1 ⟨B1,θ1,d,E,G,r,w⟩=>by cases (show d=v from r); exact ⟨B1,θ1,E,F.ext E G,w⟩⟩
def ZcR:PM:=fun _ θ=>.ok none θ
def ZfP (f:EM):PM:=fun ρ θ=>(f ρ θ).bind fun x θ=>match x with
  | .int i=>.ok (some i) θ
  | _=>.bad
theorem PO.imp {e:Option Expr} {t t':TO} (h:PO X e t) (hi:∀σ H Q,t' σ H Q→t σ H Q):PO X e t':=fun pins s σ H Q I q=>h pins s σ H Q I (hi σ H Q q)
theorem ZgH:MO X none ZcR:=PO.imp Zgv fun σ H Q h=>by
  obtain ⟨B,θ,ρ,F,w⟩:=h
  exact Zr (Rel:=EqO) F.good rfl w
theorem ZgG {e:Expr} {f:EM} (h:ME X e f):MO X (some e) (ZfP f):=PO.imp (Zgu h) fun σ H Q h=>by
  obtain ⟨B,θ,ρ,F,w⟩:=h
  refine ZB (step F w) ?_
  rintro v H1 ⟨B1,θ1,x,E1,F1,rx,w1⟩
  cases x with
  | int i=>exact ⟨i,rx,Zr (Rel:=EqO) F1.good rfl w1⟩
  | _=>exact w1.elim
def Zf7 {α:Type} (xs:List α) (lo hi:Option Int):List α:=(xs.drop (HT.sIx xs.length 0 lo)).take (HT.sIx xs.length xs.length hi-HT.sIx xs.length 0 lo)
theorem RepL.cut {B:Bx} {H:Hp} {xs:List D} {vs:List V} (r:RepL B H xs vs) (lo hi:Option Int):RepL B H (Zf7 xs lo hi) (Zdw vs lo hi):=by
  unfold Zf7 Zdw
  rw [r.len]
  exact (r.drop _).take _
def ZdN (θ:Sto) (x:D) (lo hi:Option Int):Option D:=match x with
  | .tup xs=>if HT.sIx xs.length 0 lo=0∧HT.sIx xs.length xs.length hi=xs.length then none else some (.tup (Zf7 xs lo hi))
  | x=>(ZO θ x).map fun xs=>.lst (Zf7 xs lo hi)
def mSl (f:EM) (lo hi:PM):EM:=fun ρ θ=>(f ρ θ).bind fun x θ=>(lo ρ θ).bind fun l θ=>(hi ρ θ).bind fun h θ=>match ZdN θ x l h with
  | some d=>.ok d θ
  | none=>.bad
theorem ZfN {e:Expr} {lo hi:Option Expr} {f:EM} {fl fh:PM} {pos p2:Pos} (he:ME X e f) (hl:MO X lo fl) (hh:MO X hi fh):ME X (.Subscript e (.Slice lo hi none p2) pos) (mSl f fl fh):=by
  refine PE.imp (Zfw (sl_list.or Zhj) he hl hh) fun σ H Q h=>?_
  obtain ⟨B,θ,ρ,F,w⟩:=h
  refine ZB (step F w) ?_
  rintro v H1 ⟨B1,θ1,x,E1,F1,rx,w1⟩
  refine Zde (Zg2 F1 w1) ?_
  rintro l H2 ⟨B2,θ2,E2,F2,w2⟩
  refine Zde (Zg2 F2 w2) ?_
  rintro u H3 ⟨B3,θ3,E3,F3,w3⟩
  have rx3:=rx.ext (E2.trans E3).toExtS
  have lst:∀d,(ZO θ3 x).map (fun xs=>D.lst (Zf7 xs l u))=some d→wpR X σ RepV B3 H3 (R.ok d θ3) Q→Zir X.K v l u H3 Q:=fun d h w=>by
    cases e2:ZO θ3 x with
    | none=>rw [e2] at h; cases h
    | some xs=>
      rw [e2] at h
      cases h
      obtain ⟨a,vs,rfl,h1,h2⟩:=ZR F3.good rx3 e2
      exact ⟨a,vs,rfl,SqL.of h1,zT F3.good (h2.cut l u) w⟩
  split at w3
  · rename_i d e1
    cases x with
    | tup xs=>
      simp only [ZdN] at e1
      split at e1
      · cases e1
      · rename_i hw
        cases e1
        obtain ⟨a,vs,rfl,h1,k1,l1⟩:=rx3
        exact .inr ⟨a,vs,rfl,SqT.of h1,by rw [l1.len]; exact hw,ZbC F3.good (l1.cut l u) w3⟩
    | non=>exact .inl (lst d e1 w3)
    | bl _=>exact .inl (lst d e1 w3)
    | int _=>exact .inl (lst d e1 w3)
    | str _=>exact .inl (lst d e1 w3)
    | ty _=>exact .inl (lst d e1 w3)
    | scr _=>exact .inl (lst d e1 w3)
    | lst _=>exact .inl (lst d e1 w3)
    | ref _=>exact .inl (lst d e1 w3)
  · exact w3.elim
def Zed {α:Type} (xs:List α) (lo hi st:Option Int):List α:=(sliceRange (sliceBounds lo hi st xs.length).1 (sliceBounds lo hi st xs.length).2.1 (sliceBounds lo hi st xs.length).2.2).filterMap (xs[·]?)
def ZjD (f:EM) (lo hi st:PM):EM:=fun ρ θ=>(f ρ θ).bind fun x θ=>(lo ρ θ).bind fun l θ=>(hi ρ θ).bind fun h θ=>(st ρ θ).bind fun s θ=>match ZO θ x with
  | some xs=>if s≠some 0∧(Zed xs l h s).length≤BIG then .ok (.lst (Zed xs l h s)) θ else .bad
  | none=>.bad
def zu:GM:=fun ds θ=>match ds with
  | [.str z]=>if z.length≤BIG then .ok (.int z.length) θ else .bad
  | [d]=>match seqOf θ d with
    | some xs=>.ok (.int xs.length) θ
    | none=>.bad
  | _=>.bad
theorem RepL.one {B:Bx} {H:Hp} {d:D} {vs:List V} (r:RepL B H [d] vs):∃v,vs=[v]∧RepV B H d v:=by
  obtain ⟨v,q,rfl,hv,hq⟩:=r
  cases (show q=[] from hq)
  exact ⟨v,rfl,hv⟩
theorem RepL.two {B:Bx} {H:Hp} {d e:D} {vs:List V} (r:RepL B H [d,e] vs):∃v u,vs=[v,u]∧RepV B H d v∧RepV B H e u:=by
  obtain ⟨v,q,rfl,hv,hq⟩:=r
  obtain ⟨u,rfl,hu⟩:=hq.one
  exact ⟨v,u,rfl,hv,hu⟩
theorem ZaG:CallR X (.builtin "len") (rC X zu):=by
  refine CallR.imp (call_len_str.or ZcX) fun vs H Q q=>?_
  obtain ⟨σ,B,θ,ds,G,r,w⟩:=q
  unfold zu at w
  split at w
  · split at w
    · rename_i z hz
      obtain ⟨v,rfl,rv⟩:=r.one
      cases (show v=V.str z from rv)
      exact .inl ⟨z,rfl,Zy hz,Zr G (show RepV B H (.int _) (.int _) from rfl) w⟩
    · exact w.elim
  · split at w
    · rename_i xs e1
      obtain ⟨v,rfl,rv⟩:=r.one
      obtain ⟨a,us,rfl,h1,h2⟩:=zL G rv e1
      exact .inr ⟨a,us,rfl,h1,by rw [h2.len]; exact Zr G (show RepV B H (.int _) (.int _) from rfl) w⟩
    · exact w.elim
  · exact w.elim
def Zg7:List D→Option (List Int)
  | []=>some []
  | .int i::r=>(Zg7 r).map (i::·)
  | _=>none
def ZcY:List D→Option (List Bool)
  | []=>some []
  | .bl i::r=>(ZcY r).map (i::·)
  | _=>none
theorem Zf9:∀{ds:List D} {ns:List Bool},ZcY ds=some ns→ds=ns.map D.bl
  | [],_,h=>by cases h; rfl
  | d::r,ns,h=>by
    cases d with
    | bl i=>
      simp only [ZcY] at h
      cases e:ZcY r with
      | none=>rw [e] at h; cases h
      | some ms=>rw [e] at h; cases h; rw [Zf9 e]; rfl
    | _=>cases h
theorem Zer {B:Bx} {H:Hp}:∀{ns:List Bool} {vs:List V},RepL B H (ns.map D.bl) vs→vs=ns.map V.bl
  | [],_,r=>r
  | n::ns,_,r=>by
    obtain ⟨v,q,rfl,hv,hq⟩:=r
    cases (show v=V.bl n from hv)
    rw [Zer hq]; rfl
def Zkh:GM:=fun ds θ=>match ds with
  | [d]=>match (ZO θ d).bind Zg7 with
    | some ns=>.ok (.int ns.sum) θ
    | none=>.bad
  | _=>.bad
def Zgc:GM:=fun ds θ=>match ds with
  | [d]=>match (ZO θ d).bind ZcY with
    | some ns=>.ok (.bl (ns.all id)) θ
    | none=>.bad
  | _=>.bad
theorem Zi1 (hc:X.calm=true:=by rfl):CallR X (.builtin "all") (rC X Zgc):=by
  refine CallR.imp (Zf8 hc) fun vs H Q q=>?_
  obtain ⟨σ,B,θ,ds,G,r,w⟩:=q
  unfold Zgc at w
  split at w
  · rename_i d
    split at w
    · rename_i ns e1
      obtain ⟨v,rfl,rv⟩:=r.one
      cases e2:ZO θ d with
      | none=>rw [e2] at e1; cases e1
      | some xs=>
        rw [e2] at e1
        obtain ⟨a,us,rfl,h1,h2⟩:=ZR G rv e2
        rw [Zf9 (show ZcY xs=some ns from e1)] at h2
        rw [Zer h2] at h1
        exact ⟨a,ns,rfl,SqL.of h1,Zr G (show RepV B H (.bl _) (.bl _) from rfl) w⟩
    · exact w.elim
  · exact w.elim
def ZbF:GM:=fun ds θ=>match ds with
  | [.tup xs]=>.ok (.tup xs) θ
  | [d]=>match ZO θ d with
    | some xs=>.ok (.tup xs) θ
    | none=>.bad
  | _=>.bad
theorem Zeq:CallR X (.type "tuple") (rC X ZbF):=by
  refine CallR.imp Zce fun vs H Q q=>?_
  obtain ⟨σ,B,θ,ds,G,r,w⟩:=q
  unfold ZbF at w
  split at w
  · rename_i xs
    obtain ⟨v,rfl,rv⟩:=r.one
    obtain ⟨a,us,rfl,h1,k1,l1⟩:=id rv
    exact ⟨a,us,rfl,.inr ⟨SqT.of h1,Zr G rv w⟩⟩
  · split at w
    · rename_i xs e1
      obtain ⟨v,rfl,rv⟩:=r.one
      obtain ⟨a,us,rfl,h1,h2⟩:=ZR G rv e1
      exact ⟨a,us,rfl,.inl ⟨SqL.of h1,ZbC G h2 w⟩⟩
    · exact w.elim
  · exact w.elim
def Zax:GM:=fun ds θ=>match ds with
  | [.int i]=>if i.natAbs.log2<1920 then .ok (.str (toString i)) θ else .bad
  | _=>.bad
theorem Zb7:CallR X (.type "str") (rC X Zax):=by
  refine CallR.imp ZcW fun vs H Q q=>?_
  obtain ⟨σ,B,θ,ds,G,r,w⟩:=q
  unfold Zax at w
  split at w
  · split at w
    · rename_i i hz
      obtain ⟨v,rfl,rv⟩:=r.one
      cases (show v=V.int i from rv)
      exact ⟨i,rfl,hz,Zr G (show RepV B H (.str _) (.str _) from rfl) w⟩
    · exact w.elim
  · exact w.elim
inductive Ty | non | bl | int | str | lst | tup
def Ty.nm:Ty→String
  | .non=>"NoneType" | .bl=>"bool" | .int=>"int" | .str=>"str" | .lst=>"list" | .tup=>"tuple"
def tyD (θ:Sto):D→Option Ty
  | .non=>some .non
  | .bl _=>some .bl
  | .int _=>some .int
  | .str _=>some .str
  | .tup _=>some .tup
  | .scr _=>none
  | d=>(ZO θ d).map fun _=>.lst
def isT:Ty→String→Option Bool
  | .non,"int"=>some false | .non,"bool"=>some false | .non,"list"=>some false | .non,"tuple"=>some false | .non,"str"=>some false
  | .bl,"int"=>some true | .bl,"bool"=>some true | .bl,"list"=>some false | .bl,"tuple"=>some false | .bl,"str"=>some false
  | .int,"int"=>some true | .int,"bool"=>some false | .int,"list"=>some false | .int,"tuple"=>some false | .int,"str"=>some false
  | .str,"int"=>some false | .str,"bool"=>some false | .str,"list"=>some false | .str,"tuple"=>some false | .str,"str"=>some true
  | .lst,"int"=>some false | .lst,"bool"=>some false | .lst,"list"=>some true | .lst,"tuple"=>some false | .lst,"str"=>some false
  | .tup,"int"=>some false | .tup,"bool"=>some false | .tup,"list"=>some false | .tup,"tuple"=>some true | .tup,"str"=>some false
  | _,_=>none
theorem ZhS {K:PySem.W.Frag} {t:Ty} {n:String} {b:Bool} (h:isT t n=some b):PySem.W.kitOne K (.type t.nm) (.type n)=some b:=by
  unfold isT at h
  split at h<;>first | (cases h; with_unfolding_all rfl) | cases h
def ZaD:GM:=fun ds θ=>match ds with
  | [d,.ty n]=>match (tyD θ d).bind (isT · n) with
    | some b=>.ok (.bl b) θ
    | none=>.bad
  | _=>.bad
theorem Zhe {B:Bx} {θ:Sto} {H:Hp} {K:PySem.W.Frag} (G:Good X.cl B θ H) {d:D} {v:V} {t:Ty} (r:RepV B H d v) (h:tyD θ d=some t):Za1 K H v (.type t.nm):=by
  cases d with
  | non=>cases (show v=.non from r); cases h; exact .non
  | bl b=>cases (show v=.bl b from r); cases h; exact .bl b
  | int b=>cases (show v=.int b from r); cases h; exact .int b
  | str b=>cases (show v=.str b from r); cases h; exact .str b
  | tup xs=>obtain ⟨a,vs,rfl,h1,_⟩:=r; cases h; exact .tup h1
  | scr xs=>cases h
  | lst xs=>obtain ⟨a,vs,rfl,h1,_⟩:=r; cases h; exact .lst h1
  | ref l=>
    cases e:ZO θ (.ref l) with
    | none=>simp only [tyD,e] at h; cases h
    | some xs=>
      simp only [tyD,e] at h
      cases h
      obtain ⟨a,us,rfl,h1,h2⟩:=ZR G r e
      exact .lst h1
  | ty n=>cases h
theorem Zd1:CallR X (.builtin "isinstance") (rC X ZaD):=by
  refine CallR.imp ZdB fun vs H Q q=>?_
  obtain ⟨σ,B,θ,ds,G,r,w⟩:=q
  unfold ZaD at w
  split at w
  · rename_i d n
    split at w
    · rename_i b e1
      obtain ⟨v,u,rfl,rv,ru⟩:=r.two
      cases (show u=V.ty n from ru)
      cases e2:tyD θ d with
      | none=>rw [e2] at e1; cases e1
      | some t=>
        rw [e2] at e1
        exact ⟨v,n,_,b,rfl,Zhe G rv e2,ZhS e1,Zr G (show RepV B H (.bl _) (.bl _) from rfl) w⟩
    · exact w.elim
  · exact w.elim
end
end
end L2.MM
namespace L2.MM
open PySem PySem.Spec PyProof.Rows PySem.SeqAt
noncomputable section
variable {X:Cx}
inductive Src where
  | seq (d:D) | rng (lo:Int) (n:Nat)
def Src.items (θ:Sto):Src→Option (List D)
  | .seq d=>seqOf θ d
  | .rng lo n=>some ((List.range n).map fun (i:Nat)=>D.int (lo+(i:Int)))
def SrcRep (K:PySem.W.Frag) (B:Bx) (H:Hp):Src→It→Prop
  | .seq d,J=>∃a,RepV B H d (.ref a)∧J=(match d with | .tup _=>Itt K a | _=>Itl K a)
  | .rng lo n,J=>J=Itr lo n
abbrev IM:=List Sl→Sto→R Src
section
def tMI (X:Cx) (f:IM):TI:=fun σ H Q=>∃B θ ρ,Frm X.cl B θ ρ σ H∧wpR X σ (SrcRep X.K) B H (f ρ θ) Q
def MI (X:Cx) (tg iter:Expr) (f:IM):Prop:=PI X tg iter (tMI X f)
theorem PI.imp {tg iter:Expr} {t t':TI} (h:PI X tg iter t) (hi:∀σ H Q,t' σ H Q→t σ H Q):PI X tg iter t':=fun pins s σ H Q I q=>h pins s σ H Q I (hi σ H Q q)
theorem SrcRep.ext {K:PySem.W.Frag} {B B':Bx} {H H':Hp} {S:Src} {J:It} (r:SrcRep K B H S J) (E:ExtS B B' H H'):SrcRep K B' H' S J:=by
  cases S with
  | seq d=>obtain ⟨a,h,e⟩:=r; exact ⟨a,h.ext E,e⟩
  | rng lo n=>exact r
theorem Za4 {cl:Mo} {B:Bx} {θ:Sto} {H:Hp} {S:Src} {J:It} {xs:List D} (G:Good cl B θ H) (r:SrcRep cl.K B H S J) (h:S.items θ=some xs) :
    (∀i d,xs[i]?=some d→J.go i H∧∀x H',J.yld i H x H'→H'=H∧RepV B H d x)∧J.stop xs.length H:=by
  cases S with
  | rng lo n=>
    cases (show J=Itr lo n from r)
    cases h
    refine ⟨fun i d e=>?_,by show n≤_; simp⟩
    rw [List.getElem?_map] at e
    by_cases hi:i<n
    · rw [List.getElem?_range hi] at e
      cases e
      exact ⟨hi,fun x H' y=>⟨y.1,y.2⟩⟩
    · rw [List.getElem?_eq_none (by simpa using hi)] at e
      cases e
  | seq d=>
    obtain ⟨a,rv,e⟩:=r
    cases d with
    | tup ys=>
      obtain ⟨a',vs,e1,h1,_,h2⟩:=rv
      cases e1
      cases h
      simp only at e
      subst e
      refine ⟨fun i d e=>?_,⟨vs,SqT.of h1,by rw [h2.len]; exact Nat.le_refl _⟩⟩
      obtain ⟨v,q1,q2⟩:=h2.get e
      refine ⟨⟨vs,v,SqT.of h1,q1⟩,fun x H' y=>⟨y.1,?_⟩⟩
      have:=y.2 vs (SqT.of h1)
      rw [q1] at this
      cases this
      exact q2
    | scr ns=>
      cases h
      obtain ⟨a',vs',e1,h1,_⟩:=zL G rv (show seqOf θ (.scr ns)=some (ns.map D.int) from rfl)
      cases e1
      simp only at e
      subst e
      have hS:SqL cl.K H a (ns.map V.int):=by
        obtain ⟨a',e1,h1⟩:=rv
        cases e1
        rcases h1 with ⟨o,h1,_⟩ | h1
        · exact .inl (.inr ⟨o,h1⟩)
        · exact .inr (G.kc a ns h1)
      have h2:RepL B H (ns.map D.int) (ns.map V.int):=RepL.map (f:=D.int) (g:=V.int) (fun _=>rfl) ns
      refine ⟨fun i d e=>?_,⟨ns.map V.int,hS,by simp⟩⟩
      obtain ⟨v,q1,q2⟩:=h2.get e
      refine ⟨⟨_,v,hS,q1⟩,fun x H' y=>⟨y.1,?_⟩⟩
      have:=y.2 _ hS
      rw [q1] at this
      cases this
      exact q2
    | lst ys=>
      obtain ⟨a',vs,e1,h1,h2⟩:=ZR G rv (show ZO θ (.lst ys)=some xs from h)
      cases e1
      simp only at e
      subst e
      refine ⟨fun i d e=>?_,⟨vs,SqL.of h1,by rw [h2.len]; exact Nat.le_refl _⟩⟩
      obtain ⟨v,q1,q2⟩:=h2.get e
      refine ⟨⟨vs,v,SqL.of h1,q1⟩,fun x H' y=>⟨y.1,?_⟩⟩
      have:=y.2 vs (SqL.of h1)
      rw [q1] at this
      cases this
      exact q2
    | ref l=>
      obtain ⟨a',vs,e1,h1,h2⟩:=ZR G rv (show ZO θ (.ref l)=some xs from h)
      cases e1
      simp only at e
      subst e
      refine ⟨fun i d e=>?_,⟨vs,SqL.of h1,by rw [h2.len]; exact Nat.le_refl _⟩⟩
      obtain ⟨v,q1,q2⟩:=h2.get e
      refine ⟨⟨vs,v,SqL.of h1,q1⟩,fun x H' y=>⟨y.1,?_⟩⟩
      have:=y.2 vs (SqL.of h1)
      rw [q1] at this
      cases this
      exact q2
    | non=>cases h
    | bl _=>cases h
    | int _=>cases h
    | str _=>cases h
    | ty _=>cases h
def ZjN (K:PySem.W.Frag) (tl:TE):TI:=fun σ H R=>tl σ H fun x H1=>∃a,x=.ref a∧(((∃xs,SqL K H1 a xs)∧R (Itl K a) H1)∨((∃xs,SqT K H1 a xs)∧R (Itt K a) H1))
theorem Zhu {tg l:Expr} {tl:TE} (hl:PE X l tl):PI X tg l (ZjN X.K tl):=by
  intro pins s σ H R I h
  refine thn (hl pins s σ H _ I h) fun v s1 ⟨x,H1,I1,r1,q1⟩=>?_
  obtain ⟨a,e,q1⟩:=q1
  subst e
  cases r1
  rcases q1 with ⟨⟨xs,hq⟩,q⟩ | ⟨⟨xs,hq⟩,q⟩
  · obtain ⟨its,rv,p,hz⟩:=I1.list hq
    refine wpAny_pyIter_list p.isList ?_
    refine ⟨s1.heap.objs.size,[s1.heap.objs.size],_,_,H1,rfl,I1.kept (t':=s1.toks) fun b o e=>Heap.get?_push_of_some _ e,ZeB a _,⟨_,Heap.get?_push_size _ rfl,rfl,rfl⟩,fun b hb=>?_,q⟩
    have e:b=s1.heap.objs.size:=by simpa using hb
    subst e
    exact I1.fpOk (Nat.le_refl _) (I1.hok.fresh (Nat.le_refl _))
  · obtain ⟨its,rv,p,hz⟩:=I1.tuple hq
    refine wpAny_pyIter_tuple (show s1.heap.IsTuple a its.toArray from p) ?_
    refine ⟨s1.heap.objs.size,[s1.heap.objs.size],_,_,H1,rfl,I1.kept (t':=s1.toks) fun b o e=>Heap.get?_push_of_some _ e,ZdF a _,⟨_,Heap.get?_push_size _ rfl,rfl,rfl⟩,fun b hb=>?_,q⟩
    have e:b=s1.heap.objs.size:=by simpa using hb
    subst e
    exact I1.fpOk (Nat.le_refl _) (I1.hok.fresh (Nat.le_refl _))
def mIn (f:EM):IM:=fun ρ θ=>(f ρ θ).bind fun d θ=>match seqOf θ d with
  | some _=>.ok (.seq d) θ
  | none=>.bad
theorem ZbU {tg l:Expr} {f:EM} (h:ME X l f):MI X tg l (mIn f):=by
  refine PI.imp (Zhu h) fun σ H R q=>?_
  obtain ⟨B,θ,ρ,F,w⟩:=q
  refine ZB (step F w) ?_
  rintro v H1 ⟨B1,θ1,d,E1,F1,rd,w1⟩
  split at w1
  · rename_i xs e
    obtain ⟨a,vs,rfl,h1,h2⟩:=zL F1.good rd e
    refine ⟨a,rfl,?_⟩
    have fin:=fun J (hJ:SrcRep X.K B1 H1 (.seq d) J)=>Zr (Rel:=SrcRep X.K) F1.good hJ w1
    cases d with
    | tup ys=>
      obtain ⟨a',us,e1,g1,_,_⟩:=id rd
      cases e1
      exact .inr ⟨⟨us,SqT.of g1⟩,fin _ ⟨a,rd,rfl⟩⟩
    | scr ns=>
      have hS:SqL X.K H1 a (ns.map V.int):=by
        obtain ⟨a',e1,g1⟩:=id rd
        cases e1
        rcases g1 with ⟨o,g1,_⟩ | g1
        · exact .inl (.inr ⟨o,g1⟩)
        · exact .inr (F1.good.kc a ns g1)
      exact .inl ⟨⟨_,hS⟩,fin _ ⟨a,rd,rfl⟩⟩
    | lst ys=>
      obtain ⟨a',us,e1,g1,_⟩:=ZR F1.good rd (show ZO θ1 (.lst ys)=some xs from e)
      cases e1
      exact .inl ⟨⟨us,SqL.of g1⟩,fin _ ⟨a,rd,rfl⟩⟩
    | ref l=>
      obtain ⟨a',us,e1,g1,_⟩:=ZR F1.good rd (show ZO θ1 (.ref l)=some xs from e)
      cases e1
      exact .inl ⟨⟨us,SqL.of g1⟩,fin _ ⟨a,rd,rfl⟩⟩
    | non=>cases e
    | bl _=>cases e
    | int _=>cases e
    | str _=>cases e
    | ty _=>cases e
  · exact w1.elim
def zO (f:AM):IM:=fun ρ θ=>(f ρ θ).bind fun ds θ=>match ds with
  | [.int j]=>if -1000000≤j∧j≤1000000 then .ok (.rng 0 j.toNat) θ else .bad
  | _=>.bad
theorem Zaq {tg a:Expr} {f:AM} {p pos:Pos} (hm:X.mg "range"=none) (ha:MA X [a] f) (hg:Gl X "range":=by rfl) (hs:starEach [a] X.env=[(false,eval a X.env)]:=by rfl):MI X tg (.Call (.Name "range" p) [a] [] pos) (zO f):=by
  refine PI.imp (ZeK hg hm ha hs) fun σ H R q=>?_
  obtain ⟨B,θ,ρ,F,w⟩:=q
  refine zn (ZbH F w) ?_
  rintro vs H1 ⟨B1,θ1,ds,E1,F1,rd,w1⟩
  split at w1
  · rename_i j
    split at w1
    · rename_i hj
      obtain ⟨v,rfl,rv⟩:=rd.one
      cases (show v=V.int j from rv)
      exact ⟨j,rfl,by have:=hj.1; omega,by have:=hj.2; omega,Zr (Rel:=SrcRep X.K) F1.good (show SrcRep X.K B1 H1 (.rng 0 j.toNat) _ from rfl) w1⟩
    · exact w1.elim
  · exact w1.elim
def ZM (src:List Nat) (ρ:List Sl) (x:D):List Sl:=Sl.val x::src.map fun (j:Nat)=>match ρ[j]? with
  | some (Sl.val d)=>Sl.val d
  | _=>Sl.no
theorem Frm.inner {B:Bx} {θ:Sto} {ρ:List Sl} {σ:St} {H:Hp} (F:Frm X.cl B θ ρ σ H) (src:List Nat) {x:D} {v:V} (r:RepV B H x v):Frm X.cl B θ (ZM src ρ x) (L2.inner src σ (some v)) H:=by
  have key:∀(i:Nat) (s:Sl),(ZM src ρ x)[i]?=some s→s=.no∨∃d,s=.val d∧∃v',(L2.inner src σ (some v))[i]?=some (some v')∧RepV B H d v':=fun i s e=>by
    cases i with
    | zero=>simp [ZM] at e; subst e; exact .inr ⟨x,rfl,v,by simp [L2.inner],r⟩
    | succ i=>
      simp only [ZM,List.getElem?_cons_succ,List.getElem?_map] at e
      simp only [L2.inner,List.getElem?_cons_succ,List.getElem?_map]
      cases q:src[i]? with
      | none=>rw [q] at e; cases e
      | some j=>
        rw [q] at e
        simp only [Option.map_some,Option.some.injEq] at e
        split at e
        · rename_i d ed
          subst e
          obtain ⟨v',h1,h2⟩:=F.val j d ed
          exact .inr ⟨d,rfl,v',by simp [h1],h2⟩
        · exact .inl e.symm
  refine ⟨F.good,by simp [ZM,L2.inner],fun i d e=>?_,fun i xs e=>?_,fun i j xs ys a _ e _=>?_⟩
  · rcases key i _ e with z | ⟨d',z,v',h1,h2⟩
    · cases z
    · cases z; exact ⟨v',h1,h2⟩
  · rcases key i _ e with z | ⟨d',z,_⟩<;>cases z
  · rcases key i _ e with z | ⟨d',z,_⟩<;>cases z
open Classical in
def Zbr (S:Src) (all:List D) (elt:D→Sto→R D):List D→List D→Sto→R D
  | [],acc,θ=>if S.items θ=some all∧acc.length≤BIG then .ok (.lst acc) θ else .bad
  | x::r,acc,θ=>if S.items θ=some all then (elt x θ).bind fun y θ=>Zbr S all elt r (acc++[y]) θ else .bad
def Zac (fi:IM) (src:List Nat) (elt:EM):EM:=fun ρ θ=>(fi ρ θ).bind fun S θ=>match S.items θ with
  | some xs=>if xs.length≤BIG then Zbr S xs (fun x θ=>elt (ZM src ρ x) θ) xs [] θ else .bad
  | none=>.bad
open Classical in
theorem Zd8 {fi:IM} {src:List Nat} {elt:EM} (σ:St) (H:Hp) (Q:VK) (h:tM X (Zac fi src elt) σ H Q):tLc (tMI X fi) src (tM X elt) σ H Q:=by
  obtain ⟨B,θ,ρ,F,w⟩:=h
  refine ⟨B,θ,ρ,F,(wpR.bind (Rel:=SrcRep X.K) w).mono ?_⟩
  rintro J H1 ⟨B1,θ1,S,E1,G1,rJ,w1⟩
  split at w1
  · rename_i xs e1
    split at w1
    · rename_i hz
      refine ⟨xs.length,fun i ys H'=>∃B' θ' acc,ExtE B1 B' H1 H'∧Good X.cl B' θ' H'∧RepL B' H' acc ys∧wpR X σ RepV B' H' (Zbr S xs (fun x θ=>elt (ZM src ρ x) θ) (xs.drop i) acc θ') Q,Zy hz,?_,?_,?_⟩
      · exact ⟨B1,θ1,[],ExtE.refl _ _,G1,rfl,w1⟩
      · rintro i ys H' hi ⟨B2,θ2,acc,E2,G2,racc,w2⟩
        rw [List.drop_eq_getElem_cons hi] at w2
        unfold Zbr at w2
        split at w2
        · rename_i e2
          obtain ⟨g1,g2⟩:=(Za4 G2 (rJ.ext E2.toExtS) e2).1 i xs[i] (List.getElem?_eq_getElem hi)
          refine ⟨g1,fun y H3 hy=>?_⟩
          obtain ⟨rfl,ry⟩:=g2 y H3 hy
          have F2:=(F.ext (E1.trans E2) G2).inner src ry
          refine ⟨B2,θ2,_,F2,(wpR.bind (Rel:=RepV) w2).mono ?_⟩
          rintro z H4 ⟨B4,θ4,d,E4,G4,rd,w4⟩
          exact ⟨B4,θ4,acc++[d],E2.trans E4,G4,(racc.ext E4.toExtS).app ⟨z,[],rfl,rd,rfl⟩,w4⟩
        · exact w2.elim
      · rintro ys H' ⟨B2,θ2,acc,E2,G2,racc,w2⟩
        rw [List.drop_length] at w2
        unfold Zbr at w2
        split at w2
        · rename_i e2
          exact ⟨(Za4 G2 (rJ.ext E2.toExtS) e2.1).2,zT G2 racc w2⟩
        · exact w2.elim
    · exact w1.elim
  · exact w1.elim
theorem Zg4 {x:Str} {px pos:Pos} {iter elt:Expr} {scope:Scope} {N':List Str} {src:List Nat} {sc:Scope} {N:List Str} {fi:IM} {fe:EM} (S:Zs scope sc x N N' src) (hsc:X.env.scope=sc) (hN:X.N=N) (hi:MI X (.Name x px) iter fi)
    (helt:∀(cl:List (Str×Addr)) (C:Addr) (s₀:Shared) (H₀:Hp) (fp:List Addr),ME (X.comp scope N' cl C s₀ H₀ fp) elt fe) (hcm:X.calm=true:=by rfl) (hs:∀v,foldedSetIterable iter X.env v=pure v:=by intro _; rfl) :
    ME X (.ListComp elt [⟨.Name x px,iter,[],0⟩] scope pos) (Zac fi src fe):=
  PE.imp (Zfy (te:=tM X fe) S hsc hN hi (fun cl C s₀ H₀ fp=>helt cl C s₀ H₀ fp) hcm hs) Zd8
inductive Fl where
  | nx | rt (d:D) | bk | ct
abbrev SM:=List Sl→Sto→R (Fl×List Sl)
def Zg9 (Dn:ZaA) (B:Bx) (σ:St) (H:Hp):Fl→Prop
  | .nx=>Dn.nx σ H
  | .bk=>Dn.bk σ H
  | .ct=>Dn.ct σ H
  | .rt d=>∀v,RepV B H d v→Dn.rt v H
def wpS (X:Cx) (σ:St) (B:Bx) (H:Hp) (r:R (Fl×List Sl)) (Dn:ZaA):Prop:=match r with
  | .ok (fl,ρ') θ'=>∀B' H' σ',ExtS B B' H H'→Frm X.cl B' θ' ρ' σ' H'→Zg9 Dn B' σ' H' fl
  | .ex c θ'=>XE X σ B H c θ'
  | .bad=>False
def tMS (X:Cx) (f:SM):TS:=fun Dn σ H=>∃B θ ρ,Frm X.cl B θ ρ σ H∧wpS X σ B H (f ρ θ) Dn
def MS (X:Cx) (st:Stmt) (f:SM):Prop:=PS X st (tMS X f)
def MSs (X:Cx) (sts:List Stmt) (f:SM):Prop:=PSs X sts (tMS X f)
theorem PS.imp {st:Stmt} {t t':TS} (h:PS X st t) (hi:∀D σ H,t' D σ H→t D σ H):PS X st t':=fun pins s σ H D I q=>h pins s σ H D I (hi D σ H q)
theorem PSs.imp {st:List Stmt} {t t':TS} (h:PSs X st t) (hi:∀D σ H,t' D σ H→t D σ H):PSs X st t':=fun pins s σ H D I q=>h pins s σ H D I (hi D σ H q)
theorem wpS.trans {σ σ':St} {B B':Bx} {H H':Hp} {r:R (Fl×List Sl)} {Dn:ZaA} (h:wpS X σ B H r Dn) (E:ExtS B B' H H'):wpS X σ' B' H' r Dn:=by
  cases r with
  | ok a θ'=>exact fun B2 H2 σ2 e g=>h B2 H2 σ2 (E.trans e) g
  | ex c θ'=>exact h
  | bad=>exact h
theorem wpS.bind {α β:Type} {Rel:Bx→Hp→α→β→Prop} {σ:St} {B:Bx} {H:Hp} {r:R α} {k:α→Sto→R (Fl×List Sl)} {Dn:ZaA} (h:wpS X σ B H (r.bind k) Dn) :
    wpR X σ Rel B H r (fun b H1=>∃B1 θ1 a,ExtE B B1 H H1∧Good X.cl B1 θ1 H1∧Rel B1 H1 a b∧wpS X σ B1 H1 (k a θ1) Dn):=by
  cases r with
  | ok a θ'=>exact fun B1 H1 b E g q=>⟨B1,θ',a,E,g,q,wpS.trans h E.toExtS⟩
  | ex c θ'=>exact h
  | bad=>exact h
theorem Zdh {σ:St} {H:Hp} {B:Bx} {θ:Sto} {ρ:List Sl} {f:EM} {k:D→Sto→R (Fl×List Sl)} {Dn:ZaA} (F:Frm X.cl B θ ρ σ H) (h:wpS X σ B H ((f ρ θ).bind k) Dn) :
    tM X f σ H (fun v H1=>∃B1 θ1 d,ExtE B B1 H H1∧Frm X.cl B1 θ1 ρ σ H1∧RepV B1 H1 d v∧wpS X σ B1 H1 (k d θ1) Dn):=
  ⟨B,θ,ρ,F,(wpS.bind (Rel:=RepV) h).mono fun v H1 ⟨B1,θ1,d,E,G,r,w⟩=>⟨B1,θ1,d,E,F.ext E G,r,w⟩⟩
theorem Zhh {σ:St} {H:Hp} {B:Bx} {θ:Sto} {ρ:List Sl} {f:TMr} {k:Bool→Sto→R (Fl×List Sl)} {Dn:ZaA} (F:Frm X.cl B θ ρ σ H) (h:wpS X σ B H ((f ρ θ).bind k) Dn) :
    tMT X f σ H (fun c H1=>∃B1 θ1,ExtE B B1 H H1∧Frm X.cl B1 θ1 ρ σ H1∧wpS X σ B1 H1 (k c θ1) Dn):=
  ⟨B,θ,ρ,F,(wpS.bind (Rel:=EqB) h).mono fun v H1 ⟨B1,θ1,d,E,G,r,w⟩=>by cases (show d=v from r); exact ⟨B1,θ1,E,F.ext E G,w⟩⟩
theorem ZcD {σ:St} {B:Bx} {H:Hp} {θ:Sto} {ρ:List Sl} {fl:Fl} {Dn:ZaA} (F:Frm X.cl B θ ρ σ H) (h:wpS X σ B H (.ok (fl,ρ) θ) Dn):Zg9 Dn B σ H fl:=h B H σ (ExtS.refl B H) F
def zq:SM:=fun ρ θ=>.ok (.nx,ρ) θ
def Zda (r:R (Fl×List Sl)) (k:SM):R (Fl×List Sl):=r.bind fun p θ=>match p with
  | (.nx,ρ)=>k ρ θ
  | p=>.ok p θ
def ZC (f g:SM):SM:=fun ρ θ=>Zda (f ρ θ) g
theorem ZZ:MSs X [] zq:=PSs.imp Zgs fun D σ H h=>by
  obtain ⟨B,θ,ρ,F,w⟩:=h
  exact ZcD F w
theorem wpS.seq {σ:St} {B:Bx} {H:Hp} {r:R (Fl×List Sl)} {g:SM} {Dn:ZaA} (w:wpS X σ B H (Zda r g) Dn):wpS X σ B H r { Dn with nx:=tMS X g Dn }:=by
  cases r with
  | ex c θ'=>exact w
  | bad=>exact w
  | ok p θ'=>
    obtain ⟨fl,ρ'⟩:=p
    intro B' H' σ' E F
    cases fl with
    | nx=>exact ⟨B',θ',ρ',F,wpS.trans w E⟩
    | bk=>exact w B' H' σ' E F
    | ct=>exact w B' H' σ' E F
    | rt d=>exact w B' H' σ' E F
theorem Zh {st:Stmt} {rest:List Stmt} {f g:SM} (h1:MS X st f) (h2:MSs X rest g):MSs X (st::rest) (ZC f g):=PSs.imp (Zfr h1 h2) fun D σ H h=>by
  obtain ⟨B,θ,ρ,F,w⟩:=h
  exact ⟨B,θ,ρ,F,wpS.seq w⟩
theorem Zm {st:Stmt} {f:SM} (h1:MS X st f):MSs X [st] f:=Zgr h1
def Zdq:SM:=fun _ _=>.bad
theorem zN {st:Stmt}:MS X st Zdq:=fun _ _ _ _ _ _ h=>by obtain ⟨_,_,_,_,w⟩:=h; exact w.elim
def zP (f:EM):SM:=fun ρ θ=>(f ρ θ).bind fun d θ=>.ok (.rt d,ρ) θ
theorem Z4 {e:Expr} {f:EM} {pos:Pos} (he:ME X e f):MS X (.Return (some e) pos) (zP f):=PS.imp (Zhp he) fun D σ H h=>by
  obtain ⟨B,θ,ρ,F,w⟩:=h
  refine ZB (Zdh F w) ?_
  rintro v H1 ⟨B1,θ1,d,E1,F1,rd,w1⟩
  exact ZcD F1 w1 v rd
def mIf (t:TMr) (f g:SM):SM:=fun ρ θ=>(t ρ θ).bind fun k θ=>if k=true then f ρ θ else g ρ θ
theorem zB {c:Expr} {a b:List Stmt} {t:TMr} {f g:SM} {pos:Pos} (hc:MT X c t) (ha:MSs X a f) (hb:MSs X b g):MS X (.If c a b pos) (mIf t f g):=PS.imp (Ziz hc ha hb) fun D σ H h=>by
  obtain ⟨B,θ,ρ,F,w⟩:=h
  refine Zag (Zhh F w) ?_
  rintro k H1 ⟨B1,θ1,E1,F1,w1⟩
  cases k with
  | true=>rw [if_pos rfl] at w1 ⊢; exact ⟨B1,θ1,ρ,F1,w1⟩
  | false=>rw [if_neg Bool.false_ne_true] at w1 ⊢; exact ⟨B1,θ1,ρ,F1,w1⟩
theorem Frm.set {B:Bx} {θ:Sto} {ρ:List Sl} {σ:St} {H:Hp} (F:Frm X.cl B θ ρ σ H) (i:Nat) {d:D} {v:V} (r:RepV B H d v):Frm X.cl B θ (ρ.set i (.val d)) (σ.set i (some v)) H:=by
  have oth:∀(j:Nat) (s:Sl),(ρ.set i (Sl.val d))[j]?=some s→(j=i∧s=.val d∧j < σ.length)∨(j≠i∧ρ[j]?=some s):=fun j s e=>by
    by_cases q:j=i
    · subst q
      have hl:j < ρ.length:=by
        have:=(List.getElem?_eq_some_iff.mp e).1
        simpa using this
      rw [List.getElem?_set_self hl] at e
      cases e
      exact .inl ⟨rfl,rfl,by rw [←F.len]; exact hl⟩
    · rw [List.getElem?_set_ne (Ne.symm q)] at e
      exact .inr ⟨q,e⟩
  refine ⟨F.good,by simp [F.len],fun j e h=>?_,fun j xs h=>?_,fun j k xs ys a hne h1 h2 h3=>?_⟩
  · rcases oth j _ h with ⟨rfl,z,hl⟩ | ⟨q,z⟩
    · cases z; exact ⟨v,by rw [List.getElem?_set_self hl],r⟩
    · rw [List.getElem?_set_ne (Ne.symm q)]; exact F.val j e z
  · rcases oth j _ h with ⟨rfl,z,hl⟩ | ⟨q,z⟩
    · cases z
    · rw [List.getElem?_set_ne (Ne.symm q)]; exact F.own j xs z
  · rcases oth j _ h1 with ⟨_,z,_⟩ | ⟨q1,z1⟩
    · cases z
    · rcases oth k _ h2 with ⟨_,z,_⟩ | ⟨q2,z2⟩
      · cases z
      · rw [List.getElem?_set_ne (Ne.symm q1)] at h3
        rw [List.getElem?_set_ne (Ne.symm q2)]
        exact F.ne j k xs ys a hne z1 z2 h3
def ZA (i:Nat) (f:EM):SM:=fun ρ θ=>(f ρ θ).bind fun d θ=>.ok (.nx,ρ.set i (.val d)) θ
theorem Zq (i:Nat) {x:Str} {e:Expr} {f:EM} {pos pos':Pos} (hN:X.N.Nodup) (he:ME X e f) (hi:X.N[i]?=some x:=by rfl) (hx:Loc X.env.scope x:=by first | exact Or.inl rfl | exact Or.inr rfl)
    (hs:swapsWith e (some (.Name x pos')) pos.line X.env=pure false:=by rfl) (hf:X.fn x=true∨X.env.scope.names.lookup x=some .local:=by first | exact .inl rfl | exact .inr rfl):MS X (.Assign [.Name x pos'] e pos) (ZA i f):=
  PS.imp (Zfs hN hi hx he hs hf) fun D σ H h=>by
  obtain ⟨B,θ,ρ,F,w⟩:=h
  refine ZB (Zdh F w) ?_
  rintro v H1 ⟨B1,θ1,d,E1,F1,rd,w1⟩
  exact w1 B1 H1 _ (ExtS.refl _ _) (F1.set i rd)
theorem Zdn (i:Nat) {x y:Str} {px py pos spos:Pos} {iter elt:Expr} {scope:Scope} {N':List Str} {src:List Nat} {sc:Scope} {N:List Str} {fi:IM} {fe:EM} (hnd:X.N.Nodup) (S:Zs scope sc x N N' src) (hsc:X.env.scope=sc) (hN:X.N=N) (hi:MI X (.Name x px) iter fi)
    (helt:∀(cl:List (Str×Addr)) (C:Addr) (s₀:Shared) (H₀:Hp) (fp:List Addr),ME (X.comp scope N' cl C s₀ H₀ fp) elt fe) (hi':X.N[i]?=some y:=by rfl)
    (hsw:swapsWith (.ListComp elt [⟨.Name x px,iter,[],0⟩] scope pos) (some (.Name y py)) spos.line X.env=pure true:=by rfl)
    (hy:X.env.scope.names.lookup y=some .local:=by rfl) (hcm:X.calm=true:=by rfl) (hs:∀v,foldedSetIterable iter X.env v=pure v:=by intro _; rfl) :
    MS X (.Assign [.Name y py] (.ListComp elt [⟨.Name x px,iter,[],0⟩] scope pos) spos) (ZA i (Zac fi src fe)):=
  PS.imp (Ziy (te:=tM X fe) hnd hi' S hsc hN hi (fun cl C s₀ H₀ fp=>helt cl C s₀ H₀ fp) hsw hy hcm hs) fun D σ H h=>by
  obtain ⟨B,θ,ρ,F,w⟩:=h
  refine Zd8 σ H _ (ZB (Zdh F w) ?_)
  rintro v H1 ⟨B1,θ1,d,E1,F1,rd,w1⟩
  exact w1 B1 H1 _ (ExtS.refl _ _) (F1.set i rd)
end
end
end L2.MM
namespace L2.MM
open PySem PySem.Spec PyProof.Rows PySem.SeqAt
noncomputable section
variable {X:Cx}
def Zeh (k:SM):Fl×List Sl→Sto→R (Fl×List Sl)
  | (.nx,ρ),θ=>k ρ θ
  | (.ct,ρ),θ=>k ρ θ
  | (.bk,ρ),θ=>.ok (.nx,ρ) θ
  | (.rt d,ρ),θ=>.ok (.rt d,ρ) θ
theorem wpS.loop {σ:St} {B:Bx} {H:Hp} {r:R (Fl×List Sl)} {k:SM} {Dn:ZaA} (w:wpS X σ B H (r.bind (Zeh k)) Dn) :
    wpS X σ B H r { Dn with nx:=fun σ' H'=>∃B' θ' ρ',ExtS B B' H H'∧Frm X.cl B' θ' ρ' σ' H'∧wpS X σ' B' H' (k ρ' θ') Dn,ct:=fun σ' H'=>∃B' θ' ρ',ExtS B B' H H'∧Frm X.cl B' θ' ρ' σ' H'∧wpS X σ' B' H' (k ρ' θ') Dn,bk:=Dn.nx }:=by
  cases r with
  | ex c θ'=>exact w
  | bad=>exact w
  | ok p θ'=>
    obtain ⟨fl,ρ'⟩:=p
    intro B' H' σ' E F
    cases fl with
    | nx=>exact ⟨B',θ',ρ',E,F,wpS.trans w E⟩
    | ct=>exact ⟨B',θ',ρ',E,F,wpS.trans w E⟩
    | bk=>exact w B' H' σ' E F
    | rt d=>exact w B' H' σ' E F
abbrev TgM:=D→List Sl→Option (List Sl)
def tMG (X:Cx) (g:TgM):TG:=fun v σ H Q=>∃B θ ρ d ρ',Frm X.cl B θ ρ σ H∧RepV B H d v∧g d ρ=some ρ'∧∀σ',Frm X.cl B θ ρ' σ' H→Q σ' H
def MG (X:Cx) (tg:Expr) (g:TgM):Prop:=PG X tg (tMG X g)
theorem PG.imp {tg:Expr} {t t':TG} (h:PG X tg t) (hi:∀v σ H Q,t' v σ H Q→t v σ H Q):PG X tg t':=fun pins s σ H v u Q I r q=>h pins s σ H v u Q I r (hi v σ H Q q)
def gNm (i:Nat):TgM:=fun d ρ=>some (ρ.set i (.val d))
theorem Zbz (i:Nat) {x:Str} {pos:Pos} (hN:X.N.Nodup) (hi:X.N[i]?=some x:=by rfl) (hx:Loc X.env.scope x:=by first | exact Or.inl rfl | exact Or.inr rfl) (hf:X.fn x=true∨X.env.scope.names.lookup x=some .local:=by first | exact .inl rfl | exact .inr rfl):MG X (.Name x pos) (gNm i):=
  PG.imp (zV hN hi hx hf) fun v σ H Q h=>by
  obtain ⟨B,θ,ρ,d,ρ',F,r,e,q⟩:=h
  cases e
  exact q _ (F.set i r)
open Classical in
def forL (S:Src) (all:List D) (tg:TgM) (body:SM):List D→SM
  | []=>fun ρ θ=>if S.items θ=some all then .ok (.nx,ρ) θ else .bad
  | x::r=>fun ρ θ=>if S.items θ=some all then (match tg x ρ with
    | none=>.bad
    | some ρ1=>(body ρ1 θ).bind (Zeh (forL S all tg body r))) else .bad
def Zdp (fi:IM) (tg:TgM) (body:SM):SM:=fun ρ θ=>(fi ρ θ).bind fun S θ=>match S.items θ with
  | some xs=>forL S xs tg body xs ρ θ
  | none=>.bad
open Classical in
theorem ZcM {tg iter:Expr} {body:List Stmt} {fi:IM} {g:TgM} {fb:SM} {pos:Pos} (hp:PassesOwn (model X.prog X.w) X.A X.env X.xe) (hi:MI X tg iter fi) (hg:MG X tg g) (hb:MSs X body fb) (hc:X.calm=true:=by rfl)
    (hs:∀x,foldedSetIterable iter X.env x=pure x:=by intro _; rfl):MS X (.For tg iter body [] pos) (Zdp fi g fb):=
  PS.imp (Zhr hp hc hi hg hb hs) fun Dn σ H h=>by
  obtain ⟨B,θ,ρ,F,w⟩:=h
  refine ⟨B,θ,ρ,F,(wpS.bind (Rel:=SrcRep X.K) w).mono ?_⟩
  rintro J H1 ⟨B1,θ1,S,E1,G1,rJ,w1⟩
  split at w1
  · rename_i xs e1
    refine ⟨fun i m σ H=>∃B θ ρ,Frm X.cl B θ ρ σ H∧SrcRep X.K B H S J∧m=xs.length-i∧i≤xs.length∧wpS X σ B H (forL S xs g fb (xs.drop i) ρ θ) Dn,⟨xs.length,B1,θ1,ρ,F.ext E1 G1,rJ,rfl,Nat.zero_le _,w1⟩,?_⟩
    rintro i m σ2 H2 ⟨B2,θ2,ρ2,F2,rJ2,rfl,hi2,w2⟩
    by_cases hlt:i<xs.length
    · rw [List.drop_eq_getElem_cons hlt] at w2
      unfold forL at w2
      split at w2
      · rename_i e2
        obtain ⟨g1,g2⟩:=(Za4 F2.good rJ2 e2).1 i xs[i] (List.getElem?_eq_getElem hlt)
        split at w2
        · exact w2.elim
        · rename_i ρ3 e3
          refine .inr ⟨g1,fun σ' H'=>∃B' θ' ρ',ExtS B2 B' H2 H'∧Frm X.cl B' θ' ρ' σ' H'∧wpS X σ' B' H' (forL S xs g fb (xs.drop (i+1)) ρ' θ') Dn,?_,fun x H' hy=>?_⟩
          · rintro σ' H' ⟨B',θ',ρ',E',F',w'⟩
            exact ⟨xs.length-(i+1),by omega,B',θ',ρ',F',rJ2.ext E',rfl,hlt,w'⟩
          · obtain ⟨rfl,rx⟩:=g2 x H' hy
            refine ⟨B2,θ2,ρ2,xs[i],ρ3,F2,rx,e3,fun σ' F'=>⟨B2,θ2,ρ3,F',?_⟩⟩
            have w3:=wpS.loop w2
            exact wpS.trans w3 (ExtS.refl _ _)
      · exact w2.elim
    · have e:i=xs.length:=by omega
      subst e
      rw [List.drop_length] at w2
      unfold forL at w2
      split at w2
      · rename_i e2
        exact .inl ⟨(Za4 F2.good rJ2 e2).2,ZcD F2 w2⟩
      · exact w2.elim
  · exact w1.elim
theorem Frm.setOwn {cl:Mo} {B:Bx} {θ:Sto} {ρ:List Sl} {σ:St} {H:Hp} (F:Frm cl B θ ρ σ H) (i:Nat) {p:Addr} (hp:H p=none) {xs:List D} {vs:List V} (r:RepL B H xs vs) :
    ExtS B { B with os:=p::B.os } H (upd H p (.lst vs))∧Frm cl { B with os:=p::B.os } θ (ρ.set i (.own xs)) (σ.set i (some (.ref p))) (upd H p (.lst vs)):=by
  have E0:=z7 F.good hp (.lst vs)
  have G0:=ZaY F.good hp (.lst vs)
  have ok:=F.good.okNone hp
  have E:ExtS B { B with os:=p::B.os } H (upd H p (.lst vs)):=⟨E0.n,E0.m,E0.fr,E0.keep,E0.sm,fun a h=>by
    rcases List.mem_cons.mp h with rfl | h
    · exact .inr hp
    · exact .inl h,rfl,rfl⟩
  refine ⟨E,?_⟩
  have E1:ExtS B { B with os:=p::B.os } H (upd H p (.lst vs)):=E
  have G:Good cl { B with os:=p::B.os } θ (upd H p (.lst vs)):=⟨G0.len,G0.inj,fun j c e=>(F.good.cel j c e).ext E fun u q=>by rw [Zl (Zu q hp)]; exact q,fun j hj=>⟨(G0.cF j hj).1,fun z=>by
      rcases List.mem_cons.mp z with z | z
      · exact ok.1 j hj z
      · exact (G0.cF j hj).2 z⟩,G0.Fs,fun a z=>by
      rcases List.mem_cons.mp z with rfl | z
      · rw [Z2]; simp
      · exact G0.oS a z,fun a z=>by
      rcases List.mem_cons.mp z with rfl | z
      · exact ok.2.1
      · exact G0.oF a z,G0.kc⟩
  have oth:∀(j:Nat) (s:Sl),(ρ.set i (Sl.own xs))[j]?=some s→(j=i∧s=.own xs∧j < σ.length)∨(j≠i∧ρ[j]?=some s):=fun j s e=>by
    by_cases q:j=i
    · subst q
      have hl:j < ρ.length:=by
        have:=(List.getElem?_eq_some_iff.mp e).1
        simpa using this
      rw [List.getElem?_set_self hl] at e
      cases e
      exact .inl ⟨rfl,rfl,by rw [←F.len]; exact hl⟩
    · rw [List.getElem?_set_ne (Ne.symm q)] at e
      exact .inr ⟨q,e⟩
  have old:∀j ys,ρ[j]?=some (Sl.own ys)→∀a,σ[j]?=some (some (V.ref a))→a≠p:=fun j ys h a e z=>by
    obtain ⟨a',us,q1,q2,q3,q4⟩:=F.own j ys h
    rw [e] at q1
    cases q1
    rw [z,hp] at q3
    cases q3
  refine ⟨G,by simp [F.len],fun j d h=>?_,fun j ys h=>?_,fun j k ys zs a hne h1 h2 h3=>?_⟩
  · rcases oth j _ h with ⟨_,z,_⟩ | ⟨q,z⟩
    · cases z
    · rw [List.getElem?_set_ne (Ne.symm q)]
      obtain ⟨v,q1,q2⟩:=F.val j d z
      exact ⟨v,q1,q2.ext E⟩
  · rcases oth j _ h with ⟨rfl,z,hl⟩ | ⟨q,z⟩
    · cases z
      exact ⟨p,vs,by rw [List.getElem?_set_self hl],List.mem_cons_self,Z2,r.ext E⟩
    · rw [List.getElem?_set_ne (Ne.symm q)]
      obtain ⟨a,us,q1,q2,q3,q4⟩:=F.own j ys z
      exact ⟨a,us,q1,List.mem_cons_of_mem _ q2,by rw [Zl (Zu q3 hp)]; exact q3,q4.ext E⟩
  · rcases oth j _ h1 with ⟨rfl,z1,hl⟩ | ⟨q1,z1⟩
    · rcases oth k _ h2 with ⟨rfl,z2,_⟩ | ⟨q2,z2⟩
      · exact absurd rfl hne
      · rw [List.getElem?_set_self hl] at h3
        cases h3
        rw [List.getElem?_set_ne (Ne.symm q2)]
        exact fun z=>old k zs z2 _ z rfl
    · rw [List.getElem?_set_ne (Ne.symm q1)] at h3
      rcases oth k _ h2 with ⟨rfl,z2,hl⟩ | ⟨q2,z2⟩
      · rw [List.getElem?_set_self hl]
        intro z
        cases z
        exact old j ys z1 _ h3 rfl
      · rw [List.getElem?_set_ne (Ne.symm q2)]
        exact F.ne j k ys zs a hne z1 z2 h3
def ZcQ (i:Nat) (f:AM):SM:=fun ρ θ=>(f ρ θ).bind fun xs θ=>if xs.length≤BIG then .ok (.nx,ρ.set i (.own xs)) θ else .bad
theorem Zhi {σ:St} {H:Hp} {B:Bx} {θ:Sto} {ρ:List Sl} {f:AM} {k:List D→Sto→R (Fl×List Sl)} {Dn:ZaA} (F:Frm X.cl B θ ρ σ H) (h:wpS X σ B H ((f ρ θ).bind k) Dn) :
    tMA X f σ H (fun v H1=>∃B1 θ1 d,ExtE B B1 H H1∧Frm X.cl B1 θ1 ρ σ H1∧RepL B1 H1 d v∧wpS X σ B1 H1 (k d θ1) Dn):=
  ⟨B,θ,ρ,F,(wpS.bind (Rel:=RepL) h).mono fun v H1 ⟨B1,θ1,d,E,G,r,w⟩=>⟨B1,θ1,d,E,F.ext E G,r,w⟩⟩
theorem ZeP (i:Nat) {x:Str} {es:List Expr} {f:AM} {pos pos' lpos:Pos} (hN:X.N.Nodup) (he:MA X es f) (hi:X.N[i]?=some x:=by rfl) (hx:Loc X.env.scope x:=by first | exact Or.inl rfl | exact Or.inr rfl)
    (hs:swapsWith (.List es lpos) (some (.Name x pos')) pos.line X.env=pure false:=by rfl) (hf:X.fn x=true∨X.env.scope.names.lookup x=some .local:=by first | exact .inl rfl | exact .inr rfl):MS X (.Assign [.Name x pos'] (.List es lpos) pos) (ZcQ i f):=
  PS.imp (Zfs hN hi hx (Zfx he) hs hf) fun D σ H h=>by
  obtain ⟨B,θ,ρ,F,w⟩:=h
  refine zn (Zhi F w) ?_
  rintro vs H1 ⟨B1,θ1,xs,E1,F1,rd,w1⟩
  split at w1
  · rename_i hz
    refine ⟨by rw [rd.len]; exact Zy hz,fun p hp=>?_⟩
    obtain ⟨E2,F2⟩:=F1.setOwn i hp rd
    exact w1 _ _ _ E2 F2
  · exact w1.elim
theorem Frm.updOwn {cl:Mo} {B:Bx} {θ:Sto} {ρ:List Sl} {σ:St} {H:Hp} (F:Frm cl B θ ρ σ H) {i:Nat} {xs ys:List D} {us:List V} {a:Addr} (h:ρ[i]?=some (Sl.own xs)) (ha:σ[i]?=some (some (.ref a))) (r:RepL B H ys us) :
    ExtS B B H (upd H a (.lst us))∧Frm cl B θ (ρ.set i (.own ys)) σ (upd H a (.lst us)):=by
  obtain ⟨a',vs,q1,q2,q3,q4⟩:=F.own i xs h
  rw [ha] at q1
  cases q1
  have hc:∀j,j<B.n→B.m j≠a:=fun j hj z=>(F.good.cF j hj).2 (by rw [z]; exact q2)
  have E:ExtS B B H (upd H a (.lst us)):=⟨Nat.le_refl _,fun _ _=>rfl,fun i h h'=>absurd h' (Nat.not_lt.mpr h),fun b o e _ hb=>by rw [Zl (fun z=>hb (by rw [z]; exact q2))]; exact e,fun b e=>by
    by_cases q:b=a
    · rw [q,Z2]; simp
    · rw [Zl q]; exact e,fun _ h=>.inl h,rfl,rfl⟩
  have hl:i < ρ.length:=(List.getElem?_eq_some_iff.mp h).1
  have oth:∀(j:Nat) (s:Sl),(ρ.set i (Sl.own ys))[j]?=some s→(j=i∧s=.own ys)∨(j≠i∧ρ[j]?=some s):=fun j s e=>by
    by_cases q:j=i
    · subst q
      rw [List.getElem?_set_self hl] at e
      cases e
      exact .inl ⟨rfl,rfl⟩
    · rw [List.getElem?_set_ne (Ne.symm q)] at e
      exact .inr ⟨q,e⟩
  refine ⟨E,⟨⟨F.good.len,F.good.inj,fun j c e=>(F.good.cel j c e).ext E fun u q=>by
      have hj:j<B.n:=by rw [←F.good.len]; exact (List.getElem?_eq_some_iff.mp e).1
      rw [Zl (hc j hj)]; exact q,F.good.cF,fun b z=>E.sm b (F.good.Fs b z),fun b z=>E.sm b (F.good.oS b z),F.good.oF,F.good.kc⟩,by simp [F.len],fun j d e=>?_,fun j zs e=>?_,fun j k zs ws b hne h1 h2 h3=>?_⟩⟩
  · rcases oth j _ e with ⟨_,z⟩ | ⟨_,z⟩
    · cases z
    · obtain ⟨v,p1,p2⟩:=F.val j d z
      exact ⟨v,p1,p2.ext E⟩
  · rcases oth j _ e with ⟨rfl,z⟩ | ⟨q,z⟩
    · cases z
      exact ⟨a,us,ha,q2,Z2,r.ext E⟩
    · obtain ⟨b,ws,p1,p2,p3,p4⟩:=F.own j zs z
      refine ⟨b,ws,p1,p2,?_,p4.ext E⟩
      rw [Zl (fun z'=>F.ne i j xs zs a (Ne.symm q) h z ha (by rw [←z']; exact p1))]
      exact p3
  · have o1:∃zs',ρ[j]?=some (Sl.own zs'):=by
      rcases oth j _ h1 with ⟨rfl,_⟩ | ⟨_,z⟩
      · exact ⟨xs,h⟩
      · exact ⟨_,z⟩
    have o2:∃ws',ρ[k]?=some (Sl.own ws'):=by
      rcases oth k _ h2 with ⟨rfl,_⟩ | ⟨_,z⟩
      · exact ⟨xs,h⟩
      · exact ⟨_,z⟩
    obtain ⟨zs',o1⟩:=o1
    obtain ⟨ws',o2⟩:=o2
    exact F.ne j k zs' ws' b hne o1 o2 h3
def ZbB (i:Nat) (f:EM):SM:=fun ρ θ=>(f ρ θ).bind fun d θ=>match ρ[i]? with
  | some (Sl.own xs)=>if xs.length<BIG then .ok (.nx,ρ.set i (.own (xs++[d]))) θ else .bad
  | _=>.bad
theorem ZeT (i:Nat) {x:Str} {e:Expr} {f:EM} {p apos pos pos':Pos} (he:ME X e f) (hN:X.N[i]?=some x:=by rfl) (hv:Vis X.env.scope x:=by first | exact Or.inl rfl | exact Or.inr (Or.inl rfl) | exact Or.inr (Or.inr rfl))
    (hd:(x == ("__debug__":Str))=false:=by decide) (hcd:(x == ("__classdict__":Str))=false:=by decide)
    (hpe:∀{to:TE},PE X (.Name x p) to→PE X (.Call (.Attribute (.Name x p) "append" apos) [e] [] pos) (tBM X.K "list" Zeb to (Zdf (tM X f) Zff)))
    (hs:swapsWith (.Call (.Attribute (.Name x p) "append" apos) [e] [] pos) none pos'.line X.env=pure false:=by rfl):MS X (.Expr (.Call (.Attribute (.Name x p) "append" apos) [e] [] pos) pos') (ZbB i f):=
  PS.imp (Zgt (hpe (Zfv hN hv hd hcd)) hs) fun D σ H h=>by
  obtain ⟨B,θ,ρ,F,w⟩:=h
  have own:∃xs,ρ[i]?=some (Sl.own xs):=by
    unfold ZbB at w
    cases q:f ρ θ with
    | bad=>rw [q] at w; exact w.elim
    | ex c θ'=>rw [q] at w; exact False.elim w
    | ok d θ'=>
      rw [q] at w
      simp only [R.bind_ok] at w
      split at w
      · rename_i xs e; exact ⟨xs,e⟩
      · exact w.elim
  obtain ⟨xs,hx⟩:=own
  obtain ⟨a,vs,q1,q2,q3,q4⟩:=F.own i xs hx
  refine ⟨.ref a,q1,.inl ⟨rfl,vs,SqL.of q3⟩,?_⟩
  refine ZB (Zdh F w) ?_
  rintro y H1 ⟨B1,θ1,d,E1,F1,rd,w1⟩
  rw [hx] at w1
  simp only at w1
  split at w1
  · rename_i hz
    obtain ⟨a',us,p1,p2,p3,p4⟩:=F1.own i xs hx
    rw [q1] at p1
    cases p1
    refine ⟨a,us,y,rfl,rfl,p3,by rw [p4.len]; exact Nat.lt_of_lt_of_le hz (Zy (Nat.le_refl _)),?_⟩
    obtain ⟨E2,F2⟩:=F1.updOwn hx q1 (p4.app (show RepL B1 H1 [d] [y] from ⟨y,[],rfl,rd,rfl⟩))
    exact w1 _ _ _ E2 F2
  · exact w1.elim
def ZaV (i:Nat) (f:SM):SM:=fun ρ θ=>match ρ[i]? with
  | some (Sl.own xs)=>f (ρ.set i (.val (.lst xs))) θ
  | _=>f ρ θ
theorem ZdM {i:Nat} {f:SM} {D:ZaA} {σ:St} {H:Hp} (h:tMS X (ZaV i f) D σ H):tMS X f D σ H:=by
  obtain ⟨B,θ,ρ,F,w⟩:=h
  unfold ZaV at w
  split at w
  · rename_i xs hx
    obtain ⟨a,vs,q1,q2,q3,q4⟩:=F.own i xs hx
    let B':Bx:={ B with os:=B.os.filter fun b=>decide (b≠a) }
    have sub:∀b,b∈B'.os→b∈B.os∧b≠a:=fun b hb=>by
      have:=List.mem_filter.mp hb
      exact ⟨this.1,of_decide_eq_true this.2⟩
    have E:ExtS B B' H H:=⟨Nat.le_refl _,fun _ _=>rfl,fun i h h'=>absurd h' (Nat.not_lt.mpr h),fun _ _ e _ _=>e,fun _ e=>e,fun b hb=>.inl (sub b hb).1,rfl,rfl⟩
    have hc:∀j,j<B.n→B.m j≠a:=fun j hj z=>(F.good.cF j hj).2 (by rw [z]; exact q2)
    have G:Good X.cl B' θ H:=⟨F.good.len,F.good.inj,fun j c e=>(F.good.cel j c e).ext E fun _ q=>q,fun j hj=>⟨(F.good.cF j hj).1,fun z=>(F.good.cF j hj).2 (sub _ z).1⟩,F.good.Fs,fun b z=>F.good.oS b (sub b z).1,fun b z=>F.good.oF b (sub b z).1,F.good.kc⟩
    have rv:RepV B' H (.lst xs) (.ref a):=⟨a,vs,rfl,q3,⟨hc,F.good.oF a q2,fun z=>(sub a z).2 rfl⟩,q4.ext E⟩
    have hl:i < ρ.length:=(List.getElem?_eq_some_iff.mp hx).1
    have oth:∀(j:Nat) (s:Sl),(ρ.set i (Sl.val (.lst xs)))[j]?=some s→(j=i∧s=.val (.lst xs))∨(j≠i∧ρ[j]?=some s):=fun j s e=>by
      by_cases q:j=i
      · subst q
        rw [List.getElem?_set_self hl] at e
        cases e
        exact .inl ⟨rfl,rfl⟩
      · rw [List.getElem?_set_ne (Ne.symm q)] at e
        exact .inr ⟨q,e⟩
    refine ⟨B',θ,_,⟨G,by simp [F.len],fun j d e=>?_,fun j ys e=>?_,fun j k ys zs b hne h1 h2 h3=>?_⟩,wpS.trans w E⟩
    · rcases oth j _ e with ⟨rfl,z⟩ | ⟨_,z⟩
      · cases z; exact ⟨_,q1,rv⟩
      · obtain ⟨v,p1,p2⟩:=F.val j d z
        exact ⟨v,p1,p2.ext E⟩
    · rcases oth j _ e with ⟨_,z⟩ | ⟨q,z⟩
      · cases z
      · obtain ⟨b,ws,p1,p2,p3,p4⟩:=F.own j ys z
        refine ⟨b,ws,p1,List.mem_filter.mpr ⟨p2,decide_eq_true fun z'=>?_⟩,p3,p4.ext E⟩
        subst z'
        exact F.ne i j xs ys b (Ne.symm q) hx z q1 p1
    · rcases oth j _ h1 with ⟨_,z⟩ | ⟨_,z1⟩
      · cases z
      · rcases oth k _ h2 with ⟨_,z⟩ | ⟨_,z2⟩
        · cases z
        · exact F.ne j k ys zs b hne z1 z2 h3
  · exact ⟨B,θ,ρ,F,w⟩
theorem ZeS (i:Nat) {st:Stmt} {f:SM} (h:MS X st f):MS X st (ZaV i f):=PS.imp h fun _ _ _ q=>ZdM q
def Z9 (n:Nat) (ds:List D):List Sl:=ds.map Sl.val++List.replicate (n-ds.length) Sl.no
def zQ (np nn:Nat) (fb:SM):GM:=fun ds θ=>if ds.length=np then (fb (Z9 nn ds) θ).bind fun p θ=>match p.1 with
  | .nx=>.ok .non θ
  | .rt d=>.ok d θ
  | _=>.bad
  else .bad
def spM (X:Mo) (f:GM):Sp:=fun vs H Q E=>∃B θ ds,B.os=[]∧Good X B θ H∧RepL B H ds vs∧(match f ds θ with
  | .ok d θ'=>∀B' H' v,ExtE B B' H H'→Good X B' θ' H'→RepV B' H' d v→Q v H'
  | .ex c θ'=>False
  | .bad=>False)
def Z8 (P:Program) (w:World) (K:PySem.W.Frag) (mg:Str→Option Value) (base:Heap) (k:Nat) (x:Str) (f:GM):Prop:=∃ps,Def P w K mg base k x ps (spM ⟨Zd0 mg,K⟩ f)
theorem ZeE {cl:Mo} {B:Bx} {θ:Sto} {H:Hp} {ds:List D} {vs:List V} {N:List Str} {nn:Nat} (G:Good cl B θ H) (r:RepL B H ds vs) (hn:N.length=nn):Frm cl B θ (Z9 nn ds) (Zaa N vs) H:=by
  subst hn
  have hl:=r.len
  have key:∀(i:Nat) (s:Sl),(Z9 N.length ds)[i]?=some s→s=.no∨∃d,s=.val d∧∃v,(Zaa N vs)[i]?=some (some v)∧RepV B H d v:=fun i s e=>by
    unfold Z9 at e
    by_cases q:i<ds.length
    · rw [List.getElem?_append_left (by simpa using q),List.getElem?_map,List.getElem?_eq_getElem q] at e
      cases e
      obtain ⟨v,h1,h2⟩:=r.get (List.getElem?_eq_getElem q)
      refine .inr ⟨_,rfl,v,?_,h2⟩
      unfold Zaa
      rw [List.getElem?_append_left (by simpa [hl] using q),List.getElem?_map,h1]
      rfl
    · rw [List.getElem?_append_right (by simpa using q)] at e
      exact .inl (List.eq_of_mem_replicate (List.mem_of_getElem? e))
  refine ⟨G,by simp [Z9,Zaa,hl],fun i d e=>?_,fun i xs e=>?_,fun i j xs ys a _ e _=>?_⟩
  · rcases key i _ e with z | ⟨d',z,v',h1,h2⟩
    · cases z
    · cases z; exact ⟨v',h1,h2⟩
  · rcases key i _ e with z | ⟨d',z,_⟩<;>cases z
  · rcases key i _ e with z | ⟨d',z,_⟩<;>cases z
theorem mfn {P:Program} {w:World} {K:PySem.W.Frag} {mg:Str→Option Value} {base:Heap} {x qual:Str} {st:Stmt} {N ps:List Str} {k:Nat} {fb:SM} {f:Addr} {fd:FuncData} (F:Fun K x qual st f fd) (S:ZF N ps (Zg st)) (np nn:Nat) (hp:ps.length=np) (hn:N.length=nn)
    (hbody:∀(cdv:Value) (A:Around) (outer:List Env) (s:Shared) (H:Hp) (E:XK),Room k (A.deeper (envOfC qual (Zg st) s.heap.objs.size f cdv))→MSs (ZcV CX0 P w K mg base N qual (Zg st) f cdv A outer s H E).nox (Zx st) fb) :
    FnOk P w K mg base CX0 (k+1) f fd ps (spM ⟨Zd0 mg,K⟩ (zQ np nn fb)):=by
  refine F.ok S ?_ ?_
  · rintro vs H Q E ⟨B,θ,ds,_,_,r,q⟩
    unfold zQ at q
    split at q
    · rename_i h
      split at h
      · rename_i hl; rw [r.len,hl,hp]
      · cases h
    · exact q.elim
    · exact q.elim
  · intro cdv A outer s H vs Q E hr h
    obtain ⟨B,θ,ds,hos,G,r,q⟩:=h
    refine ⟨tMS (ZcV CX0 P w K mg base N qual (Zg st) f cdv A outer s H E).nox fb,hbody cdv A outer s H E hr,B,θ,Z9 nn ds,ZeE G r hn,?_⟩
    unfold zQ at q
    by_cases hl:ds.length=np
    · rw [if_pos hl] at q
      cases e:fb (Z9 nn ds) θ with
      | bad=>rw [e] at q; exact q.elim
      | ex c θ'=>rw [e] at q; exact q.elim
      | ok p θ'=>
        rw [e] at q
        obtain ⟨fl,ρ'⟩:=p
        intro B' H' σ' E' F'
        have hos':∀a,a∈B.os→False:=fun a ha=>by rw [hos] at ha; cases ha
        let B2:Bx:={ B' with os:=[] }
        have E2:ExtE B B2 H H':=⟨⟨E'.n,E'.m,E'.fr,E'.keep,E'.sm,fun a ha=>(nomatch ha),E'.F,E'.ks⟩,hos.symm,fun a o ha=>(hos' a ha).elim⟩
        have E3:ExtS B' B2 H' H':=⟨Nat.le_refl _,fun _ _=>rfl,fun i h h'=>absurd h' (Nat.not_lt.mpr h),fun _ _ e _ _=>e,fun _ e=>e,fun b hb=>(nomatch hb),rfl,rfl⟩
        have G2:Good ⟨Zd0 mg,K⟩ B2 θ' H':=⟨F'.good.len,F'.good.inj,fun j c e=>(F'.good.cel j c e).ext E3 fun _ q=>q,fun j hj=>⟨(F'.good.cF j hj).1,fun z=>nomatch z⟩,F'.good.Fs,fun b z=>(nomatch z),fun b z=>(nomatch z),F'.good.kc⟩
        cases fl with
        | nx=>exact q B2 H' .non E2 G2 rfl
        | rt d=>exact fun v rv=>q B2 H' v E2 G2 (rv.ext E3)
        | bk=>exact q.elim
        | ct=>exact q.elim
    · rw [if_neg hl] at q
      exact q.elim
theorem ZaT {P:Program} {w:World} {K:PySem.W.Frag} {mg:Str→Option Value} {base:Heap} {x:Str} {st:Stmt} {N ps:List Str} {k:Nat} {fb:SM} (D0:ZT K mg x st ps) (S:ZF N ps (Zg st)) (np nn:Nat) (hp:ps.length=np) (hn:N.length=nn)
    (hbody:∀(f:Addr) (cdv:Value) (A:Around) (outer:List Env) (s:Shared) (H:Hp) (E:XK),Room k (A.deeper (envOfC x (Zg st) s.heap.objs.size f cdv))→MSs (ZcV CX0 P w K mg base N x (Zg st) f cdv A outer s H E).nox (Zx st) fb):Z8 P w K mg base (k+1) x (zQ np nn fb):=by
  obtain ⟨f,fd,F,b,m⟩:=D0
  exact ⟨ps,f,fd,mfn F S np nn hp hn (hbody f),b,F.kp,m⟩
def Bx.inC (B:Bx):Bx:={ B with F:=fun a=>B.F a∨a∈B.os,os:=[] }
theorem inC_ok {B:Bx} {a:Addr}:B.inC.ok a↔B.ok a:=by
  constructor
  · rintro ⟨h1,h2,h3⟩
    exact ⟨h1,fun z=>h2 (.inl z),fun z=>h2 (.inr z)⟩
  · rintro ⟨h1,h2,h3⟩
    exact ⟨h1,fun z=>z.elim h2 h3,fun z=>nomatch z⟩
mutual
theorem RepV.same {B B':Bx} {H:Hp} (hn:B'.n=B.n) (hm:B'.m=B.m) (hk:B'.ks=B.ks) (ho:∀a,B.ok a→B'.ok a):∀{d:D} {v:V},RepV B H d v→RepV B' H d v
  | .non,_,h=>h
  | .bl _,_,h=>h
  | .int _,_,h=>h
  | .str _,_,h=>h
  | .ty _,_,h=>h
  | .scr _,_,h=>by
    obtain ⟨a,e,h⟩:=h
    refine ⟨a,e,?_⟩
    rcases h with ⟨o,h,k⟩ | h
    · exact .inl ⟨o,h,ho a k⟩
    · exact .inr (by rw [hk]; exact h)
  | .tup _,_,h=>by obtain ⟨a,vs,e,h,k,l⟩:=h; exact ⟨a,vs,e,h,ho a k,RepL.same hn hm hk ho l⟩
  | .lst _,_,h=>by obtain ⟨a,vs,e,h,k,l⟩:=h; exact ⟨a,vs,e,h,ho a k,RepL.same hn hm hk ho l⟩
  | .ref l,_,h=>⟨by rw [hn]; exact h.1,by rw [hm]; exact h.2⟩
theorem RepL.same {B B':Bx} {H:Hp} (hn:B'.n=B.n) (hm:B'.m=B.m) (hk:B'.ks=B.ks) (ho:∀a,B.ok a→B'.ok a):∀{ds:List D} {vs:List V},RepL B H ds vs→RepL B' H ds vs
  | [],_,h=>h
  | _::_,_,h=>by obtain ⟨v,r,e,hv,hr⟩:=h; exact ⟨v,r,e,RepV.same hn hm hk ho hv,RepL.same hn hm hk ho hr⟩
end
theorem RepKV.same {κ:Type} {B B':Bx} {H:Hp} (hn:B'.n=B.n) (hm:B'.m=B.m) (hk:B'.ks=B.ks) (ho:∀a,B.ok a→B'.ok a):∀{ks:List (κ×D)} {vs:List (κ×V)},RepKV B H ks vs→RepKV B' H ks vs
  | _,_,.nil=>.nil
  | _,_,.cons h t=>.cons ⟨h.1,RepV.same hn hm hk ho h.2⟩ (RepKV.same hn hm hk ho t)
theorem CellOk.same {cl:Mo} {B B':Bx} {H:Hp} {a:Addr} {c:Zgd} (hn:B'.n=B.n) (hm:B'.m=B.m) (hk:B'.ks=B.ks) (ho:∀a,B.ok a→B'.ok a) (k:CellOk cl B H a c):CellOk cl B' H a c:=by
  cases c with
  | lst xs=>obtain ⟨vs,e,r⟩:=k; exact ⟨vs,e,r.same hn hm hk ho⟩
  | dK kvs=>obtain ⟨vs,e,r⟩:=k; exact ⟨vs,e,r.same hn hm hk ho⟩
  | dT kvs=>obtain ⟨vs,e,r⟩:=k; exact ⟨vs,e,r.same hn hm hk ho⟩
  | ins C fs=>obtain ⟨dx,vs,e,r⟩:=k; exact ⟨dx,vs,e,r.same hn hm hk ho⟩
theorem Zf0 {cl:Mo} {B:Bx} {θ:Sto} {H:Hp} (G:Good cl B θ H):Good cl B.inC θ H:=
  ⟨G.len,G.inj,fun i c e=>CellOk.same (B:=B) (B':=B.inC) rfl rfl rfl (fun a=>inC_ok.mpr) (G.cel i c e),fun i hi=>⟨fun z=>z.elim (G.cF i hi).1 (G.cF i hi).2,fun z=>nomatch z⟩,fun a z=>z.elim (G.Fs a) (G.oS a),fun a z=>(nomatch z),fun a z=>(nomatch z),G.kc⟩
theorem ZiF {cl:Mo} {B B':Bx} {θ θ':Sto} {H H':Hp} (G:Good cl B θ H) (E:ExtE B.inC B' H H') (G':Good cl B' θ' H') :
    ExtE B { B' with F:=B.F,os:=B.os } H H'∧Good cl { B' with F:=B.F,os:=B.os } θ' H'∧∀d v,RepV B' H' d v→RepV { B' with F:=B.F,os:=B.os } H' d v:=by
  have hF:B'.F=fun a=>B.F a∨a∈B.os:=E.F
  have ho:∀a,B'.ok a→Bx.ok { B' with F:=B.F,os:=B.os } a:=fun a ⟨h1,h2,h3⟩=>by
    rw [hF] at h2
    exact ⟨h1,fun z=>h2 (.inl z),fun z=>h2 (.inr z)⟩
  have keep:∀a o,H a=some o→(∀i,i<B.n→B.m i≠a)→H' a=some o:=fun a o h k=>E.keep a o h k (fun z=>nomatch z)
  refine ⟨⟨⟨E.n,E.m,E.fr,fun a o h k _=>keep a o h k,E.sm,fun a h=>.inl h,rfl,E.ks⟩,rfl,fun a o _ k h=>keep a o h k⟩,⟨G'.len,G'.inj,fun i c e=>CellOk.same (B:=B') (B':={ B' with F:=B.F,os:=B.os }) rfl rfl rfl ho (G'.cel i c e),fun i hi=>?_,fun a z=>E.sm a (G.Fs a z),fun a z=>E.sm a (G.oS a z),G.oF,G'.kc⟩,fun d v r=>RepV.same (B:=B') (B':={ B' with F:=B.F,os:=B.os }) rfl rfl rfl ho r⟩
  have:=(G'.cF i hi).1
  rw [hF] at this
  exact ⟨fun z=>this (.inl z),fun z=>this (.inr z)⟩
theorem ZgQ {f:GM} {σ:St} {B:Bx} {θ:Sto} {H:Hp} {ds:List D} {vs:List V} {Q:VK} {E:XK} (G:Good X.cl B θ H) (r:RepL B H ds vs) (w:wpR X σ RepV B H (f ds θ) Q):spM X.cl f vs H Q E:=by
  refine ⟨B.inC,θ,ds,rfl,Zf0 G,RepL.same (B:=B) (B':=B.inC) rfl rfl rfl (fun a=>inC_ok.mpr) r,?_⟩
  cases e:f ds θ with
  | bad=>rw [e] at w; exact w
  | ex c θ'=>rw [e] at w; exact w
  | ok d θ'=>
    rw [e] at w
    intro B' H' v E' G' rv
    obtain ⟨h1,h2,h3⟩:=ZiF G E' G'
    exact w _ H' v h1 h2 (h3 d v rv)
theorem Zn {k j:Nat} {x:Str} {f:GM} {p pos:Pos} {e:Expr} {es:List Expr} {fs:AM} (D0:Z8 X.prog X.w X.K X.mg X.base k x f) (hr:Room j X.A) (hj:k≤j) (ha:MA X (e::es) fs) (hg:Gl X x:=by rfl) (hdb:(x == ("__debug__":Str))=false:=by decide)
    (he:starEach (e::es) X.env=(false,eval e X.env)::starEach es X.env:=by rfl) (hpl:(backTo pos (starEach es X.env)).any (·.1)=false:=by rfl):ME X (.Call (.Name x p) (e::es) [] pos) (mCB f fs):=by
  obtain ⟨ps,D0⟩:=D0
  refine PE.imp (ZfA D0 hr hj ha hg hdb he hpl) fun σ H Q h=>?_
  obtain ⟨B,θ,ρ,F,w⟩:=h
  refine zn (ZbH F w) ?_
  rintro vs H1 ⟨B1,θ1,ds,E1,F1,rd,w1⟩
  rw [List.append_nil]
  exact ZgQ F1.good rd w1
end
end L2.MM
namespace L2.MM
open PySem PySem.Spec PyProof.Rows PySem.SeqAt
noncomputable section
def Zea (K:PySem.W.Frag):Sp:=fun vs H Q _=>∃(a:Addr) (ns:List Int),vs=[.ref a]∧ZgW H∧SqL K H a (ns.map V.int)∧ns.length≤63∧∀H',Q (.bl true) H'
theorem ZgL {P:Program} {w:World} {K:PySem.W.Frag} {mg:Str→Option Value} {base:Heap} {k:Nat} {f:Addr} {fd:FuncData} {ps:List Str} {g:GM} (h:∀ns:List Int,ns.length≤63→∃θ',g [.scr ns] []=.ok (.bl true) θ')
    (F:FnOk P w K mg base CX0 k f fd ps (spM ⟨Zd0 mg,K⟩ g)):FnOk P w K mg base CX0 k f fd ps (Zea K):=by
  refine F.imp ?_
  rintro vs H Q E ⟨a,ns,rfl,hO,hS,hl,q⟩
  obtain ⟨θ',e⟩:=h ns hl
  refine ⟨⟨0,fun _=>0,fun _=>False,[],KL K⟩,[],[.scr ns],rfl,⟨rfl,fun i j hi=>absurd hi (Nat.not_lt_zero _),fun i c h=>by simp at h,fun i hi=>absurd hi (Nat.not_lt_zero _),fun a h=>h.elim,fun a h=>(nomatch h),fun a h=>(nomatch h),fun a ns h=>h⟩,?_,?_⟩
  · refine ⟨.ref a,[],rfl,⟨a,rfl,?_⟩,rfl⟩
    rcases hS with (h1 | ⟨o,h1⟩) | h1
    · rcases hO a with z | ⟨o,xs,z⟩
      · rw [z] at h1; cases h1
      · rw [z] at h1; cases h1
    · exact .inl ⟨o,h1,fun i hi=>absurd hi (Nat.not_lt_zero _),fun z=>z,fun z=>(nomatch z)⟩
    · exact .inr h1
  · rw [e]
    intro B' H' v _ _ rv
    cases (show v=V.bl true from rv)
    exact q H'
end
end L2.MM
namespace L2.MM
open PySem PySem.Spec PyProof.Rows PySem.SeqAt
noncomputable section
section
variable {i j k:Nat} {ρ:List Sl} {θ:Sto} {f g h:EM} {fs:AM} {t u:TMr}
@[simp] theorem Zc9:Zd i ρ θ=match ρ[i]? with | some (Sl.val d)=>.ok d θ | _=>.bad:=nr rfl
@[simp] theorem x_c {d:D}:mC d ρ θ=.ok d θ:=nr rfl
@[simp] theorem Zkf {o:OM}:mOp o f g ρ θ=(f ρ θ).bind fun x θ=>(g ρ θ).bind fun y θ=>o x y θ:=nr rfl
@[simp] theorem Zjh:ZL f ρ θ=(f ρ θ).bind fun x θ=>match x with | .bl k=>.ok k θ | _=>.bad:=nr rfl
@[simp] theorem ZjX:Zdo f ρ θ=(f ρ θ).bind fun x θ=>match ZbG θ x with | some k=>.ok k θ | none=>.bad:=nr rfl
@[simp] theorem Zj6:ZgI t u ρ θ=(t ρ θ).bind fun k θ=>if k=true then u ρ θ else .ok false θ:=nr rfl
@[simp] theorem Zke:mOr t u ρ θ=(t ρ θ).bind fun k θ=>if k=true then .ok true θ else u ρ θ:=nr rfl
@[simp] theorem ZjZ:ZfQ t ρ θ=(t ρ θ).bind fun k θ=>.ok (!k) θ:=nr rfl
def Zi3 (g:Sto→R D):D→Sto→R D
  | .bl true,θ=>g θ
  | .bl false,θ=>.ok (.bl false) θ
  | _,_=>.bad
@[simp] theorem Zjb {g:Sto→R D} {k:Bool}:Zi3 g (.bl k) θ=if k=true then g θ else .ok (.bl false) θ:=by cases k<;>rfl
@[simp] theorem Zjl:ZbY f g ρ θ=(f ρ θ).bind (Zi3 (g ρ)):=by
  show (f ρ θ).bind _=_
  congr 1
  funext x θ
  cases x<;>first | rfl | (rename_i b; cases b<;>rfl)
@[simp] theorem Zh8 {p:Prop} [Decidable p] {m:Bool}:(if p then R.ok m θ else R.ok false θ)=R.ok (decide p && m) θ:=by by_cases h:p<;>simp [h]
@[simp] theorem ZiP {p:Prop} [Decidable p] {m:Bool}:(if p then R.ok true θ else R.ok m θ)=R.ok (decide p || m) θ:=by by_cases h:p<;>simp [h]
@[simp] theorem Zj0:ZjE f ρ θ=(f ρ θ).bind fun x θ=>match x with | .int i=>.ok (.int (-i)) θ | _=>.bad:=nr rfl
@[simp] theorem Zj3:ZeV t f g ρ θ=(t ρ θ).bind fun k θ=>if k=true then f ρ θ else g ρ θ:=nr rfl
@[simp] theorem Zid:Zj ρ θ=.ok [] θ:=nr rfl
@[simp] theorem Zhc:Zc f fs ρ θ=(f ρ θ).bind fun x θ=>(fs ρ θ).bind fun xs θ=>.ok (x::xs) θ:=nr rfl
@[simp] theorem ZjW:ZaK fs ρ θ=(fs ρ θ).bind fun xs θ=>if xs.length≤BIG then .ok (.tup xs) θ else .bad:=nr rfl
@[simp] theorem Zj1:ZaU fs ρ θ=(fs ρ θ).bind fun xs θ=>if xs.length≤BIG then .ok (.lst xs) θ else .bad:=nr rfl
@[simp] theorem Zjm {o:GM}:mCB o fs ρ θ=(fs ρ θ).bind fun xs θ=>o xs θ:=nr rfl
@[simp] theorem Zkd {lo hi:PM}:mSl f lo hi ρ θ=(f ρ θ).bind fun x θ=>(lo ρ θ).bind fun l θ=>(hi ρ θ).bind fun h θ=>match ZdN θ x l h with
  | some d=>.ok d θ
  | none=>.bad:=nr rfl
@[simp] theorem ZjY {lo hi st:PM}:ZjD f lo hi st ρ θ=(f ρ θ).bind fun x θ=>(lo ρ θ).bind fun l θ=>(hi ρ θ).bind fun h θ=>(st ρ θ).bind fun s θ=>match ZO θ x with
  | some xs=>if s≠some 0∧(Zed xs l h s).length≤BIG then .ok (.lst (Zed xs l h s)) θ else .bad
  | none=>.bad:=nr rfl
@[simp] theorem Zkg:mIn f ρ θ=(f ρ θ).bind fun d θ=>match seqOf θ d with | some _=>.ok (.seq d) θ | none=>.bad:=nr rfl
@[simp] theorem Zjj:zO fs ρ θ=(fs ρ θ).bind fun ds θ=>match ds with
  | [.int j]=>if -1000000≤j∧j≤1000000 then .ok (.rng 0 j.toNat) θ else .bad
  | _=>.bad:=by
  unfold zO; exact nr rfl
variable {a b:SM} {Fl':Fl×List Sl}
@[simp] theorem Zji:zq ρ θ=.ok (.nx,ρ) θ:=nr rfl
@[simp] theorem Zj5:Zdq ρ θ=.bad:=nr rfl
@[simp] theorem ZN {ρ':List Sl}:Zda (.ok (.nx,ρ') θ) a=a ρ' θ:=nr rfl
@[simp] theorem Zh5 {ρ':List Sl} {d:D}:Zda (.ok (.rt d,ρ') θ) a=.ok (.rt d,ρ') θ:=nr rfl
@[simp] theorem zJ:ZC a b ρ θ=Zda (a ρ θ) b:=nr rfl
@[simp] theorem Zic:zP f ρ θ=(f ρ θ).bind fun d θ=>.ok (.rt d,ρ) θ:=nr rfl
@[simp] theorem Zjk:mIf t a b ρ θ=(t ρ θ).bind fun k θ=>if k=true then a ρ θ else b ρ θ:=nr rfl
@[simp] theorem Zib:ZA i f ρ θ=(f ρ θ).bind fun d θ=>.ok (.nx,ρ.set i (.val d)) θ:=nr rfl
@[simp] theorem Zia:ZcQ i fs ρ θ=(fs ρ θ).bind fun xs θ=>if xs.length≤BIG then .ok (.nx,ρ.set i (.own xs)) θ else .bad:=nr rfl
@[simp] theorem Zih:ZbB i f ρ θ=(f ρ θ).bind fun d θ=>match ρ[i]? with
  | some (Sl.own xs)=>if xs.length<BIG then .ok (.nx,ρ.set i (.own (xs++[d]))) θ else .bad
  | _=>.bad:=nr rfl
@[simp] theorem Zig:ZaV i a ρ θ=match ρ[i]? with | some (Sl.own xs)=>a (ρ.set i (.val (.lst xs))) θ | _=>a ρ θ:=nr rfl
@[simp] theorem Za2 {ρ':List Sl}:Zeh a (.nx,ρ') θ=a ρ' θ:=nr rfl
@[simp] theorem Zex {ρ':List Sl} {d:D}:Zeh a (.rt d,ρ') θ=.ok (.rt d,ρ') θ:=nr rfl
@[simp] theorem Zj4 {d:D}:gNm i d ρ=some (ρ.set i (.val d)):=nr rfl
@[simp] theorem ZgZ {np nn:Nat} {ds:List D}:zQ np nn a ds θ=if ds.length=np then (a (Z9 nn ds) θ).bind fun p θ=>match p.1 with | .nx=>.ok .non θ | .rt d=>.ok d θ | _=>.bad else .bad:=nr rfl
@[simp] theorem Zi9 {n:Nat} {ds:List D}:Z9 n ds=ds.map Sl.val++List.replicate (n-ds.length) Sl.no:=nr rfl
@[simp] theorem ZgY {xs:List D}:seqOf θ (.tup xs)=some xs:=nr rfl
@[simp] theorem Zh4 {b:Bool}:ZbG θ (.bl b)=some b:=nr rfl
@[simp] theorem ZdE {xs:List D}:ZbG θ (.tup xs)=some (!xs.isEmpty):=nr rfl
@[simp] theorem Zha {ns:List Int}:ZbG θ (.scr ns)=some (!(ns.map D.int).isEmpty):=nr rfl
@[simp] theorem Zhb {n:Int}:look θ (.int n)=.int n:=nr rfl
@[simp] theorem Zfa {xs:List D} {n:Int}:ixM (.lst xs) (.int n) θ=match atI xs n with | some d=>.ok d θ | none=>.bad:=nr rfl
@[simp] theorem Zie {xs:List Int} {n:Int}:ixM (.scr xs) (.int n) θ=match atI (xs.map D.int) n with | some d=>.ok d θ | none=>.bad:=nr rfl
@[simp] theorem Zj2 {xs:List D}:zu [.lst xs] θ=.ok (.int xs.length) θ:=nr rfl
@[simp] theorem Zey {xs:List D}:zu [.tup xs] θ=.ok (.int xs.length) θ:=nr rfl
@[simp] theorem Zh6 {xs:List Int}:zu [.scr xs] θ=.ok (.int (xs.map D.int).length) θ:=nr rfl
@[simp] theorem Zii {xs:List D}:Zgc [.lst xs] θ=match ZcY xs with | some ns=>.ok (.bl (ns.all id)) θ | none=>.bad:=nr rfl
@[simp] theorem Zif {m:Str} {n:String}:ZaD [.str m,.ty n] θ=match isT .str n with | some b=>.ok (.bl b) θ | none=>.bad:=nr rfl
end
mutual
def pl:Nat→D→Bool
  | _,.non=>true
  | _,.bl _=>true
  | _,.int _=>true
  | _,.str x=>PyData.strOk x
  | k+1,.tup xs=>pls k xs
  | k+1,.lst xs=>pls k xs
  | _,_=>false
def pls:Nat→List D→Bool
  | _,[]=>true
  | k,d::r=>pl k d && pls k r
end
mutual
def noB:D→Bool
  | .bl _=>false
  | .tup xs=>Zba xs
  | .lst xs=>Zba xs
  | _=>true
def Zba:List D→Bool
  | []=>true
  | d::r=>noB d && Zba r
end
mutual
theorem Zec:∀(k:Nat) (d:D),pl k d=true→zo d=true∧(dat d).canLay0=true∧(dat d).depth≤k
  | _,.non,_=>⟨rfl,rfl,Nat.zero_le _⟩
  | _,.bl _,_=>⟨rfl,rfl,Nat.zero_le _⟩
  | _,.int _,_=>⟨rfl,rfl,Nat.zero_le _⟩
  | k,.str x,h=>⟨rfl,by cases k<;>simpa [pl,dat,PyData.canLay0] using h,Nat.zero_le _⟩
  | k+1,.tup xs,h=>by
    obtain ⟨a,b,c⟩:=ZdO k xs (by simpa [pl] using h)
    exact ⟨a,b,by simp only [dat,PyData.depth]; omega⟩
  | k+1,.lst xs,h=>by
    obtain ⟨a,b,c⟩:=ZdO k xs (by simpa [pl] using h)
    exact ⟨a,b,by simp only [dat,PyData.depth]; omega⟩
  | 0,.tup xs,h=>by simp [pl] at h
  | 0,.lst xs,h=>by simp [pl] at h
  | 0,.ty _,h=>by simp [pl] at h
  | 0,.scr _,h=>by simp [pl] at h
  | 0,.ref _,h=>by simp [pl] at h
  | _+1,.ty _,h=>by simp [pl] at h
  | _+1,.scr _,h=>by simp [pl] at h
  | _+1,.ref _,h=>by simp [pl] at h
theorem ZdO:∀(k:Nat) (ds:List D),pls k ds=true→ze ds=true∧PyData.canLayAll0 (Zak ds)=true∧PyData.depthAll (Zak ds)≤k
  | _,[],_=>⟨rfl,rfl,Nat.zero_le _⟩
  | k,d::r,h=>by
    have h':pl k d=true∧pls k r=true:=by simpa [pls] using h
    obtain ⟨a,b,c⟩:=Zec k d h'.1
    obtain ⟨a',b',c'⟩:=ZdO k r h'.2
    exact ⟨by simp [ze,a,a'],by simp [Zak,PyData.canLayAll0,b,b'],by simp only [Zak,PyData.depthAll]; omega⟩
end
mutual
theorem Zef:∀(d e:D),noB d=true→noB e=true→noMix (dat d) (dat e)=true:=fun d e p q=>by
  cases d with
  | bl _=>simp [noB] at p
  | tup xs=>
    cases e with
    | bl _=>simp [noB] at q
    | tup ys=>simp only [dat,noMix]; exact ZbR xs ys p q
    | _=>simp [dat,noMix]
  | lst xs=>
    cases e with
    | bl _=>simp [noB] at q
    | lst ys=>simp only [dat,noMix]; exact ZbR xs ys p q
    | _=>simp [dat,noMix]
  | _=>cases e<;>simp_all [noB,dat,noMix]
theorem ZbR:∀(ds es:List D),Zba ds=true→Zba es=true→noMixAll (Zak ds) (Zak es)=true
  | [],[],_,_=>rfl
  | [],_::_,_,_=>rfl
  | _::_,[],_,_=>rfl
  | d::ds,e::es,p,q=>by
    have p':noB d=true∧Zba ds=true:=by simpa [Zba] using p
    have q':noB e=true∧Zba es=true:=by simpa [Zba] using q
    simp only [Zak,noMixAll,Bool.and_eq_true]
    exact ⟨Zef d e p'.1 q'.1,ZbR ds es p'.2 q'.2⟩
end
theorem Zcn {k:Nat} {d:D} (h:pl k d=true) (hk:k≤64):shaped (dat d)=true:=by
  obtain ⟨_,b,c⟩:=Zec k d h
  unfold shaped
  rw [b,decide_eq_true (by omega)]
  rfl
theorem Zb6 {x y:D} (h1:pl 9 x=true) (h2:pl 9 y=true) (h3:noB x=true) (h4:noB y=true):ZdD x y:=
  ⟨(Zec _ _ h1).1,(Zec _ _ h2).1,Zcn h1 (by decide),Zcn h2 (by decide),Zef x y h3 h4⟩
section
open Classical
theorem ZdY {x y:D} {θ:Sto} (h:ZdD (look θ x) (look θ y)):eqM x y θ=.ok (.bl (decide (look θ x=look θ y))) θ:=if_pos h
theorem ZfG {x y:D} {θ:Sto} (h:ZdD (look θ x) (look θ y)):neM x y θ=.ok (.bl (!decide (look θ x=look θ y))) θ:=if_pos h
end
@[simp] theorem ZjO (a b:Int) (θ:Sto):eqM (.int a) (.int b) θ=.ok (.bl (decide (a=b))) θ:=by
  rw [ZdY (Zb6 rfl rfl rfl rfl)]
  simp
@[simp] theorem ZjC (a b:Int) (θ:Sto):neM (.int a) (.int b) θ=.ok (.bl (!decide (a=b))) θ:=by
  rw [ZfG (Zb6 rfl rfl rfl rfl)]
  simp
end
end L2.MM
namespace L2.MM
open PySem PySem.Spec PyProof.Rows PySem.SeqAt My
noncomputable section
@[simp] theorem ZjV:BIG=100000:=nr rfl
def il (ns:List Int):D:=.lst (ns.map D.int)
def itp (ns:List Int):D:=.tup (ns.map D.int)
section
variable {θ:Sto} {a b ns ms:List Int} {i j:Int}
@[simp] theorem Zi0:D.lst (ns.map D.int)=il ns:=nr rfl
@[simp] theorem Zkc (x y:Int):D.lst [.int x,.int y]=il [x,y]:=nr rfl
@[simp] theorem Zkb (x y z w v:Int):D.lst [.int x,.int y,.int z,.int w,.int v]=il [x,y,z,w,v]:=nr rfl
@[simp] theorem Zka (x y z w v u:Int):D.lst [.int x,.int y,.int z,.int w,.int v,.int u]=il [x,y,z,w,v,u]:=nr rfl
@[simp] theorem Zj9 (x y z w v u t:Int):D.lst [.int x,.int y,.int z,.int w,.int v,.int u,.int t]=il [x,y,z,w,v,u,t]:=nr rfl
@[simp] theorem ZiQ:seqOf θ (itp a)=some (a.map D.int):=nr rfl
@[simp] theorem ZjK:zu [itp a] θ=.ok (.int a.length) θ:=by
  unfold itp; rw [Zey]; simp
theorem ZgU {α β:Type} (f:α→β) (xs:List α) (n:Int):atI (xs.map f) n=(atI xs n).map f:=by
  unfold L2.atI
  rw [List.length_map]
  cases ixN xs.length n with
  | none=>rfl
  | some k=>simp
theorem ZiT:ixM (il a) (.int i) θ=match atI a i with | some z=>.ok (.int z) θ | none=>.bad:=by
  unfold il
  rw [Zfa,ZgU]
  cases atI a i<;>rfl
theorem Zh1 {α:Type} {xs:List α} {n:Nat} {x:α} (h:xs[n]?=some x):atI xs (n:Int)=some x:=Zc0 h
theorem Zga {xs:List Int} {i:Int} (h0:0≤i) (h:i<xs.length):atI xs i=some (xs.getD i.toNat 0):=by
  have c:i=((i.toNat:Nat):Int):=by omega
  rw [c]
  refine Zc0 ?_
  have d:i.toNat<xs.length:=by omega
  rw [List.getD_eq_getElem?_getD,Int.toNat_natCast,List.getElem?_eq_getElem d]
  rfl
def gt (a:List Int) (i:Nat):Int:=a.getD i 0
theorem Zb2 (h0:0≤i) (h:i<a.length):ixM (il a) (.int i) θ=.ok (.int (gt a i.toNat)) θ:=by rw [ZiT,Zga h0 h]; rfl
@[simp] theorem ZjM {x:Int} {r:List Int}:ixM (il (x::r)) (.int 0) θ=.ok (.int x) θ:=Zb2 (a:=x::r) (i:=0) (by decide) (by rw [List.length_cons]; omega)
@[simp] theorem ZjL {x y:Int} {r:List Int}:ixM (il (x::y::r)) (.int 1) θ=.ok (.int y) θ:=Zb2 (a:=x::y::r) (i:=1) (by decide) (by rw [List.length_cons,List.length_cons]; omega)
@[simp] theorem ZjI:ZbG θ (itp a)=some (!a.isEmpty):=by
  unfold itp; rw [ZdE]; simp
@[simp] theorem ZiS:ZbF [il a] θ=.ok (itp a) θ:=nr rfl
@[simp] theorem ZjJ {k:Int}:ZbT (itp a) (.int k) θ=if a.isEmpty=false∧0≤k∧k<1000∧(a.length:Int)*k≤1000 then .ok (itp (List.replicate k.toNat a).flatten) θ else .bad:=by
  unfold itp
  rw [ZfI,List.length_map]
  have:(List.replicate k.toNat (a.map D.int)).flatten=(List.replicate k.toNat a).flatten.map D.int:=by
    rw [List.map_flatten,List.map_replicate]
  rw [this]
  simp
end
section
variable {θ:Sto} {ρ:List Sl}
@[simp] theorem ZeI {lo:Int} {n:Nat}:(Src.rng lo n).items θ=some ((List.range n).map fun (i:Nat)=>D.int (lo+(i:Int))):=nr rfl
@[simp] theorem ZeG {d:D}:(Src.seq d).items θ=seqOf θ d:=nr rfl
open Classical in
theorem Zbg {S:Src} {all:List D} {elt:D→Sto→R D} {θ:Sto} (f:D→D) (hS:S.items θ=some all):∀(xs acc:List D),(∀x∈xs,elt x θ=.ok (f x) θ)→(acc.length+xs.length≤BIG)→Zbr S all elt xs acc θ=.ok (.lst (acc++xs.map f)) θ
  | [],acc,_,hl=>by
    unfold Zbr
    rw [if_pos ⟨hS,by simpa using hl⟩]
    simp
  | x::r,acc,h,hl=>by
    unfold Zbr
    rw [if_pos hS,h x List.mem_cons_self]
    rw [R.bind_ok,Zbg f hS r (acc++[f x]) (fun y hy=>h y (List.mem_cons_of_mem _ hy)) (by simp at hl ⊢; omega)]
    simp
theorem ZeW {fi:IM} {src:List Nat} {elt:EM} {lo:Int} {n:Nat} {θ':Sto} (f:Int→D) (hi:fi ρ θ=.ok (.rng lo n) θ') (hn:n≤BIG) (he:∀i:Nat,i<n→elt (ZM src ρ (.int (lo+i))) θ'=.ok (f (lo+i)) θ') :
    Zac fi src elt ρ θ=.ok (.lst ((List.range n).map fun (i:Nat)=>f (lo+i))) θ':=by
  unfold Zac
  rw [hi,R.bind_ok]
  simp only [ZeI]
  rw [if_pos (by simpa using hn),Zbg (fun d=>match d with | .int k=>f k | d=>d) rfl]
  · simp
  · intro x hx
    obtain ⟨i,hi,rfl⟩:=List.mem_map.mp hx
    exact he i (List.mem_range.mp hi)
  · simpa using hn
theorem Zbb {fi:IM} {src:List Nat} {elt:EM} {d:D} {xs:List D} {θ':Sto} (f:D→D) (hi:fi ρ θ=.ok (.seq d) θ') (hd:seqOf θ' d=some xs) (hn:xs.length≤BIG) (he:∀x∈xs,elt (ZM src ρ x) θ'=.ok (f x) θ') :
    Zac fi src elt ρ θ=.ok (.lst (xs.map f)) θ':=by
  unfold Zac
  rw [hi,R.bind_ok]
  simp only [ZeG,hd]
  rw [if_pos hn,Zbg (S:=.seq d) f hd xs [] he (by simpa using hn)]
  simp
@[simp] theorem ZiR {src:List Nat} {x:D}:ZM src ρ x=Sl.val x::src.map fun (j:Nat)=>match ρ[j]? with | some (Sl.val d)=>Sl.val d | _=>Sl.no:=nr rfl
end
end
end L2.MM
namespace My
open PySem L2 L2.MM
noncomputable section
def Zes:SM:=(zP (ZeV (ZL (mOp neM (mOp Zi2 (Zd 0) (Zd 1)) (mC (.int 0)))) (mC (.int 1)) (mC (.int 0))))
def ZaQ:GM:=zQ 2 2 Zes
def ZaO:SM:=(mIf (Zdo (Zd 0)) (zP (mOp ixM (Zd 0) (mOp Z7 (Zd 1) (mCB zu (Zc (Zd 0) Zj))))) zq)
def Zca:SM:=(ZC ZaO
  (zP (mC (.int 0))))
def Zbd:GM:=zQ 2 2 Zca
def Zet:SM:=(ZC (ZA 2 (mOp Z7 (mOp Zp (mCB Zbd (Zc (Zd 0) (Zc (Zd 1) Zj))) (mOp ZbT (mC (.int 104729)) (mOp Zp (Zd 1) (mC (.int 1))))) (mC (.int 4294967291))))
  (ZC (ZA 2 (mOp Z7 (mOp ZbT (Zd 2) (mC (.int 48271))) (mC (.int 4294967279))))
  (zP (mOp Z7 (mOp Zp (mOp ZbT (mOp Zaz (Zd 2) (mC (.int 64))) (mC (.int 69621))) (Zd 2)) (mC (.int 4294967231))))))
def zt:GM:=zQ 2 3 Zet
def zS:SM:=(mIf (ZL (mOp eqM (Zd 3) (mC (.int 0)))) (ZA 3 (mOp Zp (mC (.int 4)) (mOp Z7 (mCB zt (Zc (Zd 0) (Zc (mOp Zp (Zd 1) (mC (.int 2))) Zj))) (mC (.int 65532))))) zq)
def zz:SM:=(mIf (ZgI (ZL (mOp eqM (mOp Z7 (mOp Zaz (Zd 2) (mC (.int 2))) (mC (.int 2))) (mC (.int 1)))) (ZL (mOp gtM (mOp Z7 (mCB zt (Zc (Zd 0) (Zc (mOp Zp (Zd 1) (mC (.int 1))) Zj))) (mC (.int 3))) (mC (.int 0))))) (ZC (ZA 3 (mOp ixM (ZaU (Zc (mC (.int 4)) (Zc (mC (.int 5)) (Zc (mC (.int 16)) (Zc (mC (.int 536)) (Zc (mC (.int 65535)) (Zc (mC (.int 0)) Zj))))))) (mOp Z7 (mCB zt (Zc (Zd 0) (Zc (mOp Zp (Zd 1) (mC (.int 3))) Zj))) (mC (.int 6)))))
    zS) zq)
def Zaw:SM:=(mIf (ZL (mOp eqM (mOp Z7 (Zd 6) (mC (.int 3))) (mC (.int 0)))) (ZA 6 (mOp ixM (ZaU (Zc (mC (.int 0)) (Zc (mC (.int 1)) (Zc (mC (.int 4294967295)) (Zc (mC (.int 4294967294)) (Zc (mC (.int 2147483648)) (Zc (mC (.int 65535)) (Zc (mC (.int 65536)) Zj)))))))) (mOp Z7 (mOp Zaz (Zd 6) (mC (.int 3))) (mC (.int 7))))) zq)
def Zbn:SM:=(Zdp (zO (Zc (mC (.int 2)) Zj)) (gNm 5) (ZC (ZA 6 (mCB zt (Zc (Zd 0) (Zc (mOp Zp (mOp Zp (Zd 1) (mC (.int 4))) (Zd 5)) Zj))))
    (ZC Zaw
    (ZbB 4 (Zd 6)))))
def Zav:SM:=(mIf (ZL (mOp eqM (Zd 8) (mC (.int 7)))) (ZA 8 (mOp Z7 (mCB zt (Zc (Zd 0) (Zc (mOp Zp (Zd 1) (mC (.int 8))) Zj))) (mC (.int 17)))) zq)
def Zau:SM:=(mIf (ZL (mOp eqM (mOp Z7 (mCB zt (Zc (Zd 0) (Zc (mOp Zp (Zd 1) (mC (.int 27))) Zj))) (mC (.int 5))) (mC (.int 0)))) (ZA 9 (mOp ZbT (ZaK (Zc (mC (.int 255)) Zj)) (Zd 8))) zq)
def Zeu:SM:=(ZC (ZA 2 (mOp Z7 (mCB zt (Zc (Zd 0) (Zc (Zd 1) Zj))) (mC (.int 32))))
  (ZC (ZA 3 (mC (.int 0)))
  (ZC zz
  (ZC (ZcQ 4 Zj)
  (ZC Zbn
  (ZC (ZA 7 (ZaK (Zc (mOp Z7 (mCB zt (Zc (Zd 0) (Zc (mOp Zp (Zd 1) (mC (.int 6))) Zj))) (mC (.int 65536))) Zj)))
  (ZC (ZA 7 (mOp Zp (Zd 7) (ZaK (Zc (mOp Z7 (mCB zt (Zc (Zd 0) (Zc (mOp Zp (Zd 1) (mC (.int 7))) Zj))) (mC (.int 65536))) Zj))))
  (ZC (ZA 8 (mOp ixM (ZaU (Zc (mC (.int 0)) (Zc (mC (.int 1)) (Zc (mC (.int 15)) (Zc (mC (.int 16)) (Zc (mC (.int 7)) Zj)))))) (mOp Z7 (mCB zt (Zc (Zd 0) (Zc (mOp Zp (Zd 1) (mC (.int 9))) Zj))) (mC (.int 5)))))
  (ZC Zav
  (ZC (ZA 9 (mCB ZbF (Zc (Zac (zO (Zc (Zd 8) Zj)) [0,1] (mOp Z7 (mOp Zaz (mCB zt (Zc (Zd 1) (Zc (mOp Zp (mOp Zp (Zd 2) (mC (.int 10))) (Zd 0)) Zj))) (mC (.int 7))) (mC (.int 256)))) Zj)))
  (ZC Zau
  (ZC (ZA 10 (mOp Z7 (mCB zt (Zc (Zd 0) (Zc (mOp Zp (Zd 1) (mC (.int 28))) Zj))) (mC (.int 65536))))
  (ZaV 4 (zP (mOp Zp (Zd 7) (ZaK (Zc (mOp ixM (Zd 4) (mC (.int 0))) (Zc (mOp ixM (Zd 4) (mC (.int 1))) (Zc (Zd 2) (Zc (Zd 10) (Zc (Zd 3) (Zc (Zd 9) Zj))))))))))))))))))))))
def Zct:GM:=zQ 2 11 Zeu
end
end My
namespace My
open PySem L2 L2.MM
noncomputable section
def cell (ns:List Int) (k:Int):Int:=if ns.length=0 then 0 else ns.getD (k % (ns.length:Int)).toNat 0
def mix (ns:List Int) (k:Int):Int:=
  ((cell ns k+104729*(k+1)) % 4294967291*48271 % 4294967279/64*69621+(cell ns k+104729*(k+1)) % 4294967291*48271 % 4294967279) % 4294967231
theorem ZfK (ns:List Int) (k:Int):0≤mix ns k∧mix ns k<4294967231:=by
  unfold mix; omega
theorem ZgT {ns:List Int} {k:Int} (h:0<ns.length):atI (ns.map D.int) (k % (ns.length:Int))=some (.int (cell ns k)):=by
  have a:=Int.emod_nonneg k (show (ns.length:Int)≠0 by omega)
  have b:=Int.emod_lt_of_pos k (show (0:Int)<ns.length by omega)
  have c:(k % (ns.length:Int))=(((k % (ns.length:Int)).toNat:Nat):Int):=by omega
  rw [c]
  refine Zc0 ?_
  have d:(k % (ns.length:Int)).toNat<ns.length:=by omega
  rw [List.getElem?_map,List.getElem?_eq_getElem d]
  unfold cell
  rw [if_neg (by omega),List.getD_eq_getElem?_getD,List.getElem?_eq_getElem d]
  rfl
@[simp] theorem Zjo (ns:List Int) (k:Int) (θ:Sto):Zbd [.scr ns,.int k] θ=.ok (.int (cell ns k)) θ:=by
  by_cases h:ns.length=0
  · have:ns=[]:=List.eq_nil_of_length_eq_zero h
    subst this
    simp [Zbd,Zca,ZaO,cell]
  · have h1:ns.isEmpty=false:=by cases ns with
      | nil=>exact absurd rfl h
      | cons _ _=>rfl
    have h2:0<ns.length:=by omega
    simp [Zbd,Zca,ZaO,h1,h2,ZgT (k:=k) h2]
@[simp] theorem Zj7 (ns:List Int) (k:Int) (θ:Sto):zt [.scr ns,.int k] θ=.ok (.int (mix ns k)) θ:=by
  simp [zt,Zet,Zd5,mix]
end
end My
namespace My
open PySem L2 L2.MM
noncomputable section
structure Seg where
  src:Int
  goal:Int
  num:Int
  ans:Int
  flags:Int
  win:Int
  most:Int
  data:List Int
def Seg.d (s:Seg):D:=.tup [.int s.src,.int s.goal,.int s.num,.int s.ans,.int s.flags,.int s.win,.int s.most,itp s.data]
structure Seg.Ok (s:Seg):Prop where
  src:0≤s.src∧s.src≤65535
  goal:0≤s.goal∧s.goal≤65535
  num:0≤s.num∧s.num≤4294967295
  ans:0≤s.ans∧s.ans≤4294967295
  flags:0≤s.flags∧s.flags≤31
  win:0≤s.win∧s.win≤65535
  most:s.most=0∨(4≤s.most∧s.most≤65535∧s.flags/2 % 2=1)
  data:(∀z∈s.data,0≤z∧z≤255)∧s.data.length≤16
section
variable {s:Seg} {θ:Sto}
@[simp] theorem d0:ixM s.d (.int 0) θ=.ok (.int s.src) θ:=nr rfl
@[simp] theorem d1:ixM s.d (.int 1) θ=.ok (.int s.goal) θ:=nr rfl
@[simp] theorem d2:ixM s.d (.int 2) θ=.ok (.int s.num) θ:=nr rfl
@[simp] theorem d3:ixM s.d (.int 3) θ=.ok (.int s.ans) θ:=nr rfl
@[simp] theorem d4:ixM s.d (.int 4) θ=.ok (.int s.flags) θ:=nr rfl
@[simp] theorem d5:ixM s.d (.int 5) θ=.ok (.int s.win) θ:=nr rfl
@[simp] theorem d6:ixM s.d (.int 6) θ=.ok (.int s.most) θ:=nr rfl
@[simp] theorem d7:ixM s.d (.int 7) θ=.ok (itp s.data) θ:=nr rfl
end
def two (k:Int):List Int:=[k/256 % 256,k % 256]
def ZhV (k:Int):List Int:=two (k/65536)++two k
def hd (s:Seg):Int:=if s.most=0 then 80 else 96
def Zi4 (s:Seg):List Int:=two s.src++two s.goal++(ZhV s.num++ZhV s.ans)++[hd s,s.flags]++two s.win
def ZiN (m:Int):List Int:=if m=0 then [] else [2,4]++two m
def ZjQ (s:Seg):List Int:=[0,0]++ZiN s.most++s.data
@[simp] theorem two_len (k:Int):(two k).length=2:=rfl
@[simp] theorem ZiY (k:Int):(ZhV k).length=4:=rfl
@[simp] theorem Zh9 (s:Seg):(Zi4 s).length=16:=rfl
structure Seg.Put (s:Seg):Prop where
  flags:0≤s.flags∧s.flags≤255
  data:(∀z∈s.data,0≤z∧z≤255)∧s.data.length≤100
def bit (f k:Int):Int:=if Builtin.bitAnd f k=0 then 0 else 1
@[simp] theorem Zj8 (f k:Int) (θ:Sto):ZaQ [.int f,.int k] θ=.ok (.int (bit f k)) θ:=by
  by_cases h:Builtin.bitAnd f k=0<;>simp [ZaQ,Zes,bit,h]
theorem ZgS:∀n:Fin 32,bit (n.val:Int) 1=(n.val:Int) % 2∧bit (n.val:Int) 2=(n.val:Int)/2 % 2∧bit (n.val:Int) 4=(n.val:Int)/4 % 2∧bit (n.val:Int) 8=(n.val:Int)/8 % 2∧bit (n.val:Int) 16=(n.val:Int)/16 % 2:=by decide
theorem ZjP {f:Int} (h:0≤f∧f≤31):bit f 1=f % 2∧bit f 2=f/2 % 2∧bit f 4=f/4 % 2∧bit f 8=f/8 % 2∧bit f 16=f/16 % 2:=by
  have:=ZgS ⟨f.toNat,by omega⟩
  simp only at this
  rw [show ((f.toNat:Nat):Int)=f by omega] at this
  exact this
end
end My
namespace My
open PySem L2 L2.MM
noncomputable section
def ZaJ (ns:List Int) (b:Int):Int:=if mix ns b % 32/2 % 2=1∧0<mix ns (b+1) % 3 then (if gt [4,5,16,536,65535,0] (mix ns (b+3) % 6).toNat=0 then 4+mix ns (b+2) % 65532 else gt [4,5,16,536,65535,0] (mix ns (b+3) % 6).toNat) else 0
def ZaC (n:Int):Int:=if n % 3=0 then gt [0,1,4294967295,4294967294,2147483648,65535,65536] (n/3 % 7).toNat else n
def ZU (ns:List Int) (b:Int):Int:=if gt [0,1,15,16,7] (mix ns (b+9) % 5).toNat=7 then mix ns (b+8) % 17 else gt [0,1,15,16,7] (mix ns (b+9) % 5).toNat
def ZaN (ns:List Int) (b:Int):List Int:=if mix ns (b+27) % 5=0 then List.replicate (ZU ns b).toNat 255 else (List.range (ZU ns b).toNat).map fun (k:Nat)=>mix ns (b+10+(k:Int))/7 % 256
def Zan (ns:List Int) (b:Int):Seg:=⟨mix ns (b+6) % 65536,mix ns (b+7) % 65536,ZaC (mix ns (b+4)),ZaC (mix ns (b+5)),mix ns b % 32,mix ns (b+28) % 65536,ZaJ ns b,ZaN ns b⟩
theorem ZeX {P:Nat→Prop} {n:Nat} (h:n<5) (h0:P 0) (h1:P 1) (h2:P 2) (h3:P 3) (h4:P 4):P n:=by
  match n,h with
  | 0,_=>exact h0
  | 1,_=>exact h1
  | 2,_=>exact h2
  | 3,_=>exact h3
  | 4,_=>exact h4
theorem Zcs {P:Nat→Prop} {n:Nat} (h:n<7) (h0:P 0) (h1:P 1) (h2:P 2) (h3:P 3) (h4:P 4) (h5:P 5) (h6:P 6):P n:=by
  match n,h with
  | 0,_=>exact h0
  | 1,_=>exact h1
  | 2,_=>exact h2
  | 3,_=>exact h3
  | 4,_=>exact h4
  | 5,_=>exact h5
  | 6,_=>exact h6
theorem ZcI (ns:List Int) (b:Int):0≤ZU ns b∧ZU ns b≤16:=by
  unfold ZU
  have h:(mix ns (b+9) % 5).toNat<5:=by omega
  have:0≤gt [0,1,15,16,7] (mix ns (b+9) % 5).toNat∧gt [0,1,15,16,7] (mix ns (b+9) % 5).toNat≤16:=ZeX (P:=fun n=>0≤gt [0,1,15,16,7] n∧gt [0,1,15,16,7] n≤16) h (by decide) (by decide) (by decide) (by decide) (by decide)
  split
  · omega
  · exact this
theorem Zh2 (ns:List Int) (b:Int):(Zan ns b).Ok:=by
  have nm:∀n,0≤n∧n<4294967231→0≤ZaC n∧ZaC n≤4294967295:=fun n hn=>by
    unfold ZaC
    split
    · have h:(n/3 % 7).toNat<7:=by omega
      exact Zcs (P:=fun n=>0≤gt [0,1,4294967295,4294967294,2147483648,65535,65536] n∧gt [0,1,4294967295,4294967294,2147483648,65535,65536] n≤4294967295) h (by decide) (by decide) (by decide) (by decide) (by decide) (by decide) (by decide)
    · omega
  have sz:=ZcI ns b
  refine ⟨by simp only [Zan]; omega,by simp only [Zan]; omega,nm _ (ZfK _ _),nm _ (ZfK _ _),by simp only [Zan]; omega,by simp only [Zan]; omega,?_,?_,?_⟩
  · show ZaJ ns b=0∨(4≤ZaJ ns b∧ZaJ ns b≤65535∧mix ns b % 32/2 % 2=1)
    unfold ZaJ
    split
    · rename_i c
      right
      have h:(mix ns (b+3) % 6).toNat<7:=by omega
      have:gt [4,5,16,536,65535,0] (mix ns (b+3) % 6).toNat=0∨(4≤gt [4,5,16,536,65535,0] (mix ns (b+3) % 6).toNat∧gt [4,5,16,536,65535,0] (mix ns (b+3) % 6).toNat≤65535):=
        Zcs (P:=fun n=>gt [4,5,16,536,65535,0] n=0∨(4≤gt [4,5,16,536,65535,0] n∧gt [4,5,16,536,65535,0] n≤65535)) h (by decide) (by decide) (by decide) (by decide) (by decide) (by decide) (by decide)
      split
      · exact ⟨by omega,by omega,c.1⟩
      · rename_i c2
        have:=this.resolve_left c2
        exact ⟨this.1,this.2,c.1⟩
    · exact .inl rfl
  · show ∀z∈ZaN ns b,0≤z∧z≤255
    unfold ZaN
    split
    · intro z hz
      have:=List.eq_of_mem_replicate hz
      omega
    · intro z hz
      obtain ⟨k,_,rfl⟩:=List.mem_map.mp hz
      omega
  · show (ZaN ns b).length≤16
    unfold ZaN
    split<;>simp<;>omega
theorem ZdK (ns:List Int) (b:Int) (r:List Sl) (θ:Sto):zz (.val (.scr ns)::.val (.int b)::.val (.int (mix ns b % 32))::.val (.int 0)::r) θ=.ok (.nx,.val (.scr ns)::.val (.int b)::.val (.int (mix ns b % 32))::.val (.int (ZaJ ns b))::r) θ:=by
  have g:=Zb2 (a:=[4,5,16,536,65535,0]) (i:=mix ns (b+3) % 6) (θ:=θ) (by omega) (by simp; omega)
  unfold ZaJ
  generalize gt [4,5,16,536,65535,0] (mix ns (b+3) % 6).toNat=m at *
  by_cases c1:mix ns b % 32/2 % 2=1
  · by_cases c2:0<mix ns (b+1) % 3
    · by_cases c3:m=0
      · simp [zz,zS,c1,c2,c3,g]
      · simp [zz,zS,c1,c2,c3,g]
    · simp [zz,zS,c1,c2]
  · simp [zz,zS,c1]
theorem ZeC (n:Int) (a0 a1 a2 a3 a4 a5:Sl) (r:List Sl) (θ:Sto):Zaw (a0::a1::a2::a3::a4::a5::.val (.int n)::r) θ=.ok (.nx,a0::a1::a2::a3::a4::a5::.val (.int (ZaC n))::r) θ:=by
  have g:=Zb2 (a:=[0,1,4294967295,4294967294,2147483648,65535,65536]) (i:=n/3 % 7) (θ:=θ) (by omega) (by simp; omega)
  unfold ZaC
  generalize gt [0,1,4294967295,4294967294,2147483648,65535,65536] (n/3 % 7).toNat=m at *
  by_cases c:n % 3=0
  · simp [Zaw,c,g]
  · simp [Zaw,c]
theorem ZdJ (ns:List Int) (b:Int) (a2 a3:Sl) (r:List Sl) (θ:Sto):Zbn (.val (.scr ns)::.val (.int b)::a2::a3::.own []::.no::.no::r) θ =
    .ok (.nx,.val (.scr ns)::.val (.int b)::a2::a3::.own [.int (ZaC (mix ns (b+4))),.int (ZaC (mix ns (b+5)))]::.val (.int 1)::.val (.int (ZaC (mix ns (b+5))))::r) θ:=by
  simp [Zbn,Zdp,forL,ZeC,List.range_succ,show b+4+1=b+5 by omega]
theorem ZdI (ns:List Int) (b:Int) (a2 a3 a4 a5 a6 a7:Sl) (r:List Sl) (θ:Sto):Zav (.val (.scr ns)::.val (.int b)::a2::a3::a4::a5::a6::a7::.val (.int (gt [0,1,15,16,7] (mix ns (b+9) % 5).toNat))::r) θ =
    .ok (.nx,.val (.scr ns)::.val (.int b)::a2::a3::a4::a5::a6::a7::.val (.int (ZU ns b))::r) θ:=by
  unfold ZU
  generalize gt [0,1,15,16,7] (mix ns (b+9) % 5).toNat=m at *
  by_cases c:m=7
  · simp [Zav,c]
  · simp [Zav,c]
theorem Zfl (n:Nat) (x:Int):(List.replicate n [x]).flatten=List.replicate n x:=by
  induction n with
  | zero=>rfl
  | succ n ih=>rw [List.replicate_succ,List.flatten_cons,ih]; rfl
theorem ZdL (ns:List Int) (b:Int) (a2 a3 a4 a5 a6 a7:Sl) (r:List Sl) (θ:Sto):Zau (.val (.scr ns)::.val (.int b)::a2::a3::a4::a5::a6::a7::.val (.int (ZU ns b))::.val (itp ((List.range (ZU ns b).toNat).map fun (k:Nat)=>mix ns (b+10+(k:Int))/7 % 256))::r) θ =
    .ok (.nx,.val (.scr ns)::.val (.int b)::a2::a3::a4::a5::a6::a7::.val (.int (ZU ns b))::.val (itp (ZaN ns b))::r) θ:=by
  have sz:=ZcI ns b
  have f1:D.tup [.int 255]=itp [255]:=rfl
  unfold ZaN
  by_cases c:mix ns (b+27) % 5=0
  · simp [Zau,c,f1,Zfl,show ZU ns b<1000 by omega,show ZU ns b≤1000 by omega,sz.1]
  · simp [Zau,c]
theorem Zij (ns:List Int) (b:Int) (θ:Sto):Zct [.scr ns,.int b] θ=.ok (Zan ns b).d θ:=by
  have sz:=ZcI ns b
  have g:=Zb2 (a:=[0,1,15,16,7]) (i:=mix ns (b+9) % 5) (θ:=θ) (by omega) (by simp; omega)
  have cp:=fun ρ (h0:ρ[0]?=some (Sl.val (D.scr ns))) (h1:ρ[1]?=some (Sl.val (D.int b))) (h2:ρ[8]?=some (Sl.val (D.int (ZU ns b))))=>ZeW (ρ:=ρ) (θ:=θ) (fi:=zO (Zc (Zd 8) Zj)) (src:=[0,1])
    (elt:=mOp Z7 (mOp Zaz (mCB zt (Zc (Zd 1) (Zc (mOp Zp (mOp Zp (Zd 2) (mC (.int 10))) (Zd 0)) Zj))) (mC (.int 7))) (mC (.int 256))) (lo:=0) (n:=(ZU ns b).toNat) (θ':=θ) (fun k=>.int (mix ns (b+10+k)/7 % 256))
    (by simp [h2]; omega) (by simp; omega) (by intro i hi; simp [h0,h1])
  have e:(fun (i:Nat)=>D.int (mix ns (b+10+(0+(i:Int)))/7 % 256))=D.int∘fun (i:Nat)=>mix ns (b+10+(i:Int))/7 % 256:=by
    funext i
    simp
  simp [Zct,Zeu,ZdK,ZdJ,g,ZdI]
  rw [cp _ rfl rfl rfl]
  rw [show (List.range (ZU ns b).toNat).map (fun (i:Nat)=>D.int (mix ns (b+10+(0+(i:Int)))/7 % 256))=((List.range (ZU ns b).toNat).map fun (i:Nat)=>mix ns (b+10+(i:Int))/7 % 256).map D.int by rw [e,List.map_map]]
  simp only [Zi0]
  simp [ZdL,Zan,Seg.d]
end
end My
namespace My
open PySem L2 L2.MM
noncomputable section
inductive Err where
  | none | refused | reset | time
  deriving DecidableEq
def Err.s:Err→Str
  | .none=>"" | .refused=>"refused" | .reset=>"reset" | .time=>"time"
@[simp] theorem Zfb:("":Str)=Err.none.s:=nr rfl
end
end My
namespace My
open PySem L2 L2.MM
noncomputable section
theorem ZgR {α:Type} (xs:List α):ZcY (xs.map fun _=>D.bl true)=some (List.replicate xs.length true):=by
  induction xs with
  | nil=>rfl
  | cons x xs ih=>rw [List.map_cons,ZcY,ih]; rfl
theorem Zgb (n:Nat):(List.replicate n true).all id=true:=by
  induction n with
  | zero=>rfl
  | succ n ih=>rw [List.replicate_succ,List.all_cons,ih]; rfl
end
end My
namespace My
open PySem L2 L2.MM
noncomputable section
theorem Zgw (n:Nat) (xs:List Int):pls n (xs.map D.int)=true:=by
  induction xs with
  | nil=>simp [pls]
  | cons x r ih=>simp [pls,ih,pl]
theorem ZfF (xs:List Int):Zba (xs.map D.int)=true:=by
  induction xs with
  | nil=>simp [Zba]
  | cons x r ih=>simp [Zba,ih,noB]
theorem Zhs (n:Nat) (s:Seg):pl (n+2) s.d=true:=by
  unfold Seg.d
  simp only [pl,pls,pl,Bool.true_and,Bool.and_true]
  unfold itp
  simp only [pl]
  exact Zgw _ _
theorem ZgF (s:Seg):noB s.d=true:=by
  unfold Seg.d
  simp only [noB,Zba,Bool.true_and,Bool.and_true]
  unfold itp
  simp only [noB]
  exact ZfF _
end
end My
namespace L2
open PySem PySem.Spec PyProof.Rows
section
variable {X:Cx} {x:Str} {px:Pos} {iter elt tst:Expr} {scope:Scope} {pos:Pos} {N':List Str} {src:List Nat} {wi:TI} {te:TE} {tc:TT}
theorem Za0 {prog:Program} {w:World} {A:Around} {R:Result→Shared→Prop} {s:Shared} {elt target iter tst:Expr} {scope:Scope} {pos:Pos} {it acc:Value} {env:Env} (I:Nat→Shared→Prop)
    (turn:∀n s,I n s→wpAny (model prog w) A (pyNext it) (fun r s₁=>match r with
      | none=>R (.ok .next) s₁
      | some v=>wpAny (model prog w) A (letOwnedTupleGo target it v) (fun _ s₂=>wpAny (model prog w) A (assign target env v) (fun _ s₃=>wpAny (model prog w) A (isTrue tst env (eval tst env)) (fun ok s₃₅=>if ok=true then wpAny (model prog w) A (eval elt env) (fun x s₄=>
          wpAny (model prog w) A (call (.builtin "list.append") [acc,x]) (fun _ s₅=>∃m,m<n∧I m s₅) (notedBy (model prog w) A env fun e s'=>R (.error e) s') s₄) (notedBy (model prog w) A env fun e s'=>R (.error e) s') s₃₅ else ∃m,m<n∧I m s₃₅)
          (notedBy (model prog w) A env fun e s'=>R (.error e) s') s₃) (notedBy (model prog w) A env fun e s'=>R (.error e) s') s₂) (notedBy (model prog w) A env fun e s'=>R (.error e) s') s₁) (notedBy (model prog w) A env fun e s'=>R (.error e) s') s)
    (n:Nat) (h:I n s):codeAny (model prog w) A (.compLoop (.ListComp elt [⟨target,iter,[tst],0⟩] scope pos) 0 it acc env) R s:=by
  refine codeAny_loop rfl I (fun n s hI=>?_) n h
  show wpAny _ A ((compTurn (.ListComp elt [⟨target,iter,[tst],0⟩] scope pos) 0 it acc env).onRaise (fun x=>do noteFrame x env; theTreesLotGoes x)) _ _ s
  refine wpAny_noted ?_
  rw [compTurn_list]
  refine wpAny_bind (wpAny_standAt (wpAny_bind (thn (turn n s hI) fun r s₁ h₁=>?_)))
  cases r with
  | none=>exact wpAny_pure h₁
  | some v=>
    refine wpAny_bind (thn h₁ fun _ s₂ h₂=>wpAny_bind (thn h₂ fun _ s₃ h₃=>?_))
    refine wpAny_bind (thn (wpAny_tests_one h₃) fun ok s₄ h₄=>?_)
    cases ok with
    | false=>
      rw [if_neg (by decide)] at h₄
      exact wpAny_pure ⟨rfl,h₄⟩
    | true=>
      rw [if_pos rfl] at h₄
      exact wpAny_bind (wpAny_bind (thn h₄ fun x s₅ h₅=>wpAny_bind (thn h₅ fun _ s₆ h₆=>wpAny_pure (wpAny_pure ⟨rfl,h₆⟩))))
def ZjG (J:It) (src:List Nat) (σ:St) (tc:TT) (te:TE) (H1:Hp) (Q:VK):Prop:=∃(n:Nat) (Pv:Nat→List V→Hp→Prop),n≤sizeLine∧Pv 0 [] H1∧
  (∀i ys H,i<n→Pv i ys H→J.go i H∧∀y H',J.yld i H y H'→tc (inner src σ (some y)) H' fun b H1=>if b=true then te (inner src σ (some y)) H1 fun z H2=>Pv (i+1) (ys++[z]) H2 else Pv (i+1) ys H1)∧
  ∀ys H,Pv n ys H→J.stop n H∧∀p,H p=none→Q (.ref p) (upd H p (.lst ys))
def Zio (wi:TI) (src:List Nat) (tc:TT) (te:TE):TE:=fun σ H Q=>wi σ H fun J H1=>ZjG J src σ tc te H1 Q
theorem ZgK {pins:List (Addr×Obj)} {σ:St} {H:Hp} {s:Shared} {cl:List (Str×Addr)} {it:Addr} {fp:List Addr} {tn:Nat→Heap→Prop} {J:It} {n:Nat} {Pv:Nat→List V→Hp→Prop} {RR:Value→Addr→Result→Shared→Prop} {E:Value→Shared→Prop}
    (I:Inv X pins σ H s) (hcm:X.calm=true) (S:Zs scope X.env.scope x X.N N' src) (hcl:∀n c,(n,c)∈cl→X.env.cells.lookup n=some c) (hcl2:∀y∈scope.names,y.2=.free→∃c,(y.1,c)∈cl)
    (T:Zcf X.prog X.w X.K (.Name x px) J fp it tn) (t0:tn 0 s.heap) (hfp:∀b∈fp,Zao X pins H b)
    (helt:∀(cl:List (Str×Addr)) (C:Addr) (s₀:Shared) (H₀:Hp) (fp:List Addr),PE (X.comp scope N' cl C s₀ H₀ fp) elt te)
    (htst:∀(cl:List (Str×Addr)) (C:Addr) (s₀:Shared) (H₀:Hp) (fp:List Addr),PT (X.comp scope N' cl C s₀ H₀ fp) tst tc)
    (hn:n≤sizeLine) (p0:Pv 0 [] H) (turn:∀i ys H,i<n→Pv i ys H→J.go i H∧∀y H',J.yld i H y H'→tc (inner src σ (some y)) H' fun b H1=>if b=true then te (inner src σ (some y)) H1 fun z H2=>Pv (i+1) (ys++[z]) H2 else Pv (i+1) ys H1) (stop:∀ys H,Pv n ys H→J.stop n H)
    (hR:∀(D C:Addr) (o:Obj) (ys:List V) (H':Hp) (s':Shared),Pv n ys H'→H' D=none→Inv X (pins++[(C,o)]) σ (upd H' D (.lst ys)) s'→(∃m,s'.heap.Ns C m)→Zao X pins (upd H' D (.lst ys)) C→RR (.ref D) C (.ok .next) s') :
    wpAny (model X.prog X.w) X.A (newList []) (fun acc s₃=>wpAny (model X.prog X.w) X.A (newFunctionEnv scope X.env.globals cl [] X.env.qual none .none (some X.env)) (fun cenv s₄=>
      codeAny (model X.prog X.w) X.A (.compStart (.ListComp elt [⟨.Name x px,iter,[tst],0⟩] scope pos) 0 (.ref it) acc { cenv with scope:=relabel scope X.env }) (RR acc cenv.locals) s₄) E s₃) E s:=by
  refine wpAny_newObj_type (wpAny_newFunctionEnv S.cell (by intro y hy; simp at hy) (fun h₁ hns₁ hsb₁=>?_) S.kind)
  dsimp only at hns₁ hsb₁ ⊢
  generalize hH2:s.heap.push { cls:=.type "list",dict:=none,data:=.seq ([]:List Value).toArray }=H2 at hns₁ hsb₁ ⊢
  have hC:H2.objs.size=s.heap.objs.size+1:=by rw [←hH2,Heap.size_push]
  have hDC:s.heap.objs.size≠H2.objs.size:=by rw [hC]; exact Nat.ne_of_lt (Nat.lt_succ_self _)
  have hCle:s.heap.objs.size≤H2.objs.size:=by rw [hC]; exact Nat.le_succ _
  have below:∀b,b<s.heap.objs.size→b≠H2.objs.size∧b≠s.heap.objs.size:=fun b hb=>⟨by rw [hC]; exact Nat.ne_of_lt (Nat.lt_succ_of_lt hb),Nat.ne_of_lt hb⟩
  have old:∀b o,s.heap.get? b=some o→h₁.get? b=some o:=fun b o e=>hsb₁.extBut b o (below b (Heap.lt_size e)).1 (Heap.get?_push_of_some _ (hH2 ▸ Heap.get?_push_of_some _ e))
  have hacc:h₁.PlainList s.heap.objs.size #[]:=⟨_,hsb₁.extBut _ _ hDC (Heap.get?_push_of_some _ (hH2 ▸ Heap.get?_push_size _ rfl))⟩
  have hfl:∀b∈fp,b<s.heap.objs.size:=fun b hb=>by
    obtain ⟨o,e,_⟩:=T.obj 0 _ t0 b hb
    exact Heap.lt_size e
  have fresh:∀a,s.heap.objs.size≤a→s.heap.get? a=none:=fun a ha=>by
    cases e:s.heap.get? a with
    | none=>rfl
    | some o'=>exact absurd (Heap.lt_size e) (Nat.not_lt.mpr ha)
  generalize eD:s.heap.objs.size=D at hDC hacc hCle below fresh hfl hC ⊢
  generalize eC:H2.objs.size=C at hDC hCle below hC hns₁ hsb₁ ⊢
  have I1:Inv (X.comp scope N' cl C s H fp) [] (inner src σ none) H { s with heap:=h₁,toks:=s.toks+([]:List (Str×Value)).length }:=
    Zb5 I S hcl hcl2 (by rw [eD]; exact hCle) hfp (by rw [eD]; exact hfl) ⟨_,hns₁⟩ old rfl rfl
  have stat:∀{H':Hp} {pl:List (Addr×Obj)},(∀p∈pl,p.1=D)→(∀b∈fp,H' b=none)→∀b∈fp,Zao (X.comp scope N' cl C s H fp) pl H' b:=fun {H' pl} hp hn b hb=>
    ⟨hn b hb,(below b (hfl b hb)).1,fun z=>by
      rcases List.mem_cons.mp (I.stkSub b z) with q | q
      · exact (hfp b hb).2.1 q
      · exact (hfp b hb).2.2.1 q,.inl hb,fun y c e=>(hfp b hb).2.2.2.2.1 y c (hcl y c (PySem.mem_of_lookup e)),fun p hq=>by
      rw [hp p (by rcases List.mem_append.mp hq with z | z; exact absurd (show p∈([]:List (Addr×Obj)) from z) (by simp); exact z)]
      exact Ne.symm (below b (hfl b hb)).2⟩
  have nD:D∉frs X.stack:=fun z=>by
    rcases List.mem_cons.mp (I.stkSub D z) with q | q
    · have:=I.lt; rw [←q,eD] at this; exact Nat.lt_irrefl _ this
    · exact I.nofs (a:=D) (by rw [eD]; exact Nat.le_refl _) q
  have nC:C∉X.fs:=I.nofs (by rw [eD]; exact hCle)
  have cellD:∀y c,cl.lookup y=some c→c<D:=fun y c e=>by
    obtain ⟨v,q⟩:=I.cell y c (hcl y c (PySem.mem_of_lookup e))
    have:=q.lt
    rw [eD] at this
    exact this
  have loop:∀s₃:Shared,s₃={ s with heap:=h₁,toks:=s.toks+([]:List (Str×Value)).length }→
      codeAny (model X.prog X.w) X.A (.compLoop (.ListComp elt [⟨.Name x px,iter,[tst],0⟩] scope pos) 0 (.ref it) (.ref D) (compEnvC scope cl C X.env)) (RR (.ref D) C) s₃:=by
    rintro s₃ rfl
    refine Za0 (fun k s'=>∃(i:Nat) (ys:List V) (its:List Value) (H':Hp) (xo:Option V),Inv (X.comp scope N' cl C s H fp) [] (inner src σ xo) H' s'∧tn i s'.heap∧(∀b∈fp,H' b=none)∧s'.heap.PlainList D its.toArray∧Vals ys its∧H' D=none∧
      Pv i ys H'∧ys.length≤i∧i≤n∧k=n+1-i) ?_ (n+1) ⟨0,[],[],H,none,I1,T.keep _ _ _ t0 (fun b _ o e=>old b o e),fun b hb=>(hfp b hb).1,hacc,.nil,I.hok.fresh (by rw [eD]; exact Nat.le_refl _),p0,Nat.le_refl _,Nat.zero_le _,rfl⟩
    rintro k s' ⟨i,ys,its,H',xo,I3,t3,f3,l3,v3,d3,p3,e3,le3,rfl⟩
    by_cases hlt:i<n
    · obtain ⟨go,step⟩:=turn i ys H' hlt p3
      obtain ⟨nn,oD⟩:=id l3
      have I3p:Inv (X.comp scope N' cl C s H fp) [(D,{ cls:=.type "list",data:=.seq its.toArray nn })] (inner src σ xo) H' s':=
        I3.pins_of fun p hp=>by
          have ep:p=(D,{ cls:=.type "list",data:=.seq its.toArray nn }):=by simpa using hp
          subst ep
          exact ⟨oD,d3,hDC,nD,fun v z=>by cases z⟩
      refine thn (T.item (X.comp scope N' cl C s H fp) rfl rfl rfl hcm i _ s' _ H' _ I3p (stat (by simp) f3) t3 go) fun r s4 ⟨u,hr,h4⟩=>?_
      subst hr
      refine thn h4 fun _ s5 ⟨y,H5,I5,r5,y5,st5,fr5⟩=>?_
      have I5':=I5.pinned (stat (by simp) fr5) (T.obj _ _ st5)
      have hg:PG (X.comp scope N' cl C s H fp) (.Name x px) (ZaE 0):=
        zV S.nd (by show N'[0]?=some x; rw [S.names]; rfl) (.inl (lookup_relabel_local S.own)) (.inr (lookup_relabel_local S.own))
      refine wpAny_mono (hg _ s5 _ H5 y u (fun σ2 H2=>σ2=inner src σ (some y)∧H2=H5) I5' r5 ⟨rfl,rfl⟩) (fun _ s6 ⟨σ6,H6,I6,e6,e6'⟩=>?_) fun _ _ z=>False.elim z
      subst e6 e6'
      refine wpAny_mono (htst cl C s H fp _ s6 _ _ _ I6 (step y _ y5)) (fun b s65 ⟨H65,I65,q65⟩=>?_) fun _ _ z=>False.elim z
      have hys:its.toArray.size≤sizeLine:=by
        have:=v3.length
        rw [List.size_toArray]
        omega
      cases b with
      | true=>
        rw [if_pos rfl] at q65 ⊢
        refine wpAny_mono (helt cl C s H fp _ s65 _ _ _ I65 q65) (fun v s7 ⟨z,H7,I7,r7,q7⟩=>?_) fun _ _ z=>False.elim z
        have o7:=I7.pin (D,{ cls:=.type "list",data:=.seq its.toArray nn }) (by simp)
        refine wpAny_list_append_plain (hsz:=hys) (items:=its.toArray) (s:=s7) ⟨nn,o7.1⟩ fun h8 hl8 hs8=>?_
        refine ⟨n+1-(i+1),by omega,i+1,ys++[z],its++[v],H7,some y,?_,?_,?_,?_,v3.append (.cons r7 .nil),o7.2.1,q7,by rw [List.length_append]; exact Nat.succ_le_succ e3,hlt,rfl⟩
        · have I7':Inv (X.comp scope N' cl C s H fp) [] (inner src σ (some y)) H7 s7:=I7.pins_of fun p hp=>absurd hp (by simp)
          exact I7'.turned (t':=s7.toks) (it:=D) (fun b o hb e=>(hs8.2 b hb).trans e) o7.2.1 hDC (.inr (by show s.heap.objs.size≤D; rw [eD]; exact Nat.le_refl _)) (fun y c e=>Nat.ne_of_lt (cellD y c e)) fun p hp=>absurd (show p∈([]:List (Addr×Obj)) from hp) (by simp)
        · refine T.keep _ _ _ st5 fun b hb o e=>(hs8.2 b (below b (hfl b hb)).2).trans ?_
          exact (I7.pin (b,o) (List.mem_append_right _ (List.mem_append_right _ (ZH hb e)))).1
        · intro b hb
          obtain ⟨o,e,_⟩:=T.obj _ _ st5 b hb
          exact (I7.pin (b,o) (List.mem_append_right _ (List.mem_append_right _ (ZH hb e)))).2.1
        · have:(its++[v]).toArray=its.toArray.push v:=by simp
          rw [this]; exact hl8
      | false=>
        rw [if_neg (by decide)] at q65 ⊢
        have o7:=I65.pin (D,{ cls:=.type "list",data:=.seq its.toArray nn }) (by simp)
        refine ⟨n+1-(i+1),by omega,i+1,ys,its,H65,some y,I65.pins_of fun p hp=>absurd hp (by simp),?_,?_,⟨nn,o7.1⟩,v3,o7.2.1,q65,Nat.le_succ_of_le e3,hlt,rfl⟩
        · refine T.keep _ _ _ st5 fun b hb o e=>?_
          exact (I65.pin (b,o) (List.mem_append_right _ (List.mem_append_right _ (ZH hb e)))).1
        · intro b hb
          obtain ⟨o,e,_⟩:=T.obj _ _ st5 b hb
          exact (I65.pin (b,o) (List.mem_append_right _ (List.mem_append_right _ (ZH hb e)))).2.1
    · have ein:i=n:=by omega
      subst ein
      obtain ⟨nn,oD⟩:=id l3
      have I3p:Inv (X.comp scope N' cl C s H fp) [(D,{ cls:=.type "list",data:=.seq its.toArray nn })] (inner src σ xo) H' s':=
        I3.pins_of fun p hp=>by
          have ep:p=(D,{ cls:=.type "list",data:=.seq its.toArray nn }):=by simpa using hp
          subst ep
          exact ⟨oD,d3,hDC,nD,fun v z=>by cases z⟩
      refine thn (T.done (X.comp scope N' cl C s H fp) rfl rfl rfl hcm i _ s' _ H' _ I3p (stat (by simp) f3) t3 (stop ys H' p3)) fun r s4 ⟨hr,I4⟩=>?_
      subst hr
      have o4:=I4.pin (D,{ cls:=.type "list",data:=.seq its.toArray nn }) (by simp)
      have newI:Inv X pins σ (upd H' D (.lst ys)) s4:=I.call' (ch:=fp) I4.os (I4.base.lay d3 (fresh D (Nat.le_refl _))) (I4.hok.lay d3 ⟨by omega,its,nn,v3,o4.1⟩) I4.bare (fun b hb=>
        ⟨(hfp b hb).2.2.2.1,(hfp b hb).2.1,(hfp b hb).2.2.2.2.1,(hfp b hb).2.2.2.2.2⟩)
      obtain ⟨m,hm,_⟩:=I4.loc
      obtain ⟨o,es,ep,ho,hd,_⟩:=id hm
      refine hR D C o ys H' s4 p3 d3 (newI.pins_of fun p hp=>?_) ⟨m,hm⟩ (I.fpOk (by rw [eD]; exact hCle) (by rw [Zl (Ne.symm hDC)]; exact I4.free))
      rcases List.mem_append.mp hp with z | z
      · exact newI.pin p (List.mem_append_right _ z)
      · have ep:p=(C,o):=by simpa using z
        subst ep
        refine ⟨ho,by rw [Zl (Ne.symm hDC)]; exact I4.free,fun z=>?_,nC,fun v z=>?_⟩
        · have:=I.lt
          rw [eD,←z] at this
          exact absurd (Nat.lt_of_lt_of_le this hCle) (Nat.lt_irrefl _)
        · have z':o.data=.cell v:=z
          rw [hd] at z'; cases z'
  exact codeAny_compStart_list (loop _ rfl) (T.self _ 0 _ _ _ (T.keep _ _ _ t0 (fun b _ o e=>old b o e)) (loop _ rfl))
theorem Zhz {sc:Scope} {N:List Str} (S:Zs scope sc x N N' src) (hsc:X.env.scope=sc) (hN:X.N=N) (hi:PI X (.Name x px) iter wi)
    (helt:∀(cl:List (Str×Addr)) (C:Addr) (s₀:Shared) (H₀:Hp) (fp:List Addr),PE (X.comp scope N' cl C s₀ H₀ fp) elt te) (htst:∀(cl:List (Str×Addr)) (C:Addr) (s₀:Shared) (H₀:Hp) (fp:List Addr),PT (X.comp scope N' cl C s₀ H₀ fp) tst tc) (hcm:X.calm=true:=by rfl) (hs:∀v,foldedSetIterable iter X.env v=pure v:=by intro _; rfl) :
    PE X (.ListComp elt [⟨.Name x px,iter,[tst],0⟩] scope pos) (Zio wi src tc te):=by
  subst hsc hN
  intro pins s σ H Q I h
  obtain ⟨cl,hclos,hcl,hcl2⟩:=zy (scope:=scope) (env:=X.env) fun y hy hf=>I.ok.has y.1 (.inl (S.free y hy hf))
  rw [eval_ListComp]
  refine wpAny_comprehension_free (use:=none) rfl hs hclos S.kind S.loc ?_
  refine thn (hi pins s σ H _ I h) fun v s1 h1=>thn h1 fun itv s2 h2=>?_
  obtain ⟨it,fp,tn,J,H2,e,I2,T,st2,f2,n,Pv,hn,p0,turn,done⟩:=h2
  subst e
  refine ZgK I2 hcm S hcl hcl2 T st2 f2 helt htst hn p0 turn (fun ys H p=>(done ys H p).1) fun D C o ys H' s' p d J' hm ho=>?_
  obtain ⟨m,hm⟩:=hm
  refine ⟨m,hm,fun h' hs'=>?_⟩
  have J2:Inv X pins σ (upd H' D (.lst ys)) s':=J'.pins_of fun q hq=>J'.pin q (List.mem_append_right _ (List.mem_append_left _ hq))
  obtain ⟨f0,f1,f2,f3,f4,f5⟩:=ho
  exact ⟨.ref D,_,J2.turned (t':=s'.toks) (it:=C) (fun b o hb e=>(hs'.2 b hb).trans e) f0 f1 f3 f4 f5,rfl,(done ys H' p).2 D d⟩
end
end L2
namespace L2.MM
open PySem PySem.Spec PyProof.Rows PySem.W PySem.SeqAt
noncomputable section
open Classical in
def z9 (S:Src) (all:List D) (tst:D→Sto→R Bool) (elt:D→Sto→R D):List D→List D→Sto→R D
  | [],acc,θ=>if S.items θ=some all∧acc.length≤BIG then .ok (.lst acc) θ else .bad
  | x::r,acc,θ=>if S.items θ=some all then (tst x θ).bind fun b θ=>if b=true then (elt x θ).bind fun y θ=>z9 S all tst elt r (acc++[y]) θ else z9 S all tst elt r acc θ else .bad
def ZaM (fi:IM) (src:List Nat) (tst:TMr) (elt:EM):EM:=fun ρ θ=>(fi ρ θ).bind fun S θ=>match S.items θ with
  | some xs=>if xs.length≤BIG then z9 S xs (fun x θ=>tst (ZM src ρ x) θ) (fun x θ=>elt (ZM src ρ x) θ) xs [] θ else .bad
  | none=>.bad
section
variable {X:Cx}
open Classical in
theorem Zfi {fi:IM} {src:List Nat} {tst:TMr} {elt:EM} (σ:St) (H:Hp) (Q:VK) (h:tM X (ZaM fi src tst elt) σ H Q):Zio (tMI X fi) src (tMT X tst) (tM X elt) σ H Q:=by
  obtain ⟨B,θ,ρ,F,w⟩:=h
  refine ⟨B,θ,ρ,F,(wpR.bind (Rel:=SrcRep X.K) w).mono ?_⟩
  rintro J H1 ⟨B1,θ1,S,E1,G1,rJ,w1⟩
  split at w1
  · rename_i xs e1
    split at w1
    · rename_i hz
      refine ⟨xs.length,fun i ys H'=>∃B' θ' acc,ExtE B1 B' H1 H'∧Good X.cl B' θ' H'∧RepL B' H' acc ys∧wpR X σ RepV B' H' (z9 S xs (fun x θ=>tst (ZM src ρ x) θ) (fun x θ=>elt (ZM src ρ x) θ) (xs.drop i) acc θ') Q,Zy hz,?_,?_,?_⟩
      · exact ⟨B1,θ1,[],ExtE.refl _ _,G1,rfl,w1⟩
      · rintro i ys H' hi ⟨B2,θ2,acc,E2,G2,racc,w2⟩
        rw [List.drop_eq_getElem_cons hi] at w2
        unfold z9 at w2
        split at w2
        · rename_i e2
          obtain ⟨g1,g2⟩:=(Za4 G2 (rJ.ext E2.toExtS) e2).1 i xs[i] (List.getElem?_eq_getElem hi)
          refine ⟨g1,fun y H3 hy=>?_⟩
          obtain ⟨rfl,ry⟩:=g2 y H3 hy
          have F2:=(F.ext (E1.trans E2) G2).inner src ry
          refine ⟨B2,θ2,_,F2,(wpR.bind (Rel:=EqB) w2).mono ?_⟩
          rintro b H4 ⟨B4,θ4,d,E4,G4,rd,w4⟩
          cases (show d=b from rd)
          cases b with
          | true=>
            rw [if_pos rfl] at w4 ⊢
            have F4:=F2.ext E4 G4
            refine ⟨B4,θ4,_,F4,(wpR.bind (Rel:=RepV) w4).mono ?_⟩
            rintro z H5 ⟨B5,θ5,d5,E5,G5,rd5,w5⟩
            exact ⟨B5,θ5,acc++[d5],(E2.trans E4).trans E5,G5,(racc.ext (E4.trans E5).toExtS).app ⟨z,[],rfl,rd5,rfl⟩,w5⟩
          | false=>
            rw [if_neg (by decide)] at w4 ⊢
            exact ⟨B4,θ4,acc,E2.trans E4,G4,racc.ext E4.toExtS,w4⟩
        · exact w2.elim
      · rintro ys H' ⟨B2,θ2,acc,E2,G2,racc,w2⟩
        rw [List.drop_length] at w2
        unfold z9 at w2
        split at w2
        · rename_i e2
          exact ⟨(Za4 G2 (rJ.ext E2.toExtS) e2.1).2,zT G2 racc w2⟩
        · exact w2.elim
    · exact w1.elim
  · exact w1.elim
theorem ZhK {x:Str} {px pos:Pos} {iter elt tst:Expr} {scope:Scope} {N':List Str} {src:List Nat} {sc:Scope} {N:List Str} {fi:IM} {ft:TMr} {fe:EM} (S:Zs scope sc x N N' src) (hsc:X.env.scope=sc) (hN:X.N=N) (hi:MI X (.Name x px) iter fi)
    (helt:∀(cl:List (Str×Addr)) (C:Addr) (s₀:Shared) (H₀:Hp) (fp:List Addr),MT (X.comp scope N' cl C s₀ H₀ fp) tst ft∧ME (X.comp scope N' cl C s₀ H₀ fp) elt fe) (hcm:X.calm=true:=by rfl) (hs:∀v,foldedSetIterable iter X.env v=pure v:=by intro _; rfl) :
    ME X (.ListComp elt [⟨.Name x px,iter,[tst],0⟩] scope pos) (ZaM fi src ft fe):=
  PE.imp (Zhz (te:=tM X fe) (tc:=tMT X ft) S hsc hN hi (fun cl C s₀ H₀ fp=>(helt cl C s₀ H₀ fp).2) (fun cl C s₀ H₀ fp=>(helt cl C s₀ H₀ fp).1) hcm hs) Zfi
end
end
end L2.MM
namespace L2.MM
open PySem PySem.Spec PyProof.Rows PySem.W PySem.SeqAt
noncomputable section
section
variable {X:Cx}
theorem Zch:∀{ts:List Str} {us:List Value},Vals (ts.map V.str) us→∃l:List (Str×Tok),strValues l=us∧l.map (·.1)=ts
  | [],us,h=>by
    cases h
    exact ⟨[],rfl,rfl⟩
  | t::ts,us,h=>by
    cases h with
    | cons h1 h2=>
      obtain ⟨l,e1,e2⟩:=Zch h2
      obtain ⟨k,rfl⟩:=h1
      exact ⟨(t,k)::l,by rw [←e1]; rfl,by rw [←e2]; rfl⟩
theorem Zck:∀(l:List (Str×Tok)),Vals ((l.map (·.1)).map V.str) (strValues l)
  | []=>.nil
  | (t,k)::l=>.cons ⟨k,rfl⟩ (Zck l)
def Zg3:V→List V→Hp→VK→Prop:=fun x vs H Q=>∃sep b ts,x=.str sep∧vs=[.ref b]∧H b=some (.lst (ts.map V.str))∧JoinOk sep ts=true∧Q (.str (Txt.join sep ts)) H
theorem Zby:MtR X "str.join" Zg3:=by
  intro pins s σ H x vs v us Q I rx rv h
  obtain ⟨sep,b,ts,rfl,rfl,hb,hok,q⟩:=h
  obtain ⟨t,rfl⟩:=rx
  obtain ⟨u,rfl,ru⟩:=rv.one
  cases ru
  obtain ⟨z,its,n,r,hl,e⟩:=I.lstM hb
  obtain ⟨l,e1,e2⟩:=Zch r
  subst e1
  refine SC.join (l:=l) (texts:=ts) ⟨_,e,rfl,n,rfl⟩ e2 hok fun t' k=>?_
  exact ⟨.str (Txt.join sep ts),H,I.kept (t':=k) fun _ _ q=>q,⟨t',rfl⟩,q⟩
def Zcm:List D→Option (List Str)
  | []=>some []
  | .str x::r=>(Zcm r).map (x::·)
  | _::_=>none
theorem Zcl {B:Bx} {H:Hp}:∀{ds:List D} {vs:List V} {ts:List Str},RepL B H ds vs→Zcm ds=some ts→vs=ts.map V.str
  | [],vs,ts,r,h=>by
    cases h
    cases (show vs=[] from r)
    rfl
  | d::ds,vs,ts,r,h=>by
    obtain ⟨v,q,rfl,hv,hq⟩:=r
    cases d with
    | str x=>
      simp only [Zcm,Option.map_eq_some_iff] at h
      obtain ⟨r',h1,rfl⟩:=h
      cases (show v=V.str x from hv)
      rw [Zcl hq h1]
      rfl
    | _=>cases h
def zE (fo fe:EM):EM:=fun ρ θ=>(fo ρ θ).bind fun d θ=>match d with
  | .str sep=>(fe ρ θ).bind fun y θ=>match (ZO θ y).bind Zcm with
    | some ts=>if JoinOk sep ts=true then .ok (.str (Txt.join sep ts)) θ else .bad
    | none=>.bad
  | _=>.bad
theorem ZbA {o e:Expr} {fo fe:EM} {apos pos:Pos} (hpe:PE X (.Call (.Attribute o "join" apos) [e] [] pos) (tBM X.K "str" Zg3 (tM X fo) (Zdf (tM X fe) Zff))):ME X (.Call (.Attribute o "join" apos) [e] [] pos) (zE fo fe):=by
  refine PE.imp hpe fun σ H Q h=>?_
  obtain ⟨B,θ,ρ,F,w⟩:=h
  refine ZB (step F w) ?_
  rintro v H1 ⟨B1,θ1,d,E1,F1,rd,w1⟩
  split at w1
  · rename_i sep
    cases (show v=V.str sep from rd)
    refine ⟨rfl,?_⟩
    refine ZB (step F1 w1) ?_
    rintro y H2 ⟨B2,θ2,dy,E2,F2,ry,w2⟩
    split at w2
    · rename_i ts et
      obtain ⟨ds,h1,h2⟩:=Option.bind_eq_some_iff.mp et
      obtain ⟨a,vs,rfl,h3,h4⟩:=ZR F2.good ry h1
      split at w2
      · rename_i hok
        refine ⟨sep,a,ts,rfl,rfl,?_,hok,Zr (Rel:=RepV) F2.good (show RepV B2 H2 (.str _) (.str _) from rfl) w2⟩
        rw [h3,Zcl h4 h2]
      · exact w2.elim
    · exact w2.elim
  · exact w1.elim
theorem ZeF {A:Around} {E:Value→Shared→Prop} {P:Program} {w:World} {s:Shared} {x y:Str} {t u:Tok} {Q:Value→Shared→Prop} (ne:(y.length == 0)=false) (z1:x.length≤sizeLine) (z2:(Builtin.Str.partsBetween x (Builtin.Str.occurrences x y 0 x.length (x.length+1)) y.length).length≤sizeLine)
    (k:∀(l:List (Str×Tok)) (tk:Nat),l.map (·.1)=Txt.split x y→Q (.ref s.heap.objs.size) { s with toks:=tk,heap:=s.heap.push { cls:=.type "list",data:=.seq (strValues l).toArray } }) :
    wpAny (model P w) A (call (.builtin "str.split") [.str x t,.str y u]) Q E s:=by
  have one:Txt.split x y=[x]→Q (.ref s.heap.objs.size) { s with toks:=s.toks,heap:=s.heap.push { cls:=.type "list",data:=.seq (strValues [(x,t)]).toArray } }:=fun e=>k [(x,t)] s.toks e.symm
  by_cases c:(decide (x.length<y.length) || decide (Builtin.Str.strKind x<Builtin.Str.strKind y))=true
  · exact call_meets F.slot_str_split (typeIs_str _ _ _) F.entry_str_split (F.args_str_split_2 _ _) (meets_str_split_cannot_occur x y t u c) (one (by unfold Txt.split; rw [if_pos c]))
  · have c':=eq_false_of_ne_true c
    by_cases d:(Builtin.Str.occurrences x y 0 x.length (x.length+1)).isEmpty=true
    · exact call_meets F.slot_str_split (typeIs_str _ _ _) F.entry_str_split (F.args_str_split_2 _ _) (meets_str_split_not_found x y t u c' ne d) (one (by unfold Txt.split; rw [if_neg c,if_pos d]))
    · have d':=eq_false_of_ne_true d
      have e:Txt.split x y=Builtin.Str.partsBetween x (Builtin.Str.occurrences x y 0 x.length (x.length+1)) y.length:=by unfold Txt.split; rw [if_neg c,if_neg d]
      have k':=k (numbered s.toks (Builtin.Str.partsBetween x (Builtin.Str.occurrences x y 0 x.length (x.length+1)) y.length)) (s.toks+(Builtin.Str.partsBetween x (Builtin.Str.occurrences x y 0 x.length (x.length+1)) y.length).length) (by rw [e]; exact numbered_texts _ _)
      rw [←strsFrom_eq] at k'
      exact call_meets F.slot_str_split (typeIs_str _ _ _) F.entry_str_split (F.args_str_split_2 _ _) (meets_str_split_sep x y t u c' ne d' z1 z2) k'
def Zfn:V→List V→Hp→VK→Prop:=fun x vs H Q=>∃a b,x=.str a∧vs=[.str b]∧(b.length == 0)=false∧a.length≤sizeLine∧(Builtin.Str.partsBetween a (Builtin.Str.occurrences a b 0 a.length (a.length+1)) b.length).length≤sizeLine∧(Txt.split a b).length≤sizeLine∧∀p,H p=none→Q (.ref p) (upd H p (.lst ((Txt.split a b).map V.str)))
theorem ZfJ:MtR X "str.split" Zfn:=by
  intro pins s σ H x vs v us Q I rx rv h
  obtain ⟨a,b,rfl,rfl,ne,z1,z2,z3,q⟩:=h
  obtain ⟨t,rfl⟩:=rx
  obtain ⟨u,rfl,ru⟩:=rv.one
  obtain ⟨t',rfl⟩:=ru
  refine ZeF ne z1 z2 fun l tk e=>?_
  have r:=Zck l
  rw [e] at r
  exact ⟨.ref s.heap.objs.size,_,I.lnew (t':=tk) r (by rw [List.length_map]; exact z3),rfl,q _ I.fresh⟩
def ZcP (fo fe:EM):EM:=fun ρ θ=>(fo ρ θ).bind fun d θ=>match d with
  | .str a=>(fe ρ θ).bind fun y θ=>match y with
    | .str b=>if (b.length == 0)=false∧a.length≤BIG∧(Builtin.Str.partsBetween a (Builtin.Str.occurrences a b 0 a.length (a.length+1)) b.length).length≤BIG∧(Txt.split a b).length≤BIG then .ok (.lst ((Txt.split a b).map D.str)) θ else .bad
    | _=>.bad
  | _=>.bad
theorem Zco {B:Bx} {H:Hp}:∀ts:List Str,RepL B H (ts.map D.str) (ts.map V.str)
  | []=>rfl
  | t::ts=>⟨.str t,ts.map V.str,rfl,rfl,Zco ts⟩
theorem ZfM {o e:Expr} {fo fe:EM} {apos pos:Pos} (hpe:PE X (.Call (.Attribute o "split" apos) [e] [] pos) (tBM X.K "str" Zfn (tM X fo) (Zdf (tM X fe) Zff))):ME X (.Call (.Attribute o "split" apos) [e] [] pos) (ZcP fo fe):=by
  refine PE.imp hpe fun σ H Q h=>?_
  obtain ⟨B,θ,ρ,F,w⟩:=h
  refine ZB (step F w) ?_
  rintro v H1 ⟨B1,θ1,d,E1,F1,rd,w1⟩
  split at w1
  · rename_i a
    cases (show v=V.str a from rd)
    refine ⟨rfl,?_⟩
    refine ZB (step F1 w1) ?_
    rintro y H2 ⟨B2,θ2,dy,E2,F2,ry,w2⟩
    split at w2
    · rename_i b
      cases (show y=V.str b from ry)
      split at w2
      · rename_i hc
        obtain ⟨c1,c2,c3,c4⟩:=hc
        exact ⟨a,b,rfl,rfl,c1,Zy c2,Zy c3,Zy c4,zT F2.good (Zco _) w2⟩
      · exact w2.elim
    · exact w2.elim
  · exact w1.elim
def Zfo:V→List V→Hp→VK→Prop:=fun x vs H Q=>∃a b i r,x=.str a∧vs=[.str b]∧Builtin.Str.occurrences a b 0 a.length 1=i::r∧Q (.int (i:Nat)) H
theorem Zdm:MtR X "str.index" Zfo:=by
  intro pins s σ H x vs v us Q I rx rv h
  obtain ⟨a,b,i,r,rfl,rfl,e,q⟩:=h
  obtain ⟨t,rfl⟩:=rx
  obtain ⟨u,rfl,ru⟩:=rv.one
  obtain ⟨t',rfl⟩:=ru
  exact SC.index e ⟨.int (i:Nat),H,I.kept (t':=s.toks+1) fun _ _ q=>q,⟨_,rfl⟩,q⟩
def z5 (fo fe:EM):EM:=fun ρ θ=>(fo ρ θ).bind fun d θ=>match d with
  | .str a=>(fe ρ θ).bind fun y θ=>match y with
    | .str b=>match Builtin.Str.occurrences a b 0 a.length 1 with
      | i::_=>.ok (.int (i:Nat)) θ
      | []=>.bad
    | _=>.bad
  | _=>.bad
theorem Zcr {o e:Expr} {fo fe:EM} {apos pos:Pos} (hpe:PE X (.Call (.Attribute o "index" apos) [e] [] pos) (tBM X.K "str" Zfo (tM X fo) (Zdf (tM X fe) Zff))):ME X (.Call (.Attribute o "index" apos) [e] [] pos) (z5 fo fe):=by
  refine PE.imp hpe fun σ H Q h=>?_
  obtain ⟨B,θ,ρ,F,w⟩:=h
  refine ZB (step F w) ?_
  rintro v H1 ⟨B1,θ1,d,E1,F1,rd,w1⟩
  split at w1
  · rename_i a
    cases (show v=V.str a from rd)
    refine ⟨rfl,?_⟩
    refine ZB (step F1 w1) ?_
    rintro y H2 ⟨B2,θ2,dy,E2,F2,ry,w2⟩
    split at w2
    · rename_i b
      cases (show y=V.str b from ry)
      split at w2
      · rename_i i r e
        exact ⟨a,b,i,r,rfl,rfl,e,Zr (Rel:=RepV) F2.good (show RepV B2 H2 (.int _) (.int _) from rfl) w2⟩
      · exact w2.elim
    · exact w2.elim
  · exact w1.elim
def ZfW:OM:=fun x y θ=>match x,y with
  | .str i,.str j=>.ok (.bl (!(Builtin.Str.occurrences j i 0 j.length 1).isEmpty)) θ
  | _,_=>.bad
theorem ZiK:OpR X (compareOp .In) (rM X ZfW):=by
  refine OpR.imp ZeM fun x y H Q q=>?_
  obtain ⟨σ,B,θ,d,e,G,rd,re,w⟩:=q
  unfold ZfW at w
  split at w
  · rename_i i j
    cases (show x=V.str i from rd)
    cases (show y=V.str j from re)
    exact ⟨i,j,rfl,rfl,Zr (Rel:=RepV) G (show RepV B H (.bl _) (.bl _) from rfl) w⟩
  · exact w.elim
end
end
end L2.MM
namespace L2.MM
open PySem PySem.Spec PyProof.Rows PySem.W PySem.SeqAt
noncomputable section
section
variable {X:Cx}
def Zdt:GM:=fun ds θ=>match ds with
  | [.str x]=>match PySem.intText? x with
    | some n=>if x.length≤640 then .ok (.int n) θ else .bad
    | none=>.bad
  | _=>.bad
theorem Ze3:CallR X (.type "int") (fun xs H Q=>∃x n,xs=[.str x]∧PySem.intText? x=some n∧x.length≤640∧Q (.int n) H):=by
  intro pins s σ H xs us Q I r h
  obtain ⟨x,n,rfl,e,hl,q⟩:=h
  obtain ⟨u,rfl,ru⟩:=Zcj r
  obtain ⟨t,rfl⟩:=ru
  exact KIN.call_text e hl ⟨.int n,H,I.kept (t':=s.toks+1) fun _ _ q=>q,⟨_,rfl⟩,q⟩
theorem ZhZ:CallR X (.type "int") (rC X Zdt):=by
  refine CallR.imp Ze3 fun vs H Q q=>?_
  obtain ⟨σ,B,θ,ds,G,r,w⟩:=q
  unfold Zdt at w
  split at w
  · rename_i x
    split at w
    · rename_i n e
      split at w
      · rename_i hl
        obtain ⟨v,rfl,rv⟩:=r.one
        cases (show v=V.str x from rv)
        exact ⟨x,n,rfl,e,hl,Zr G (show RepV B H (.int _) (.int _) from rfl) w⟩
      · exact w.elim
    · exact w.elim
  · exact w.elim
def Its (x:Str):It:=⟨fun i _=>i<x.cps.size,fun i H y H'=>H'=H∧∃c,x.cps[i]?=some c∧y=.str ⟨#[c]⟩,fun i _=>x.cps.size≤i⟩
theorem ZeA {P:Program} {w:World} {K:PySem.W.Frag} {tg:Expr} (x:Str) (t:Tok) (it:Addr):Zcf P w K tg (Its x) [it] it (fun i h=>h.IsStrIter it "str_ascii_iterator" x t i):=by
  refine ⟨by simp,fun i h st b hb=>?_,fun i h h' st k=>?_,?_,?_,?_⟩
  · have e:b=it:=by simpa using hb
    rw [e]
    obtain ⟨o,y,c,d⟩:=st
    exact ⟨o,y,fun v z=>by rw [d] at z; cases z⟩
  · obtain ⟨o,y,c⟩:=st
    exact ⟨o,k it (by simp) o y,c⟩
  · intro Y hP hw hK hc i pins s σ H E I hf st hg
    subst hP hw hK
    have hg':i<x.cps.size:=hg
    obtain ⟨f0,f1,f2,f3,f4,f5⟩:=hf it (by simp)
    obtain ⟨c,ec⟩:∃c,x.cps[i]?=some c:=⟨x.cps[i],Array.getElem?_eq_getElem hg'⟩
    refine wpAny_pyNext_ascii_item st ec fun h' st' sb=>?_
    have I1:Inv Y pins σ H { s with heap:=h',toks:=s.toks+1 }:=I.turned (t':=s.toks+1) (fun b o hb e=>(sb.2 b hb).trans e) f0 f1 f3 f4 f5
    obtain ⟨o,y1,y2,y3⟩:=id st'
    exact ⟨_,rfl,Zdu (s:={ s with heap:=h',toks:=s.toks+1 }) y1 y2 y3 (by decide) ⟨.str ⟨#[c]⟩,H,I1,⟨_,rfl⟩,⟨rfl,c,ec,rfl⟩,st',fun b hb=>(hf b hb).1⟩⟩
  · intro Y hP hw hK hc i pins s σ H E I hf st hg
    subst hP hw hK
    have hg':x.cps.size≤i:=hg
    obtain ⟨f0,f1,f2,f3,f4,f5⟩:=hf it (by simp)
    exact wpAny_pyNext_ascii_end (I.ok.hd hc) st (by simp [hg']) fun h' eb=>⟨rfl,I.turned (t':=s.toks) (fun b o hb e=>eb b o hb e) f0 f1 f3 f4 f5⟩
  · intro A i s Q E st h
    exact wpAny_pyIter_slot st.typeIs F.slot_str_ascii_iterator_iter (wpAny_call_entry F.slot_str_ascii_iterator_iter st.typeIs F.entry_str_ascii_iterator_iter (wpAny_pure ⟨_,rfl,"str_ascii_iterator",_,st.typeIs,F.slot_str_ascii_iterator_next.lookup,h⟩) (F.args_str_ascii_iterator_iter_1 _))
def ZaF (elt:D→Sto→R D):List D→List D→Sto→R D
  | [],acc,θ=>if acc.length≤BIG then .ok (.lst acc) θ else .bad
  | x::r,acc,θ=>(elt x θ).bind fun y θ=>ZaF elt r (acc++[y]) θ
structure ItV (J:It) (xs:List D):Prop where
  go:∀i H,i<xs.length→J.go i H
  yld:∀i H y H' d,xs[i]?=some d→J.yld i H y H'→H'=H∧∀B,RepV B H d y
  stop:∀H,J.stop xs.length H
theorem Zg5 {J:It} {xs:List D} {src:List Nat} {elt:EM} {σ:St} {H H1:Hp} {B B1:Bx} {θ θ1:Sto} {ρ:List Sl} {Q:VK} (V:ItV J xs) (hz:xs.length≤BIG) (F:Frm X.cl B θ ρ σ H) (E1:ExtE B B1 H H1) (G1:Good X.cl B1 θ1 H1)
    (w:wpR X σ RepV B1 H1 (ZaF (fun x θ=>elt (ZM src ρ x) θ) xs [] θ1) Q):lcR J src σ (tM X elt) H1 Q:=by
  refine ⟨xs.length,fun i ys H'=>∃B' θ' acc,ExtE B1 B' H1 H'∧Good X.cl B' θ' H'∧RepL B' H' acc ys∧wpR X σ RepV B' H' (ZaF (fun x θ=>elt (ZM src ρ x) θ) (xs.drop i) acc θ') Q,Zy hz,⟨B1,θ1,[],ExtE.refl _ _,G1,rfl,w⟩,?_,?_⟩
  · rintro i ys H' hi ⟨B2,θ2,acc,E2,G2,racc,w2⟩
    rw [List.drop_eq_getElem_cons hi] at w2
    unfold ZaF at w2
    refine ⟨V.go i H' hi,fun y H3 hy=>?_⟩
    obtain ⟨rfl,ry⟩:=V.yld i H' y H3 xs[i] (List.getElem?_eq_getElem hi) hy
    have F2:=(F.ext (E1.trans E2) G2).inner src (ry B2)
    refine ⟨B2,θ2,_,F2,(wpR.bind (Rel:=RepV) w2).mono ?_⟩
    rintro z H4 ⟨B4,θ4,d,E4,G4,rd,w4⟩
    exact ⟨B4,θ4,acc++[d],E2.trans E4,G4,(racc.ext E4.toExtS).app ⟨z,[],rfl,rd,rfl⟩,w4⟩
  · rintro ys H' ⟨B2,θ2,acc,E2,G2,racc,w2⟩
    rw [List.drop_length] at w2
    unfold ZaF at w2
    split at w2
    · exact ⟨V.stop H',zT G2 racc w2⟩
    · exact w2.elim
def Zab (x:Str):List D:=x.cps.toList.map fun c=>D.str ⟨#[c]⟩
theorem ZfV (x:Str):ItV (Its x) (Zab x):=by
  have l:(Zab x).length=x.cps.size:=by simp [Zab]
  refine ⟨fun i H h=>?_,fun i H y H' d hd hy=>?_,fun H=>?_⟩
  · show i<x.cps.size
    rw [←l]; exact h
  · obtain ⟨e,c,hc,rfl⟩:=hy
    refine ⟨e,fun B=>?_⟩
    simp only [Zab,List.getElem?_map,Array.getElem?_toList,hc,Option.map_some,Option.some.injEq] at hd
    subst hd
    rfl
  · show x.cps.size≤(Zab x).length
    rw [l]
    exact Nat.le_refl _
def Zg8 (tl:TE):TI:=fun σ H R=>tl σ H fun x H1=>∃a,x=.str a∧(a.cps.all (· < 128))=true∧R (Its a) H1
theorem Zgx {tg l:Expr} {tl:TE} (hl:PE X l tl):PI X tg l (Zg8 tl):=by
  intro pins s σ H R I h
  refine thn (hl pins s σ H _ I h) fun v s1 ⟨x,H1,I1,r1,a,e,ha,q⟩=>?_
  subst e
  obtain ⟨t,rfl⟩:=r1
  refine wpAny_pyIter_ascii ha ⟨s1.heap.objs.size,[s1.heap.objs.size],_,_,H1,rfl,I1.kept (t':=s1.toks) fun b o e=>Heap.get?_push_of_some _ e,ZeA a t _,⟨_,Heap.get?_push_size _ rfl,rfl,rfl⟩,fun b hb=>?_,q⟩
  have e:b=s1.heap.objs.size:=by simpa using hb
  subst e
  exact I1.fpOk (Nat.le_refl _) (I1.hok.fresh (Nat.le_refl _))
def ZbW (fo:EM) (src:List Nat) (elt:EM):EM:=fun ρ θ=>(fo ρ θ).bind fun d θ=>match d with
  | .str x=>if (x.cps.all (· < 128))=true∧(Zab x).length≤BIG then ZaF (fun y θ=>elt (ZM src ρ y) θ) (Zab x) [] θ else .bad
  | _=>.bad
theorem Zfg {fo:EM} {src:List Nat} {elt:EM} (σ:St) (H:Hp) (Q:VK) (h:tM X (ZbW fo src elt) σ H Q):tLc (Zg8 (tM X fo)) src (tM X elt) σ H Q:=by
  obtain ⟨B,θ,ρ,F,w⟩:=h
  refine ZB (step F w) ?_
  rintro v H1 ⟨B1,θ1,d,E1,F1,rd,w1⟩
  split at w1
  · rename_i x
    cases (show v=V.str x from rd)
    split at w1
    · rename_i c
      exact ⟨x,rfl,c.1,Zg5 (ZfV x) c.2 F E1 F1.good w1⟩
    · exact w1.elim
  · exact w1.elim
theorem ZhJ {x:Str} {px pos:Pos} {iter elt:Expr} {scope:Scope} {N':List Str} {src:List Nat} {sc:Scope} {N:List Str} {fo fe:EM} (S:Zs scope sc x N N' src) (hsc:X.env.scope=sc) (hN:X.N=N) (hi:ME X iter fo)
    (helt:∀(cl:List (Str×Addr)) (C:Addr) (s₀:Shared) (H₀:Hp) (fp:List Addr),ME (X.comp scope N' cl C s₀ H₀ fp) elt fe) (hcm:X.calm=true:=by rfl) (hs:∀v,foldedSetIterable iter X.env v=pure v:=by intro _; rfl) :
    ME X (.ListComp elt [⟨.Name x px,iter,[],0⟩] scope pos) (ZbW fo src fe):=
  PE.imp (Zfy (te:=tM X fe) S hsc hN (Zgx hi) (fun cl C s₀ H₀ fp=>helt cl C s₀ H₀ fp) hcm hs) Zfg
end
end
end L2.MM
namespace L2.MM
open PySem PySem.Spec PyProof.Rows PySem.W PySem.SeqAt
noncomputable section
section
variable {X:Cx}
def It2 (n:Nat):It:=⟨fun i _=>i<n,fun i H x H'=>H'=H∧x=.int (2*(i:Int)),fun i _=>n≤i⟩
theorem Zfe {P:Program} {w:World} {K:PySem.W.Frag} {tg:Expr} (it:Addr) (n:Nat):Zcf P w K tg (It2 n) [it] it (fun i h=>IsRangeIter h it (0+(i:Nat)*2) ((n:Int)-(i:Nat)) 2):=by
  refine ⟨by simp,fun i h st b hb=>?_,fun i h h' st k=>k it (by simp) _ st,?_,?_,?_⟩
  · have e:b=it:=by simpa using hb
    rw [e]
    refine ⟨_,st,fun v z=>?_⟩
    have z':Data.fields _=Data.cell v:=z
    cases z'
  · intro Y hP hw hK hc i pins s σ H E I hf st hg
    subst hP hw hK
    obtain ⟨f0,f1,f2,f3,f4,f5⟩:=hf it (by simp)
    have W:=Walks.range (prog:=Y.prog) (w:=Y.w) (I.ok.hd hc) it 0 2 n
    refine W.item i s _ _ hg st fun v h' tk hv st' kk=>?_
    obtain ⟨t,rfl⟩:=hv
    have I1:Inv Y pins σ H { s with heap:=h',toks:=tk }:=I.turned (fun b o hb e=>kk b o (by simpa using hb) e) f0 f1 f3 f4 f5
    refine ⟨_,rfl,Zdu (s:={ s with heap:=h',toks:=tk }) (n:="range_iterator") st' rfl rfl (by decide) ⟨.int (2*(i:Int)),H,I1,⟨t,?_⟩,⟨rfl,rfl⟩,st',fun b hb=>(hf b hb).1⟩⟩
    rw [Int.zero_add,Int.mul_comm]
  · intro Y hP hw hK hc i pins s σ H E I hf st hg
    subst hP hw hK
    obtain ⟨f0,f1,f2,f3,f4,f5⟩:=hf it (by simp)
    exact wpAny_pyNext_range_end (I.ok.hd hc) st (by have:n≤i:=hg; omega) fun h' eb=>⟨rfl,I.turned (t':=s.toks) (fun b o hb e=>eb b o hb e) f0 f1 f3 f4 f5⟩
  · exact fun _ _ _ _ _ st h=>wpAny_pyIter_rangeiter st h
def ZiU (ta:TA):TI:=fun σ H R=>ta σ H fun vs H1=>∃j:Nat,vs=[.int 0,.int (j:Int),.int 2]∧j≤1000∧R (It2 ((j+1)/2)) H1
theorem two_it {tg:Expr} {pins:List (Addr×Obj)} {σ:St} {H:Hp} {s:Shared} {R:It→Hp→Prop} {E:Value→Shared→Prop} {j:Nat} {t u v:Tok} (I:Inv X pins σ H s) (hj:j≤1000) (q:R (It2 ((j+1)/2)) H) :
    wpAny (model X.prog X.w) X.A (pyIter (.ref s.heap.objs.size)) (PIE X pins σ tg R) E { s with heap:=s.heap.push { cls:=.type "range",data:=.fields #[.int 0 t,.int (j:Int) u,.int 2 v] },toks:=s.toks }:=by
  refine wpAny_pyIter_range (IsRange.new ..) (by unfold Builtin.Range.small Builtin.Range.rangeSize; simp [Builtin.Range.rangeFitsLong]; split<;>omega) ?_
  have I1:Inv X pins σ H { s with heap:=s.heap.push { cls:=.type "range",data:=.fields #[.int 0 t,.int (j:Int) u,.int 2 v] },toks:=s.toks }:=I.kept fun b o e=>Heap.get?_push_of_some _ e
  refine ⟨(s.heap.push { cls:=.type "range",data:=.fields #[.int 0 t,.int (j:Int) u,.int 2 v] }).objs.size,[(s.heap.push { cls:=.type "range",data:=.fields #[.int 0 t,.int (j:Int) u,.int 2 v] }).objs.size],_,_,H,rfl,
    I1.kept (t':=s.toks) fun b o e=>Heap.get?_push_of_some _ e,Zfe _ ((j+1)/2),?_,fun b hb=>?_,q⟩
  · have e2:((((j+1)/2:Nat):Int))-((0:Nat):Int)=Builtin.Range.rangeSize 0 (j:Int) 2:=by
      unfold Builtin.Range.rangeSize
      simp only [show (2:Int) > 0 by decide,if_true]
      split<;>omega
    show IsRangeIter _ _ (0+((0:Nat):Int)*2) ((((j+1)/2:Nat):Int)-((0:Nat):Int)) 2
    rw [e2]
    exact Heap.get?_push_size _ rfl
  · have e:b=(s.heap.push { cls:=.type "range",data:=.fields #[.int 0 t,.int (j:Int) u,.int 2 v] }).objs.size:=by simpa using hb
    subst e
    exact I1.fpOk (Nat.le_refl _) (I1.hok.fresh (Nat.le_refl _))
theorem Zht {tg a b c:Expr} {ta:TA} {p pos:Pos} (hg:Gl X "range") (hm:X.mg "range"=none) (ha:PA X [a,b,c] ta) (hs:starEach [a,b,c] X.env=(false,eval a X.env)::starEach [b,c] X.env:=by rfl) (hs2:(backTo pos (starEach [b,c] X.env)).any (·.1)=false:=by rfl) :
    PI X tg (.Call (.Name "range" p) [a,b,c] [] pos) (ZiU ta):=by
  intro pins s σ H R I h
  refine Call_ (ZbZ I hg hm boot_range (PyProof.Rows.callWith_type1 (thn (ha pos pins s σ H _ I h) fun us s1 ⟨vs,H1,I1,r1,q1⟩=>?_) hs hs2))
  obtain ⟨j,e,hj,q⟩:=q1
  subst e
  cases r1 with
  | cons r rr=>
    cases rr with
    | cons r' rr=>
      cases rr with
      | cons r'' rr=>
        cases rr
        obtain ⟨t,rfl⟩:=r
        obtain ⟨t',rfl⟩:=r'
        obtain ⟨t'',rfl⟩:=r''
        exact call_range_3 (by decide) (two_it I1 hj q) (.inl (PyProof.noPylong_small (by omega)))
def twos (n:Nat):List D:=(List.range n).map fun (i:Nat)=>D.int (2*(i:Int))
theorem ZgN (n:Nat):ItV (It2 n) (twos n):=by
  have l:(twos n).length=n:=by simp [twos]
  refine ⟨fun i H h=>by rw [l] at h; exact h,fun i H y H' d hd hy=>?_,fun H=>by show n≤(twos n).length; rw [l]; exact Nat.le_refl _⟩
  obtain ⟨e,rfl⟩:=hy
  refine ⟨e,fun B=>?_⟩
  have hi:i<n:=by
    have:=(List.getElem?_eq_some_iff.mp hd).1
    rw [l] at this
    exact this
  simp only [twos,List.getElem?_map,List.getElem?_range hi,Option.map_some,Option.some.injEq] at hd
  subst hd
  rfl
def ZbX (fs:AM) (src:List Nat) (elt:EM):EM:=fun ρ θ=>(fs ρ θ).bind fun ds θ=>match ds with
  | [.int a,.int j,.int c]=>if a=0∧c=2∧0≤j∧j≤1000 then ZaF (fun y θ=>elt (ZM src ρ y) θ) (twos ((j.toNat+1)/2)) [] θ else .bad
  | _=>.bad
theorem Zfj {fs:AM} {src:List Nat} {elt:EM} (σ:St) (H:Hp) (Q:VK) (h:tM X (ZbX fs src elt) σ H Q):tLc (ZiU (tMA X fs)) src (tM X elt) σ H Q:=by
  obtain ⟨B,θ,ρ,F,w⟩:=h
  refine zn (ZbH F w) ?_
  rintro vs H1 ⟨B1,θ1,ds,E1,F1,rds,w1⟩
  split at w1
  · rename_i a j c
    obtain ⟨v1,q1,rfl,r1,q1'⟩:=rds
    obtain ⟨v2,q2,rfl,r2,q2'⟩:=q1'
    obtain ⟨v3,q3,rfl,r3,q3'⟩:=q2'
    cases (show q3=[] from q3')
    cases (show v1=V.int a from r1)
    cases (show v2=V.int j from r2)
    cases (show v3=V.int c from r3)
    split at w1
    · rename_i hc
      obtain ⟨rfl,rfl,h0,h1⟩:=hc
      have ej:((j.toNat:Nat):Int)=j:=by omega
      refine ⟨j.toNat,by rw [ej],by omega,Zg5 (ZgN _) ?_ F E1 F1.good w1⟩
      simp only [twos,List.length_map,List.length_range,BIG]
      omega
    · exact w1.elim
  · exact w1.elim
theorem ZhL {x:Str} {px pos p rpos:Pos} {a b c elt:Expr} {scope:Scope} {N':List Str} {src:List Nat} {sc:Scope} {N:List Str} {fs:AM} {fe:EM} (S:Zs scope sc x N N' src) (hsc:X.env.scope=sc) (hN:X.N=N) (hm:X.mg "range"=none) (ha:MA X [a,b,c] fs)
    (helt:∀(cl:List (Str×Addr)) (C:Addr) (s₀:Shared) (H₀:Hp) (fp:List Addr),ME (X.comp scope N' cl C s₀ H₀ fp) elt fe) (hg:Gl X "range":=by rfl) (hcm:X.calm=true:=by rfl) (hst:starEach [a,b,c] X.env=(false,eval a X.env)::starEach [b,c] X.env:=by rfl) (hs2:(backTo rpos (starEach [b,c] X.env)).any (·.1)=false:=by rfl) (hs:∀v,foldedSetIterable (.Call (.Name "range" p) [a,b,c] [] rpos) X.env v=pure v:=by intro _; rfl) :
    ME X (.ListComp elt [⟨.Name x px,.Call (.Name "range" p) [a,b,c] [] rpos,[],0⟩] scope pos) (ZbX fs src fe):=
  PE.imp (Zfy (te:=tM X fe) S hsc hN (Zht hg hm ha hst hs2) (fun cl C s₀ H₀ fp=>helt cl C s₀ H₀ fp) hcm hs) Zfj
end
end
end L2.MM
namespace L2
open PySem PySem.Spec PyProof.Rows
structure zm (scope sc:Scope) (x x':Str) (N N':List Str) (src:List Nat):Prop where
  kind:scope.kind=.function
  cell:∀y∈scope.names,y.2≠.cell
  loc:∀y∈scope.names,y.2=.local→scope.names.lookup y.1=some .local
  own:scope.names.lookup x=some .local
  own2:scope.names.lookup x'=some .local
  free:∀y∈scope.names,y.2=.free→sc.names.lookup y.1=some .cell
  nd:N'.Nodup
  names:N'=x::x'::src.map fun j=>N.getD j x
  all:∀j∈src,j<N.length
  fr:∀j∈src,sc.names.lookup (N.getD j x)=some .cell∧scope.names.lookup (N.getD j x)=some .free
def inner2 (src:List Nat) (σ:St) (x y:Option V):St:=x::y::src.map fun j=>(σ[j]?).join
section
variable {X:Cx} {x x':Str} {tg iter elt tst:Expr} {scope:Scope} {pos:Pos} {N':List Str} {src:List Nat} {wi:TI} {te:TE} {tc:TT} {g:TG}
theorem Zdx {pins:List (Addr×Obj)} {σ:St} {H:Hp} {s s':Shared} {C:Addr} {cl:List (Str×Addr)} {fp:List Addr} (I:Inv X pins σ H s) (S:zm scope X.env.scope x x' X.N N' src)
    (hcl:∀n c,(n,c)∈cl→X.env.cells.lookup n=some c) (hcl2:∀y∈scope.names,y.2=.free→∃c,(y.1,c)∈cl) (hC:s.heap.objs.size≤C) (hfp:∀b∈fp,Zao X pins H b) (hfl:∀b∈fp,b<s.heap.objs.size)
    (hn:∃m,s'.heap.Ns C m) (hk:∀b o,s.heap.get? b=some o→s'.heap.get? b=some o) (ho:s'.os=s.os) (hg:s'.gens=s.gens) :
    Inv (X.comp scope N' cl C s H fp) [] (inner2 src σ none none) H s':=by
  have cll:∀n c,cl.lookup n=some c→X.env.cells.lookup n=some c:=fun n c e=>hcl n c (PySem.mem_of_lookup e)
  refine ⟨⟨I.ok.mod,S.kind,I.ok.glob,I.ok.blt,hC,fun y z c h1 h2=>I.ok.inj y z c (cll _ _ h1) (cll _ _ h2),fun y hy=>?_,fun y c h=>absurd (show false=true from h) (by decide),I.ok.hd,I.ok.frames,.inl rfl,fun b hb=>⟨Nat.ne_of_lt (Nat.lt_of_lt_of_le (hfl b hb) hC),fun y c e=>(hfp b hb).2.2.2.2.1 y c (cll y c e)⟩,
    I.bs,Nat.le_trans I.ok.bsz I.sz,fun b o e hb=>?_,fun b hb=>?_,I.stack,I.stkFree⟩,ho,?_,Un.kept hk,?_,fun y c e=>?_,I.hok.fresh hC,fun y c e=>I.freeC y c (cll y c e),fun p hp=>absurd (show p∈([]:List (Addr×Obj)) from hp) (by simp),I.hok.kept hk,?_⟩
  · have hy':(relabel scope X.env).names.lookup y=some .cell∨(relabel scope X.env).names.lookup y=some .free:=hy
    have:(y,NameKind.free)∈scope.names:=by
      rcases hy' with h | h
      · exact zd S.cell h (.inl rfl)
      · exact zd S.cell h (.inr rfl)
    obtain ⟨c,hc⟩:=hcl2 _ this rfl
    exact z6 hc
  · rcases (hfp b hb).2.2.2.1 with z | z
    · exact I.ok.noex b o e z
    · exact absurd (Nat.lt_of_lt_of_le (Heap.lt_size e) (Nat.le_trans I.ok.bsz z)) (Nat.lt_irrefl _)
  · intro hs
    rcases List.mem_cons.mp (I.stkSub b hs) with z | z
    · exact (hfp b hb).2.1 z
    · exact (hfp b hb).2.2.1 z
  · rw [hg]; exact I.bare
  · obtain ⟨m,hm⟩:=hn
    refine ⟨m,hm,fun i y v h1 h2 h3=>?_⟩
    have h1':N'[i]?=some y:=h1
    rw [S.names] at h1'
    cases i with
    | zero=>cases (show (some none:Option (Option V))=some (some v) from h2)
    | succ k=>
     cases k with
     | zero=>cases (show (some none:Option (Option V))=some (some v) from h2)
     | succ k=>
      rw [List.getElem?_cons_succ,List.getElem?_cons_succ,List.getElem?_map] at h1'
      have h2':(src.map fun j=>(σ[j]?).join)[k]?=some (some v):=h2
      rw [List.getElem?_map] at h2'
      cases e:src[k]? with
      | none=>rw [e] at h1'; cases h1'
      | some j=>
        rw [e] at h1' h2'
        have hj:=List.mem_of_getElem? e
        have ey:X.N.getD j x=y:=Option.some.inj h1'
        have ev:(σ[j]?).join=some v:=Option.some.inj h2'
        have eN:X.N[j]?=some y:=by
          have:=S.all j hj
          rw [List.getElem?_eq_getElem this]
          rw [List.getD_eq_getElem?_getD,List.getElem?_eq_getElem this] at ey
          exact congrArg some ey
        have eσ:σ[j]?=some (some v):=by
          cases q:σ[j]? with
          | none=>rw [q] at ev; cases ev
          | some z=>rw [q] at ev; exact congrArg some ev
        obtain ⟨k1,k2⟩:=S.fr j hj
        rw [ey] at k1 k2
        obtain ⟨mo,hmo,hl⟩:=I.loc
        obtain ⟨u,r,l⟩:=hl j y v eN eσ (.inr (.inl k1))
        refine ⟨u,r,?_⟩
        rcases l with ⟨z,_⟩ | ⟨_,c,hc,hcell⟩
        · have z':X.env.scope.names.lookup y=some .local:=z
          rw [k1] at z'; cases z'
        · obtain ⟨c',hc'⟩:=hcl2 _ (PySem.mem_of_lookup k2) rfl
          obtain ⟨d,hd⟩:=z6 hc'
          have ed:d=c:=by
            have:=cll _ _ hd
            rw [hc] at this
            exact (Option.some.inj this).symm
          subst ed
          obtain ⟨o,e1,e2⟩:=hcell
          refine .inr ⟨?_,d,hd,o,hk _ _ e1,e2⟩
          rcases h3 with z | z | z
          · have z':(relabel scope X.env).names.lookup y=some .local:=z
            rcases zU (env:=X.env) k2 with w | w
            · have w':(relabel scope X.env).names.lookup y=some .cell:=w
              rw [w'] at z'; cases z'
            · have w':(relabel scope X.env).names.lookup y=some .free:=w
              rw [w'] at z'; cases z'
          · exact .inl z
          · exact .inr z
  · obtain ⟨v,o,e1,e2⟩:=I.cell y c (cll y c e)
    exact ⟨v,o,hk _ _ e1,e2⟩
  · show (inner2 src σ none none).length=N'.length
    rw [S.names]
    unfold inner2
    rw [List.length_cons,List.length_cons,List.length_cons,List.length_cons,List.length_map,List.length_map]
theorem ZgJ {pins:List (Addr×Obj)} {σ:St} {H:Hp} {s:Shared} {cl:List (Str×Addr)} {it:Addr} {fp:List Addr} {tn:Nat→Heap→Prop} {J:It} {n:Nat} {Pv:Nat→List V→Hp→Prop} {RR:Value→Addr→Result→Shared→Prop} {E:Value→Shared→Prop}
    (I:Inv X pins σ H s) (hcm:X.calm=true) (S:zm scope X.env.scope x x' X.N N' src) (hcl:∀n c,(n,c)∈cl→X.env.cells.lookup n=some c) (hcl2:∀y∈scope.names,y.2=.free→∃c,(y.1,c)∈cl)
    (T:Zcf X.prog X.w X.K tg J fp it tn) (t0:tn 0 s.heap) (hfp:∀b∈fp,Zao X pins H b)
    (helt:∀(cl:List (Str×Addr)) (C:Addr) (s₀:Shared) (H₀:Hp) (fp:List Addr),PE (X.comp scope N' cl C s₀ H₀ fp) elt te)
    (hgt:∀(cl:List (Str×Addr)) (C:Addr) (s₀:Shared) (H₀:Hp) (fp:List Addr),PG (X.comp scope N' cl C s₀ H₀ fp) tg g)
    (htst:∀(cl:List (Str×Addr)) (C:Addr) (s₀:Shared) (H₀:Hp) (fp:List Addr),PT (X.comp scope N' cl C s₀ H₀ fp) tst tc)
    (hn:n≤sizeLine) (p0:Pv 0 [] H) (turn:∀i ys H xo yo,i<n→Pv i ys H→J.go i H∧∀y H',J.yld i H y H'→g y (inner2 src σ xo yo) H' fun σ2 H0=>∃v1 v2,σ2=inner2 src σ (some v1) (some v2)∧tc σ2 H0 fun b H1=>if b=true then te σ2 H1 fun z H2=>Pv (i+1) (ys++[z]) H2 else Pv (i+1) ys H1) (stop:∀ys H,Pv n ys H→J.stop n H)
    (hR:∀(D C:Addr) (o:Obj) (ys:List V) (H':Hp) (s':Shared),Pv n ys H'→H' D=none→Inv X (pins++[(C,o)]) σ (upd H' D (.lst ys)) s'→(∃m,s'.heap.Ns C m)→Zao X pins (upd H' D (.lst ys)) C→RR (.ref D) C (.ok .next) s') :
    wpAny (model X.prog X.w) X.A (newList []) (fun acc s₃=>wpAny (model X.prog X.w) X.A (newFunctionEnv scope X.env.globals cl [] X.env.qual none .none (some X.env)) (fun cenv s₄=>
      codeAny (model X.prog X.w) X.A (.compStart (.ListComp elt [⟨tg,iter,[tst],0⟩] scope pos) 0 (.ref it) acc { cenv with scope:=relabel scope X.env }) (RR acc cenv.locals) s₄) E s₃) E s:=by
  refine wpAny_newObj_type (wpAny_newFunctionEnv S.cell (by intro y hy; simp at hy) (fun h₁ hns₁ hsb₁=>?_) S.kind)
  dsimp only at hns₁ hsb₁ ⊢
  generalize hH2:s.heap.push { cls:=.type "list",dict:=none,data:=.seq ([]:List Value).toArray }=H2 at hns₁ hsb₁ ⊢
  have hC:H2.objs.size=s.heap.objs.size+1:=by rw [←hH2,Heap.size_push]
  have hDC:s.heap.objs.size≠H2.objs.size:=by rw [hC]; exact Nat.ne_of_lt (Nat.lt_succ_self _)
  have hCle:s.heap.objs.size≤H2.objs.size:=by rw [hC]; exact Nat.le_succ _
  have below:∀b,b<s.heap.objs.size→b≠H2.objs.size∧b≠s.heap.objs.size:=fun b hb=>⟨by rw [hC]; exact Nat.ne_of_lt (Nat.lt_succ_of_lt hb),Nat.ne_of_lt hb⟩
  have old:∀b o,s.heap.get? b=some o→h₁.get? b=some o:=fun b o e=>hsb₁.extBut b o (below b (Heap.lt_size e)).1 (Heap.get?_push_of_some _ (hH2 ▸ Heap.get?_push_of_some _ e))
  have hacc:h₁.PlainList s.heap.objs.size #[]:=⟨_,hsb₁.extBut _ _ hDC (Heap.get?_push_of_some _ (hH2 ▸ Heap.get?_push_size _ rfl))⟩
  have hfl:∀b∈fp,b<s.heap.objs.size:=fun b hb=>by
    obtain ⟨o,e,_⟩:=T.obj 0 _ t0 b hb
    exact Heap.lt_size e
  have fresh:∀a,s.heap.objs.size≤a→s.heap.get? a=none:=fun a ha=>by
    cases e:s.heap.get? a with
    | none=>rfl
    | some o'=>exact absurd (Heap.lt_size e) (Nat.not_lt.mpr ha)
  generalize eD:s.heap.objs.size=D at hDC hacc hCle below fresh hfl hC ⊢
  generalize eC:H2.objs.size=C at hDC hCle below hC hns₁ hsb₁ ⊢
  have I1:Inv (X.comp scope N' cl C s H fp) [] (inner2 src σ none none) H { s with heap:=h₁,toks:=s.toks+([]:List (Str×Value)).length }:=
    Zdx I S hcl hcl2 (by rw [eD]; exact hCle) hfp (by rw [eD]; exact hfl) ⟨_,hns₁⟩ old rfl rfl
  have stat:∀{H':Hp} {pl:List (Addr×Obj)},(∀p∈pl,p.1=D)→(∀b∈fp,H' b=none)→∀b∈fp,Zao (X.comp scope N' cl C s H fp) pl H' b:=fun {H' pl} hp hn b hb=>
    ⟨hn b hb,(below b (hfl b hb)).1,fun z=>by
      rcases List.mem_cons.mp (I.stkSub b z) with q | q
      · exact (hfp b hb).2.1 q
      · exact (hfp b hb).2.2.1 q,.inl hb,fun y c e=>(hfp b hb).2.2.2.2.1 y c (hcl y c (PySem.mem_of_lookup e)),fun p hq=>by
      rw [hp p (by rcases List.mem_append.mp hq with z | z; exact absurd (show p∈([]:List (Addr×Obj)) from z) (by simp); exact z)]
      exact Ne.symm (below b (hfl b hb)).2⟩
  have nD:D∉frs X.stack:=fun z=>by
    rcases List.mem_cons.mp (I.stkSub D z) with q | q
    · have:=I.lt; rw [←q,eD] at this; exact Nat.lt_irrefl _ this
    · exact I.nofs (a:=D) (by rw [eD]; exact Nat.le_refl _) q
  have nC:C∉X.fs:=I.nofs (by rw [eD]; exact hCle)
  have cellD:∀y c,cl.lookup y=some c→c<D:=fun y c e=>by
    obtain ⟨v,q⟩:=I.cell y c (hcl y c (PySem.mem_of_lookup e))
    have:=q.lt
    rw [eD] at this
    exact this
  have loop:∀s₃:Shared,s₃={ s with heap:=h₁,toks:=s.toks+([]:List (Str×Value)).length }→
      codeAny (model X.prog X.w) X.A (.compLoop (.ListComp elt [⟨tg,iter,[tst],0⟩] scope pos) 0 (.ref it) (.ref D) (compEnvC scope cl C X.env)) (RR (.ref D) C) s₃:=by
    rintro s₃ rfl
    refine Za0 (fun k s'=>∃(i:Nat) (ys:List V) (its:List Value) (H':Hp) (xo yo:Option V),Inv (X.comp scope N' cl C s H fp) [] (inner2 src σ xo yo) H' s'∧tn i s'.heap∧(∀b∈fp,H' b=none)∧s'.heap.PlainList D its.toArray∧Vals ys its∧H' D=none∧
      Pv i ys H'∧ys.length≤i∧i≤n∧k=n+1-i) ?_ (n+1) ⟨0,[],[],H,none,none,I1,T.keep _ _ _ t0 (fun b _ o e=>old b o e),fun b hb=>(hfp b hb).1,hacc,.nil,I.hok.fresh (by rw [eD]; exact Nat.le_refl _),p0,Nat.le_refl _,Nat.zero_le _,rfl⟩
    rintro k s' ⟨i,ys,its,H',xo,yo,I3,t3,f3,l3,v3,d3,p3,e3,le3,rfl⟩
    by_cases hlt:i<n
    · obtain ⟨go,step⟩:=turn i ys H' xo yo hlt p3
      obtain ⟨nn,oD⟩:=id l3
      have I3p:Inv (X.comp scope N' cl C s H fp) [(D,{ cls:=.type "list",data:=.seq its.toArray nn })] (inner2 src σ xo yo) H' s':=
        I3.pins_of fun p hp=>by
          have ep:p=(D,{ cls:=.type "list",data:=.seq its.toArray nn }):=by simpa using hp
          subst ep
          exact ⟨oD,d3,hDC,nD,fun v z=>by cases z⟩
      refine thn (T.item (X.comp scope N' cl C s H fp) rfl rfl rfl hcm i _ s' _ H' _ I3p (stat (by simp) f3) t3 go) fun r s4 ⟨u,hr,h4⟩=>?_
      subst hr
      refine thn h4 fun _ s5 ⟨y,H5,I5,r5,y5,st5,fr5⟩=>?_
      have I5':=I5.pinned (stat (by simp) fr5) (T.obj _ _ st5)
      refine wpAny_mono (hgt cl C s H fp _ s5 _ H5 y u _ I5' r5 (step y _ y5)) (fun _ s6 ⟨σ6,H6,I6,v1,v2,e6,q6⟩=>?_) fun _ _ z=>False.elim z
      subst e6
      refine wpAny_mono (htst cl C s H fp _ s6 _ _ _ I6 q6) (fun b s65 ⟨H65,I65,q65⟩=>?_) fun _ _ z=>False.elim z
      have hys:its.toArray.size≤sizeLine:=by
        have:=v3.length
        rw [List.size_toArray]
        omega
      cases b with
      | true=>
        rw [if_pos rfl] at q65 ⊢
        refine wpAny_mono (helt cl C s H fp _ s65 _ _ _ I65 q65) (fun v s7 ⟨z,H7,I7,r7,q7⟩=>?_) fun _ _ z=>False.elim z
        have o7:=I7.pin (D,{ cls:=.type "list",data:=.seq its.toArray nn }) (by simp)
        refine wpAny_list_append_plain (hsz:=hys) (items:=its.toArray) (s:=s7) ⟨nn,o7.1⟩ fun h8 hl8 hs8=>?_
        refine ⟨n+1-(i+1),by omega,i+1,ys++[z],its++[v],H7,some v1,some v2,?_,?_,?_,?_,v3.append (.cons r7 .nil),o7.2.1,q7,by rw [List.length_append]; exact Nat.succ_le_succ e3,hlt,rfl⟩
        · have I7':Inv (X.comp scope N' cl C s H fp) [] (inner2 src σ (some v1) (some v2)) H7 s7:=I7.pins_of fun p hp=>absurd hp (by simp)
          exact I7'.turned (t':=s7.toks) (it:=D) (fun b o hb e=>(hs8.2 b hb).trans e) o7.2.1 hDC (.inr (by show s.heap.objs.size≤D; rw [eD]; exact Nat.le_refl _)) (fun y c e=>Nat.ne_of_lt (cellD y c e)) fun p hp=>absurd (show p∈([]:List (Addr×Obj)) from hp) (by simp)
        · refine T.keep _ _ _ st5 fun b hb o e=>(hs8.2 b (below b (hfl b hb)).2).trans ?_
          exact (I7.pin (b,o) (List.mem_append_right _ (List.mem_append_right _ (ZH hb e)))).1
        · intro b hb
          obtain ⟨o,e,_⟩:=T.obj _ _ st5 b hb
          exact (I7.pin (b,o) (List.mem_append_right _ (List.mem_append_right _ (ZH hb e)))).2.1
        · have:(its++[v]).toArray=its.toArray.push v:=by simp
          rw [this]; exact hl8
      | false=>
        rw [if_neg (by decide)] at q65 ⊢
        have o7:=I65.pin (D,{ cls:=.type "list",data:=.seq its.toArray nn }) (by simp)
        refine ⟨n+1-(i+1),by omega,i+1,ys,its,H65,some v1,some v2,I65.pins_of fun p hp=>absurd hp (by simp),?_,?_,⟨nn,o7.1⟩,v3,o7.2.1,q65,Nat.le_succ_of_le e3,hlt,rfl⟩
        · refine T.keep _ _ _ st5 fun b hb o e=>?_
          exact (I65.pin (b,o) (List.mem_append_right _ (List.mem_append_right _ (ZH hb e)))).1
        · intro b hb
          obtain ⟨o,e,_⟩:=T.obj _ _ st5 b hb
          exact (I65.pin (b,o) (List.mem_append_right _ (List.mem_append_right _ (ZH hb e)))).2.1
    · have ein:i=n:=by omega
      subst ein
      obtain ⟨nn,oD⟩:=id l3
      have I3p:Inv (X.comp scope N' cl C s H fp) [(D,{ cls:=.type "list",data:=.seq its.toArray nn })] (inner2 src σ xo yo) H' s':=
        I3.pins_of fun p hp=>by
          have ep:p=(D,{ cls:=.type "list",data:=.seq its.toArray nn }):=by simpa using hp
          subst ep
          exact ⟨oD,d3,hDC,nD,fun v z=>by cases z⟩
      refine thn (T.done (X.comp scope N' cl C s H fp) rfl rfl rfl hcm i _ s' _ H' _ I3p (stat (by simp) f3) t3 (stop ys H' p3)) fun r s4 ⟨hr,I4⟩=>?_
      subst hr
      have o4:=I4.pin (D,{ cls:=.type "list",data:=.seq its.toArray nn }) (by simp)
      have newI:Inv X pins σ (upd H' D (.lst ys)) s4:=I.call' (ch:=fp) I4.os (I4.base.lay d3 (fresh D (Nat.le_refl _))) (I4.hok.lay d3 ⟨by omega,its,nn,v3,o4.1⟩) I4.bare (fun b hb=>
        ⟨(hfp b hb).2.2.2.1,(hfp b hb).2.1,(hfp b hb).2.2.2.2.1,(hfp b hb).2.2.2.2.2⟩)
      obtain ⟨m,hm,_⟩:=I4.loc
      obtain ⟨o,es,ep,ho,hd,_⟩:=id hm
      refine hR D C o ys H' s4 p3 d3 (newI.pins_of fun p hp=>?_) ⟨m,hm⟩ (I.fpOk (by rw [eD]; exact hCle) (by rw [Zl (Ne.symm hDC)]; exact I4.free))
      rcases List.mem_append.mp hp with z | z
      · exact newI.pin p (List.mem_append_right _ z)
      · have ep:p=(C,o):=by simpa using z
        subst ep
        refine ⟨ho,by rw [Zl (Ne.symm hDC)]; exact I4.free,fun z=>?_,nC,fun v z=>?_⟩
        · have:=I.lt
          rw [eD,←z] at this
          exact absurd (Nat.lt_of_lt_of_le this hCle) (Nat.lt_irrefl _)
        · have z':o.data=.cell v:=z
          rw [hd] at z'; cases z'
  exact codeAny_compStart_list (loop _ rfl) (T.self _ 0 _ _ _ (T.keep _ _ _ t0 (fun b _ o e=>old b o e)) (loop _ rfl))
end
end L2
namespace L2.MM
open PySem PySem.Spec PyProof.Rows PySem.W PySem.SeqAt
noncomputable section
structure GDict (P:Program) (w:World) (K:PySem.W.Frag) (d:Addr) (o:Obj) (es:Array DictEntry) (ep:Nat) (kvs:List (Str×Value)) (ps:List (Str×Int)):Prop where
  lk:K.lookup d=some o
  ed:o.ExactDict
  da:o.data=.dict es ep
  ks:KeysOf (PySem.strKind P w) es
  pr:Pairs (PySem.strKind P w) es.toList kvs
  nd:(kvs.map (·.1)).Nodup
  len:kvs.length=ps.length
  val:∀(i:Nat) (k:Str) (n:Int),ps[i]?=some (k,n)→∃t:Tok,kvs[i]?=some (k,Value.int n t)
  ne:(d == sysModules)=false
section
variable {P:Program} {w:World} {K:PySem.W.Frag} {d:Addr} {o:Obj} {es:Array DictEntry} {ep:Nat} {kvs:List (Str×Value)} {ps:List (Str×Int)}
theorem GDict.at_ (D:GDict P w K d o es ep kvs ps) {h:Heap} (X:K.In h):h.DictAt (PySem.strKind P w) d kvs ep:=⟨o,es,X d o D.lk,D.ed,D.da,D.ks,D.pr,D.nd⟩
def Iti (ps:List (Str×Int)):It:=
  ⟨fun i _=>i<ps.length,fun i H x H'=>∃p k n,x=.ref p∧H p=none∧ps[i]?=some (k,n)∧H'=upd H p (.tup [.str k,.int n]),fun i _=>ps.length≤i⟩
theorem ZdH {el:List Expr} {x1} {pos:Pos} (D:GDict P w K d o es ep kvs ps) (e:Addr):Zcf P w K (.Tuple el x1 pos) (Iti ps) [e] e (fun i h=>∃ok ov,IsItemIter h e d i kvs.length ep ok ov):=by
  refine ⟨by simp,fun i h st b hb=>?_,fun i h h' st k=>?_,?_,?_,?_⟩
  · obtain ⟨ok,ov,st1⟩:=st
    have q:b=e:=by simpa using hb
    rw [q]
    refine ⟨_,st1,fun v z=>?_⟩
    have z':Data.fields _=Data.cell v:=z
    cases z'
  · obtain ⟨ok,ov,st1⟩:=st
    exact ⟨ok,ov,k e (by simp) _ st1⟩
  · intro X hP hw hK hc i pins s σ H E I hf st hg
    subst hP hw hK
    obtain ⟨ok,ov,st1⟩:=st
    have hg':i<ps.length:=hg
    obtain ⟨k,n,hkn⟩:∃k n,ps[i]?=some (k,n):=⟨ps[i].1,ps[i].2,List.getElem?_eq_getElem hg'⟩
    obtain ⟨t,hv⟩:=D.val i k n hkn
    obtain ⟨f0,f1,f2,f3,f4,f5⟩:=hf e (by simp)
    refine wpAny_pyNext_items_item st1 (D.at_ I.kIn) hv fun key h' hkey out tp' sz' kk=>?_
    obtain ⟨t',rfl⟩:=Value.isStrOf_shape hkey
    have hes:e<s.heap.objs.size:=Heap.lt_size st1
    refine ⟨_,rfl,wpAny_letOwnedTupleGo_items out fun h2 e2 s2=>?_⟩
    replace s2:Heap.SameBut e h' h2:=s2
    have tp2:h2.get? s.heap.objs.size=some { cls:=.type "tuple",data:=.seq #[.str k t',.int n t] }:=s2.extBut _ _ (Nat.ne_of_gt hes) tp'
    have k2:∀b o,b≠e→s.heap.get? b=some o→h2.get? b=some o:=fun b o q1 q3=>s2.extBut b o q1 (kk b o q1 q3)
    have hn:H s.heap.objs.size=none:=I.hok.fresh (Nat.le_refl _)
    have nn:∀{b:Addr} {o:HO},H b=some o→b≠s.heap.objs.size:=fun q=>Zu q hn
    have nch:∀{b:Addr},b∉[e]→b≠e:=fun hb z=>hb (by simp [z])
    have new:ObjOk X.prog X.w (upd H s.heap.objs.size (.tup [.str k,.int n])) h2 s.heap.objs.size (.tup [.str k,.int n]):=⟨by show 2≤sizeLine; decide,[.str k t',.int n t],.cons ⟨_,rfl⟩ (.cons ⟨_,rfl⟩ .nil),⟨_,tp2,rfl,_,rfl⟩⟩
    have I1:Inv X pins σ (upd H s.heap.objs.size (.tup [.str k,.int n])) { s with heap:=h2,toks:=s.toks }:=by
      refine I.step (g':=s.gens) (d':=s.drawn) (ch:=[e]) (fun b hb=>?_) (fun b o _ _ hc e' _=>k2 b o (nch hc) e') (fun b o _ _ hc e' _=>⟨o.slots,k2 b o (nch hc) e'⟩) (fun b o _ e' n=>by rw [Zl (Nat.ne_of_lt (Heap.lt_size e'))]; exact n)
        (fun b o hc e'=>⟨o,k2 b o (nch hc) e'⟩) (fun b _ q=>by rw [Zl (nn q)]; exact q) (fun b _ _ q=>by rw [Zl (nn q)]; exact q) (fun b ps q=>⟨#[],by rw [Zl (nn q),q]; simp⟩) (fun m hm=>?_) (fun b v q=>?_) I.bare
      · have z:b=e:=by simpa using hb
        rw [z]
        exact ⟨f3,f1,f4,f5⟩
      · obtain ⟨o,es,ep,ho,r⟩:=hm
        exact ⟨o,es,ep,k2 _ o (Ne.symm f1) ho,r⟩
      · by_cases hb:b=s.heap.objs.size
        · subst hb; rw [Z2] at q; cases q; exact new
        · rw [Zl hb] at q
          refine (I.hok b v q).stay (fun c o hc z=>k2 c o ?_ z) (fun c z=>by rw [Zl (nn z)]; exact z) fun c _ z=>by rw [Zl (nn z)]; exact z
          rcases hc with z | z
          · rw [z]; exact fun y=>by rw [y,f0] at q; cases q
          · exact fun y=>by rw [y,f0] at z; cases z
    refine ⟨.ref s.heap.objs.size,_,I1,rfl,⟨_,k,n,rfl,hn,hkn,rfl⟩,⟨_,_,e2⟩,fun b hb=>?_⟩
    have z:b=e:=by simpa using hb
    rw [z,Zl (Nat.ne_of_lt hes)]
    exact f0
  · intro X hP hw hK hc i pins s σ H E I hf st hg
    subst hP hw hK
    obtain ⟨ok,ov,st1⟩:=st
    have hg':ps.length≤i:=hg
    obtain ⟨f0,f1,f2,f3,f4,f5⟩:=hf e (by simp)
    exact wpAny_pyNext_items_end (I.ok.hd hc) st1 (D.at_ I.kIn) (by rw [List.getElem?_eq_none_iff,D.len]; exact hg') fun h' eb=>⟨rfl,I.turned (t':=s.toks) (fun b o hb e=>eb b o hb e) f0 f1 f3 f4 f5⟩
  · intro A i s Q E st h
    obtain ⟨ok,ov,st1⟩:=st
    exact kcp_self st1 h
end
end
end L2.MM
namespace L2
open PySem PySem.Spec PyProof.Rows
section
variable {X:Cx} {x x':Str} {tg iter elt tst:Expr} {scope:Scope} {pos:Pos} {N':List Str} {src:List Nat} {wi:TI} {te:TE} {tc:TT} {g:TG}
def Zin (wi:TI) (src:List Nat) (g:TG) (tc:TT) (te:TE):TE:=fun σ H Q=>wi σ H fun J H1=>∃(n:Nat) (Pv:Nat→List V→Hp→Prop),n≤sizeLine∧Pv 0 [] H1∧
  (∀i ys H xo yo,i<n→Pv i ys H→J.go i H∧∀y H',J.yld i H y H'→g y (inner2 src σ xo yo) H' fun σ2 H0=>∃v1 v2,σ2=inner2 src σ (some v1) (some v2)∧tc σ2 H0 fun b H1=>if b=true then te σ2 H1 fun z H2=>Pv (i+1) (ys++[z]) H2 else Pv (i+1) ys H1)∧
  ∀ys H,Pv n ys H→J.stop n H∧∀p,H p=none→Q (.ref p) (upd H p (.lst ys))
theorem Zhq {sc:Scope} {N:List Str} {i:Nat} {y:Str} {py spos:Pos} (hnd:X.N.Nodup) (hi':X.N[i]?=some y) (S:zm scope sc x x' N N' src) (hsc:X.env.scope=sc) (hN:X.N=N) (hi:PI X tg iter wi)
    (helt:∀(cl:List (Str×Addr)) (C:Addr) (s₀:Shared) (H₀:Hp) (fp:List Addr),PE (X.comp scope N' cl C s₀ H₀ fp) elt te) (hgt:∀(cl:List (Str×Addr)) (C:Addr) (s₀:Shared) (H₀:Hp) (fp:List Addr),PG (X.comp scope N' cl C s₀ H₀ fp) tg g) (htst:∀(cl:List (Str×Addr)) (C:Addr) (s₀:Shared) (H₀:Hp) (fp:List Addr),PT (X.comp scope N' cl C s₀ H₀ fp) tst tc) (hsw:swapsWith (.ListComp elt [⟨tg,iter,[tst],0⟩] scope pos) (some (.Name y py)) spos.line X.env=pure true:=by rfl)
    (hy:X.env.scope.names.lookup y=some .local:=by rfl) (hcm:X.calm=true:=by rfl) (hs:∀v,foldedSetIterable iter X.env v=pure v:=by intro _; rfl) :
    PS X (.Assign [.Name y py] (.ListComp elt [⟨tg,iter,[tst],0⟩] scope pos) spos) (Zhg (Zin wi src g tc te) (ZaE i)):=by
  subst hsc hN
  intro pins s σ H Dn I h
  obtain ⟨cl,hclos,hcl,hcl2⟩:=zy (scope:=scope) (env:=X.env) fun y hy hf=>I.ok.has y.1 (.inl (S.free y hy hf))
  rw [exec_Assign_Name_used _ _ _ _ hsw]
  refine wpAny_bind (wpAny_standAt (wpAny_bind ?_))
  show wpAny _ X.A (do let _ ←comprehension (.ListComp elt [⟨tg,iter,[tst],0⟩] scope pos) scope X.env _ (newList []) false (eval iter X.env) (some (assign (.Name y py) X.env))) _ _ s
  refine wpAny_bind (wpAny_mono (wpAny_comprehension_free (use:=some (assign (.Name y py) X.env)) (Q:=fun _ s'=>SP X pins Dn .next s') rfl hs hclos S.kind S.loc ?_) (fun _ s' hq=>wpAny_pure (wpAny_pure hq)) fun _ _ e=>e)
  refine thn (hi pins s σ H _ I h) fun v s1 h1=>thn h1 fun itv s2 h2=>?_
  obtain ⟨it,fp,tn,J,H2,e,I2,T,st2,f2,n,Pv,hn,p0,turn,done⟩:=h2
  subst e
  refine ZgJ I2 hcm S hcl hcl2 T st2 f2 helt hgt htst hn p0 turn (fun ys H p=>(done ys H p).1) fun D C o ys H' s' p d J' hm ho=>?_
  show wpAny _ X.A (assign (.Name y py) X.env (.ref D)) _ _ _
  obtain ⟨m,hm⟩:=hm
  have hg:PG X (.Name y py) (ZaE i):=zV hnd hi' (.inl hy) (.inr hy)
  refine thn (hg _ s' σ _ (.ref D) (.ref D) (fun σ2 H3=>σ2=σ.set i (some (.ref D))∧H3=upd H' D (.lst ys)) J' rfl ⟨rfl,rfl⟩) fun _ s6 ⟨σ6,H6,I6,e6,e7⟩=>?_
  subst e6 e7
  have pc:=I6.pin (C,o) (by simp)
  have pc':=J'.pin (C,o) (by simp)
  refine ⟨m,hm.at fun q e=>?_,fun h' hs'=>?_⟩
  · rw [pc'.1] at e; cases e; exact pc.1
  have J2:Inv X pins (σ.set i (some (.ref D))) (upd H' D (.lst ys)) s6:=I6.pins_of fun q hq=>I6.pin q (List.mem_append_right _ (List.mem_append_left _ hq))
  obtain ⟨f0,f1,f2,f3,f4,f5⟩:=ho
  exact ⟨_,_,J2.turned (t':=s6.toks) (it:=C) (fun b o hb e=>(hs'.2 b hb).trans e) f0 f1 f3 f4 f5,(done ys H' p).2 D d⟩
end
end L2
namespace L2.MM
open PySem PySem.Spec PyProof.Rows PySem.W PySem.SeqAt
noncomputable section
section
variable {X:Cx}
def ZfX (ps:List (Str×Int)):TI:=fun _ H R=>R (Iti ps) H
theorem Zfu {d:Addr} {o:Obj} {es:Array DictEntry} {ep:Nat} {kvs:List (Str×Value)} {ps:List (Str×Int)} {el:List Expr} {x1} {gn:Str} {tp np apos pos:Pos} (D:GDict X.prog X.w X.K d o es ep kvs ps) (hm:X.mg gn=some (.ref d)) (hg:Gl X gn:=by rfl) (hdb:(gn == ("__debug__":Str))=false:=by decide)
    (hbase:attributeBase (.Name gn np) "items" X.env (eval (.Name gn np) X.env)=eval (.Name gn np) X.env:=by rfl) (hline:(apos.endLine == pos.line)=true:=by rfl):PI X (.Tuple el x1 tp) (.Call (.Attribute (.Name gn np) "items" apos) [] [] pos) (ZfX ps):=by
  intro pins s σ H R I h
  refine wpAny_Call_items D.ne (D.at_ I.kIn).dictOf hbase hline (fun Q' q=>ZcT I hg hm q hdb) ?_
  have I1:Inv X pins σ H { s with heap:=s.heap.push { cls:=.type "dict_items",data:=.fields #[.ref d] } }:=I.kept (t':=s.toks) fun b o e=>Heap.get?_push_of_some _ e
  refine wpAny_pyIter_items ⟨_,Heap.get?_push_size _ rfl,rfl,rfl⟩ (D.at_ I1.kIn) ?_
  refine ⟨_,[_],_,_,H,rfl,I1.kept (t':=s.toks) fun b o e=>Heap.get?_push_of_some _ e,ZdH D _,⟨.none,.none,Heap.get?_push_size _ rfl⟩,fun b hb=>?_,h⟩
  rw [List.mem_singleton] at hb
  rw [hb]
  exact I1.fpOk (Nat.le_refl _) (I1.hok.fresh (Nat.le_refl _))
def zi (src:List Nat) (ρ:List Sl) (x y:D):List Sl:=.val x::.val y::src.map fun j=>match ρ[j]? with
  | some (Sl.val d)=>Sl.val d
  | _=>Sl.no
theorem Frm.inner2 {B:Bx} {θ:Sto} {ρ:List Sl} {σ:St} {H:Hp} (F:Frm X.cl B θ ρ σ H) (src:List Nat) {x y:D} {v u:V} (r:RepV B H x v) (r':RepV B H y u):Frm X.cl B θ (zi src ρ x y) (L2.inner2 src σ (some v) (some u)) H:=by
  have key:∀(i:Nat) (s:Sl),(zi src ρ x y)[i]?=some s→s=.no∨∃d,s=.val d∧∃v',(L2.inner2 src σ (some v) (some u))[i]?=some (some v')∧RepV B H d v':=fun i s e=>by
    rcases i with _ | _ | i
    · simp [zi] at e; subst e; exact .inr ⟨x,rfl,v,by simp [L2.inner2],r⟩
    · simp [zi] at e; subst e; exact .inr ⟨y,rfl,u,by simp [L2.inner2],r'⟩
    · simp only [zi,List.getElem?_cons_succ,List.getElem?_map] at e
      simp only [L2.inner2,List.getElem?_cons_succ,List.getElem?_map]
      cases q:src[i]? with
      | none=>rw [q] at e; cases e
      | some j=>
        rw [q] at e
        simp only [Option.map_some,Option.some.injEq] at e
        split at e
        · rename_i d ed
          subst e
          obtain ⟨v',h1,h2⟩:=F.val j d ed
          exact .inr ⟨d,rfl,v',by simp [h1],h2⟩
        · exact .inl e.symm
  refine ⟨F.good,by simp [zi,L2.inner2],fun i d e=>?_,fun i xs e=>?_,fun i j xs ys a _ e _=>?_⟩
  · rcases key i _ e with z | ⟨d',z,v',h1,h2⟩
    · cases z
    · cases z; exact ⟨v',h1,h2⟩
  · rcases key i _ e with z | ⟨d',z,_⟩<;>cases z
  · rcases key i _ e with z | ⟨d',z,_⟩<;>cases z
def z8 (tst:D→D→Sto→R Bool) (elt:D→D→Sto→R D):List (Str×Int)→List D→Sto→R D
  | [],acc,θ=>if acc.length≤BIG then .ok (.lst acc) θ else .bad
  | (k,n)::r,acc,θ=>(tst (.str k) (.int n) θ).bind fun b θ=>if b=true then (elt (.str k) (.int n) θ).bind fun y θ=>z8 tst elt r (acc++[y]) θ else z8 tst elt r acc θ
def ZaL (ps:List (Str×Int)) (src:List Nat) (tst:TMr) (elt:EM):EM:=fun ρ θ=>if ps.length≤BIG then z8 (fun x y θ=>tst (zi src ρ x y) θ) (fun x y θ=>elt (zi src ρ x y) θ) ps [] θ else .bad
abbrev gPr (K:PySem.W.Frag):TG:=ZiW K 2 (Zf1 (ZaE 0) (Zf1 (ZaE 1) ZiX))
theorem Zfh {ps:List (Str×Int)} {src:List Nat} {tst:TMr} {elt:EM} (σ:St) (H:Hp) (Q:VK) (h:tM X (ZaL ps src tst elt) σ H Q):Zin (ZfX ps) src (gPr X.K) (tMT X tst) (tM X elt) σ H Q:=by
  obtain ⟨B,θ,ρ,F,w⟩:=h
  unfold ZaL at w
  split at w
  · rename_i hz
    refine ⟨ps.length,fun i ys H'=>∃B' θ' acc,ExtE B B' H H'∧Good X.cl B' θ' H'∧RepL B' H' acc ys∧wpR X σ RepV B' H' (z8 (fun x y θ=>tst (zi src ρ x y) θ) (fun x y θ=>elt (zi src ρ x y) θ) (ps.drop i) acc θ') Q,Zy hz,⟨B,θ,[],ExtE.refl _ _,F.good,rfl,w⟩,?_,?_⟩
    · rintro i ys H' xo yo hi ⟨B2,θ2,acc,E2,G2,racc,w2⟩
      rw [List.drop_eq_getElem_cons hi] at w2
      refine ⟨hi,fun y H3 hy=>?_⟩
      obtain ⟨p,k,n,rfl,hp,hkn,rfl⟩:=hy
      rw [List.getElem?_eq_getElem hi] at hkn
      have ek:ps[i]=(k,n):=Option.some.inj hkn
      rw [ek] at w2
      unfold z8 at w2
      have E3:=z7 G2 hp (.tup [.str k,.int n])
      have G3:=ZaY G2 hp (.tup [.str k,.int n])
      refine ⟨p,[.str k,.int n],rfl,SqT.of Z2,rfl,.str k,[.int n],rfl,.int n,[],rfl,rfl,.str k,.int n,rfl,?_⟩
      have F3:=(F.ext (E2.trans E3) G3).inner2 src (x:=.str k) (y:=.int n) (v:=.str k) (u:=.int n) rfl rfl
      have w3:=wpR.trans w2 E3
      refine ⟨B2,θ2,_,F3,(wpR.bind (Rel:=EqB) w3).mono ?_⟩
      rintro b H4 ⟨B4,θ4,d,E4,G4,rd,w4⟩
      cases (show d=b from rd)
      cases b with
      | true=>
        rw [if_pos rfl] at w4 ⊢
        have F4:=F3.ext E4 G4
        refine ⟨B4,θ4,_,F4,(wpR.bind (Rel:=RepV) w4).mono ?_⟩
        rintro z H5 ⟨B5,θ5,d5,E5,G5,rd5,w5⟩
        exact ⟨B5,θ5,acc++[d5],((E2.trans E3).trans E4).trans E5,G5,(racc.ext ((E3.trans E4).trans E5).toExtS).app ⟨z,[],rfl,rd5,rfl⟩,w5⟩
      | false=>
        rw [if_neg (by decide)] at w4 ⊢
        exact ⟨B4,θ4,acc,(E2.trans E3).trans E4,G4,racc.ext (E3.trans E4).toExtS,w4⟩
    · rintro ys H' ⟨B2,θ2,acc,E2,G2,racc,w2⟩
      rw [List.drop_length] at w2
      unfold z8 at w2
      split at w2
      · exact ⟨Nat.le_refl _,zT G2 racc w2⟩
      · exact w2.elim
  · exact w.elim
theorem ZeR (i:Nat) {x x' y gn:Str} {pa pb py pos spos tp np apos ipos:Pos} {x1} {elt tst:Expr} {scope:Scope} {N':List Str} {src:List Nat} {sc:Scope} {N:List Str} {ft:TMr} {fe:EM} {d:Addr} {o:Obj} {es:Array DictEntry} {ep:Nat} {kvs:List (Str×Value)} {ps:List (Str×Int)}
    (hnd:X.N.Nodup) (S:zm scope sc x x' N N' src) (hsc:X.env.scope=sc) (hN:X.N=N) (D:GDict X.prog X.w X.K d o es ep kvs ps) (hm:X.mg gn=some (.ref d))
    (helt:∀(cl:List (Str×Addr)) (C:Addr) (s₀:Shared) (H₀:Hp) (fp:List Addr),MT (X.comp scope N' cl C s₀ H₀ fp) tst ft∧ME (X.comp scope N' cl C s₀ H₀ fp) elt fe)
    (hgt:∀(cl:List (Str×Addr)) (C:Addr) (s₀:Shared) (H₀:Hp) (fp:List Addr),PG (X.comp scope N' cl C s₀ H₀ fp) (.Tuple [.Name x pa,.Name x' pb] x1 tp) (gPr X.K))
    (hi':X.N[i]?=some y:=by rfl) (hg:Gl X gn:=by rfl) (hdb:(gn == ("__debug__":Str))=false:=by decide)
    (hsw:swapsWith (.ListComp elt [⟨.Tuple [.Name x pa,.Name x' pb] x1 tp,.Call (.Attribute (.Name gn np) "items" apos) [] [] ipos,[tst],0⟩] scope pos) (some (.Name y py)) spos.line X.env=pure true:=by rfl)
    (hy:X.env.scope.names.lookup y=some .local:=by rfl) (hcm:X.calm=true:=by rfl) (hs:∀v,foldedSetIterable (.Call (.Attribute (.Name gn np) "items" apos) [] [] ipos) X.env v=pure v:=by intro _; rfl)
    (hbase:attributeBase (.Name gn np) "items" X.env (eval (.Name gn np) X.env)=eval (.Name gn np) X.env:=by rfl) (hline:(apos.endLine == ipos.line)=true:=by rfl) :
    MS X (.Assign [.Name y py] (.ListComp elt [⟨.Tuple [.Name x pa,.Name x' pb] x1 tp,.Call (.Attribute (.Name gn np) "items" apos) [] [] ipos,[tst],0⟩] scope pos) spos) (ZA i (ZaL ps src ft fe)):=
  PS.imp (Zhq (te:=tM X fe) (tc:=tMT X ft) (g:=gPr X.K) hnd hi' S hsc hN (Zfu D hm hg hdb hbase hline) (fun cl C s₀ H₀ fp=>(helt cl C s₀ H₀ fp).2) hgt (fun cl C s₀ H₀ fp=>(helt cl C s₀ H₀ fp).1) hsw hy hcm hs) fun Dn σ H h=>by
  obtain ⟨B,θ,ρ,F,w⟩:=h
  refine Zfh σ H _ (ZB (Zdh F w) ?_)
  rintro v H1 ⟨B1,θ1,d,E1,F1,rd,w1⟩
  exact w1 B1 H1 _ (ExtS.refl _ _) (F1.set i rd)
def GDs (P:Program) (w:World) (K:PySem.W.Frag) (mg:Str→Option Value) (gn:Str) (ps:List (Str×Int)):Prop:=∃d o es ep kvs,mg gn=some (.ref d)∧GDict P w K d o es ep kvs ps
theorem ZeQ (i:Nat) {x x' y gn:Str} {pa pb py pos spos tp np apos ipos:Pos} {x1} {elt tst:Expr} {scope:Scope} {N':List Str} {src:List Nat} {sc:Scope} {N:List Str} {ft:TMr} {fe:EM} {ps:List (Str×Int)}
    (hnd:X.N.Nodup) (S:zm scope sc x x' N N' src) (hsc:X.env.scope=sc) (hN:X.N=N) (D:GDs X.prog X.w X.K X.mg gn ps)
    (helt:∀(cl:List (Str×Addr)) (C:Addr) (s₀:Shared) (H₀:Hp) (fp:List Addr),MT (X.comp scope N' cl C s₀ H₀ fp) tst ft∧ME (X.comp scope N' cl C s₀ H₀ fp) elt fe)
    (hi':X.N[i]?=some y:=by rfl) (hg:Gl X gn:=by rfl) (hdb:(gn == ("__debug__":Str))=false:=by decide)
    (hsw:swapsWith (.ListComp elt [⟨.Tuple [.Name x pa,.Name x' pb] x1 tp,.Call (.Attribute (.Name gn np) "items" apos) [] [] ipos,[tst],0⟩] scope pos) (some (.Name y py)) spos.line X.env=pure true:=by rfl)
    (hy:X.env.scope.names.lookup y=some .local:=by rfl) (hcm:X.calm=true:=by rfl) (hs:∀v,foldedSetIterable (.Call (.Attribute (.Name gn np) "items" apos) [] [] ipos) X.env v=pure v:=by intro _; rfl)
    (hbase:attributeBase (.Name gn np) "items" X.env (eval (.Name gn np) X.env)=eval (.Name gn np) X.env:=by rfl) (hline:(apos.endLine == ipos.line)=true:=by rfl) :
    MS X (.Assign [.Name y py] (.ListComp elt [⟨.Tuple [.Name x pa,.Name x' pb] x1 tp,.Call (.Attribute (.Name gn np) "items" apos) [] [] ipos,[tst],0⟩] scope pos) spos) (ZA i (ZaL ps src ft fe)):=by
  obtain ⟨d,o,es,ep,kvs,hm,D⟩:=D
  refine ZeR i hnd S hsc hN D hm helt (fun cl C s₀ H₀ fp=>?_) hi' hg hdb hsw hy hcm hs hbase hline
  exact Zhv hcm (Zdk (zV S.nd (by show N'[0]?=some x; rw [S.names]; rfl) (.inl (lookup_relabel_local S.own)) (.inr (lookup_relabel_local S.own))) (Zdk (zV S.nd (by show N'[1]?=some x'; rw [S.names]; rfl) (.inl (lookup_relabel_local S.own2)) (.inr (lookup_relabel_local S.own2))) Zgy rfl) rfl) rfl rfl
theorem ZhU {P:Program} {w:World} {K:PySem.W.Frag} {h:Heap} {mg:Str→Option Value} {gn:Str} {DD:Addr} {es:Array DictEntry} {ep:Nat} {k1 k2 k3 k4 k5:Str} {n1 n2 n3 n4 n5:Int} {t1 t2 t3 t4 t5 u1 u2 u3 u4 u5:Tok} (X:K.In h) (G:h.Ns mainGlobals mg)
    (a:nsIn K mainGlobals gn=some (some (.ref DD))) (l:K.lookup DD=some ⟨.type "dict",none,.dict es ep,#[]⟩) (e:es=#[⟨PyData.keyHash w.params k1,.str k1 t1,.int n1 u1⟩,⟨PyData.keyHash w.params k2,.str k2 t2,.int n2 u2⟩,⟨PyData.keyHash w.params k3,.str k3 t3,.int n3 u3⟩,⟨PyData.keyHash w.params k4,.str k4 t4,.int n4 u4⟩,⟨PyData.keyHash w.params k5,.str k5 t5,.int n5 u5⟩])
    (nd:[k1,k2,k3,k4,k5].Nodup) (ne:(DD == sysModules)=false):GDs P w K mg gn [(k1,n1),(k2,n2),(k3,n3),(k4,n4),(k5,n5)]:=by
  have iso:∀k t,(PySem.strKind P w).is k (.str k t)=true:=fun k t=>by simp [PySem.strKind,Value.isStrOf]
  have hh:∀k,PyData.keyHash w.params k=(PySem.strKind P w).hash k:=fun k=>rfl
  refine ⟨DD,_,es,ep,[(k1,.int n1 u1),(k2,.int n2 u2),(k3,.int n3 u3),(k4,.int n4 u4),(k5,.int n5 u5)],mg_of X G a,l,?_,rfl,?_,?_,nd,rfl,?_,ne⟩
  · exact ⟨rfl,rfl,rfl⟩
  · rw [e]
    intro y hy
    simp at hy
    rcases hy with rfl | rfl | rfl | rfl | rfl
    · exact ⟨k1,iso _ _,hh _⟩
    · exact ⟨k2,iso _ _,hh _⟩
    · exact ⟨k3,iso _ _,hh _⟩
    · exact ⟨k4,iso _ _,hh _⟩
    · exact ⟨k5,iso _ _,hh _⟩
  · rw [e]
    exact .cons (iso _ _) rfl (.cons (iso _ _) rfl (.cons (iso _ _) rfl (.cons (iso _ _) rfl (.cons (iso _ _) rfl .nil))))
  · intro i k n hi
    rcases i with _ | _ | _ | _ | _ | i
    all_goals first
      | (simp at hi; done)
      | (have z:=Option.some.inj hi; cases z; exact ⟨_,rfl⟩)
end
end
end L2.MM
namespace My
open PySem L2 L2.MM
noncomputable section
def ZG (c:Nat):Nat→List Nat→List Nat
  | _,[]=>[]
  | k,x::r=>if x=c then k::ZG c (k+1) r else ZG c (k+1) r
theorem ZbL (c:Nat):∀(l:List Nat) (k m:Nat),ZG c (k+m) l=(ZG c k l).map (·+m)
  | [],k,m=>rfl
  | x::r,k,m=>by
    have ih:=ZbL c r (k+1) m
    have e:k+m+1=k+1+m:=by omega
    unfold ZG
    rw [e,ih]
    split<;>simp
theorem Za7 {c:Nat}:∀{l:List Nat} {k:Nat},c∉l→ZG c k l=[]
  | [],_,_=>rfl
  | x::r,k,h=>by
    unfold ZG
    rw [if_neg (fun e=>h (by simp [e]))]
    exact Za7 fun z=>h (List.mem_cons_of_mem _ z)
theorem ZbK (c:Nat):∀(l m:List Nat) (k:Nat),ZG c k (l++m)=ZG c k l++ZG c (k+l.length) m
  | [],m,k=>by simp [ZG]
  | x::r,m,k=>by
    have ih:=ZbK c r m (k+1)
    have e:k+1+r.length=k+(x::r).length:=by simp; omega
    rw [e] at ih
    simp only [List.cons_append,ZG]
    rw [ih]
    split<;>simp
theorem ZcG (s:Str) (c i:Nat):Builtin.Str.subAt s ⟨#[c]⟩ i=decide (s.cps.toList[i]?=some c):=by
  rw [StrLaws.subAt_eq]
  have l1:(⟨#[c]⟩:Str).length=1:=rfl
  rw [l1]
  show ((List.drop i s.cps.toList).take 1 == [c])=_
  rw [Bool.eq_iff_iff,beq_iff_eq,decide_eq_true_iff]
  cases e:s.cps.toList.drop i with
  | nil=>
    have:s.cps.toList[i]?=none:=by rw [List.getElem?_eq_none_iff]; exact List.drop_eq_nil_iff.mp e
    simp [this]
  | cons a r=>
    have:s.cps.toList[i]?=some a:=by
      have:=congrArg List.head? e
      rw [List.head?_drop] at this
      simpa using this
    simp [this]
theorem ZbN (s:Str) (c:Nat) (lim:Nat):∀(r:List Nat) (k free:Nat) (found:Array Nat),s.cps.toList.drop k=r→free≤k→found.size+r.length<lim→
    (forIn (List.range' k (r.length+1)) (found,free) (StrLaws.occBody s ⟨#[c]⟩ s.length lim)).run.fst.toList=found.toList++ZG c k r
  | [],k,free,found,e,hf,hl=>by
    have z:s.cps.toList[k]?=none:=by rw [List.getElem?_eq_none_iff]; exact List.drop_eq_nil_iff.mp e
    have b:Builtin.Str.subAt s ⟨#[c]⟩ k=false:=by rw [ZcG,z]; simp
    simp [List.range'_succ,StrLaws.occBody,b,ZG]
  | x::r,k,free,found,e,hf,hl=>by
    have hk:s.cps.toList[k]?=some x:=by
      have:=congrArg List.head? e
      rw [List.head?_drop] at this
      simpa using this
    have hd:s.cps.toList.drop (k+1)=r:=by
      rw [←List.drop_drop,e]
      rfl
    have hlen:k+1≤s.length:=by
      have:=(List.getElem?_eq_some_iff.mp hk).1
      have e2:s.length=s.cps.toList.length:=by simp [Str.length]
      omega
    have l1:(⟨#[c]⟩:Str).length=1:=rfl
    rw [show (x::r).length+1=(r.length+1)+1 from rfl,List.range'_succ,List.forIn_cons]
    by_cases q:x=c
    · have b:Builtin.Str.subAt s ⟨#[c]⟩ k=true:=by rw [ZcG,hk,q]; simp
      have ih:=ZbN s c lim r (k+1) (k+1) (found.push k) hd (Nat.le_refl _) (by simp at hl ⊢; omega)
      have cnd:(((found,free).fst.size<lim∧(found,free).snd≤k)∧k+(⟨#[c]⟩:Str).length≤s.length)∧Builtin.Str.subAt s ⟨#[c]⟩ k=true:=⟨⟨⟨by show found.size<lim; omega,hf⟩,by rw [l1]; exact hlen⟩,b⟩
      have eb:StrLaws.occBody s ⟨#[c]⟩ s.length lim k (found,free)=pure (ForInStep.yield (found.push k,k+1)):=by
        unfold StrLaws.occBody
        rw [if_pos cnd,l1]
      rw [eb]
      simp only [pure_bind]
      rw [ih]
      simp [ZG,q]
    · have b:Builtin.Str.subAt s ⟨#[c]⟩ k=false:=by rw [ZcG,hk]; simp [q]
      have ih:=ZbN s c lim r (k+1) free found hd (by omega) (by simp at hl ⊢; omega)
      have eb:StrLaws.occBody s ⟨#[c]⟩ s.length lim k (found,free)=pure (ForInStep.yield (found,free)):=by
        unfold StrLaws.occBody
        rw [if_neg (fun z=>by rw [b] at z; exact absurd z.2 (by decide))]
      rw [eb]
      simp only [pure_bind]
      rw [ih]
      simp [ZG,q]
theorem ZbO (s:Str) (c:Nat):Builtin.Str.occurrences s ⟨#[c]⟩ 0 s.length (s.length+1)=ZG c 0 s.cps.toList:=by
  rw [StrLaws.occ_eq]
  have e:s.length+1-0=s.cps.toList.length+1:=by simp [Str.length]
  rw [e]
  have:=ZbN s c (s.length+1) s.cps.toList 0 0 #[] rfl (Nat.le_refl _) (by simp [Str.length])
  simpa using this
theorem Zbx {a b:Str} (h:a.cps.toList=b.cps.toList):a=b:=by
  cases a
  cases b
  congr 1
  exact Array.toList_inj.mp h
theorem ZaP (s:Str) (i j:Nat):(Builtin.Str.strSub s i j).cps.toList=(s.cps.toList.drop i).take (j-i):=StrLaws.strSub_toList s i j
theorem zr (s:Str):s.length=s.cps.toList.length:=by simp [Str.length]
theorem Zcg (f:Nat→Nat→Str) (g:Nat→Nat→Str) (m:Nat) (h:∀i j,f (i+m) (j+m)=g i j):∀(as bs:List Nat),((as.map (·+m)).zip (bs.map (·+m))).map (fun p=>f p.1 p.2)=(as.zip bs).map fun p=>g p.1 p.2
  | [],bs=>by simp
  | a::as,[]=>by simp
  | a::as,b::bs=>by
    simp only [List.map_cons,List.zip_cons_cons,h]
    congr 1
    exact Zcg f g m h as bs
theorem Za8 (s:Str):Builtin.Str.partsBetween s [] 1=[s]:=by
  unfold Builtin.Str.partsBetween
  simp only [List.map_nil,List.nil_append,List.zip_cons_cons,List.zip_nil_left,List.map_cons,List.cons.injEq,and_true]
  refine Zbx ?_
  rw [ZaP,zr,List.drop_zero,Nat.sub_zero,List.take_length]
theorem ZdQ {s s':Str} {w x:List Nat} (h:s.cps.toList=w++32::x) (h':s'.cps.toList=x) (hw:32∉w):Builtin.Str.partsBetween s (ZG 32 0 s.cps.toList) 1=⟨w.toArray⟩::Builtin.Str.partsBetween s' (ZG 32 0 s'.cps.toList) 1:=by
  have p:ZG 32 0 s.cps.toList=w.length::(ZG 32 0 x).map (·+(w.length+1)):=by
    rw [h,ZbK,Za7 hw,List.nil_append,Nat.zero_add]
    show (if (32:Nat)=32 then w.length::ZG 32 (w.length+1) x else _)=_
    rw [if_pos rfl]
    have:=ZbL 32 x 0 (w.length+1)
    rw [Nat.zero_add] at this
    rw [this]
  have ls:s.length=s'.length+(w.length+1):=by
    rw [zr,zr,h,h']
    simp
    omega
  rw [p,h']
  unfold Builtin.Str.partsBetween
  simp only [List.map_cons,List.cons_append,List.zip_cons_cons,List.map_map]
  congr 1
  · refine Zbx ?_
    rw [ZaP,h]
    simp
  · have key:∀i j,Builtin.Str.strSub s (i+(w.length+1)) (j+(w.length+1))=Builtin.Str.strSub s' i j:=by
      intro i j
      refine Zbx ?_
      rw [ZaP,ZaP,h,h']
      have e1:j+(w.length+1)-(i+(w.length+1))=j-i:=by omega
      have e2:i+(w.length+1)=w.length+(1+i):=by omega
      rw [e1,e2,←List.drop_drop,List.drop_left,←List.drop_drop]
      rfl
    have z:=Zcg (Builtin.Str.strSub s) (Builtin.Str.strSub s') (w.length+1) key (0::(ZG 32 0 x).map (·+1)) (ZG 32 0 x++[s'.length])
    simp only [List.map_cons,List.map_append,List.map_map,List.map_nil] at z
    rw [ls,←z]
    congr 2
    · congr 1
      · omega
      · congr 1
        funext y
        simp only [Function.comp]
        omega
theorem Zb9:Str.ofString " "=⟨#[32]⟩:=by decide
theorem ZfU (s:Str):1≤Builtin.Str.strKind s:=by
  unfold Builtin.Str.strKind
  split
  · exact Nat.le_refl _
  · split<;>omega
theorem Zah (s:Str):Txt.split s (Str.ofString " ")=Builtin.Str.partsBetween s (ZG 32 0 s.cps.toList) 1:=by
  have k1:Builtin.Str.strKind (⟨#[32]⟩:Str)=1:=by simp [Builtin.Str.strKind]
  have l1:(⟨#[32]⟩:Str).length=1:=rfl
  unfold Txt.split
  rw [Zb9,ZbO,l1,k1]
  have kp:=ZfU s
  by_cases c:s.length<1
  · have e:s.cps.toList=[]:=by
      have:=zr s
      exact List.length_eq_zero_iff.mp (by omega)
    rw [if_pos (by simp [c]),e]
    exact (Za8 s).symm
  · rw [if_neg (by simp; omega)]
    split
    · rename_i h
      rw [List.isEmpty_iff.mp h,Za8]
    · rfl
theorem ZbI:∀(ws:List Str),ws≠[]→(∀a∈ws,32∉a.cps.toList)→Txt.split (Str.join (Str.ofString " ") ws) (Str.ofString " ")=ws
  | [],h,_=>absurd rfl h
  | [a],_,h=>by
    show Txt.split a _=[a]
    rw [Zah,Za7 (h a (by simp)),Za8]
  | a::b::r,_,h=>by
    have ih:=ZbI (b::r) (by simp) fun y hy=>h y (List.mem_cons_of_mem _ hy)
    have e:(Str.join (Str.ofString " ") (a::b::r)).cps.toList=a.cps.toList++32::(Str.join (Str.ofString " ") (b::r)).cps.toList:=by
      show (a++Str.ofString " "++Str.join (Str.ofString " ") (b::r)).cps.toList=_
      rw [Zb9]
      show ((a.cps++#[32])++(Str.join ⟨#[32]⟩ (b::r)).cps).toList=_
      simp
    rw [Zah] at ih ⊢
    rw [ZdQ e rfl (h a (by simp)),ih]
end
end My
namespace PySem.W.Fast
def tw5411605876460154048:=0
def tw13949841208102049024:=0
def tw11973535041567744320:=0
def tw10795132674173742560:=0
def tw16081049162120516096:=0
def tw11908346699115707072:=0
def tw18361140037186527040:=0
def tw1158110760239215488:=0
def tw15559608783504109504:=0
def tw11887848812759369793:=0
def tw7525779022681903425:=0
def tw12972350506622996801:=0
def tw16681569529942610337:=0
def tw14523124072223731617:=0
def tw479954468241978722:=0
def tw16969165952097117730:=0
def tw8709773580685279138:=0
def tw2910725569156160611:=0
def tw18109622809780806051:=0
def tw13054803783039311331:=0
def tw6151748128987107171:=0
def tw8439955520801882083:=0
def tw1156029387908308452:=0
def tw12300673670346461317:=0
def tw11229400703218911429:=0
def tw6068524335492135205:=0
def tw1974611231166127845:=0
def tw16316281702116691877:=0
def tw5906098192831169606:=0
def tw15490138723469704294:=0
def tw10908484565607306374:=0
def tw2935883533552429286:=0
def tw13400627948048557574:=0
def tw1554845391672337926:=0
def tw1627247546666164902:=0
def tw5321274002826628806:=0
def tw16625881651930680679:=0
def tw3525621008768315783:=0
def tw6881577127337613031:=0
def tw11753389408616173319:=0
def tw7270523357984391975:=0
def tw6591719051553858600:=0
def tw1531802780630592968:=0
def tw16678717565844400680:=0
def tw4236549458182166088:=0
def tw5524477298409796617:=0
def tw4492699272953803817:=0
def tw10969496024514604329:=0
def tw16913932653518565993:=0
def tw9025528545670632618:=0
def tw4520442561931811050:=0
def tw5349069883607361354:=0
def tw16150580455274981290:=0
def tw12154615522169955531:=0
def tw16152280341584189739:=0
def tw539259520785717835:=0
def tw12362440991070468779:=0
def tw4638744677792536267:=0
def tw7447782042870461227:=0
def tw15778369640152167596:=0
def tw7367309389552239404:=0
def tw6547878702516694029:=0
def tw3374592784189901965:=0
def tw9753182503516811789:=0
def tw12440334481533538893:=0
def tw13977858707460832077:=0
def tw14020174430225609581:=0
def tw4422718280846152750:=0
def tw1124978846270998638:=0
def tw7847361878618980494:=0
def tw4346291124458761550:=0
def tw4388785958117176046:=0
def tw13741327664815659822:=0
def tw3343570579385243566:=0
def tw3949470399793809423:=0
def tw14325863556226867695:=0
def tw13938705811901706831:=0
def tw10489656817454572143:=0
def tw16931377624921949039:=0
def tw11973764147867621263:=0
def tw5420267297437637744:=0
def tw11282074780566583408:=0
def tw1642254232544677296:=0
def tw2305779490135811664:=0
def tw17063508324793975568:=0
def tw6716163453089935537:=0
def tw2056051584480417073:=0
def tw17158717464645376849:=0
def tw12921214815375973233:=0
def tw3965877017439196081:=0
def tw11361765580719562130:=0
def tw10832043239608582674:=0
def tw7378140604988475218:=0
def tw1841929115609306163:=0
def tw2002966932632264883:=0
def tw5985096985742291315:=0
def tw15940372023734737587:=0
def tw15127539455911283379:=0
def tw16997333872255833843:=0
def tw4694394537183204083:=0
def tw5451776011983459091:=0
def tw6296963903098229651:=0
def tw16074952093460470484:=0
def tw11071081003312333716:=0
def tw13683927524706866293:=0
def tw14094455455443158229:=0
def tw3158992666144871893:=0
def tw17389397482489806709:=0
def tw2562827872161478549:=0
def tw10770600320169358486:=0
def tw11856388320232948310:=0
def tw16162718905226413750:=0
def tw916491416682469046:=0
def tw11761887606182287158:=0
def tw17788951294431434614:=0
def tw16292772357313213302:=0
def tw11318195086946574391:=0
def tw12537975832224812279:=0
def tw12278870612256783671:=0
def tw3982494587369918903:=0
def tw2808243011960133111:=0
def tw9687158459828670039:=0
def tw4932442967016634071:=0
def tw8825847674250515191:=0
def tw2403728442359095287:=0
def tw10144668250447814968:=0
def tw6401899077249688504:=0
def tw16168180962938123801:=0
def tw9747080898691142265:=0
def tw2823013031317189018:=0
def tw14828321570097566266:=0
def tw12632997438161382970:=0
def tw14223962795846020698:=0
def tw1147101557794418426:=0
def tw9601583380986701690:=0
def tw8848566633580783867:=0
def tw15060147072689476955:=0
def tw10262253948324234843:=0
def tw7917651581179172475:=0
def tw1712218904719298299:=0
def tw1458346544659583068:=0
def tw14542556221125496028:=0
def tw10718551955864953340:=0
def tw2150704827158901404:=0
def tw2802951507589684892:=0
def tw12052864338635806588:=0
def tw4592914590609262077:=0
def tw11429793428820283550:=0
def tw8926020537063462046:=0
def tw3404641120509881598:=0
def tw1856050473780281950:=0
def tw3046649377556746878:=0
def tw1936857633484603551:=0
def tw9568681521576492223:=0
def tw6833267937137074399:=0
def tw1747983707341246915:=0
end PySem.W.Fast
namespace My
open PySem L2 L2.MM
noncomputable section
def zj:SM:=(zP (zE (mC (.str "")) (Zac (mIn (Zd 0)) [] (mOp Zp (mOp ixM (mC (.str "0123456789abcdef")) (mOp Z7 (mOp Zaz (Zd 0) (mC (.int 16))) (mC (.int 16)))) (mOp ixM (mC (.str "0123456789abcdef")) (mOp Z7 (Zd 0) (mC (.int 16))))))))
def zg:GM:=zQ 1 1 zj
def zv:SM:=(ZC (ZA 1 (ZaL [("fin",1),("syn",2),("rst",4),("psh",8),("ack",16)] [0] (ZL (mOp eqM (mCB ZaQ (Zc (Zd 2) (Zc (Zd 1) Zj))) (mC (.int 1)))) (Zd 0)))
  (zP (ZeV (ZL (mOp gtM (mCB zu (Zc (Zd 1) Zj)) (mC (.int 0)))) (zE (mC (.str "+")) (Zd 1)) (mC (.str "none")))))
def Zv:GM:=zQ 1 2 zv
def zR:SM:=(ZC (ZA 1 (Zac (mIn (ZaK (Zc (mC (.int 0)) (Zc (mC (.int 1)) (Zc (mC (.int 2)) (Zc (mC (.int 3)) Zj)))))) [0] (mCB Zax (Zc (mOp ixM (Zd 1) (Zd 0)) Zj))))
  (ZC (ZA 2 (Zac (mIn (ZaK (Zc (mC (.int 5)) (Zc (mC (.int 6)) Zj)))) [0] (mCB Zax (Zc (mOp ixM (Zd 1) (Zd 0)) Zj))))
  (ZC (ZA 3 (ZeV (ZL (mOp gtM (mCB zu (Zc (mOp ixM (Zd 0) (mC (.int 7))) Zj)) (mC (.int 0)))) (ZaU (Zc (mCB zg (Zc (mOp ixM (Zd 0) (mC (.int 7))) Zj)) Zj)) (ZaU Zj)))
  (zP (zE (mC (.str " ")) (mOp Zp (mOp Zp (mOp Zp (Zd 1) (ZaU (Zc (mCB Zv (Zc (mOp ixM (Zd 0) (mC (.int 4))) Zj)) Zj))) (Zd 2)) (Zd 3)))))))
def zX:GM:=zQ 1 4 zR
def ZcA:SM:=(zP (ZbY (mOp neM (Zd 0) (mC (.str ""))) (mCB Zgc (Zc (ZbW (Zd 0) [1] (mOp ZfW (Zd 0) (Zd 1))) Zj))))
def zZ:GM:=zQ 2 2 ZcA
def ZaI:SM:=(zP (mOp Zp (mOp ZbT (mC (.int 16)) (z5 (mC (.str "0123456789abcdef")) (Zd 0))) (z5 (mC (.str "0123456789abcdef")) (Zd 1))))
def zc:GM:=zQ 2 2 ZaI
def Zae:SM:=(mIf (mOr (ZfQ (Zdo (mCB zZ (Zc (Zd 0) (Zc (mC (.str "0123456789abcdef")) Zj))))) (mOr (ZL (mOp eqM (mOp Z7 (mCB zu (Zc (Zd 0) Zj)) (mC (.int 2))) (mC (.int 1)))) (ZL (mOp gtM (mCB zu (Zc (Zd 0) Zj)) (mOp ZbT (mC (.int 2)) (mC (.int 16))))))) Zdq zq)
def ZaH:SM:=(ZC Zae
  (zP (mCB ZbF (Zc (ZbX (Zc (mC (.int 0)) (Zc (mCB zu (Zc (Zd 0) Zj)) (Zc (mC (.int 2)) Zj))) [0] (mCB zc (Zc (mOp ixM (Zd 1) (Zd 0)) (Zc (mOp ixM (Zd 1) (mOp Zp (Zd 0) (mC (.int 1)))) Zj)))) Zj))))
def zp:GM:=zQ 1 1 ZaH
def ZY:SM:=(mIf (ZL (mOp eqM (mCB Zv (Zc (Zd 1) Zj)) (Zd 0))) (zP (Zd 1)) zq)
def zl:SM:=(Zdp (zO (Zc (mOp Zp (mC (.int 31)) (mC (.int 1))) Zj)) (gNm 1) ZY)
def Zal:SM:=(ZC zl
  Zdq)
def zh:GM:=zQ 1 2 Zal
def zH:SM:=(mIf (mOr (ZfQ (Zdo (mCB zZ (Zc (Zd 0) (Zc (mC (.str "0123456789")) Zj))))) (ZL (mOp gtM (mCB zu (Zc (Zd 0) Zj)) (mCB zu (Zc (mCB Zax (Zc (Zd 1) Zj)) Zj))))) Zdq zq)
def zG:SM:=(mIf (mOr (ZL (mOp gtM (Zd 2) (Zd 1))) (ZL (mOp neM (mCB Zax (Zc (Zd 2) Zj)) (Zd 0)))) Zdq zq)
def Zad:SM:=(ZC zH
  (ZC (ZA 2 (mCB Zdt (Zc (Zd 0) Zj)))
  (ZC zG
  (zP (Zd 2)))))
def Zt:GM:=zQ 2 3 Zad
def zw:SM:=(mIf (ZgI (ZL (mOp neM (Zd 2) (mC (.int 0)))) (mOr (ZL (mOp ltM (Zd 2) (mC (.int 4)))) (ZL (mOp eqM (mCB ZaQ (Zc (Zd 1) (Zc (mC (.int 2)) Zj))) (mC (.int 0)))))) Zdq zq)
def zI:SM:=(ZC (ZA 2 (mCB Zt (Zc (Zd 0) (Zc (mC (.int 65535)) Zj))))
  (ZC zw
  (zP (Zd 2))))
def zb:GM:=zQ 2 3 zI
def Zam:SM:=(mIf (ZL (mOp ZbQ (mCB zu (Zc (Zd 1) Zj)) (ZaK (Zc (mC (.int 7)) (Zc (mOp Zp (mC (.int 7)) (mC (.int 1))) Zj))))) Zdq zq)
def Zbk:SM:=(ZC (ZA 1 (ZcP (Zd 0) (mC (.str " "))))
  (ZC Zam
  (ZC (ZA 2 (ZaK (Zc (mCB Zt (Zc (mOp ixM (Zd 1) (mC (.int 0))) (Zc (mC (.int 65535)) Zj))) (Zc (mCB Zt (Zc (mOp ixM (Zd 1) (mC (.int 1))) (Zc (mC (.int 65535)) Zj))) Zj))))
  (ZC (ZA 3 (ZaK (Zc (mCB Zt (Zc (mOp ixM (Zd 1) (mC (.int 2))) (Zc (mC (.int 4294967295)) Zj))) (Zc (mCB Zt (Zc (mOp ixM (Zd 1) (mC (.int 3))) (Zc (mC (.int 4294967295)) Zj))) Zj))))
  (ZC (ZA 4 (mCB zh (Zc (mOp ixM (Zd 1) (mC (.int 4))) Zj)))
  (ZC (ZA 5 (mCB Zt (Zc (mOp ixM (Zd 1) (mC (.int 5))) (Zc (mC (.int 65535)) Zj))))
  (ZC (ZA 6 (mCB zb (Zc (mOp ixM (Zd 1) (mC (.int 6))) (Zc (Zd 4) Zj))))
  (ZC (ZA 7 (ZeV (ZL (mOp gtM (mCB zu (Zc (Zd 1) Zj)) (mC (.int 7)))) (mCB zp (Zc (mOp ixM (Zd 1) (mC (.int 7))) Zj)) (ZaK Zj)))
  (zP (mOp Zp (mOp Zp (Zd 2) (Zd 3)) (ZaK (Zc (Zd 4) (Zc (Zd 5) (Zc (Zd 6) (Zc (Zd 7) Zj)))))))))))))))
def zY:GM:=zQ 1 8 Zbk
def Zat:SM:=(mIf (ZL (mOp eqM (Zd 4) (mC (.str "")))) (ZA 4 (mC (.str "none"))) zq)
def Zbm:SM:=(Zdp (mIn (mSl (Zd 1) ZcR (ZfP (mC (.int 4))))) (gNm 6) (ZA 5 (mOp Zp (mOp Zp (Zd 5) (mCB Zax (Zc (Zd 6) Zj))) (mC (.str " ")))))
def ZcB:SM:=(Zdp (mIn (mOp ixM (Zd 1) (mC (.int 7)))) (gNm 7) (ZA 5 (mOp Zp (mOp Zp (Zd 5) (mOp ixM (mC (.str "0123456789abcdef")) (mOp Zaz (Zd 7) (mC (.int 16))))) (mOp ixM (mC (.str "0123456789abcdef")) (mOp Z7 (Zd 7) (mC (.int 16)))))))
def b_l_law_4:SM:=(mIf (Zdo (mOp ixM (Zd 1) (mC (.int 7)))) (ZC (ZA 5 (mOp Zp (Zd 5) (mC (.str " "))))
    ZcB) zq)
def Zbl:SM:=(mIf (mOr (ZfQ (Zdo (mCB ZaD (Zc (Zd 8) (Zc (mC (.ty "str")) Zj))))) (ZL (mOp neM (Zd 8) (Zd 5)))) (zP (mC (.bl false))) zq)
def ZcZ:SM:=(ZC (ZA 1 (mCB Zct (Zc (Zd 0) (Zc (mC (.int 0)) Zj))))
  (ZC (ZA 2 (ZaU (Zc (mC (.str "fin")) (Zc (mC (.str "syn")) (Zc (mC (.str "rst")) (Zc (mC (.str "psh")) (Zc (mC (.str "ack")) Zj)))))))
  (ZC (ZA 3 (ZaU (Zc (mC (.int 1)) (Zc (mC (.int 2)) (Zc (mC (.int 4)) (Zc (mC (.int 8)) (Zc (mC (.int 16)) Zj)))))))
  (ZC (ZA 4 (zE (mC (.str "+")) (ZaM (zO (Zc (mC (.int 5)) Zj)) [2,1,3] (ZL (mOp eqM (mOp Z7 (mOp Zaz (mOp ixM (Zd 2) (mC (.int 4))) (mOp ixM (Zd 3) (Zd 0))) (mC (.int 2))) (mC (.int 1)))) (mOp ixM (Zd 1) (Zd 0)))))
  (ZC Zat
  (ZC (ZA 5 (mC (.str "")))
  (ZC Zbm
  (ZC (ZA 5 (mOp Zp (mOp Zp (mOp Zp (mOp Zp (mOp Zp (Zd 5) (Zd 4)) (mC (.str " "))) (mCB Zax (Zc (mOp ixM (Zd 1) (mC (.int 5))) Zj))) (mC (.str " "))) (mCB Zax (Zc (mOp ixM (Zd 1) (mC (.int 6))) Zj))))
  (ZC b_l_law_4
  (ZC (ZA 8 (mCB zX (Zc (Zd 1) Zj)))
  (ZC Zbl
  (ZC (ZA 9 (mCB zY (Zc (Zd 8) Zj)))
  (zP (ZbY (mCB ZaD (Zc (Zd 9) (Zc (mC (.ty "tuple")) Zj))) (ZbY (mOp eqM (Zd 9) (Zd 1)) (mCB ZaD (Zc (mOp ixM (Zd 9) (mC (.int 7))) (Zc (mC (.ty "tuple")) Zj))))))))))))))))))
def Zei:GM:=zQ 1 10 ZcZ
def txt (n:Int):Str:=Str.ofString (toString n)
theorem Za3 {n:Int} (h:0≤n):∀c∈(txt n).cps.toList,48≤c∧c≤57:=by
  obtain ⟨m,rfl⟩:=Int.eq_ofNat_of_zero_le h
  intro c hc
  unfold txt at hc
  rw [PySem.W.KIN.signs_num] at hc
  obtain ⟨ch,hch,e⟩:=List.mem_map.mp hc
  have r:=PyProof.Rows.digit_range (Nat.isDigit_of_mem_toDigits (by decide) (by decide) hch)
  rw [←e]
  exact r
theorem Zfc {n:Int} (h0:0≤n):(txt n).cps.toList≠[]:=by
  obtain ⟨m,rfl⟩:=Int.eq_ofNat_of_zero_le h0
  unfold txt
  rw [PySem.W.KIN.signs_num]
  simp [Nat.toDigits_ne_nil]
theorem Zez {n:Int} (h0:0≤n) (h1:n≤4294967295):PySem.intText? (txt n)=some n:=PySem.W.KIN.num_reads h0 (by omega)
theorem Z6 {n:Int} (h0:0≤n) (h1:n≤4294967295):(txt n).length≤10:=PyProof.Rows.toString_length_le h0 (by decide) (by omega)
theorem Zfd {n:Int} (h0:0≤n) (h1:n≤65535):(txt n).length≤5:=PyProof.Rows.toString_length_le h0 (by decide) (by omega)
theorem Zaf {n:Int} (h0:0≤n) (h1:n≤4294967295) (θ:Sto):Zax [.int n] θ=.ok (.str (txt n)) θ:=by
  have h:n.natAbs.log2<1920:=by
    by_cases z:n.natAbs=0
    · rw [z]; decide
    · rw [Nat.log2_lt z]
      refine Nat.lt_of_lt_of_le (m:=2 ^ 33) (by omega) (Nat.pow_le_pow_right (by decide) (by decide))
  unfold Zax
  simp only [if_pos h]
  rfl
def Asc (x:Str):Prop:=∀c∈x.cps.toList,c<128
theorem Asc.ok {x:Str} (h:Asc x):PyData.strOk x=true:=by
  unfold PyData.strOk
  rw [Array.all_eq_true_iff_forall_mem]
  intro c hc
  have:=h c (Array.mem_toList_iff.mpr hc)
  simp
  omega
theorem Zf4 {a b:Str} (ha:Asc a) (hb:Asc b) (θ:Sto):eqM (.str a) (.str b) θ=.ok (.bl (decide (a=b))) θ:=by
  rw [ZdY (x:=.str a) (y:=.str b) (Zb6 (show PyData.strOk a=true from ha.ok) (show PyData.strOk b=true from hb.ok) rfl rfl)]
  simp [look]
theorem ZdS {a b:Str} (ha:Asc a) (hb:Asc b) (θ:Sto):neM (.str a) (.str b) θ=.ok (.bl (!decide (a=b))) θ:=by
  rw [ZfG (x:=.str a) (y:=.str b) (Zb6 (show PyData.strOk a=true from ha.ok) (show PyData.strOk b=true from hb.ok) rfl rfl)]
  simp [look]
theorem Zcb (x:Str) (h:x.cps.toList.all (fun c=>decide (c<128))=true):Asc x:=fun c hc=>by
  have:=List.all_eq_true.mp h c hc
  simpa using this
theorem Zc2 {n:Int} (h:0≤n):Asc (txt n):=fun c hc=>by have:=Za3 h c hc; omega
theorem Zev {a b:Str} (ha:Asc a) (hb:Asc b):Asc (a++b):=fun c hc=>by
  have e:(a++b).cps.toList=a.cps.toList++b.cps.toList:=by
    show (a.cps++b.cps).toList=_
    simp
  rw [e] at hc
  exact (List.mem_append.mp hc).elim (ha c) (hb c)
theorem Zbh {elt:D→Sto→R D} {θ:Sto} (f:D→D):∀(xs acc:List D),(∀x∈xs,elt x θ=.ok (f x) θ)→acc.length+xs.length≤BIG→ZaF elt xs acc θ=.ok (.lst (acc++xs.map f)) θ
  | [],acc,_,h=>by
    unfold ZaF
    rw [if_pos (by simpa using h)]
    simp
  | x::r,acc,he,h=>by
    unfold ZaF
    rw [he x (by simp),R.bind_ok,Zbh f r (acc++[f x]) (fun y hy=>he y (List.mem_cons_of_mem _ hy)) (by simp at h ⊢; omega)]
    simp
theorem Zd6 {w F:Str} (hw:w.cps.toList≠[]) (hs:∀c∈w.cps.toList,c<128∧c∈F.cps.toList) (hl:w.length≤1000) (θ:Sto):zZ [.str w,.str F] θ=.ok (.bl true) θ:=by
  have ne:¬w=Str.ofString "":=fun e=>hw (by rw [e]; decide)
  have asc:(w.cps.all (· < 128))=true:=by
    rw [Array.all_eq_true_iff_forall_mem]
    intro c hc
    have:=(hs c (Array.mem_toList_iff.mpr hc)).1
    simpa using this
  have ll:(Zab w).length≤BIG:=by
    have:(Zab w).length=w.length:=by simp [Zab,Str.length]
    rw [this]
    simp [BIG]
    omega
  have cp:∀ρ:List Sl,ρ[0]?=some (Sl.val (.str w))→ρ[1]?=some (Sl.val (.str F))→ZbW (Zd 0) [1] (mOp ZfW (Zd 0) (Zd 1)) ρ θ=.ok (.lst ((Zab w).map fun _=>.bl true)) θ:=by
    intro ρ h0 h1
    unfold ZbW
    rw [Zc9,h0]
    simp only [R.bind_ok]
    rw [if_pos ⟨asc,ll⟩,Zbh (fun _=>.bl true) _ _ ?_ (by simpa using ll)]
    · simp
    · intro x hx
      obtain ⟨c,hc,rfl⟩:=List.mem_map.mp hx
      have fo:=StrLaws.found_one F c
      rw [decide_eq_true (hs c hc).2] at fo
      simp [ZM,h1,ZfW,fo]
  have al:Zgc [D.lst ((Zab w).map fun _=>D.bl true)] θ=.ok (.bl true) θ:=by
    rw [Zii,ZgR]
    simp only [Zgb]
  have n1:=ZdS (a:=w) (b:=Str.ofString "") (fun c hc=>(hs c hc).1) (Zcb _ (by decide)) θ
  rw [decide_eq_false ne] at n1
  have n2:neM (.str w) (.str Err.none.s) θ=.ok (.bl true) θ:=n1
  simp [zZ,ZcA,n2,cp,al]
abbrev figT:Str:=Str.ofString "0123456789"
abbrev hexT:Str:=Str.ofString "0123456789abcdef"
theorem ZgP {c:Nat} (h:48≤c∧c≤57):c∈figT.cps.toList:=by
  have:c=48∨c=49∨c=50∨c=51∨c=52∨c=53∨c=54∨c=55∨c=56∨c=57:=by omega
  rcases this with rfl | rfl | rfl | rfl | rfl | rfl | rfl | rfl | rfl | rfl<;>decide
theorem Z0 {n g:Int} (h0:0≤n) (h1:n≤g) (hg:g=65535∨g=4294967295) (θ:Sto):Zt [.str (txt n),.int g] θ=.ok (.int n) θ:=by
  have n1:n≤4294967295:=by omega
  have io:=Zd6 (w:=txt n) (F:=figT) (Zfc h0) (fun c hc=>by have:=Za3 h0 c hc; exact ⟨by omega,ZgP this⟩) (by have:=Z6 h0 n1; omega) θ
  have sg:=Zaf (n:=g) (by omega) (by omega) θ
  have sn:=Zaf h0 n1 θ
  have ln:zu [.str (txt n)] θ=.ok (.int (txt n).length) θ:=by
    have:=Z6 h0 n1
    simp [zu,BIG]
    omega
  have lg:zu [.str (txt g)] θ=.ok (.int (txt g).length) θ:=by
    have:=Z6 (n:=g) (by omega) (by omega)
    simp [zu,BIG]
    omega
  have le:¬((txt g).length:Int)<((txt n).length:Int):=by
    rcases hg with rfl | rfl
    · have a:=Zfd h0 h1
      have b:(txt 65535).length=5:=by decide
      omega
    · have a:=Z6 h0 n1
      have b:(txt 4294967295).length=10:=by decide
      omega
  have ii:Zdt [.str (txt n)] θ=.ok (.int n) θ:=by
    have:=Z6 h0 n1
    unfold Zdt
    simp only [Zez h0 n1]
    rw [if_pos (by omega)]
  have nn:=ZdS (Zc2 h0) (Zc2 h0) θ
  rw [decide_eq_true rfl] at nn
  have ng:¬g<n:=by omega
  simp [Zt,Zad,zH,zG,io,sg,ln,lg,le,ii,ng,sn,nn]
def flagPs:List (Str×Int):=[("fin",1),("syn",2),("rst",4),("psh",8),("ack",16)]
def nmF (f:Int):List Str:=(flagPs.filter fun kn=>decide (bit f kn.2=1)).map (·.1)
def Zk (f:Int):Str:=if nmF f=[] then Str.ofString "none" else Txt.join (Str.ofString "+") (nmF f)
theorem Zbi {tst:D→D→Sto→R Bool} {elt:D→D→Sto→R D} {θ:Sto} (p:Int→Bool) (ht:∀k n,tst (.str k) (.int n) θ=.ok (p n) θ) (he:∀k n,elt (.str k) (.int n) θ=.ok (.str k) θ):∀(ps:List (Str×Int)) (acc:List D),acc.length+ps.length≤BIG→
    z8 tst elt ps acc θ=.ok (.lst (acc++((ps.filter fun kn=>p kn.2).map (·.1)).map D.str)) θ
  | [],acc,h=>by
    unfold z8
    rw [if_pos (by simpa using h)]
    simp
  | (k,n)::r,acc,h=>by
    unfold z8
    rw [ht,R.bind_ok]
    cases q:p n with
    | true=>
      rw [if_pos rfl,he,R.bind_ok,Zbi p ht he r (acc++[D.str k]) (by simp at h ⊢; omega)]
      simp [q]
    | false=>
      rw [if_neg (by decide),Zbi p ht he r acc (by simp at h ⊢; omega)]
      simp [q]
theorem zK:∀ts:List Str,Zcm (ts.map D.str)=some ts
  | []=>rfl
  | t::ts=>by simp [Zcm,zK ts]
theorem Zb4:∀f:Fin 32,JoinOk (Str.ofString "+") (nmF (f.val:Int))=true:=by decide +kernel
theorem ZaB {f:Int} (h:0≤f∧f≤31) (θ:Sto):Zv [.int f] θ=.ok (.str (Zk f)) θ:=by
  have cp:∀ρ:List Sl,ρ[0]?=some (Sl.val (.int f))→ZaL [("fin",1),("syn",2),("rst",4),("psh",8),("ack",16)] [0] (ZL (mOp eqM (mCB ZaQ (Zc (Zd 2) (Zc (Zd 1) Zj))) (mC (.int 1)))) (Zd 0) ρ θ=.ok (.lst ((nmF f).map D.str)) θ:=by
    intro ρ h0
    unfold ZaL
    rw [if_pos (by decide)]
    have:=Zbi (tst:=fun x y θ=>(ZL (mOp eqM (mCB ZaQ (Zc (Zd 2) (Zc (Zd 1) Zj))) (mC (.int 1)))) (zi [0] ρ x y) θ) (elt:=fun x y θ=>(Zd 0) (zi [0] ρ x y) θ) (θ:=θ) (fun n=>decide (bit f n=1)) (by intro k n; simp [zi,h0]) (by intro k n; simp [zi]) flagPs [] (by decide)
    rw [List.nil_append] at this
    exact this
  have jo:=Zb4 ⟨f.toNat,by omega⟩
  simp only [show ((f.toNat:Nat):Int)=f by omega] at jo
  have jn:∀ρ:List Sl,ρ[1]?=some (Sl.val (.lst ((nmF f).map D.str)))→zE (mC (.str "+")) (Zd 1) ρ θ=.ok (.str (Txt.join (Str.ofString "+") (nmF f))) θ:=by
    intro ρ h1
    unfold zE
    simp [h1,ZO,zK,jo]
  unfold Zk
  by_cases e:nmF f=[]
  · simp [Zv,zv,cp,e]
  · have pos:0<(nmF f).length:=List.length_pos_iff.mpr e
    simp [Zv,zv,cp,e,jn,pos]
theorem Zf2:∀i j:Fin 32,Zk (i.val:Int)=Zk (j.val:Int)→i=j:=by decide +kernel
theorem Zf3:∀i:Fin 32,(Zk (i.val:Int)).cps.toList.all (fun c=>decide (c<128) && decide (c≠32))=true:=by decide +kernel
theorem Zbo {f:Int} (h:0≤f∧f≤31):Asc (Zk f)∧32∉(Zk f).cps.toList:=by
  have:=Zf3 ⟨f.toNat,by omega⟩
  simp only [show ((f.toNat:Nat):Int)=f by omega] at this
  refine ⟨fun c hc=>?_,fun hc=>?_⟩
  · have z:=List.all_eq_true.mp this c hc
    simp at z
    exact z.1
  · have z:=List.all_eq_true.mp this 32 hc
    simp at z
theorem ZcF {f:Int} (h:0≤f∧f≤31) (θ:Sto):zh [.str (Zk f)] θ=.ok (.int f) θ:=by
  have stepE:∀(i:Nat) (x:Sl),i<32→ZY [.val (.str (Zk f)),.val (.int (i:Int))] θ=if (i:Int)=f then .ok (.rt (.int f),[.val (.str (Zk f)),.val (.int (i:Int))]) θ else .ok (.nx,[.val (.str (Zk f)),.val (.int (i:Int))]) θ:=by
    intro i x hi
    have sf:=ZaB (f:=(i:Int)) (by omega) θ
    have ee:=Zf4 (Zbo (f:=(i:Int)) (by omega)).1 (Zbo h).1 θ
    have iff:(Zk (i:Int)=Zk f)↔(i:Int)=f:=by
      constructor
      · intro e
        have:=Zf2 ⟨i,hi⟩ ⟨f.toNat,by omega⟩ (by simp only [show ((f.toNat:Nat):Int)=f by omega]; exact e)
        have:=congrArg Fin.val this
        simp at this
        omega
      · intro e
        rw [e]
    rw [decide_eq_decide.mpr iff] at ee
    by_cases c:(i:Int)=f
    · rw [if_pos c]
      rw [decide_eq_true c] at ee
      rw [c] at sf ee ⊢
      simp [ZY,sf,ee]
    · rw [if_neg c]
      rw [decide_eq_false c] at ee
      simp [ZY,sf,ee]
  have lo:∀(k:Nat) (m:Nat) (x:Sl),k+m=32→(k:Int)≤f→forL (.rng 0 32) ((List.range 32).map fun (i:Nat)=>D.int (0+(i:Int))) (gNm 1) ZY (((List.range 32).map fun (i:Nat)=>D.int (0+(i:Int))).drop k) [.val (.str (Zk f)),x] θ=.ok (.rt (.int f),[.val (.str (Zk f)),.val (.int f)]) θ:=by
    intro k m
    induction m generalizing k with
    | zero=>intro x e hk; omega
    | succ m ih=>
      intro x e hk
      have hlt:k<((List.range 32).map fun (i:Nat)=>D.int (0+(i:Int))).length:=by simp; omega
      have hx:((List.range 32).map fun (i:Nat)=>D.int (0+(i:Int)))[k]=D.int (k:Int):=by simp
      have hit:(Src.rng 0 32).items θ=some ((List.range 32).map fun (i:Nat)=>D.int (0+(i:Int))):=rfl
      rw [List.drop_eq_getElem_cons hlt,hx]
      simp only [forL,hit,if_true]
      have hg:gNm 1 (D.int (k:Int)) [.val (.str (Zk f)),x]=some [.val (.str (Zk f)),.val (.int (k:Int))]:=rfl
      rw [hg]
      simp only []
      rw [stepE k x (by omega)]
      by_cases c:(k:Int)=f
      · rw [if_pos c,R.bind_ok,Zex,c]
      · rw [if_neg c,R.bind_ok,Za2]
        exact ih (k+1) _ (by omega) (by omega)
  have fo:zl [.val (.str (Zk f)),.no] θ=.ok (.rt (.int f),[.val (.str (Zk f)),.val (.int f)]) θ:=by
    have:=lo 0 32 .no rfl (by omega)
    rw [List.drop_zero] at this
    rw [←this]
    have rg:zO (Zc (mOp Zp (mC (.int 31)) (mC (.int 1))) Zj) [.val (.str (Zk f)),.no] θ=.ok (.rng 0 32) θ:=by simp
    unfold zl Zdp
    rw [rg,R.bind_ok]
    rfl
  simp [zh,Zal,Z9,fo]
theorem Zdb {m f:Int} (h0:m=0∨(4≤m∧m≤65535∧f/2 % 2=1)) (hf:0≤f∧f≤31) (θ:Sto):zb [.str (txt m),.int f] θ=.ok (.int m) θ:=by
  have rn:=Z0 (n:=m) (g:=65535) (by omega) (by omega) (.inl rfl) θ
  have b2:=(ZjP hf).2.1
  rcases h0 with rfl | ⟨h1,h2,h3⟩
  · simp [zb,zI,zw,rn]
  · have e1:¬m=0:=by omega
    have e2:¬m<4:=by omega
    simp [zb,zI,zw,rn,e1,e2,b2,h3]
def hx (k:Nat):Nat:=hexT.cps.toList.getD k 0
theorem Zek {k:Int} (h:0≤k∧k<16) (θ:Sto):ixM (.str hexT) (.int k) θ=.ok (.str ⟨#[hx k.toNat]⟩) θ:=by
  obtain ⟨n,rfl⟩:=Int.eq_ofNat_of_zero_le h.1
  have hn:n<16:=by omega
  have:n=0∨n=1∨n=2∨n=3∨n=4∨n=5∨n=6∨n=7∨n=8∨n=9∨n=10∨n=11∨n=12∨n=13∨n=14∨n=15:=by omega
  rcases this with rfl | rfl | rfl | rfl | rfl | rfl | rfl | rfl | rfl | rfl | rfl | rfl | rfl | rfl | rfl | rfl<;>rfl
theorem Zel:∀k:Fin 16,Builtin.Str.occurrences hexT ⟨#[hx k.val]⟩ 0 hexT.length 1=[k.val]∧hx k.val<128∧hx k.val∈hexT.cps.toList∧hx k.val≠32:=by decide +kernel
def Zbe (b:Int):Str:=(⟨#[hx (b/16).toNat]⟩:Str)++(⟨#[hx (b % 16).toNat]⟩:Str)
def ZX (xs:List Int):Str:=Txt.join (Str.ofString "") (xs.map Zbe)
def ZaZ:List Int→List Nat
  | []=>[]
  | b::r=>hx (b/16).toNat::hx (b % 16).toNat::ZaZ r
theorem Z5 (a b:Str):(a++b).cps.toList=a.cps.toList++b.cps.toList:=by
  show (a.cps++b.cps).toList=_
  simp
theorem Zcu:∀xs:List Int,(Str.join (Str.ofString "") (xs.map Zbe)).cps.toList=ZaZ xs
  | []=>by decide
  | [b]=>by
    show (Zbe b).cps.toList=_
    unfold Zbe
    rw [Z5]
    rfl
  | b::c::r=>by
    have ih:=Zcu (c::r)
    show (Zbe b++Str.ofString ""++Str.join (Str.ofString "") ((c::r).map Zbe)).cps.toList=_
    rw [Z5,Z5,ih]
    have e:(Str.ofString "").cps.toList=[]:=by decide
    rw [e,List.append_nil]
    unfold Zbe
    rw [Z5]
    rfl
theorem zk (xs:List Int):(ZX xs).cps.toList=ZaZ xs:=by
  unfold ZX Txt.join
  rw [StrLaws.glued_eq_join]
  exact Zcu xs
theorem Zb3:∀xs:List Int,(ZaZ xs).length=2*xs.length
  | []=>rfl
  | b::r=>by simp [ZaZ,Zb3 r]; omega
theorem Zeo:∀(xs:List Int) (i:Nat) (b:Int),xs[i]?=some b→(ZaZ xs)[2*i]?=some (hx (b/16).toNat)∧(ZaZ xs)[2*i+1]?=some (hx (b % 16).toNat)
  | [],i,b,h=>by simp at h
  | x::r,0,b,h=>by
    simp at h
    subst h
    exact ⟨rfl,rfl⟩
  | x::r,i+1,b,h=>by
    have ih:=Zeo r i b (by simpa using h)
    have e1:2*(i+1)=2*i+1+1:=by omega
    rw [e1]
    simpa [ZaZ] using ih
theorem Zen {xs:List Int} (h:∀z∈xs,0≤z∧z≤255):∀c∈ZaZ xs,c<128∧c∈hexT.cps.toList∧c≠32:=by
  induction xs with
  | nil=>intro c hc; simp [ZaZ] at hc
  | cons b r ih=>
    intro c hc
    have hb:=h b (by simp)
    simp only [ZaZ,List.mem_cons] at hc
    rcases hc with rfl | rfl | hc
    · have:=Zel ⟨(b/16).toNat,by omega⟩
      exact ⟨this.2.1,this.2.2.1,this.2.2.2⟩
    · have:=Zel ⟨(b % 16).toNat,by omega⟩
      exact ⟨this.2.1,this.2.2.1,this.2.2.2⟩
    · exact ih (fun z hz=>h z (List.mem_cons_of_mem _ hz)) c hc
theorem Zem (g:Nat):∀(ts:List Str) (a:Nat),(∀t∈ts,t.length+g≤50)→ts.foldl (fun a t=>a+t.length+g) a≤a+ts.length*50
  | [],a,_=>by simp
  | t::r,a,h=>by
    have h1:=h t (by simp)
    have ih:=Zem g r (a+t.length+g) fun y hy=>h y (List.mem_cons_of_mem _ hy)
    simp only [List.foldl_cons,List.length_cons]
    omega
theorem ZaX {sep:Str} {ts:List Str} (h:∀t∈ts,t.length+sep.length≤50) (hl:ts.length≤100):JoinOk sep ts=true:=by
  have:=Zem sep.length ts 0 h
  unfold JoinOk Builtin.Str.tooLong
  rw [List.foldl_toArray]
  have b:ts.foldl (fun a t=>a+t.length+sep.length) 0≤sizeLine:=Zy (by simp [BIG]; omega)
  simp
  exact b
theorem ZfZ (b:Int):(Zbe b).length=2:=rfl
theorem ZcE {xs:List Int} (h:∀z∈xs,0≤z∧z≤255) (hl:xs.length≤16) (θ:Sto):zg [itp xs] θ=.ok (.str (ZX xs)) θ:=by
  have cp:=fun ρ (h0:ρ[0]?=some (Sl.val (itp xs)))=>Zbb (ρ:=ρ) (θ:=θ) (fi:=mIn (Zd 0)) (src:=[]) (elt:=mOp Zp (mOp ixM (mC (.str "0123456789abcdef")) (mOp Z7 (mOp Zaz (Zd 0) (mC (.int 16))) (mC (.int 16)))) (mOp ixM (mC (.str "0123456789abcdef")) (mOp Z7 (Zd 0) (mC (.int 16))))) (d:=itp xs) (xs:=xs.map D.int) (θ':=θ) (fun d=>match d with | .int b=>.str (Zbe b) | _=>.non) (by simp [h0]) rfl (by simp [BIG]; omega) (by
    intro x hx'
    obtain ⟨b,hb,rfl⟩:=List.mem_map.mp hx'
    have rb:=h b hb
    have e1:b/16 % 16=b/16:=by omega
    have i1:=Zek (k:=b/16) (by omega) θ
    have i2:=Zek (k:=b % 16) (by omega) θ
    have ad:Zp (.str ⟨#[hx (b/16).toNat]⟩) (.str ⟨#[hx (b % 16).toNat]⟩) θ=.ok (.str (Zbe b)) θ:=by
      unfold Zp
      exact if_pos (show 2≤BIG by decide)
    simp [ZM,e1,i1,i2,ad])
  have em:(xs.map D.int).map (fun d=>match d with | .int b=>D.str (Zbe b) | _=>.non)=(xs.map Zbe).map D.str:=by simp
  have jo:JoinOk (Str.ofString "") (xs.map Zbe)=true:=ZaX (by
    intro t ht
    obtain ⟨b,_,rfl⟩:=List.mem_map.mp ht
    rw [ZfZ]
    decide) (by simpa using (by omega:xs.length≤100))
  have jn:∀ρ:List Sl,ρ[0]?=some (Sl.val (itp xs))→zE (mC (.str "")) (Zac (mIn (Zd 0)) [] (mOp Zp (mOp ixM (mC (.str "0123456789abcdef")) (mOp Z7 (mOp Zaz (Zd 0) (mC (.int 16))) (mC (.int 16)))) (mOp ixM (mC (.str "0123456789abcdef")) (mOp Z7 (Zd 0) (mC (.int 16)))))) ρ θ=.ok (.str (ZX xs)) θ:=by
    intro ρ h0
    have c1:=cp ρ h0
    rw [em] at c1
    unfold zE
    rw [x_c]
    simp only [R.bind_ok]
    rw [c1]
    simp only [R.bind_ok,ZO,Option.bind_some,zK]
    rw [if_pos jo]
    rfl
  have fin:zj [.val (itp xs)] θ=.ok (.rt (.str (ZX xs)),[.val (itp xs)]) θ:=by
    unfold zj
    rw [Zic,jn _ rfl,R.bind_ok]
  unfold zg
  rw [ZgZ,if_pos (show [itp xs].length=1 from rfl)]
  show (zj [.val (itp xs)] θ).bind _=_
  rw [fin,R.bind_ok]
theorem Zej {w:Str} {j c:Nat} (hl:w.length≤1000) (h:w.cps.toList[j]?=some c) (θ:Sto):ixM (.str w) (.int (j:Int)) θ=.ok (.str ⟨#[c]⟩) θ:=by
  have a:atI w.cps.toList (j:Int)=some c:=Zh1 h
  unfold ixM ixD
  simp only [if_pos (show w.length≤BIG by simp [BIG]; omega),a,Option.map_some]
theorem Zdd {b:Int} (h:0≤b∧b≤255) (θ:Sto):zc [.str ⟨#[hx (b/16).toNat]⟩,.str ⟨#[hx (b % 16).toNat]⟩] θ=.ok (.int b) θ:=by
  have o1:=(Zel ⟨(b/16).toNat,by omega⟩).1
  have o2:=(Zel ⟨(b % 16).toNat,by omega⟩).1
  simp only [] at o1 o2
  have i1:∀ρ:List Sl,ρ[0]?=some (Sl.val (.str ⟨#[hx (b/16).toNat]⟩))→z5 (mC (.str "0123456789abcdef")) (Zd 0) ρ θ=.ok (.int (b/16)) θ:=by
    intro ρ h0
    unfold z5
    rw [x_c]
    simp only [R.bind_ok,Zc9,h0]
    rw [o1]
    simp only []
    rw [show (((b/16).toNat:Nat):Int)=b/16 by omega]
  have i2:∀ρ:List Sl,ρ[1]?=some (Sl.val (.str ⟨#[hx (b % 16).toNat]⟩))→z5 (mC (.str "0123456789abcdef")) (Zd 1) ρ θ=.ok (.int (b % 16)) θ:=by
    intro ρ h0
    unfold z5
    rw [x_c]
    simp only [R.bind_ok,Zc9,h0]
    rw [o2]
    simp only []
    rw [show (((b % 16).toNat:Nat):Int)=b % 16 by omega]
  have e:16*(b/16)+b % 16=b:=by omega
  have mb:Zd5 16 (b/16):=.inl (by omega)
  simp [zc,ZaI,i1,i2,mb,e]
theorem Zdv (xs:List Int):(ZX xs).length=2*xs.length:=by rw [My.zr,zk,Zb3]
theorem Zdc {xs:List Int} (h:∀z∈xs,0≤z∧z≤255) (hl:xs.length≤16) (h0:xs≠[]) (θ:Sto):zp [.str (ZX xs)] θ=.ok (itp xs) θ:=by
  have dl:=Zdv xs
  have fi:=Zen h
  have io:=Zd6 (w:=ZX xs) (F:=hexT) (by
    rw [zk]
    intro e
    have:=Zb3 xs
    rw [e] at this
    have:xs.length=0:=by simp at this; omega
    exact h0 (List.length_eq_zero_iff.mp this)) (fun c hc=>by rw [zk] at hc; have:=fi c hc; exact ⟨this.1,this.2.1⟩) (by omega) θ
  have ln:zu [.str (ZX xs)] θ=.ok (.int (2*(xs.length:Int))) θ:=by
    unfold zu
    simp only [if_pos (show (ZX xs).length≤BIG by simp [BIG]; omega)]
    rw [dl]
    simp
  have m1:¬2*(xs.length:Int) % 2=1:=by omega
  have m2:¬(32:Int)<2*(xs.length:Int):=by omega
  have cp:∀ρ:List Sl,ρ[0]?=some (Sl.val (.str (ZX xs)))→ZbX (Zc (mC (.int 0)) (Zc (mCB zu (Zc (Zd 0) Zj)) (Zc (mC (.int 2)) Zj))) [0] (mCB zc (Zc (mOp ixM (Zd 1) (Zd 0)) (Zc (mOp ixM (Zd 1) (mOp Zp (Zd 0) (mC (.int 1)))) Zj))) ρ θ=.ok (il xs) θ:=by
    intro ρ hr
    unfold ZbX
    simp only [Zhc,Zid,x_c,Zjm,Zc9,hr,R.bind_ok,ln]
    rw [if_pos ⟨trivial,trivial,by omega,by omega⟩]
    have en:((2*(xs.length:Int)).toNat+1)/2=xs.length:=by omega
    rw [en,Zbh (fun d=>match d with | .int j=>.int (xs.getD (j/2).toNat 0) | _=>.non) (twos xs.length) [] ?_ (by simp [twos,BIG]; omega)]
    · rw [List.nil_append]
      have em:(twos xs.length).map (fun d=>match d with | .int j=>D.int (xs.getD (j/2).toNat 0) | _=>.non)=xs.map D.int:=by
        unfold twos
        rw [List.map_map]
        apply List.ext_getElem
        · simp
        · intro i h1 h2
          have hi:i<xs.length:=by simpa using h2
          have:(2*(i:Int)/2).toNat=i:=by omega
          simp [this,hi]
      rw [em]
      rfl
    · intro d hd
      obtain ⟨i,hi,rfl⟩:=List.mem_map.mp hd
      have hi':i<xs.length:=List.mem_range.mp hi
      obtain ⟨a1,a2⟩:=Zeo xs i xs[i] (List.getElem?_eq_getElem hi')
      rw [←zk] at a1 a2
      have x1:=Zej (by omega) a1 θ
      have x2:=Zej (by omega) a2 θ
      have c1:(((2*i:Nat)):Int)=2*(i:Int):=by omega
      have c2:(((2*i+1:Nat)):Int)=2*(i:Int)+1:=by omega
      rw [c1] at x1
      rw [c2] at x2
      have rb:=Zdd (h xs[i] (List.getElem_mem hi')) θ
      have e2:(2*(i:Int)/2).toNat=i:=by omega
      have gd:xs[i]?.getD 0=xs[i]:=by rw [List.getElem?_eq_getElem hi']; rfl
      simp [ZM,hr,x1,x2,rb,e2,gd]
  have mb:Zd5 2 16:=.inl (by omega)
  simp [zp,ZaH,Zae,io,ln,m1,m2,cp,mb]
def ZP (s:Seg):List Str:=[txt s.src,txt s.goal,txt s.num,txt s.ans,Zk s.flags,txt s.win,txt s.most]++(if s.data=[] then [] else [ZX s.data])
def zD (s:Seg):Str:=Txt.join (Str.ofString " ") (ZP s)
theorem zA {s:Seg} (h:s.Ok):∀w∈ZP s,32∉w.cps.toList∧w.length≤40∧Asc w:=by
  have tx:∀n:Int,0≤n→n≤4294967295→32∉(txt n).cps.toList∧(txt n).length≤40∧Asc (txt n):=fun n h0 h1=>⟨fun hc=>by have:=Za3 h0 32 hc; omega,by have:=Z6 h0 h1; omega,Zc2 h0⟩
  have hs:=h.src
  have hg:=h.goal
  have hn:=h.num
  have ha:=h.ans
  have hw:=h.win
  have hm:0≤s.most∧s.most≤65535:=by rcases h.most with e | e<;>omega
  have ff:=Zbo h.flags
  have fl:(Zk s.flags).length≤40:=by
    have:∀i:Fin 32,(Zk (i.val:Int)).length≤40:=by decide +kernel
    have z:=this ⟨s.flags.toNat,by have:=h.flags; omega⟩
    simp only [show ((s.flags.toNat:Nat):Int)=s.flags by have:=h.flags; omega] at z
    exact z
  intro w hw'
  unfold ZP at hw'
  rcases List.mem_append.mp hw' with z | z
  · simp only [List.mem_cons,List.not_mem_nil,or_false] at z
    rcases z with rfl | rfl | rfl | rfl | rfl | rfl | rfl
    · exact tx _ (by omega) (by omega)
    · exact tx _ (by omega) (by omega)
    · exact tx _ (by omega) (by omega)
    · exact tx _ (by omega) (by omega)
    · exact ⟨ff.2,fl,ff.1⟩
    · exact tx _ (by omega) (by omega)
    · exact tx _ (by omega) (by omega)
  · split at z
    · simp at z
    · simp only [List.mem_cons,List.not_mem_nil,or_false] at z
      subst z
      have fi:=Zen h.data.1
      have dl:=Zdv s.data
      have:=h.data.2
      refine ⟨fun hc=>?_,by omega,fun c hc=>?_⟩
      · rw [zk] at hc
        exact (fi 32 hc).2.2 rfl
      · rw [zk] at hc
        exact (fi c hc).1
theorem Zap (s:Seg):(ZP s).length=if s.data=[] then 7 else 8:=by
  unfold ZP
  split<;>simp
theorem Zar (s:Seg):zD s=Str.join (Str.ofString " ") (ZP s):=by
  unfold zD Txt.join
  exact StrLaws.glued_eq_join _ _
theorem Zgi {s:Seg} (h:s.Ok) (θ:Sto):zX [s.d] θ=.ok (.str (zD s)) θ:=by
  have hs:=h.src
  have hg:=h.goal
  have hn:=h.num
  have ha:=h.ans
  have hw:=h.win
  have hm:0≤s.most∧s.most≤65535:=by rcases h.most with e | e<;>omega
  have cp1:=fun ρ (h0:ρ[0]?=some (Sl.val s.d))=>Zbb (ρ:=ρ) (θ:=θ) (fi:=mIn (ZaK (Zc (mC (.int 0)) (Zc (mC (.int 1)) (Zc (mC (.int 2)) (Zc (mC (.int 3)) Zj)))))) (src:=[0]) (elt:=mCB Zax (Zc (mOp ixM (Zd 1) (Zd 0)) Zj)) (d:=.tup [.int 0,.int 1,.int 2,.int 3]) (xs:=[.int 0,.int 1,.int 2,.int 3]) (θ':=θ) (fun d=>match d with | .int n=>if n=0 then .str (txt s.src) else if n=1 then .str (txt s.goal) else if n=2 then .str (txt s.num) else .str (txt s.ans) | _=>.non) (by simp) rfl (by decide) (by
    intro x hx'
    simp only [List.mem_cons,List.not_mem_nil,or_false] at hx'
    rcases hx' with rfl | rfl | rfl | rfl
    · simp [ZM,h0,Zaf (n:=s.src) (by omega) (by omega)]
    · simp [ZM,h0,Zaf (n:=s.goal) (by omega) (by omega)]
    · simp [ZM,h0,Zaf (n:=s.num) (by omega) (by omega)]
    · simp [ZM,h0,Zaf (n:=s.ans) (by omega) (by omega)])
  have cp2:=fun ρ (h0:ρ[0]?=some (Sl.val s.d))=>Zbb (ρ:=ρ) (θ:=θ) (fi:=mIn (ZaK (Zc (mC (.int 5)) (Zc (mC (.int 6)) Zj)))) (src:=[0]) (elt:=mCB Zax (Zc (mOp ixM (Zd 1) (Zd 0)) Zj)) (d:=.tup [.int 5,.int 6]) (xs:=[.int 5,.int 6]) (θ':=θ) (fun d=>match d with | .int n=>if n=5 then .str (txt s.win) else .str (txt s.most) | _=>.non) (by simp) rfl (by decide) (by
    intro x hx'
    simp only [List.mem_cons,List.not_mem_nil,or_false] at hx'
    rcases hx' with rfl | rfl
    · simp [ZM,h0,Zaf (n:=s.win) (by omega) (by omega)]
    · simp [ZM,h0,Zaf (n:=s.most) (by omega) (by omega)])
  simp at cp1 cp2
  have sf:=ZaB h.flags θ
  have sd:=ZcE h.data.1 h.data.2 θ
  have wf:=zA h
  have jo:JoinOk (Str.ofString " ") (ZP s)=true:=ZaX (fun t ht=>by
    have:=(wf t ht).2.1
    have e:(Str.ofString " ").length=1:=by decide
    omega) (by rw [Zap]; split<;>omega)
  obtain ⟨ts,hts⟩:∃ts,ts=ZP s:=⟨_,rfl⟩
  have jn:∀(e:EM) (ρ:List Sl),e ρ θ=.ok (.lst (ts.map D.str)) θ→zE (mC (.str " ")) e ρ θ=.ok (.str (zD s)) θ:=by
    intro e ρ he
    unfold zE
    rw [x_c]
    simp only [R.bind_ok,he,ZO,Option.bind_some,zK]
    rw [hts,if_pos jo]
    rfl
  have lst:∀(x:D) (ws:List Str),x=.lst (ws.map D.str)→True:=fun _ _ _=>trivial
  have ad:∀(a b:List D),a.length+b.length≤100→Zp (.lst a) (.lst b) θ=.ok (.lst (a++b)) θ:=fun a b hab=>by
    unfold Zp
    simp only [ZO]
    rw [if_pos (by simp [BIG]; omega)]
  by_cases c:s.data=[]
  · have c0:itp s.data=.tup []:=by rw [c]; rfl
    have e:ts.map D.str=[.str (txt s.src),.str (txt s.goal),.str (txt s.num),.str (txt s.ans)]++[.str (Zk s.flags)]++[.str (txt s.win),.str (txt s.most)]++[]:=by
      rw [hts]
      unfold ZP
      rw [if_pos c]
      rfl
    have body:zR [.val s.d,.no,.no,.no] θ=.ok (.rt (.str (zD s)),[.val s.d,.val (.lst [.str (txt s.src),.str (txt s.goal),.str (txt s.num),.str (txt s.ans)]),.val (.lst [.str (txt s.win),.str (txt s.most)]),.val (.lst [])]) θ:=by
      have j:=jn (mOp Zp (mOp Zp (mOp Zp (Zd 1) (ZaU (Zc (mCB Zv (Zc (mOp ixM (Zd 0) (mC (.int 4))) Zj)) Zj))) (Zd 2)) (Zd 3)) [.val s.d,.val (.lst [.str (txt s.src),.str (txt s.goal),.str (txt s.num),.str (txt s.ans)]),.val (.lst [.str (txt s.win),.str (txt s.most)]),.val (.lst [])] (by
        rw [e]
        simp [sf,ad])
      unfold zR
      simp [cp1,cp2,c,j]
    simp [zX,Z9,body]
  · have pos:0<s.data.length:=List.length_pos_iff.mpr c
    have e:ts.map D.str=[.str (txt s.src),.str (txt s.goal),.str (txt s.num),.str (txt s.ans)]++[.str (Zk s.flags)]++[.str (txt s.win),.str (txt s.most)]++[.str (ZX s.data)]:=by
      rw [hts]
      unfold ZP
      rw [if_neg c]
      rfl
    have body:zR [.val s.d,.no,.no,.no] θ=.ok (.rt (.str (zD s)),[.val s.d,.val (.lst [.str (txt s.src),.str (txt s.goal),.str (txt s.num),.str (txt s.ans)]),.val (.lst [.str (txt s.win),.str (txt s.most)]),.val (.lst [.str (ZX s.data)])]) θ:=by
      have j:=jn (mOp Zp (mOp Zp (mOp Zp (Zd 1) (ZaU (Zc (mCB Zv (Zc (mOp ixM (Zd 0) (mC (.int 4))) Zj)) Zj))) (Zd 2)) (Zd 3)) [.val s.d,.val (.lst [.str (txt s.src),.str (txt s.goal),.str (txt s.num),.str (txt s.ans)]),.val (.lst [.str (txt s.win),.str (txt s.most)]),.val (.lst [.str (ZX s.data)])] (by
        rw [e]
        simp [sf,ad])
      unfold zR
      simp [cp1,cp2,pos,sd,j]
    simp [zX,Z9,body]
theorem ZV (a b:Str):(a++b).length=a.length+b.length:=by
  rw [My.zr,My.zr,My.zr,Z5,List.length_append]
theorem ZE:(Str.ofString " ").length=1:=by decide
theorem Zdr:∀ws:List Str,(∀w∈ws,w.length≤40)→(Str.join (Str.ofString " ") ws).length≤ws.length*41
  | [],_=>by decide
  | [a],h=>by
    have:=h a (by simp)
    show a.length≤_
    simp
    omega
  | a::b::r,h=>by
    have h1:=h a (by simp)
    have ih:=Zdr (b::r) fun w hw=>h w (List.mem_cons_of_mem _ hw)
    show (a++Str.ofString " "++Str.join (Str.ofString " ") (b::r)).length≤_
    rw [ZV,ZV,ZE]
    simp only [List.length_cons] at ih ⊢
    omega
theorem ZfR {s:Seg} (h:s.Ok):(zD s).length≤328:=by
  rw [Zar]
  have:=Zdr (ZP s) fun w hw=>(zA h w hw).2.1
  have e:=Zap s
  split at e<;>omega
theorem Zgh {s:Seg} (h:s.Ok) (θ:Sto) (ρ:List Sl) (h0:ρ[0]?=some (Sl.val (.str (zD s)))):ZcP (Zd 0) (mC (.str " ")) ρ θ=.ok (.lst ((ZP s).map D.str)) θ:=by
  have ne:ZP s≠[]:=by
    have e:=Zap s
    intro z
    rw [z] at e
    split at e<;>simp at e
  have sj:=ZbI (ZP s) ne fun w hw=>(zA h w hw).1
  rw [←Zar] at sj
  have ll:=ZfR h
  have sp:Builtin.Str.partsBetween (zD s) (Builtin.Str.occurrences (zD s) (Str.ofString " ") 0 (zD s).length ((zD s).length+1)) (Str.ofString " ").length=ZP s:=by
    have q:=Zah (zD s)
    rw [sj] at q
    rw [ZE,Zb9,ZbO]
    exact q.symm
  have e:=Zap s
  have lw:(ZP s).length≤8:=by split at e<;>omega
  unfold ZcP
  rw [Zc9,h0]
  simp only [R.bind_ok,x_c]
  rw [if_pos ⟨by decide,by simp [BIG]; omega,by rw [sp]; simp [BIG]; omega,by rw [sj]; simp [BIG]; omega⟩,sj]
theorem Zgj {s:Seg} (h:s.Ok) (θ:Sto):zY [.str (zD s)] θ=.ok s.d θ:=by
  have hs:=h.src
  have hg:=h.goal
  have hn:=h.num
  have ha:=h.ans
  have hw:=h.win
  have r1:=Z0 (n:=s.src) (g:=65535) (by omega) (by omega) (.inl rfl) θ
  have r2:=Z0 (n:=s.goal) (g:=65535) (by omega) (by omega) (.inl rfl) θ
  have r3:=Z0 (n:=s.num) (g:=4294967295) (by omega) (by omega) (.inr rfl) θ
  have r4:=Z0 (n:=s.ans) (g:=4294967295) (by omega) (by omega) (.inr rfl) θ
  have r5:=ZcF h.flags θ
  have r6:=Z0 (n:=s.win) (g:=65535) (by omega) (by omega) (.inl rfl) θ
  have r7:=Zdb (m:=s.most) (f:=s.flags) h.most h.flags θ
  have sp:=Zgh h θ
  have fin:∀d,d=itp s.data→Zp (.tup [.int s.src,.int s.goal,.int s.num,.int s.ans]) (.tup [.int s.flags,.int s.win,.int s.most,d]) θ=.ok s.d θ:=fun d hd=>by rw [hd]; rfl
  have fi2:Zp (.tup [.int s.src,.int s.goal]) (.tup [.int s.num,.int s.ans]) θ=.ok (.tup [.int s.src,.int s.goal,.int s.num,.int s.ans]) θ:=rfl
  by_cases c:s.data=[]
  · have c0:D.tup []=itp s.data:=by rw [c]; rfl
    have wl:(ZP s).map D.str=[.str (txt s.src),.str (txt s.goal),.str (txt s.num),.str (txt s.ans),.str (Zk s.flags),.str (txt s.win),.str (txt s.most)]:=by
      unfold ZP
      rw [if_pos c]
      rfl
    rw [wl] at sp
    have ni:ZbQ (.int 7) (.tup [.int 7,.int 8]) θ=.ok (.bl false) θ:=rfl
    have f1:=fin (.tup []) c0
    have l7:zu [.lst [.str (txt s.src),.str (txt s.goal),.str (txt s.num),.str (txt s.ans),.str (Zk s.flags),.str (txt s.win),.str (txt s.most)]] θ=.ok (.int 7) θ:=rfl
    have ix:∀k:Int,ixM (.lst [.str (txt s.src),.str (txt s.goal),.str (txt s.num),.str (txt s.ans),.str (Zk s.flags),.str (txt s.win),.str (txt s.most)]) (.int k) θ=match atI [D.str (txt s.src),.str (txt s.goal),.str (txt s.num),.str (txt s.ans),.str (Zk s.flags),.str (txt s.win),.str (txt s.most)] k with | some d=>.ok d θ | none=>.bad:=fun k=>rfl
    have i0:ixM (.lst [.str (txt s.src),.str (txt s.goal),.str (txt s.num),.str (txt s.ans),.str (Zk s.flags),.str (txt s.win),.str (txt s.most)]) (.int 0) θ=.ok (.str (txt s.src)) θ:=rfl
    have i1:ixM (.lst [.str (txt s.src),.str (txt s.goal),.str (txt s.num),.str (txt s.ans),.str (Zk s.flags),.str (txt s.win),.str (txt s.most)]) (.int 1) θ=.ok (.str (txt s.goal)) θ:=rfl
    have i2:ixM (.lst [.str (txt s.src),.str (txt s.goal),.str (txt s.num),.str (txt s.ans),.str (Zk s.flags),.str (txt s.win),.str (txt s.most)]) (.int 2) θ=.ok (.str (txt s.num)) θ:=rfl
    have i3:ixM (.lst [.str (txt s.src),.str (txt s.goal),.str (txt s.num),.str (txt s.ans),.str (Zk s.flags),.str (txt s.win),.str (txt s.most)]) (.int 3) θ=.ok (.str (txt s.ans)) θ:=rfl
    have i4:ixM (.lst [.str (txt s.src),.str (txt s.goal),.str (txt s.num),.str (txt s.ans),.str (Zk s.flags),.str (txt s.win),.str (txt s.most)]) (.int 4) θ=.ok (.str (Zk s.flags)) θ:=rfl
    have i5:ixM (.lst [.str (txt s.src),.str (txt s.goal),.str (txt s.num),.str (txt s.ans),.str (Zk s.flags),.str (txt s.win),.str (txt s.most)]) (.int 5) θ=.ok (.str (txt s.win)) θ:=rfl
    have i6:ixM (.lst [.str (txt s.src),.str (txt s.goal),.str (txt s.num),.str (txt s.ans),.str (Zk s.flags),.str (txt s.win),.str (txt s.most)]) (.int 6) θ=.ok (.str (txt s.most)) θ:=rfl
    obtain ⟨L,hL⟩:∃L,L=D.lst [.str (txt s.src),.str (txt s.goal),.str (txt s.num),.str (txt s.ans),.str (Zk s.flags),.str (txt s.win),.str (txt s.most)]:=⟨_,rfl⟩
    rw [←hL] at l7 i0 i1 i2 i3 i4 i5 i6
    simp only [←hL] at sp
    simp [zY,Zbk,Zam,sp,l7,ni,i0,i1,i2,i3,i4,i5,i6,r1,r2,r3,r4,r5,r6,r7,fi2,f1]
  · have rd:=Zdc h.data.1 h.data.2 c θ
    have wl:(ZP s).map D.str=[.str (txt s.src),.str (txt s.goal),.str (txt s.num),.str (txt s.ans),.str (Zk s.flags),.str (txt s.win),.str (txt s.most),.str (ZX s.data)]:=by
      unfold ZP
      rw [if_neg c]
      rfl
    rw [wl] at sp
    have ni:ZbQ (.int 8) (.tup [.int 7,.int 8]) θ=.ok (.bl false) θ:=rfl
    have f1:=fin (itp s.data) rfl
    have l7:zu [.lst [.str (txt s.src),.str (txt s.goal),.str (txt s.num),.str (txt s.ans),.str (Zk s.flags),.str (txt s.win),.str (txt s.most),.str (ZX s.data)]] θ=.ok (.int 8) θ:=rfl
    have i0:ixM (.lst [.str (txt s.src),.str (txt s.goal),.str (txt s.num),.str (txt s.ans),.str (Zk s.flags),.str (txt s.win),.str (txt s.most),.str (ZX s.data)]) (.int 0) θ=.ok (.str (txt s.src)) θ:=rfl
    have i1:ixM (.lst [.str (txt s.src),.str (txt s.goal),.str (txt s.num),.str (txt s.ans),.str (Zk s.flags),.str (txt s.win),.str (txt s.most),.str (ZX s.data)]) (.int 1) θ=.ok (.str (txt s.goal)) θ:=rfl
    have i2:ixM (.lst [.str (txt s.src),.str (txt s.goal),.str (txt s.num),.str (txt s.ans),.str (Zk s.flags),.str (txt s.win),.str (txt s.most),.str (ZX s.data)]) (.int 2) θ=.ok (.str (txt s.num)) θ:=rfl
    have i3:ixM (.lst [.str (txt s.src),.str (txt s.goal),.str (txt s.num),.str (txt s.ans),.str (Zk s.flags),.str (txt s.win),.str (txt s.most),.str (ZX s.data)]) (.int 3) θ=.ok (.str (txt s.ans)) θ:=rfl
    have i4:ixM (.lst [.str (txt s.src),.str (txt s.goal),.str (txt s.num),.str (txt s.ans),.str (Zk s.flags),.str (txt s.win),.str (txt s.most),.str (ZX s.data)]) (.int 4) θ=.ok (.str (Zk s.flags)) θ:=rfl
    have i5:ixM (.lst [.str (txt s.src),.str (txt s.goal),.str (txt s.num),.str (txt s.ans),.str (Zk s.flags),.str (txt s.win),.str (txt s.most),.str (ZX s.data)]) (.int 5) θ=.ok (.str (txt s.win)) θ:=rfl
    have i6:ixM (.lst [.str (txt s.src),.str (txt s.goal),.str (txt s.num),.str (txt s.ans),.str (Zk s.flags),.str (txt s.win),.str (txt s.most),.str (ZX s.data)]) (.int 6) θ=.ok (.str (txt s.most)) θ:=rfl
    have i7:ixM (.lst [.str (txt s.src),.str (txt s.goal),.str (txt s.num),.str (txt s.ans),.str (Zk s.flags),.str (txt s.win),.str (txt s.most),.str (ZX s.data)]) (.int 7) θ=.ok (.str (ZX s.data)) θ:=rfl
    obtain ⟨L,hL⟩:∃L,L=D.lst [.str (txt s.src),.str (txt s.goal),.str (txt s.num),.str (txt s.ans),.str (Zk s.flags),.str (txt s.win),.str (txt s.most),.str (ZX s.data)]:=⟨_,rfl⟩
    rw [←hL] at l7 i0 i1 i2 i3 i4 i5 i6 i7
    simp only [←hL] at sp
    simp [zY,Zbk,Zam,sp,l7,ni,i0,i1,i2,i3,i4,i5,i6,i7,r1,r2,r3,r4,r5,r6,r7,rd,fi2,f1]
theorem Zbj {S:Src} {all:List D} {tst:D→Sto→R Bool} {elt:D→Sto→R D} {θ:Sto} (p:D→Bool) (f:D→D) (hS:S.items θ=some all):∀(xs acc:List D),(∀x∈xs,tst x θ=.ok (p x) θ∧elt x θ=.ok (f x) θ)→acc.length+xs.length≤BIG→
    z9 S all tst elt xs acc θ=.ok (.lst (acc++(xs.filter p).map f)) θ
  | [],acc,_,h=>by
    unfold z9
    rw [if_pos ⟨hS,by simpa using h⟩]
    simp
  | x::r,acc,he,h=>by
    obtain ⟨h1,h2⟩:=he x (by simp)
    unfold z9
    rw [if_pos hS,h1,R.bind_ok]
    cases q:p x with
    | true=>
      rw [if_pos rfl,h2,R.bind_ok,Zbj p f hS r (acc++[f x]) (fun y hy=>he y (List.mem_cons_of_mem _ hy)) (by simp at h ⊢; omega)]
      simp [q]
    | false=>
      rw [if_neg (by decide),Zbj p f hS r acc (fun y hy=>he y (List.mem_cons_of_mem _ hy)) (by simp at h ⊢; omega)]
      simp [q]
def nmk (k:Nat):Str:=([("fin":Str),"syn","rst","psh","ack"]).getD k ""
def pwk (k:Nat):Int:=([1,2,4,8,16]:List Int).getD k 1
def nmL (f:Int):List Str:=((List.range 5).filter fun k=>decide (f/pwk k % 2=1)).map nmk
theorem Zeg:∀f:Fin 32,nmL (f.val:Int)=nmF (f.val:Int)∧(Txt.join (Str.ofString "+") (nmF (f.val:Int))=Str.ofString ""↔nmF (f.val:Int)=[])∧(Txt.join (Str.ofString "+") (nmF (f.val:Int))).cps.toList.all (fun c=>decide (c<128))=true:=by decide +kernel
abbrev NL:D:=.lst [.str "fin",.str "syn",.str "rst",.str "psh",.str "ack"]
abbrev PL:D:=.lst [.int 1,.int 2,.int 4,.int 8,.int 16]
def Zz (ns:List Int) (s:Seg) (x4 x5 x6 x7 x8 x9:Sl):List Sl:=[.val (.scr ns),.val s.d,.val NL,.val PL,x4,x5,x6,x7,x8,x9]
theorem ZdT {ns:List Int} {s:Seg} (h:s.Ok) (θ:Sto) (x5 x6 x7 x8 x9:Sl):zE (mC (.str "+")) (ZaM (zO (Zc (mC (.int 5)) Zj)) [2,1,3] (ZL (mOp eqM (mOp Z7 (mOp Zaz (mOp ixM (Zd 2) (mC (.int 4))) (mOp ixM (Zd 3) (Zd 0))) (mC (.int 2))) (mC (.int 1)))) (mOp ixM (Zd 1) (Zd 0))) (Zz ns s .no x5 x6 x7 x8 x9) θ=.ok (.str (Txt.join (Str.ofString "+") (nmF s.flags))) θ:=by
  have fl:=h.flags
  have nf:=Zeg ⟨s.flags.toNat,by omega⟩
  simp only [show ((s.flags.toNat:Nat):Int)=s.flags by omega] at nf
  have jo:=Zb4 ⟨s.flags.toNat,by omega⟩
  simp only [show ((s.flags.toNat:Nat):Int)=s.flags by omega] at jo
  have cp:ZaM (zO (Zc (mC (.int 5)) Zj)) [2,1,3] (ZL (mOp eqM (mOp Z7 (mOp Zaz (mOp ixM (Zd 2) (mC (.int 4))) (mOp ixM (Zd 3) (Zd 0))) (mC (.int 2))) (mC (.int 1)))) (mOp ixM (Zd 1) (Zd 0)) (Zz ns s .no x5 x6 x7 x8 x9) θ=.ok (.lst ((nmF s.flags).map D.str)) θ:=by
    have rg:zO (Zc (mC (.int 5)) Zj) (Zz ns s .no x5 x6 x7 x8 x9) θ=.ok (.rng 0 5) θ:=by simp
    have it:(Src.rng 0 5).items θ=some ((List.range 5).map fun (i:Nat)=>D.int (0+(i:Int))):=rfl
    unfold ZaM
    rw [rg,R.bind_ok]
    simp only [it]
    rw [if_pos (by decide),Zbj (fun d=>match d with | .int k=>decide (s.flags/pwk k.toNat % 2=1) | _=>false) (fun d=>match d with | .int k=>.str (nmk k.toNat) | _=>.non) it _ [] ?_ (by decide)]
    · rw [List.nil_append,←nf.1]
      simp [nmL,List.filter_map,Function.comp_def]
    · intro d hd
      obtain ⟨k,hk,rfl⟩:=List.mem_map.mp hd
      have hk':k<5:=List.mem_range.mp hk
      have:k=0∨k=1∨k=2∨k=3∨k=4:=by omega
      rcases this with rfl | rfl | rfl | rfl | rfl
      · exact ⟨by simp [ZM,Zz,pwk],rfl⟩
      · exact ⟨by simp [ZM,Zz,pwk],rfl⟩
      · exact ⟨by simp [ZM,Zz,pwk,show ixM (il [1,2,4,8,16]) (.int 2) θ=.ok (.int 4) θ from rfl],rfl⟩
      · exact ⟨by simp [ZM,Zz,pwk,show ixM (il [1,2,4,8,16]) (.int 3) θ=.ok (.int 8) θ from rfl],rfl⟩
      · exact ⟨by simp [ZM,Zz,pwk,show ixM (il [1,2,4,8,16]) (.int 4) θ=.ok (.int 16) θ from rfl],rfl⟩
  unfold zE
  rw [x_c]
  simp only [R.bind_ok,cp,ZO,Option.bind_some,zK]
  rw [if_pos jo]
theorem adS {a b:Str} {θ:Sto} (h:a.length+b.length≤1000):Zp (.str a) (.str b) θ=.ok (.str (a++b)) θ:=by
  unfold Zp
  exact if_pos (show a.length+b.length≤BIG by simp [BIG]; omega)
def Ze2 (a:Str) (xs:List Int):Str:=xs.foldl (fun a b=>a++(⟨#[hx (b/16).toNat]⟩:Str)++(⟨#[hx (b % 16).toNat]⟩:Str)) a
theorem ZdA:∀(xs:List Int) (a:Str),(Ze2 a xs).cps.toList=a.cps.toList++ZaZ xs
  | [],a=>by simp [Ze2,ZaZ]
  | b::r,a=>by
    have ih:=ZdA r (a++(⟨#[hx (b/16).toNat]⟩:Str)++(⟨#[hx (b % 16).toNat]⟩:Str))
    unfold Ze2 at ih ⊢
    rw [List.foldl_cons,ih,Z5,Z5]
    simp [ZaZ]
theorem Zb8 {ns:List Int} {s:Seg} {x4 x6 x8 x9:Sl} (h:s.Ok) (θ:Sto):∀(r:List Int) (a:Str) (x7:Sl),(∀z∈r,0≤z∧z≤255)→a.length+2*r.length≤900→∃y7,forL (.seq (itp s.data)) (s.data.map D.int) (gNm 7) (ZA 5 (mOp Zp (mOp Zp (Zd 5) (mOp ixM (mC (.str "0123456789abcdef")) (mOp Zaz (Zd 7) (mC (.int 16))))) (mOp ixM (mC (.str "0123456789abcdef")) (mOp Z7 (Zd 7) (mC (.int 16)))))) (r.map D.int) (Zz ns s x4 (.val (.str a)) x6 x7 x8 x9) θ=.ok (.nx,Zz ns s x4 (.val (.str (Ze2 a r))) x6 y7 x8 x9) θ
  | [],a,x7,_,_=>by
    have hit:(Src.seq (itp s.data)).items θ=some (s.data.map D.int):=rfl
    refine ⟨x7,?_⟩
    simp only [List.map_nil,forL,hit,if_true]
    rfl
  | b::r,a,x7,hb,hl=>by
    have hit:(Src.seq (itp s.data)).items θ=some (s.data.map D.int):=rfl
    have rb:=hb b (by simp)
    simp only [List.length_cons] at hl
    have l1:∀c:Nat,(⟨#[c]⟩:Str).length=1:=fun c=>rfl
    obtain ⟨y7,ih⟩:=Zb8 h θ r (a++(⟨#[hx (b/16).toNat]⟩:Str)++(⟨#[hx (b % 16).toNat]⟩:Str)) (.val (.int b)) (fun z hz=>hb z (List.mem_cons_of_mem _ hz)) (by rw [ZV,ZV,l1,l1]; omega)
    refine ⟨y7,?_⟩
    have i1:=Zek (k:=b/16) (by omega) θ
    have i2:=Zek (k:=b % 16) (by omega) θ
    have a1:=adS (a:=a) (b:=⟨#[hx (b/16).toNat]⟩) (θ:=θ) (by rw [l1]; omega)
    have a2:=adS (a:=a++(⟨#[hx (b/16).toNat]⟩:Str)) (b:=⟨#[hx (b % 16).toNat]⟩) (θ:=θ) (by rw [ZV,l1,l1]; omega)
    have st:ZA 5 (mOp Zp (mOp Zp (Zd 5) (mOp ixM (mC (.str "0123456789abcdef")) (mOp Zaz (Zd 7) (mC (.int 16))))) (mOp ixM (mC (.str "0123456789abcdef")) (mOp Z7 (Zd 7) (mC (.int 16))))) (Zz ns s x4 (.val (.str a)) x6 (.val (.int b)) x8 x9) θ=.ok (.nx,Zz ns s x4 (.val (.str (a++(⟨#[hx (b/16).toNat]⟩:Str)++(⟨#[hx (b % 16).toNat]⟩:Str)))) x6 (.val (.int b)) x8 x9) θ:=by
      unfold Zz
      simp [i1,i2,a1,a2]
    have hg:gNm 7 (D.int b) (Zz ns s x4 (.val (.str a)) x6 x7 x8 x9)=some (Zz ns s x4 (.val (.str a)) x6 (.val (.int b)) x8 x9):=rfl
    simp only [List.map_cons,forL,hit,if_true,hg]
    rw [st,R.bind_ok,Za2]
    exact ih
theorem ZdC:∀ws:List Str,(∀w∈ws,Asc w)→Asc (Str.join (Str.ofString " ") ws)
  | [],_=>Zcb _ (by decide)
  | [a],h=>h a (by simp)
  | a::b::r,h=>by
    have ih:=ZdC (b::r) fun w hw=>h w (List.mem_cons_of_mem _ hw)
    exact Zev (Zev (h a (by simp)) (Zcb _ (by decide))) ih
def Zbf (s:Seg):Str:=Str.ofString ""++txt s.src++Str.ofString " "++txt s.goal++Str.ofString " "++txt s.num++Str.ofString " "++txt s.ans++Str.ofString " "
def Zay (s:Seg):Str:=Zbf s++Zk s.flags++Str.ofString " "++txt s.win++Str.ofString " "++txt s.most
def ZdZ (s:Seg):Str:=if s.data=[] then Zay s else Ze2 (Zay s++Str.ofString " ") s.data
theorem Zcv (a b:Str) (r:List Str):(Str.join (Str.ofString " ") (a::b::r)).cps.toList=a.cps.toList++((Str.ofString " ").cps.toList++(Str.join (Str.ofString " ") (b::r)).cps.toList):=by
  show (a++Str.ofString " "++Str.join (Str.ofString " ") (b::r)).cps.toList=_
  rw [Z5,Z5,List.append_assoc]
theorem Zds (a:Str):(Str.join (Str.ofString " ") [a]).cps.toList=a.cps.toList:=rfl
theorem Zf6 (s:Seg):zD s=ZdZ s:=by
  refine Zbx ?_
  rw [Zar]
  unfold ZP ZdZ
  have e:(Str.ofString "").cps.toList=[]:=by decide
  by_cases c:s.data=[]
  · rw [if_pos c,if_pos c,List.append_nil]
    unfold Zay Zbf
    simp only [Zcv,Zds,Z5,e,List.append_assoc,List.nil_append]
  · rw [if_neg c,if_neg c,ZdA]
    unfold Zay Zbf
    simp only [List.cons_append,List.nil_append,Zcv,Zds,Z5,e,List.append_assoc,zk]
theorem ZaR {ns:List Int} {s:Seg} {x4 x7 x8 x9:Sl} {a:Str} {n:Int} (h0:0≤n) (h1:n≤4294967295) (ha:a.length≤500) (θ:Sto):ZA 5 (mOp Zp (mOp Zp (Zd 5) (mCB Zax (Zc (Zd 6) Zj))) (mC (.str " "))) (Zz ns s x4 (.val (.str a)) (.val (.int n)) x7 x8 x9) θ=.ok (.nx,Zz ns s x4 (.val (.str (a++txt n++Str.ofString " "))) (.val (.int n)) x7 x8 x9) θ:=by
  have l:=Z6 h0 h1
  have a1:=adS (a:=a) (b:=txt n) (θ:=θ) (by omega)
  have a2:=adS (a:=a++txt n) (b:=Str.ofString " ") (θ:=θ) (by rw [ZV,ZE]; omega)
  have st:=Zaf h0 h1 θ
  unfold Zz
  simp [st,a1,a2]
theorem ZhX (s:Seg) (θ:Sto):eqM s.d s.d θ=.ok (.bl true) θ:=by
  have p:pl 9 s.d=true:=Zhs 7 s
  have n:noB s.d=true:=ZgF s
  have lk:look θ s.d=s.d:=rfl
  rw [ZdY (Zb6 (by rw [lk]; exact p) (by rw [lk]; exact p) (by rw [lk]; exact n) (by rw [lk]; exact n))]
  simp
theorem law_true (ns:List Int) (hn:ns.length≤63):∃θ',Zei [.scr ns] []=.ok (.bl true) θ':=by
  obtain ⟨s,hs⟩:∃x,x=Zan ns 0:=⟨_,rfl⟩
  have ta:=Zij ns 0 []
  have h:s.Ok:=by rw [hs]; exact Zh2 ns 0
  rw [←hs] at ta
  have e1:=h.src
  have e2:=h.goal
  have e3:=h.num
  have e4:=h.ans
  have e5:=h.win
  have e6:0≤s.most∧s.most≤65535:=by rcases h.most with e | e<;>omega
  have fl:=h.flags
  have nf:=Zeg ⟨s.flags.toNat,by omega⟩
  simp only [show ((s.flags.toNat:Nat):Int)=s.flags by omega] at nf
  obtain ⟨J,hJ⟩:∃J,J=Txt.join (Str.ofString "+") (nmF s.flags):=⟨_,rfl⟩
  rw [←hJ] at nf
  have nj:=ZdT (ns:=ns) h [] .no .no .no .no .no
  rw [←hJ] at nj
  have st4:ZA 4 (zE (mC (.str "+")) (ZaM (zO (Zc (mC (.int 5)) Zj)) [2,1,3] (ZL (mOp eqM (mOp Z7 (mOp Zaz (mOp ixM (Zd 2) (mC (.int 4))) (mOp ixM (Zd 3) (Zd 0))) (mC (.int 2))) (mC (.int 1)))) (mOp ixM (Zd 1) (Zd 0)))) (Zz ns s .no .no .no .no .no .no) []=.ok (.nx,Zz ns s (.val (.str J)) .no .no .no .no .no) []:=by
    rw [Zib,nj,R.bind_ok]
    rfl
  have st5:Zat (Zz ns s (.val (.str J)) .no .no .no .no .no) []=.ok (.nx,Zz ns s (.val (.str (Zk s.flags))) .no .no .no .no .no) []:=by
    have ee:=Zf4 (a:=J) (b:=Str.ofString "") (Zcb _ nf.2.2) (Zcb _ (by decide)) []
    have ft:Zk s.flags=if nmF s.flags=[] then Str.ofString "none" else J:=by rw [hJ]; rfl
    by_cases c:nmF s.flags=[]
    · rw [decide_eq_true (nf.2.1.mpr c)] at ee
      rw [ft,if_pos c]
      unfold Zz
      simp [Zat,ee,-Zfb]
    · rw [decide_eq_false (fun z=>c (nf.2.1.mp z))] at ee
      rw [ft,if_neg c]
      unfold Zz
      simp [Zat,ee,-Zfb]
  obtain ⟨F,hF⟩:∃F,F=Zk s.flags:=⟨_,rfl⟩
  have lF:F.length≤40:=by rw [hF]; exact (zA h (Zk s.flags) (by simp [ZP])).2.1
  rw [←hF] at st5
  have st6:ZA 5 (mC (.str "")) (Zz ns s (.val (.str F)) .no .no .no .no .no) []=.ok (.nx,Zz ns s (.val (.str F)) (.val (.str (Str.ofString ""))) .no .no .no .no) []:=rfl
  have l0:(Str.ofString "").length=0:=by decide
  have L1:=Z6 (n:=s.src) (by omega) (by omega)
  have L2:=Z6 (n:=s.goal) (by omega) (by omega)
  have L3:=Z6 (n:=s.num) (by omega) (by omega)
  have L4:=Z6 (n:=s.ans) (by omega) (by omega)
  have L5:=Z6 (n:=s.win) (by omega) (by omega)
  have L6:=Z6 (n:=s.most) (by omega) (by omega)
  have st7:Zbm (Zz ns s (.val (.str F)) (.val (.str (Str.ofString ""))) .no .no .no .no) []=.ok (.nx,Zz ns s (.val (.str F)) (.val (.str (Zbf s))) (.val (.int s.ans)) .no .no .no) []:=by
    have s1:=ZaR (ns:=ns) (s:=s) (x4:=.val (.str F)) (x7:=.no) (x8:=.no) (x9:=.no) (a:=Str.ofString "") (n:=s.src) (by omega) (by omega) (by omega) []
    have s2:=ZaR (ns:=ns) (s:=s) (x4:=.val (.str F)) (x7:=.no) (x8:=.no) (x9:=.no) (a:=Str.ofString ""++txt s.src++Str.ofString " ") (n:=s.goal) (by omega) (by omega) (by simp only [ZV,ZE,l0]; omega) []
    have s3:=ZaR (ns:=ns) (s:=s) (x4:=.val (.str F)) (x7:=.no) (x8:=.no) (x9:=.no) (a:=Str.ofString ""++txt s.src++Str.ofString " "++txt s.goal++Str.ofString " ") (n:=s.num) (by omega) (by omega) (by simp only [ZV,ZE,l0]; omega) []
    have s4:=ZaR (ns:=ns) (s:=s) (x4:=.val (.str F)) (x7:=.no) (x8:=.no) (x9:=.no) (a:=Str.ofString ""++txt s.src++Str.ofString " "++txt s.goal++Str.ofString " "++txt s.num++Str.ofString " ") (n:=s.ans) (by omega) (by omega) (by simp only [ZV,ZE,l0]; omega) []
    have fi:mIn (mSl (Zd 1) ZcR (ZfP (mC (.int 4)))) (Zz ns s (.val (.str F)) (.val (.str (Str.ofString ""))) .no .no .no .no) []=.ok (.seq (.tup [.int s.src,.int s.goal,.int s.num,.int s.ans])) []:=rfl
    have hit:(Src.seq (.tup [.int s.src,.int s.goal,.int s.num,.int s.ans])).items []=some [.int s.src,.int s.goal,.int s.num,.int s.ans]:=rfl
    have hg:∀(n:Int) (x5 x6:Sl),gNm 6 (D.int n) (Zz ns s (.val (.str F)) x5 x6 .no .no .no)=some (Zz ns s (.val (.str F)) x5 (.val (.int n)) .no .no .no):=fun _ _ _=>rfl
    unfold Zbm Zdp
    rw [fi,R.bind_ok]
    simp only [hit]
    simp only [forL,hit,if_true,hg,s1,s2,s3,s4,R.bind_ok,Za2]
    rfl
  have st8:ZA 5 (mOp Zp (mOp Zp (mOp Zp (mOp Zp (mOp Zp (Zd 5) (Zd 4)) (mC (.str " "))) (mCB Zax (Zc (mOp ixM (Zd 1) (mC (.int 5))) Zj))) (mC (.str " "))) (mCB Zax (Zc (mOp ixM (Zd 1) (mC (.int 6))) Zj))) (Zz ns s (.val (.str F)) (.val (.str (Zbf s))) (.val (.int s.ans)) .no .no .no) []=.ok (.nx,Zz ns s (.val (.str F)) (.val (.str (Zay s))) (.val (.int s.ans)) .no .no .no) []:=by
    have ld:(Zbf s).length≤60:=by
      unfold Zbf
      simp only [ZV,ZE,l0]
      omega
    have t5:=Zaf (n:=s.win) (by omega) (by omega) []
    have t6:=Zaf (n:=s.most) (by omega) (by omega) []
    have a1:=adS (a:=Zbf s) (b:=F) (θ:=[]) (by omega)
    have a2:=adS (a:=Zbf s++F) (b:=Str.ofString " ") (θ:=[]) (by simp only [ZV,ZE]; omega)
    have a3:=adS (a:=Zbf s++F++Str.ofString " ") (b:=txt s.win) (θ:=[]) (by simp only [ZV,ZE]; omega)
    have a4:=adS (a:=Zbf s++F++Str.ofString " "++txt s.win) (b:=Str.ofString " ") (θ:=[]) (by simp only [ZV,ZE]; omega)
    have a5:=adS (a:=Zbf s++F++Str.ofString " "++txt s.win++Str.ofString " ") (b:=txt s.most) (θ:=[]) (by simp only [ZV,ZE]; omega)
    unfold Zay
    rw [←hF]
    unfold Zz
    simp [t5,t6,a1,a2,a3,a4,a5]
  have ld7:(Zay s).length≤200:=by
    unfold Zay Zbf
    rw [←hF]
    simp only [ZV,ZE,l0]
    omega
  obtain ⟨y7,st9⟩:∃y7,b_l_law_4 (Zz ns s (.val (.str F)) (.val (.str (Zay s))) (.val (.int s.ans)) .no .no .no) []=.ok (.nx,Zz ns s (.val (.str F)) (.val (.str (ZdZ s))) (.val (.int s.ans)) y7 .no .no) []:=by
    by_cases c:s.data=[]
    · refine ⟨.no,?_⟩
      unfold ZdZ
      rw [if_pos c]
      unfold Zz
      simp [b_l_law_4,c]
    · obtain ⟨y7,bl⟩:=Zb8 (ns:=ns) (x4:=.val (.str F)) (x6:=.val (.int s.ans)) (x8:=.no) (x9:=.no) h [] s.data (Zay s++Str.ofString " ") .no h.data.1 (by have:=h.data.2; rw [ZV,ZE]; omega)
      refine ⟨y7,?_⟩
      unfold ZdZ
      rw [if_neg c]
      have a1:=adS (a:=Zay s) (b:=Str.ofString " ") (θ:=[]) (by rw [ZE]; omega)
      have tst:Zdo (mOp ixM (Zd 1) (mC (.int 7))) (Zz ns s (.val (.str F)) (.val (.str (Zay s))) (.val (.int s.ans)) .no .no .no) []=.ok true []:=by
        unfold Zz
        simp [c]
      have sb:ZA 5 (mOp Zp (Zd 5) (mC (.str " "))) (Zz ns s (.val (.str F)) (.val (.str (Zay s))) (.val (.int s.ans)) .no .no .no) []=.ok (.nx,Zz ns s (.val (.str F)) (.val (.str (Zay s++Str.ofString " "))) (.val (.int s.ans)) .no .no .no) []:=by
        unfold Zz
        simp [a1]
      have l3:ZcB (Zz ns s (.val (.str F)) (.val (.str (Zay s++Str.ofString " "))) (.val (.int s.ans)) .no .no .no) []=.ok (.nx,Zz ns s (.val (.str F)) (.val (.str (Ze2 (Zay s++Str.ofString " ") s.data))) (.val (.int s.ans)) y7 .no .no) []:=by
        rw [←bl]
        rfl
      unfold b_l_law_4
      rw [Zjk,tst,R.bind_ok,if_pos rfl,zJ,sb,ZN]
      exact l3
  have sh:=Zgi h []
  have rn:=Zgj h []
  rw [Zf6] at sh rn
  have al:Asc (ZdZ s):=by
    rw [←Zf6,Zar]
    exact ZdC _ fun w hw=>(zA h w hw).2.2
  have nn:=ZdS al al []
  rw [decide_eq_true rfl] at nn
  obtain ⟨d8,hd8⟩:∃x,x=ZdZ s:=⟨_,rfl⟩
  rw [←hd8] at st9 sh rn nn
  have st10:ZA 8 (mCB zX (Zc (Zd 1) Zj)) (Zz ns s (.val (.str F)) (.val (.str d8)) (.val (.int s.ans)) y7 .no .no) []=.ok (.nx,Zz ns s (.val (.str F)) (.val (.str d8)) (.val (.int s.ans)) y7 (.val (.str d8)) .no) []:=by
    unfold Zz
    simp [sh]
  have st11:Zbl (Zz ns s (.val (.str F)) (.val (.str d8)) (.val (.int s.ans)) y7 (.val (.str d8)) .no) []=.ok (.nx,Zz ns s (.val (.str F)) (.val (.str d8)) (.val (.int s.ans)) y7 (.val (.str d8)) .no) []:=by
    unfold Zz
    simp [Zbl,isT,nn]
  have st12:ZA 9 (mCB zY (Zc (Zd 8) Zj)) (Zz ns s (.val (.str F)) (.val (.str d8)) (.val (.int s.ans)) y7 (.val (.str d8)) .no) []=.ok (.nx,Zz ns s (.val (.str F)) (.val (.str d8)) (.val (.int s.ans)) y7 (.val (.str d8)) (.val s.d)) []:=by
    unfold Zz
    simp [rn]
  have st13:zP (ZbY (mCB ZaD (Zc (Zd 9) (Zc (mC (.ty "tuple")) Zj))) (ZbY (mOp eqM (Zd 9) (Zd 1)) (mCB ZaD (Zc (mOp ixM (Zd 9) (mC (.int 7))) (Zc (mC (.ty "tuple")) Zj))))) (Zz ns s (.val (.str F)) (.val (.str d8)) (.val (.int s.ans)) y7 (.val (.str d8)) (.val s.d)) []=.ok (.rt (.bl true),Zz ns s (.val (.str F)) (.val (.str d8)) (.val (.int s.ans)) y7 (.val (.str d8)) (.val s.d)) []:=by
    have i1:ZaD [s.d,.ty "tuple"] []=.ok (.bl true) []:=rfl
    have i2:ZaD [itp s.data,.ty "tuple"] []=.ok (.bl true) []:=rfl
    unfold Zz
    simp [i1,i2,ZhX]
  refine ⟨[],?_⟩
  have s123:ZA 1 (mCB Zct (Zc (Zd 0) (Zc (mC (.int 0)) Zj))) (Z9 10 [.scr ns]) []=.ok (.nx,[.val (.scr ns),.val s.d,.no,.no,.no,.no,.no,.no,.no,.no]) []:=by simp [Z9,ta]
  have s2:ZA 2 (ZaU (Zc (mC (.str "fin")) (Zc (mC (.str "syn")) (Zc (mC (.str "rst")) (Zc (mC (.str "psh")) (Zc (mC (.str "ack")) Zj)))))) [.val (.scr ns),.val s.d,.no,.no,.no,.no,.no,.no,.no,.no] []=.ok (.nx,[.val (.scr ns),.val s.d,.val NL,.no,.no,.no,.no,.no,.no,.no]) []:=rfl
  have s3:ZA 3 (ZaU (Zc (mC (.int 1)) (Zc (mC (.int 2)) (Zc (mC (.int 4)) (Zc (mC (.int 8)) (Zc (mC (.int 16)) Zj)))))) [.val (.scr ns),.val s.d,.val NL,.no,.no,.no,.no,.no,.no,.no] []=.ok (.nx,Zz ns s .no .no .no .no .no .no) []:=rfl
  have all:ZcZ (Z9 10 [.scr ns]) []=.ok (.rt (.bl true),Zz ns s (.val (.str F)) (.val (.str d8)) (.val (.int s.ans)) y7 (.val (.str d8)) (.val s.d)) []:=by
    unfold ZcZ
    rw [zJ,s123,ZN,zJ,s2,ZN,zJ,s3,ZN,zJ,st4,ZN,zJ,st5,ZN,zJ,st6,ZN,zJ,st7,ZN,zJ,st8,ZN,zJ,st9,ZN,zJ,st10,ZN,zJ,st11,ZN,zJ,st12,ZN]
    exact st13
  unfold Zei
  rw [ZgZ,if_pos (show [D.scr ns].length=1 from rfl),all,R.bind_ok]
end
def top (i:Nat):Stmt:=PySem.Challenge.pw_wirestream_k05_lines.main.body.getD i (.Pass ⟨0,0,0,0⟩)
abbrev zs0:Stmt:=top 20
abbrev zs1:Stmt:=top 27
abbrev zs2:Stmt:=top 28
abbrev zs3:Stmt:=top 29
abbrev zs4:Stmt:=top 30
abbrev zs5:Stmt:=top 31
abbrev zs6:Stmt:=top 32
abbrev zs7:Stmt:=top 33
abbrev zs8:Stmt:=top 34
abbrev zs9:Stmt:=top 35
abbrev Zc8:Stmt:=top 36
abbrev Zc7:Stmt:=top 38
abbrev Zc6:Stmt:=top 39
abbrev ZcC:Stmt:=top 42
abbrev Zbu:Stmt:=top 43
abbrev zP0:List Str:=["flags","flag"]
theorem zc0:ZF ["flags","flag"] zP0 (Zg zs0):=⟨rfl,rfl,rfl,by decide +kernel,rfl,by decide +kernel,by decide +kernel⟩
abbrev zP1:List Str:=["segment"]
theorem zc1:ZF ["segment","ahead","behind","data"] zP1 (Zg zs1):=⟨rfl,rfl,rfl,by decide +kernel,rfl,by decide +kernel,by decide +kernel⟩
abbrev zP2:List Str:=["flags"]
theorem zc2:ZF ["flags","names"] zP2 (Zg zs2):=⟨rfl,rfl,rfl,by decide +kernel,rfl,by decide +kernel,by decide +kernel⟩
abbrev zP3:List Str:=["data"]
theorem zc3:ZF ["data"] zP3 (Zg zs3):=⟨rfl,rfl,rfl,by decide +kernel,rfl,by decide +kernel,by decide +kernel⟩
abbrev zP4:List Str:=["line"]
theorem zc4:ZF ["line","words","ports","numbers","flags","window","most","data"] zP4 (Zg zs4):=⟨rfl,rfl,rfl,by decide +kernel,rfl,by decide +kernel,by decide +kernel⟩
abbrev zP5:List Str:=["word","greatest"]
theorem zc5:ZF ["word","greatest","number"] zP5 (Zg zs5):=⟨rfl,rfl,rfl,by decide +kernel,rfl,by decide +kernel,by decide +kernel⟩
abbrev zP6:List Str:=["word","figures"]
theorem zc6:ZF ["word","figures"] zP6 (Zg zs6):=⟨rfl,rfl,rfl,by decide +kernel,rfl,by decide +kernel,by decide +kernel⟩
abbrev zP7:List Str:=["word"]
theorem zc7:ZF ["word","flags"] zP7 (Zg zs7):=⟨rfl,rfl,rfl,by decide +kernel,rfl,by decide +kernel,by decide +kernel⟩
abbrev zP8:List Str:=["word","flags"]
theorem zc8:ZF ["word","flags","most"] zP8 (Zg zs8):=⟨rfl,rfl,rfl,by decide +kernel,rfl,by decide +kernel,by decide +kernel⟩
abbrev zP9:List Str:=["word"]
theorem zc9:ZF ["word"] zP9 (Zg zs9):=⟨rfl,rfl,rfl,by decide +kernel,rfl,by decide +kernel,by decide +kernel⟩
abbrev Ze9:List Str:=["high","low"]
theorem zc10:ZF ["high","low"] Ze9 (Zg Zc8):=⟨rfl,rfl,rfl,by decide +kernel,rfl,by decide +kernel,by decide +kernel⟩
abbrev Ze8:List Str:=["_law_script","_law_k"]
theorem zc11:ZF ["_law_script","_law_k"] Ze8 (Zg Zc7):=⟨rfl,rfl,rfl,by decide +kernel,rfl,by decide +kernel,by decide +kernel⟩
abbrev Ze7:List Str:=["_law_script","_law_k"]
theorem zc12:ZF ["_law_script","_law_k","_law_number"] Ze7 (Zg Zc6):=⟨rfl,rfl,rfl,by decide +kernel,rfl,by decide +kernel,by decide +kernel⟩
abbrev Ze6:List Str:=["_law_script","_law_base"]
theorem zc13:ZF ["_law_script","_law_base","_law_flags","_law_most","_law_numbers","_law_k","_law_number","_law_ports","_law_size","_law_data","_law_window"] Ze6 (Zg ZcC):=⟨rfl,rfl,rfl,by decide +kernel,rfl,by decide +kernel,by decide +kernel⟩
abbrev Ze5:List Str:=["_law_script"]
theorem zc14:ZF ["_law_script","_law_segment","_law_names","_law_powers","_law_flags","_law_due","_law_number","_law_byte","_law_found","_law_back"] Ze5 (Zg Zbu):=⟨rfl,rfl,rfl,by decide +kernel,rfl,by decide +kernel,by decide +kernel⟩
structure Glb (K:PySem.W.Frag) (mg:Str→Option Value):Prop where
  zc0:∃t,mg "ANSWER"=some (.int 3 t)
  zc1:∃t,mg "BYTE_FIGURES"=some (.str "0123456789abcdef" t)
  zc2:∃t,mg "DATA"=some (.int 7 t)
  zc3:∃t,mg "FIGURES"=some (.str "0123456789" t)
  zc4:∃t,mg "FLAGS"=some (.int 4 t)
  zc5:∃t,mg "GOAL"=some (.int 1 t)
  zc6:∃t,mg "GREATEST_DATA"=some (.int 16 t)
  zc7:∃t,mg "GREATEST_FLAGS"=some (.int 31 t)
  zc8:∃t,mg "GREATEST_MOST"=some (.int 65535 t)
  zc9:∃t,mg "GREATEST_NUMBER"=some (.int 4294967295 t)
  zc10:∃t,mg "GREATEST_PORT"=some (.int 65535 t)
  zc11:∃t,mg "GREATEST_WINDOW"=some (.int 65535 t)
  zc12:∃t,mg "LEAST_MOST"=some (.int 4 t)
  zc13:∃t,mg "MOST"=some (.int 6 t)
  zc14:∃t,mg "NO_FLAGS"=some (.str "none" t)
  zc15:∃t,mg "NUMBER"=some (.int 2 t)
  zc16:∃t,mg "SOURCE"=some (.int 0 t)
  zc17:∃t,mg "SYN"=some (.int 2 t)
  zc18:∃t,mg "WINDOW"=some (.int 5 t)
  zc19:∃t,mg "WORDS_WITHOUT_DATA"=some (.int 7 t)
  b_all:mg "all"=none
  b_int:mg "int"=none
  b_isinstance:mg "isinstance"=none
  b_len:mg "len"=none
  b_range:mg "range"=none
  b_str:mg "str"=none
  b_tuple:mg "tuple"=none
section
variable {P:Program} {w:World} {K:PySem.W.Frag} {mg:Str→Option Value} {base:Heap}
theorem zo0 (D:ZT K mg "has" zs0 zP0) (g:Glb K mg) :Z8 P w K mg base 1 "has" ZaQ:=
  ZaT D zc0 2 2 rfl rfl fun f cdv A outer s H E hr=>(Zm (Z4 (ZcO (ZK (ZfD hr.units) (Zi ZiL (Zb 0) (Zb 1)) Ze) Ze Ze)))
theorem zo3 (D:ZT K mg "shown_data" zs3 zP3) (g:Glb K mg) :Z8 P w K mg base 1 "shown_data" zg:=
  ZaT D zc3 1 1 rfl rfl fun f cdv A outer s H E hr=>(Zm (Z4 (ZbA (Zbp PySem.F.plainAttrs_str PySem.F.slot_str_join PySem.F.type_str_join Zby ZW (zx (Zg4 (show Zs _ (Zg zs3) "byte" ["data"] ["byte"] [] from ⟨rfl,by decide +kernel,by decide +kernel,by decide +kernel,by decide +kernel,by decide +kernel,rfl,by decide,by decide +kernel⟩) rfl rfl (ZbU (Zb 0)) (fun _ _ _ _ _=>(Zi Zw (ZI ZJ (z0 g.zc1) (Zi Z3 (Zi ZbP (Zb 0) Ze) Ze)) (ZI ZJ (z0 g.zc1) (Zi Z3 (Zb 0) Ze))))) zW)))))
theorem zo2 (D:ZT K mg "shown_flags" zs2 zP2) (g:Glb K mg) (GD:GDs P w K mg "FLAG_NAMES" [("fin",1),("syn",2),("rst",4),("psh",8),("ack",16)]) (zd0:Z8 P w K mg base 1 "has" ZaQ):Z8 P w K mg base 2 "shown_flags" Zv:=
  ZaT D zc2 1 2 rfl rfl fun f cdv A outer s H E hr=>(Zh (ZeQ 1 zc2.nd (show zm _ (Zg zs2) "name" "flag" ["flags","names"] ["name","flag","flags"] [0] from ⟨rfl,by decide +kernel,by decide +kernel,by decide +kernel,by decide +kernel,by decide +kernel,by decide +kernel,rfl,by decide,by decide +kernel⟩) rfl rfl GD (fun _ _ _ _ _=>⟨(ZK (Zbv hr.units) (Zn zd0 hr (by decide) (Za (Zb 2) (Za (Zb 1) Zf))) Ze),(Zb 0)⟩))
  (Zm (Z4 (ZcO (ZK ZdR (ZQ ZaG g.b_len PySem.boot_len (Za (Zb 1) Zf)) Ze) (ZbA (Zbp PySem.F.plainAttrs_str PySem.F.slot_str_join PySem.F.type_str_join Zby ZW (zx (Zb 1) zW))) (z0 g.zc14)))))
theorem zo1 (D:ZT K mg "shown" zs1 zP1) (g:Glb K mg) (zd3:Z8 P w K mg base 1 "shown_data" zg) (zd2:Z8 P w K mg base 2 "shown_flags" Zv):Z8 P w K mg base 3 "shown" zX:=
  ZaT D zc1 1 4 rfl rfl fun f cdv A outer s H E hr=>(Zh (Zdn 1 zc1.nd (show Zs _ (Zg zs1) "place" ["segment","ahead","behind","data"] ["place","segment"] [0] from ⟨rfl,by decide +kernel,by decide +kernel,by decide +kernel,by decide +kernel,by decide +kernel,rfl,by decide,by decide +kernel⟩) rfl rfl (ZbU (zC (Za (Zo g.zc16) (Za (Zo g.zc5) (Za (Zo g.zc15) (Za (Zo g.zc0) Zf)))))) (fun _ _ _ _ _=>(Z1 Zb7 g.b_str PyProof.Rows.boot_str (Za (ZI ZJ (Zb 1) (Zb 0)) Zf))))
  (Zh (Zdn 2 zc1.nd (show Zs _ (Zg zs1) "place" ["segment","ahead","behind","data"] ["place","segment"] [0] from ⟨rfl,by decide +kernel,by decide +kernel,by decide +kernel,by decide +kernel,by decide +kernel,rfl,by decide,by decide +kernel⟩) rfl rfl (ZbU (zC (Za (Zo g.zc18) (Za (Zo g.zc13) Zf)))) (fun _ _ _ _ _=>(Z1 Zb7 g.b_str PyProof.Rows.boot_str (Za (ZI ZJ (Zb 1) (Zb 0)) Zf))))
  (Zh (Zq 3 zc1.nd (ZcO (ZK ZdR (ZQ ZaG g.b_len PySem.boot_len (Za (ZI ZJ (Zb 0) (Zo g.zc2)) Zf)) Ze) (Zaj (Za (Zn zd3 hr (by decide) (Za (ZI ZJ (Zb 0) (Zo g.zc2)) Zf)) Zf)) (Zaj Zf)))
  (Zm (Z4 (ZbA (Zbp PySem.F.plainAttrs_str PySem.F.slot_str_join PySem.F.type_str_join Zby ZW (zx (Zi Zw (Zi Zw (Zi Zw (Zb 1) (Zaj (Za (Zn zd2 hr (by decide) (Za (ZI ZJ (Zb 0) (Zo g.zc4)) Zf)) Zf))) (Zb 2)) (Zb 3)) zW))))))))
theorem zo6 (D:ZT K mg "is_of" zs6 zP6) (g:Glb K mg) :Z8 P w K mg base 1 "is_of" zZ:=
  ZaT D zc6 2 2 rfl rfl fun f cdv A outer s H E hr=>(Zm (Z4 (ZdW (ZdV (ZfD hr.units) (Zb 0) ZW) (ZfO (ZQ Zi1 g.b_all PyProof.Rows.boot_all (Za (ZhJ (show Zs _ (Zg zs6) "sign" ["word","figures"] ["sign","figures"] [1] from ⟨rfl,by decide +kernel,by decide +kernel,by decide +kernel,by decide +kernel,by decide +kernel,rfl,by decide,by decide +kernel⟩) rfl rfl (Zb 0) (fun _ _ _ _ _=>(ZdV ZiK (Zb 0) (Zb 1) (by with_unfolding_all rfl)))) Zf))))))
theorem Zjg (D:ZT K mg "read_byte" Zc8 Ze9) (g:Glb K mg) :Z8 P w K mg base 1 "read_byte" zc:=
  ZaT D zc10 2 2 rfl rfl fun f cdv A outer s H E hr=>(Zm (Z4 (Zi Zw (Zi Zcp Ze (Zcr (Zbp PySem.F.plainAttrs_str PySem.F.slot_str_index PySem.F.type_str_index Zdm (z0 g.zc1) (zx (Zb 0) zW)))) (Zcr (Zbp PySem.F.plainAttrs_str PySem.F.slot_str_index PySem.F.type_str_index Zdm (z0 g.zc1) (zx (Zb 1) zW))))))
theorem zo9 (D:ZT K mg "read_data" zs9 zP9) (g:Glb K mg) (zd6:Z8 P w K mg base 1 "is_of" zZ) (zd10:Z8 P w K mg base 1 "read_byte" zc):Z8 P w K mg base 2 "read_data" zp:=
  ZaT D zc9 1 1 rfl rfl fun f cdv A outer s H E hr=>(Zh (zB (MW.mt (Zcq (ZdU (Zai (Zn zd6 hr (by decide) (Za (Zb 0) (Za (z0 g.zc1) Zf))))) (Zcq (ZK (Zbv hr.units) (Zi Z3 (ZQ ZaG g.b_len PySem.boot_len (Za (Zb 0) Zf)) Ze) Ze) (zM (ZK ZdR (ZQ ZaG g.b_len PySem.boot_len (Za (Zb 0) Zf)) (Zi Zcp Ze (Zo g.zc6))))))) (Zm zN) ZZ)
  (Zm (Z4 (Z1 Zeq g.b_tuple PyProof.Rows.boot_tuple (Za (ZhL (show Zs _ (Zg zs9) "place" ["word"] ["place","word"] [0] from ⟨rfl,by decide +kernel,by decide +kernel,by decide +kernel,by decide +kernel,by decide +kernel,rfl,by decide,by decide +kernel⟩) rfl rfl g.b_range (Za Ze (Za (ZQ ZaG g.b_len PySem.boot_len (Za (Zb 0) Zf)) (Za Ze Zf))) (fun _ _ _ _ _=>(Zn zd10 hr (by decide) (Za (ZI ZJ (Zb 1) (Zb 0)) (Za (ZI ZJ (Zb 1) (Zi Zw (Zb 0) Ze)) Zf))))) Zf)))))
theorem zo7 (D:ZT K mg "read_flags" zs7 zP7) (g:Glb K mg) (zd2:Z8 P w K mg base 2 "shown_flags" Zv):Z8 P w K mg base 3 "read_flags" zh:=
  ZaT D zc7 1 2 rfl rfl fun f cdv A outer s H E hr=>(Zh (ZcM PassesOwn.never (Zaq g.b_range (Za (Zi Zw (Zo g.zc7) Ze) Zf)) (Zbz 1 zc7.nd) (Zm (zB (ZK (Zbv hr.units) (Zn zd2 hr (by decide) (Za (Zb 1) Zf)) (Zb 0)) (Zm (Z4 (Zb 1))) ZZ)))
  (Zm zN))
theorem zo5 (D:ZT K mg "read_number" zs5 zP5) (g:Glb K mg) (zd6:Z8 P w K mg base 1 "is_of" zZ):Z8 P w K mg base 2 "read_number" Zt:=
  ZaT D zc5 2 3 rfl rfl fun f cdv A outer s H E hr=>(Zh (zB (MW.mt (Zcq (ZdU (Zai (Zn zd6 hr (by decide) (Za (Zb 0) (Za (z0 g.zc3) Zf))))) (zM (ZK ZdR (ZQ ZaG g.b_len PySem.boot_len (Za (Zb 0) Zf)) (ZQ ZaG g.b_len PySem.boot_len (Za (Z1 Zb7 g.b_str PyProof.Rows.boot_str (Za (Zb 1) Zf)) Zf)))))) (Zm zN) ZZ)
  (Zh (Zq 2 zc5.nd (Z1 ZhZ g.b_int PyProof.Rows.boot_int (Za (Zb 0) Zf)))
  (Zh (zB (MW.mt (Zcq (ZK ZdR (Zb 2) (Zb 1)) (zM (ZK (ZfD hr.units) (Z1 Zb7 g.b_str PyProof.Rows.boot_str (Za (Zb 2) Zf)) (Zb 0))))) (Zm zN) ZZ)
  (Zm (Z4 (Zb 2))))))
theorem zo8 (D:ZT K mg "read_most" zs8 zP8) (g:Glb K mg) (zd0:Z8 P w K mg base 1 "has" ZaQ) (zd5:Z8 P w K mg base 2 "read_number" Zt):Z8 P w K mg base 3 "read_most" zb:=
  ZaT D zc8 2 3 rfl rfl fun f cdv A outer s H E hr=>(Zh (Zq 2 zc8.nd (Zn zd5 hr (by decide) (Za (Zb 0) (Za (Zo g.zc8) Zf))))
  (Zh (zB (MW.mt (ZfH (ZK (ZfD hr.units) (Zb 2) Ze) (ZbS (MW.mt (Zcq (ZK ZjB (Zb 2) (Zo g.zc12)) (zM (ZK (Zbv hr.units) (Zn zd0 hr (by decide) (Za (Zb 1) (Za (Zo g.zc17) Zf))) Ze))))))) (Zm zN) ZZ)
  (Zm (Z4 (Zb 2)))))
theorem zo4 (D:ZT K mg "read" zs4 zP4) (g:Glb K mg) (zd9:Z8 P w K mg base 2 "read_data" zp) (zd7:Z8 P w K mg base 3 "read_flags" zh) (zd8:Z8 P w K mg base 3 "read_most" zb) (zd5:Z8 P w K mg base 2 "read_number" Zt):Z8 P w K mg base 4 "read" zY:=
  ZaT D zc4 1 8 rfl rfl fun f cdv A outer s H E hr=>(Zh (Zq 1 zc4.nd (ZfM (Zbp PySem.F.plainAttrs_str PySem.F.slot_str_split PySem.F.type_str_split ZfJ (Zb 0) (zx ZW zW))))
  (Zh (zB (ZK ZgE (ZQ ZaG g.b_len PySem.boot_len (Za (Zb 1) Zf)) (zC (Za (Zo g.zc19) (Za (Zi Zw (Zo g.zc19) Ze) Zf))) (by with_unfolding_all rfl)) (Zm zN) ZZ)
  (Zh (Zq 2 zc4.nd (zC (Za (Zn zd5 hr (by decide) (Za (ZI ZJ (Zb 1) (Zo g.zc16)) (Za (Zo g.zc10) Zf))) (Za (Zn zd5 hr (by decide) (Za (ZI ZJ (Zb 1) (Zo g.zc5)) (Za (Zo g.zc10) Zf))) Zf))))
  (Zh (Zq 3 zc4.nd (zC (Za (Zn zd5 hr (by decide) (Za (ZI ZJ (Zb 1) (Zo g.zc15)) (Za (Zo g.zc9) Zf))) (Za (Zn zd5 hr (by decide) (Za (ZI ZJ (Zb 1) (Zo g.zc0)) (Za (Zo g.zc9) Zf))) Zf))))
  (Zh (Zq 4 zc4.nd (Zn zd7 hr (by decide) (Za (ZI ZJ (Zb 1) (Zo g.zc4)) Zf)))
  (Zh (Zq 5 zc4.nd (Zn zd5 hr (by decide) (Za (ZI ZJ (Zb 1) (Zo g.zc18)) (Za (Zo g.zc11) Zf))))
  (Zh (Zq 6 zc4.nd (Zn zd8 hr (by decide) (Za (ZI ZJ (Zb 1) (Zo g.zc13)) (Za (Zb 4) Zf))))
  (Zh (Zq 7 zc4.nd (ZcO (ZK ZdR (ZQ ZaG g.b_len PySem.boot_len (Za (Zb 1) Zf)) (Zo g.zc19)) (Zn zd9 hr (by decide) (Za (ZI ZJ (Zb 1) (Zo g.zc2)) Zf)) (zC Zf)))
  (Zm (Z4 (Zi Zw (Zi Zw (Zb 2) (Zb 3)) (zC (Za (Zb 4) (Za (Zb 5) (Za (Zb 6) (Za (Zb 7) Zf))))))))))))))))
theorem Zjf (D:ZT K mg "_law_cell" Zc7 Ze8) (g:Glb K mg) :Z8 P w K mg base 1 "_law_cell" Zbd:=
  ZaT D zc11 2 2 rfl rfl fun f cdv A outer s H E hr=>(Zh (zB (Zai (Zb 0)) (Zm (Z4 (ZI ZJ (Zb 0) (Zi Z3 (Zb 1) (ZQ ZaG g.b_len PySem.boot_len (Za (Zb 0) Zf)))))) ZZ)
  (Zm (Z4 Ze)))
theorem Zje (D:ZT K mg "_law_mix" Zc6 Ze7) (g:Glb K mg) (zd11:Z8 P w K mg base 1 "_law_cell" Zbd):Z8 P w K mg base 2 "_law_mix" zt:=
  ZaT D zc12 2 3 rfl rfl fun f cdv A outer s H E hr=>(Zh (Zq 2 zc12.nd (Zi Z3 (Zi Zw (Zn zd11 hr (by decide) (Za (Zb 0) (Za (Zb 1) Zf))) (Zi Zcp Ze (Zi Zw (Zb 1) Ze))) Ze))
  (Zh (Zq 2 zc12.nd (Zi Z3 (Zi Zcp (Zb 2) Ze) Ze))
  (Zm (Z4 (Zi Z3 (Zi Zw (Zi Zcp (Zi ZbP (Zb 2) Ze) Ze) (Zb 2)) Ze)))))
theorem Zjd (D:ZT K mg "_law_any" ZcC Ze6) (g:Glb K mg) (zd12:Z8 P w K mg base 2 "_law_mix" zt):Z8 P w K mg base 3 "_law_any" Zct:=
  ZaT D zc13 2 11 rfl rfl fun f cdv A outer s H E hr=>(Zh (Zq 2 zc13.nd (Zi Z3 (Zn zd12 hr (by decide) (Za (Zb 0) (Za (Zb 1) Zf))) Ze))
  (Zh (Zq 3 zc13.nd Ze)
  (Zh (zB (MW.mt (ZfH (ZK (Zbv hr.units) (Zi Z3 (Zi ZbP (Zb 2) Ze) Ze) Ze) (ZbS (ZK ZdR (Zi Z3 (Zn zd12 hr (by decide) (Za (Zb 0) (Za (Zi Zw (Zb 1) Ze) Zf))) Ze) Ze)))) (Zh (Zq 3 zc13.nd (ZI ZJ (Zaj (Za Ze (Za Ze (Za Ze (Za Ze (Za Ze (Za Ze Zf))))))) (Zi Z3 (Zn zd12 hr (by decide) (Za (Zb 0) (Za (Zi Zw (Zb 1) Ze) Zf))) Ze)))
    (Zm (zB (ZK (Zbv hr.units) (Zb 3) Ze) (Zm (Zq 3 zc13.nd (Zi Zw Ze (Zi Z3 (Zn zd12 hr (by decide) (Za (Zb 0) (Za (Zi Zw (Zb 1) Ze) Zf))) Ze)))) ZZ))) ZZ)
  (Zh (ZeP 4 zc13.nd Zf)
  (Zh (ZcM PassesOwn.never (Zaq g.b_range (Za Ze Zf)) (Zbz 5 zc13.nd) (Zh (Zq 6 zc13.nd (Zn zd12 hr (by decide) (Za (Zb 0) (Za (Zi Zw (Zi Zw (Zb 1) Ze) (Zb 5)) Zf))))
    (Zh (zB (ZK (Zbv hr.units) (Zi Z3 (Zb 6) Ze) Ze) (Zm (Zq 6 zc13.nd (ZI ZJ (Zaj (Za Ze (Za Ze (Za Ze (Za Ze (Za Ze (Za Ze (Za Ze Zf)))))))) (Zi Z3 (Zi ZbP (Zb 6) Ze) Ze)))) ZZ)
    (Zm (ZeT 4 (Zb 6) (hpe:=fun h=>Zbp PySem.F.plainAttrs_list PySem.F.slot_list_append PySem.F.type_list_append ZeO h (zx (Zb 6) zW)))))))
  (Zh (Zq 7 zc13.nd (zC (Za (Zi Z3 (Zn zd12 hr (by decide) (Za (Zb 0) (Za (Zi Zw (Zb 1) Ze) Zf))) Ze) Zf)))
  (Zh (Zq 7 zc13.nd (Zi Zw (Zb 7) (zC (Za (Zi Z3 (Zn zd12 hr (by decide) (Za (Zb 0) (Za (Zi Zw (Zb 1) Ze) Zf))) Ze) Zf))))
  (Zh (Zq 8 zc13.nd (ZI ZJ (Zaj (Za Ze (Za Ze (Za Ze (Za Ze (Za Ze Zf)))))) (Zi Z3 (Zn zd12 hr (by decide) (Za (Zb 0) (Za (Zi Zw (Zb 1) Ze) Zf))) Ze)))
  (Zh (zB (ZK (Zbv hr.units) (Zb 8) Ze) (Zm (Zq 8 zc13.nd (Zi Z3 (Zn zd12 hr (by decide) (Za (Zb 0) (Za (Zi Zw (Zb 1) Ze) Zf))) Ze))) ZZ)
  (Zh (Zq 9 zc13.nd (Z1 Zeq g.b_tuple PyProof.Rows.boot_tuple (Za (Zg4 (show Zs _ (Zg ZcC) "_law_k" ["_law_script","_law_base","_law_flags","_law_most","_law_numbers","_law_k","_law_number","_law_ports","_law_size","_law_data","_law_window"] ["_law_k","_law_script","_law_base"] [0,1] from ⟨rfl,by decide +kernel,by decide +kernel,by decide +kernel,by decide +kernel,by decide +kernel,rfl,by decide,by decide +kernel⟩) rfl rfl (Zaq g.b_range (Za (Zb 8) Zf)) (fun _ _ _ _ _=>(Zi Z3 (Zi ZbP (Zn zd12 hr (by decide) (Za (Zb 1) (Za (Zi Zw (Zi Zw (Zb 2) Ze) (Zb 0)) Zf))) Ze) Ze))) Zf)))
  (Zh (zB (ZK (Zbv hr.units) (Zi Z3 (Zn zd12 hr (by decide) (Za (Zb 0) (Za (Zi Zw (Zb 1) Ze) Zf))) Ze) Ze) (Zm (Zq 9 zc13.nd (Zi Zcp (zC (Za Ze Zf)) (Zb 8)))) ZZ)
  (Zh (Zq 10 zc13.nd (Zi Z3 (Zn zd12 hr (by decide) (Za (Zb 0) (Za (Zi Zw (Zb 1) Ze) Zf))) Ze))
  (Zm (ZeS 4 (Z4 (Zi Zw (Zb 7) (zC (Za (ZI ZJ (Zb 4) Ze) (Za (ZI ZJ (Zb 4) Ze) (Za (Zb 2) (Za (Zb 10) (Za (Zb 3) (Za (Zb 9) Zf)))))))))))))))))))))))
theorem Zjc {fl:Addr} {fdl:FuncData} (F:Fun K "law" "law" Zbu fl fdl) (g:Glb K mg) (zd13:Z8 P w K mg base 3 "_law_any" Zct) (zd4:Z8 P w K mg base 4 "read" zY) (zd1:Z8 P w K mg base 3 "shown" zX):FnOk P w K mg base CX0 5 fl fdl Ze5 (spM ⟨Zd0 mg,K⟩ Zei):=
  mfn F zc14 1 10 rfl rfl fun cdv A outer s H E hr=>(Zh (Zq 1 zc14.nd (Zn zd13 hr (by decide) (Za (Zb 0) (Za Ze Zf))))
  (Zh (Zq 2 zc14.nd (Zaj (Za ZW (Za ZW (Za ZW (Za ZW (Za ZW Zf)))))))
  (Zh (Zq 3 zc14.nd (Zaj (Za Ze (Za Ze (Za Ze (Za Ze (Za Ze Zf)))))))
  (Zh (Zq 4 zc14.nd (ZbA (Zbp PySem.F.plainAttrs_str PySem.F.slot_str_join PySem.F.type_str_join Zby ZW (zx (ZhK (show Zs _ (Zg Zbu) "_law_k" ["_law_script","_law_segment","_law_names","_law_powers","_law_flags","_law_due","_law_number","_law_byte","_law_found","_law_back"] ["_law_k","_law_names","_law_segment","_law_powers"] [2,1,3] from ⟨rfl,by decide +kernel,by decide +kernel,by decide +kernel,by decide +kernel,by decide +kernel,rfl,by decide,by decide +kernel⟩) rfl rfl (Zaq g.b_range (Za Ze Zf)) (fun _ _ _ _ _=>⟨(ZK (Zbv hr.units) (Zi Z3 (Zi ZbP (ZI ZJ (Zb 2) Ze) (ZI ZJ (Zb 3) (Zb 0))) Ze) Ze),(ZI ZJ (Zb 1) (Zb 0))⟩)) zW))))
  (Zh (zB (ZK (Zbv hr.units) (Zb 4) ZW) (Zm (Zq 4 zc14.nd ZW)) ZZ)
  (Zh (Zq 5 zc14.nd ZW)
  (Zh (ZcM PassesOwn.never (ZbU (ZfN (Zb 1) ZgH (ZgG Ze))) (Zbz 6 zc14.nd) (Zm (Zq 5 zc14.nd (Zi Zw (Zi Zw (Zb 5) (Z1 Zb7 g.b_str PyProof.Rows.boot_str (Za (Zb 6) Zf))) ZW))))
  (Zh (Zq 5 zc14.nd (Zi Zw (Zi Zw (Zi Zw (Zi Zw (Zi Zw (Zb 5) (Zb 4)) ZW) (Z1 Zb7 g.b_str PyProof.Rows.boot_str (Za (ZI ZJ (Zb 1) Ze) Zf))) ZW) (Z1 Zb7 g.b_str PyProof.Rows.boot_str (Za (ZI ZJ (Zb 1) Ze) Zf))))
  (Zh (zB (Zai (ZI ZJ (Zb 1) Ze)) (Zh (Zq 5 zc14.nd (Zi Zw (Zb 5) ZW))
    (Zm (ZcM PassesOwn.never (ZbU (ZI ZJ (Zb 1) Ze)) (Zbz 7 zc14.nd) (Zm (Zq 5 zc14.nd (Zi Zw (Zi Zw (Zb 5) (ZI ZJ ZW (Zi ZbP (Zb 7) Ze))) (ZI ZJ ZW (Zi Z3 (Zb 7) Ze)))))))) ZZ)
  (Zh (Zq 8 zc14.nd (Zn zd1 hr (by decide) (Za (Zb 1) Zf)))
  (Zh (zB (MW.mt (Zcq (ZdU (Zai (ZQ Zd1 g.b_isinstance PyProof.Rows.boot_isinstance (Za (Zb 8) (Za (ZfL g.b_str PyProof.Rows.boot_str) Zf))))) (zM (ZK (ZfD hr.units) (Zb 8) (Zb 5))))) (Zm (Z4 ZiO)) ZZ)
  (Zh (Zq 9 zc14.nd (Zn zd4 hr (by decide) (Za (Zb 8) Zf)))
  (Zm (Z4 (ZdW (ZQ Zd1 g.b_isinstance PyProof.Rows.boot_isinstance (Za (Zb 9) (Za (ZfL g.b_tuple PyProof.Rows.boot_tuple) Zf))) (ZdW (ZdV (Zbv hr.units) (Zb 9) (Zb 1)) (ZfO (ZQ Zd1 g.b_isinstance PyProof.Rows.boot_isinstance (Za (ZI ZJ (Zb 9) Ze) (Za (ZfL g.b_tuple PyProof.Rows.boot_tuple) Zf))))))))))))))))))))
theorem ZhI {fl:Addr} {fdl:FuncData} (F:Fun K "law" "law" Zbu fl fdl) (zD0:ZT K mg "has" zs0 zP0) (zD1:ZT K mg "shown" zs1 zP1) (zD2:ZT K mg "shown_flags" zs2 zP2) (zD3:ZT K mg "shown_data" zs3 zP3) (zD4:ZT K mg "read" zs4 zP4) (zD5:ZT K mg "read_number" zs5 zP5) (zD6:ZT K mg "is_of" zs6 zP6) (zD7:ZT K mg "read_flags" zs7 zP7) (zD8:ZT K mg "read_most" zs8 zP8) (zD9:ZT K mg "read_data" zs9 zP9) (zD10:ZT K mg "read_byte" Zc8 Ze9) (zD11:ZT K mg "_law_cell" Zc7 Ze8) (zD12:ZT K mg "_law_mix" Zc6 Ze7) (zD13:ZT K mg "_law_any" ZcC Ze6) (g:Glb K mg) (GD:GDs P w K mg "FLAG_NAMES" [("fin",1),("syn",2),("rst",4),("psh",8),("ack",16)]):FnOk P w K mg base CX0 5 fl fdl Ze5 (spM ⟨Zd0 mg,K⟩ Zei):=by
  have zd0:=zo0 (P:=P) (w:=w) (base:=base) zD0 g
  have zd3:=zo3 (P:=P) (w:=w) (base:=base) zD3 g
  have zd2:=zo2 (P:=P) (w:=w) (base:=base) zD2 g GD zd0
  have zd1:=zo1 (P:=P) (w:=w) (base:=base) zD1 g zd3 zd2
  have zd6:=zo6 (P:=P) (w:=w) (base:=base) zD6 g
  have zd10:=Zjg (P:=P) (w:=w) (base:=base) zD10 g
  have zd9:=zo9 (P:=P) (w:=w) (base:=base) zD9 g zd6 zd10
  have zd7:=zo7 (P:=P) (w:=w) (base:=base) zD7 g zd2
  have zd5:=zo5 (P:=P) (w:=w) (base:=base) zD5 g zd6
  have zd8:=zo8 (P:=P) (w:=w) (base:=base) zD8 g zd0 zd5
  have zd4:=zo4 (P:=P) (w:=w) (base:=base) zD4 g zd9 zd7 zd8 zd5
  have zd11:=Zjf (P:=P) (w:=w) (base:=base) zD11 g
  have zd12:=Zje (P:=P) (w:=w) (base:=base) zD12 g zd11
  have zd13:=Zjd (P:=P) (w:=w) (base:=base) zD13 g zd12
  exact Zjc F g zd13 zd4 zd1
end
theorem us1 {p:List Value→Prop} (h:∀a,p [a]):∀us:List Value,us.length=1→p us
  | [a],_=>h a
theorem us2 {p:List Value→Prop} (h:∀a b,p [a,b]):∀us:List Value,us.length=2→p us
  | [a,b],_=>h a b
open PySem.W
theorem Zh3 {l:OpenLaw} {w:World} {K:Frag} {h:Heap} {mg:Str→Option Value} {fa DD f0 f1 f2 f3 f4 f5 f6 f7 f8 f9 f10 f11 f12 f13 f14:Addr} (X:K.In h) (G:h.Ns mainGlobals mg) (hfa:mg "law"=some (.ref fa))
    {esD:Array DictEntry} {epD:Nat} {tD1 tD2 tD3 tD4 tD5 uD1 uD2 uD3 uD4 uD5:Tok}
    (yaD:nsIn K mainGlobals "FLAG_NAMES"=some (some (.ref DD))) (ylD:K.lookup DD=some ⟨.type "dict",none,.dict esD epD,#[]⟩) (yeD:esD=#[⟨PyData.keyHash w.params "fin",.str "fin" tD1,.int 1 uD1⟩,⟨PyData.keyHash w.params "syn",.str "syn" tD2,.int 2 uD2⟩,⟨PyData.keyHash w.params "rst",.str "rst" tD3,.int 4 uD3⟩,⟨PyData.keyHash w.params "psh",.str "psh" tD4,.int 8 uD4⟩,⟨PyData.keyHash w.params "ack",.str "ack" tD5,.int 16 uD5⟩]) (ynD:(DD == sysModules)=false)
    (a0:nsIn K mainGlobals "has"=some (some (.ref f0))) (l0:K.lookup f0=some ⟨oc0,od0,.func (fnOf "has" "has" (ZD zs0) (Zx zs0) (Zg zs0) .none kV0 dc0 pm0 an0 cd0 ct0),sl0⟩) (c0:codeIn K cd0 "has"=true) (k0:keepIn K (.ref f0)=true)
    (a1:nsIn K mainGlobals "shown"=some (some (.ref f1))) (l1:K.lookup f1=some ⟨oc1,od1,.func (fnOf "shown" "shown" (ZD zs1) (Zx zs1) (Zg zs1) .none kV1 dc1 pm1 an1 cd1 ct1),sl1⟩) (c1:codeIn K cd1 "shown"=true) (k1:keepIn K (.ref f1)=true)
    (a2:nsIn K mainGlobals "shown_flags"=some (some (.ref f2))) (l2:K.lookup f2=some ⟨oc2,od2,.func (fnOf "shown_flags" "shown_flags" (ZD zs2) (Zx zs2) (Zg zs2) .none kV2 dc2 pm2 an2 cd2 ct2),sl2⟩) (c2:codeIn K cd2 "shown_flags"=true) (k2:keepIn K (.ref f2)=true)
    (a3:nsIn K mainGlobals "shown_data"=some (some (.ref f3))) (l3:K.lookup f3=some ⟨oc3,od3,.func (fnOf "shown_data" "shown_data" (ZD zs3) (Zx zs3) (Zg zs3) .none kV3 dc3 pm3 an3 cd3 ct3),sl3⟩) (c3:codeIn K cd3 "shown_data"=true) (k3:keepIn K (.ref f3)=true)
    (a4:nsIn K mainGlobals "read"=some (some (.ref f4))) (l4:K.lookup f4=some ⟨oc4,od4,.func (fnOf "read" "read" (ZD zs4) (Zx zs4) (Zg zs4) .none kV4 dc4 pm4 an4 cd4 ct4),sl4⟩) (c4:codeIn K cd4 "read"=true) (k4:keepIn K (.ref f4)=true)
    (a5:nsIn K mainGlobals "read_number"=some (some (.ref f5))) (l5:K.lookup f5=some ⟨oc5,od5,.func (fnOf "read_number" "read_number" (ZD zs5) (Zx zs5) (Zg zs5) .none kV5 dc5 pm5 an5 cd5 ct5),sl5⟩) (c5:codeIn K cd5 "read_number"=true) (k5:keepIn K (.ref f5)=true)
    (a6:nsIn K mainGlobals "is_of"=some (some (.ref f6))) (l6:K.lookup f6=some ⟨oc6,od6,.func (fnOf "is_of" "is_of" (ZD zs6) (Zx zs6) (Zg zs6) .none kV6 dc6 pm6 an6 cd6 ct6),sl6⟩) (c6:codeIn K cd6 "is_of"=true) (k6:keepIn K (.ref f6)=true)
    (a7:nsIn K mainGlobals "read_flags"=some (some (.ref f7))) (l7:K.lookup f7=some ⟨oc7,od7,.func (fnOf "read_flags" "read_flags" (ZD zs7) (Zx zs7) (Zg zs7) .none kV7 dc7 pm7 an7 cd7 ct7),sl7⟩) (c7:codeIn K cd7 "read_flags"=true) (k7:keepIn K (.ref f7)=true)
    (a8:nsIn K mainGlobals "read_most"=some (some (.ref f8))) (l8:K.lookup f8=some ⟨oc8,od8,.func (fnOf "read_most" "read_most" (ZD zs8) (Zx zs8) (Zg zs8) .none kV8 dc8 pm8 an8 cd8 ct8),sl8⟩) (c8:codeIn K cd8 "read_most"=true) (k8:keepIn K (.ref f8)=true)
    (a9:nsIn K mainGlobals "read_data"=some (some (.ref f9))) (l9:K.lookup f9=some ⟨oc9,od9,.func (fnOf "read_data" "read_data" (ZD zs9) (Zx zs9) (Zg zs9) .none kV9 dc9 pm9 an9 cd9 ct9),sl9⟩) (c9:codeIn K cd9 "read_data"=true) (k9:keepIn K (.ref f9)=true)
    (a10:nsIn K mainGlobals "read_byte"=some (some (.ref f10))) (l10:K.lookup f10=some ⟨oc10,od10,.func (fnOf "read_byte" "read_byte" (ZD Zc8) (Zx Zc8) (Zg Zc8) .none kV10 dc10 pm10 an10 cd10 ct10),sl10⟩) (c10:codeIn K cd10 "read_byte"=true) (k10:keepIn K (.ref f10)=true)
    (a11:nsIn K mainGlobals "_law_cell"=some (some (.ref f11))) (l11:K.lookup f11=some ⟨oc11,od11,.func (fnOf "_law_cell" "_law_cell" (ZD Zc7) (Zx Zc7) (Zg Zc7) .none kV11 dc11 pm11 an11 cd11 ct11),sl11⟩) (c11:codeIn K cd11 "_law_cell"=true) (k11:keepIn K (.ref f11)=true)
    (a12:nsIn K mainGlobals "_law_mix"=some (some (.ref f12))) (l12:K.lookup f12=some ⟨oc12,od12,.func (fnOf "_law_mix" "_law_mix" (ZD Zc6) (Zx Zc6) (Zg Zc6) .none kV12 dc12 pm12 an12 cd12 ct12),sl12⟩) (c12:codeIn K cd12 "_law_mix"=true) (k12:keepIn K (.ref f12)=true)
    (a13:nsIn K mainGlobals "_law_any"=some (some (.ref f13))) (l13:K.lookup f13=some ⟨oc13,od13,.func (fnOf "_law_any" "_law_any" (ZD ZcC) (Zx ZcC) (Zg ZcC) .none kV13 dc13 pm13 an13 cd13 ct13),sl13⟩) (c13:codeIn K cd13 "_law_any"=true) (k13:keepIn K (.ref f13)=true)
    (a14:nsIn K mainGlobals "law"=some (some (.ref f14))) (l14:K.lookup f14=some ⟨oc14,od14,.func (fnOf "law" "law" (ZD Zbu) (Zx Zbu) (Zg Zbu) .none kV14 dc14 pm14 an14 cd14 ct14),sl14⟩) (c14:codeIn K cd14 "law"=true) (k14:keepIn K (.ref f14)=true)
    (zg0:nsIn K mainGlobals "ANSWER"=some (some (.int 3 zt0)))
    (zg1:nsIn K mainGlobals "BYTE_FIGURES"=some (some (.str "0123456789abcdef" zt1)))
    (zg2:nsIn K mainGlobals "DATA"=some (some (.int 7 zt2)))
    (zg3:nsIn K mainGlobals "FIGURES"=some (some (.str "0123456789" zt3)))
    (zg4:nsIn K mainGlobals "FLAGS"=some (some (.int 4 zt4)))
    (zg5:nsIn K mainGlobals "GOAL"=some (some (.int 1 zt5)))
    (zg6:nsIn K mainGlobals "GREATEST_DATA"=some (some (.int 16 zt6)))
    (zg7:nsIn K mainGlobals "GREATEST_FLAGS"=some (some (.int 31 zt7)))
    (zg8:nsIn K mainGlobals "GREATEST_MOST"=some (some (.int 65535 zt8)))
    (zg9:nsIn K mainGlobals "GREATEST_NUMBER"=some (some (.int 4294967295 zt9)))
    (zg10:nsIn K mainGlobals "GREATEST_PORT"=some (some (.int 65535 zt10)))
    (zg11:nsIn K mainGlobals "GREATEST_WINDOW"=some (some (.int 65535 zt11)))
    (zg12:nsIn K mainGlobals "LEAST_MOST"=some (some (.int 4 zt12)))
    (zg13:nsIn K mainGlobals "MOST"=some (some (.int 6 zt13)))
    (zg14:nsIn K mainGlobals "NO_FLAGS"=some (some (.str "none" zt14)))
    (zg15:nsIn K mainGlobals "NUMBER"=some (some (.int 2 zt15)))
    (zg16:nsIn K mainGlobals "SOURCE"=some (some (.int 0 zt16)))
    (zg17:nsIn K mainGlobals "SYN"=some (some (.int 2 zt17)))
    (zg18:nsIn K mainGlobals "WINDOW"=some (some (.int 5 zt18)))
    (zg19:nsIn K mainGlobals "WORDS_WITHOUT_DATA"=some (some (.int 7 zt19)))
    (z_all:nsIn K mainGlobals "all"=some none)
    (z_int:nsIn K mainGlobals "int"=some none)
    (z_isinstance:nsIn K mainGlobals "isinstance"=some none)
    (z_len:nsIn K mainGlobals "len"=some none)
    (z_range:nsIn K mainGlobals "range"=some none)
    (z_str:nsIn K mainGlobals "str"=some none)
    (z_tuple:nsIn K mainGlobals "tuple"=some none) :
    ∃fd:FuncData,(∀(s:Shared) (v:Value),BindsTo s fd ⟨[v],[]⟩ [("_law_script",v)])∧∀base:Heap,K.In base→base.Ns mainGlobals mg→FnOk l.prog w K mg base CX0 5 fa fd ["_law_script"] (Zea K):=by
  have e:=hfa.symm.trans (mg_of X G a14)
  cases e
  have g:Glb K mg:=⟨⟨_,mg_of X G zg0⟩,⟨_,mg_of X G zg1⟩,⟨_,mg_of X G zg2⟩,⟨_,mg_of X G zg3⟩,⟨_,mg_of X G zg4⟩,⟨_,mg_of X G zg5⟩,⟨_,mg_of X G zg6⟩,⟨_,mg_of X G zg7⟩,⟨_,mg_of X G zg8⟩,⟨_,mg_of X G zg9⟩,⟨_,mg_of X G zg10⟩,⟨_,mg_of X G zg11⟩,⟨_,mg_of X G zg12⟩,⟨_,mg_of X G zg13⟩,⟨_,mg_of X G zg14⟩,⟨_,mg_of X G zg15⟩,⟨_,mg_of X G zg16⟩,⟨_,mg_of X G zg17⟩,⟨_,mg_of X G zg18⟩,⟨_,mg_of X G zg19⟩,mg_none_of X G z_all,mg_none_of X G z_int,mg_none_of X G z_isinstance,mg_none_of X G z_len,mg_none_of X G z_range,mg_none_of X G z_str,mg_none_of X G z_tuple⟩
  have F0:=za (st:=zs0) l0 c0 k0
  have b0:=F0.binds (ps:=zP0) fun _ _ _ _ _ _=>us2 fun _ _=>rfl
  have D0:ZT K mg "has" zs0 zP0:=⟨_,_,F0,b0,mg_of X G a0⟩
  have F1:=za (st:=zs1) l1 c1 k1
  have b1:=F1.binds (ps:=zP1) fun _ _ _ _ _ _=>us1 fun _=>rfl
  have D1:ZT K mg "shown" zs1 zP1:=⟨_,_,F1,b1,mg_of X G a1⟩
  have F2:=za (st:=zs2) l2 c2 k2
  have b2:=F2.binds (ps:=zP2) fun _ _ _ _ _ _=>us1 fun _=>rfl
  have D2:ZT K mg "shown_flags" zs2 zP2:=⟨_,_,F2,b2,mg_of X G a2⟩
  have F3:=za (st:=zs3) l3 c3 k3
  have b3:=F3.binds (ps:=zP3) fun _ _ _ _ _ _=>us1 fun _=>rfl
  have D3:ZT K mg "shown_data" zs3 zP3:=⟨_,_,F3,b3,mg_of X G a3⟩
  have F4:=za (st:=zs4) l4 c4 k4
  have b4:=F4.binds (ps:=zP4) fun _ _ _ _ _ _=>us1 fun _=>rfl
  have D4:ZT K mg "read" zs4 zP4:=⟨_,_,F4,b4,mg_of X G a4⟩
  have F5:=za (st:=zs5) l5 c5 k5
  have b5:=F5.binds (ps:=zP5) fun _ _ _ _ _ _=>us2 fun _ _=>rfl
  have D5:ZT K mg "read_number" zs5 zP5:=⟨_,_,F5,b5,mg_of X G a5⟩
  have F6:=za (st:=zs6) l6 c6 k6
  have b6:=F6.binds (ps:=zP6) fun _ _ _ _ _ _=>us2 fun _ _=>rfl
  have D6:ZT K mg "is_of" zs6 zP6:=⟨_,_,F6,b6,mg_of X G a6⟩
  have F7:=za (st:=zs7) l7 c7 k7
  have b7:=F7.binds (ps:=zP7) fun _ _ _ _ _ _=>us1 fun _=>rfl
  have D7:ZT K mg "read_flags" zs7 zP7:=⟨_,_,F7,b7,mg_of X G a7⟩
  have F8:=za (st:=zs8) l8 c8 k8
  have b8:=F8.binds (ps:=zP8) fun _ _ _ _ _ _=>us2 fun _ _=>rfl
  have D8:ZT K mg "read_most" zs8 zP8:=⟨_,_,F8,b8,mg_of X G a8⟩
  have F9:=za (st:=zs9) l9 c9 k9
  have b9:=F9.binds (ps:=zP9) fun _ _ _ _ _ _=>us1 fun _=>rfl
  have D9:ZT K mg "read_data" zs9 zP9:=⟨_,_,F9,b9,mg_of X G a9⟩
  have F10:=za (st:=Zc8) l10 c10 k10
  have b10:=F10.binds (ps:=Ze9) fun _ _ _ _ _ _=>us2 fun _ _=>rfl
  have D10:ZT K mg "read_byte" Zc8 Ze9:=⟨_,_,F10,b10,mg_of X G a10⟩
  have F11:=za (st:=Zc7) l11 c11 k11
  have b11:=F11.binds (ps:=Ze8) fun _ _ _ _ _ _=>us2 fun _ _=>rfl
  have D11:ZT K mg "_law_cell" Zc7 Ze8:=⟨_,_,F11,b11,mg_of X G a11⟩
  have F12:=za (st:=Zc6) l12 c12 k12
  have b12:=F12.binds (ps:=Ze7) fun _ _ _ _ _ _=>us2 fun _ _=>rfl
  have D12:ZT K mg "_law_mix" Zc6 Ze7:=⟨_,_,F12,b12,mg_of X G a12⟩
  have F13:=za (st:=ZcC) l13 c13 k13
  have b13:=F13.binds (ps:=Ze6) fun _ _ _ _ _ _=>us2 fun _ _=>rfl
  have D13:ZT K mg "_law_any" ZcC Ze6:=⟨_,_,F13,b13,mg_of X G a13⟩
  have F14:=za (st:=Zbu) l14 c14 k14
  have b14:=F14.binds (ps:=Ze5) fun _ _ _ _ _ _=>us1 fun _=>rfl
  have D14:ZT K mg "law" Zbu Ze5:=⟨_,_,F14,b14,mg_of X G a14⟩
  refine ⟨fnOf "law" "law" (ZD Zbu) (Zx Zbu) (Zg Zbu) .none kV14 dc14 pm14 an14 cd14 ct14,fun s v=>.of_eq rfl,fun base BX BG=>?_⟩
  exact ZgL law_true (ZhI F14 D0 D1 D2 D3 D4 D5 D6 D7 D8 D9 D10 D11 D12 D13 g (ZhU BX BG yaD ylD yeD (by decide) ynD))
theorem Zjn {l:OpenLaw} {q:Program} {loose:List Str} {XP:(Str→Option Value)→Heap→Prop} {YP:World→Heap→Prop} {d:DefRec} {K:Params→Frag} (hn:l.most=some 63) (hdf:d.params.defaults=[])
    (hY:∀(w:World) (h:Heap),YP w h→(K w.params).In h)
    (F:∀(w:World) (mg:Str→Option Value) (fa:Addr) (h:Heap),(K w.params).In h→h.Ns mainGlobals mg→mg d.name=some (.ref fa)→
      ∃fd:FuncData,(∀(s:Shared) (u:Value),BindsTo s fd ⟨[u],[]⟩ [("_law_script",u)])∧∀base:Heap,(K w.params).In base→base.Ns mainGlobals mg→FnOk l.prog w (K w.params) mg base CX0 5 fa fd ["_law_script"] (Zea (K w.params))) :
    WalkO q loose XP YP l.row.toRowW d [] (fun f vs=>PySem.call f vs):=
  L2.Zgf (n:=63) (k:=5) (x:="_law_script") (CX:=fun _=>CX0) (sp:=fun w=>Zea (K w.params)) hn (by decide) hdf ⟨rfl,by decide,by decide⟩ hY F (fun _ H a ns hl hO hS=>⟨a,ns,rfl,hO,hS,hl,fun _=>rfl⟩) fun _ _ _ _ _ z=>z
end My
open PySem PySem.W PyProof.Rows
set_option maxRecDepth 100000 in
set_option maxHeartbeats 0 in
theorem PySem.Challenge.cw_wirestream_k05_lines_holds : PySem.Challenge.rw_wirestream_k05_lines.Holds := by
  w_on; o_law; k_head; (case hw=>w_witness2)
  k_fill
  refine My.Zjn (l:=PySem.Challenge.rw_wirestream_k05_lines) rfl rfl (fun w h Y=>PySem.W.kIn_of Y) ?F
  case F=>
    intro w mg fa h KX G hmg
    refine' My.Zh3 KX G hmg ?yaD ?ylD ?yeD ?ynD ?a0 ?l0 ?c0 ?k0 ?a1 ?l1 ?c1 ?k1 ?a2 ?l2 ?c2 ?k2 ?a3 ?l3 ?c3 ?k3 ?a4 ?l4 ?c4 ?k4 ?a5 ?l5 ?c5 ?k5 ?a6 ?l6 ?c6 ?k6 ?a7 ?l7 ?c7 ?k7 ?a8 ?l8 ?c8 ?k8 ?a9 ?l9 ?c9 ?k9 ?a10 ?l10 ?c10 ?k10 ?a11 ?l11 ?c11 ?k11 ?a12 ?l12 ?c12 ?k12 ?a13 ?l13 ?c13 ?k13 ?a14 ?l14 ?c14 ?k14 ?zg0 ?zg1 ?zg2 ?zg3 ?zg4 ?zg5 ?zg6 ?zg7 ?zg8 ?zg9 ?zg10 ?zg11 ?zg12 ?zg13 ?zg14 ?zg15 ?zg16 ?zg17 ?zg18 ?zg19 ?z_all ?z_int ?z_isinstance ?z_len ?z_range ?z_str ?z_tuple
    case yaD | ylD | a0 | l0 | c0 | k0 | a1 | l1 | c1 | k1 | a2 | l2 | c2 | k2 | a3 | l3 | c3 | k3 | a4 | l4 | c4 | k4 | a5 | l5 | c5 | k5 | a6 | l6 | c6 | k6 | a7 | l7 | c7 | k7 | a8 | l8 | c8 | k8 | a9 | l9 | c9 | k9 | a10 | l10 | c10 | k10 | a11 | l11 | c11 | k11 | a12 | l12 | c12 | k12 | a13 | l13 | c13 | k13 | a14 | l14 | c14 | k14 | zg0 | zg1 | zg2 | zg3 | zg4 | zg5 | zg6 | zg7 | zg8 | zg9 | zg10 | zg11 | zg12 | zg13 | zg14 | zg15 | zg16 | zg17 | zg18 | zg19 | z_all | z_int | z_isinstance | z_len | z_range | z_str | z_tuple=>k_is
    (case yeD=>rfl)
    (case ynD=>rfl)
#print axioms PySem.Challenge.cw_wirestream_k05_lines_holds
