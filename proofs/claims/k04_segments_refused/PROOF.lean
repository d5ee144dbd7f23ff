import PyProof.Rows.All
import KE.KDictLaws
import KE.KDictOf
import KE.KFromBytes
import KE.KIsAll
import KE.KItem
import Wide.Meth
import PySem.Challenge.RW_wirestream_k04_segments_refused
set_option compiler.extract_closed false
set_option bootstrap.genMatcherCode false
set_option Elab.async false
set_option linter.all false
set_option maxRecDepth 100000
namespace L2
open PySem PySem.Spec PyProof.Rows
abbrev Key:=Sum Int Str
def ZiD:Key→Value→Bool
  | .inl k,v=>Value.isInt k v
  | .inr x,v=>Value.isStrOf x v
def ZlB (w:World):Key→Int
  | .inl k=>hashInt k
  | .inr x=>hashStr w x
theorem Z2:∀{k:Key} {v:Value},ZiD k v=true→(∃i t,k=Sum.inl i∧v=Value.int i t)∨(∃x t,k=Sum.inr x∧v=Value.str x t)
  | .inl i,v,h=>by
    obtain ⟨t,e⟩:=Value.isInt_shape (k:=i) (v:=v) h
    exact .inl ⟨i,t,rfl,e⟩
  | .inr x,v,h=>by
    obtain ⟨t,e⟩:=Value.isStrOf_shape (x:=x) (v:=v) h
    exact .inr ⟨x,t,rfl,e⟩
theorem Zjv (a b:Int):decide ((Sum.inl a:Key)=Sum.inl b)=(a == b):=by
  by_cases e:a=b
  · subst e; simp
  · have h:¬(Sum.inl a:Key)=Sum.inl b:=fun q=>e (Sum.inl.inj q)
    rw [decide_eq_false h]
    exact (beq_eq_false_iff_ne.mpr e).symm
theorem Zjs (a b:Str):decide ((Sum.inr a:Key)=Sum.inr b)=decide (a=b):=by
  by_cases e:a=b
  · subst e; simp
  · have h:¬(Sum.inr a:Key)=Sum.inr b:=fun q=>e (Sum.inr.inj q)
    rw [decide_eq_false h,decide_eq_false e]
theorem Zju (a:Int) (b:Str):decide ((Sum.inl a:Key)=Sum.inr b)=false:=decide_eq_false (fun q=>nomatch q)
theorem Zjt (a:Str) (b:Int):decide ((Sum.inr a:Key)=Sum.inl b)=false:=decide_eq_false (fun q=>nomatch q)
def Zdm (prog:Program) (w:World):PySem.KeyKind prog w Key where
  is:=ZiD
  hash:=ZlB w
  inj:=fun v a b ha hb=>by
    rcases Z2 ha with ⟨i,t,rfl,rfl⟩ | ⟨x,t,rfl,rfl⟩
    · rcases Z2 hb with ⟨j,u,rfl,e⟩ | ⟨y,u,rfl,e⟩
      · injection e with e1 _; rw [e1]
      · exact nomatch e
    · rcases Z2 hb with ⟨j,u,rfl,e⟩ | ⟨y,u,rfl,e⟩
      · exact nomatch e
      · injection e with e1 _; rw [e1]
  byValue:=fun k v h=>by
    rcases Z2 h with ⟨i,t,rfl,rfl⟩ | ⟨x,t,rfl,rfl⟩<;>rfl
  pyHash:=fun hv h=>by
    rcases Z2 hv with ⟨i,t,rfl,rfl⟩ | ⟨x,t,rfl,rfl⟩
    · exact wpAny_pyHash_int h
    · exact wpAny_pyHash_str h
  eqBool:=fun hu hv h=>by
    rcases Z2 hu with ⟨i,t,rfl,rfl⟩ | ⟨x,t,rfl,rfl⟩
    · rcases Z2 hv with ⟨j,u,rfl,rfl⟩ | ⟨y,u,rfl,rfl⟩
      · rw [Zjv] at h; exact wpAny_eqBool_int h
      · rw [Zju] at h; exact SeqAt.EqAt.int_str i t y u _ _ _ _ h
    · rcases Z2 hv with ⟨j,u,rfl,rfl⟩ | ⟨y,u,rfl,rfl⟩
      · rw [Zjt] at h; exact SeqAt.EqAt.str_int x t j u _ _ _ _ h
      · rw [Zjs] at h; exact wpAny_eqBool_str h
  «strs»:=fun k x t v h=>by
    rcases Z2 h with ⟨i,u,rfl,e⟩ | ⟨y,u,rfl,e⟩
    · exact nomatch e
    · injection e with e1 _
      subst e1
      cases v<;>rfl
end L2
namespace L2
open PySem PySem.Spec PyProof.Rows
inductive V where
  | non | bl (b:Bool) | int (i:Int) | str (x:Str) | byt (b:Array UInt8) | flt (b:UInt64) | ref (a:Addr) | ty (n:String)
  deriving DecidableEq
def RelV:V→Value→Prop
  | .non,u=>u=Value.none
  | .bl b,u=>u=Value.bool b
  | .int i,u=>∃t,u=Value.int i t
  | .str x,u=>∃t,u=Value.str x t
  | .byt b,u=>∃t,u=Value.bytes b t
  | .flt b,u=>∃t,u=Value.float b t
  | .ref a,u=>u=Value.ref a
  | .ty n,u=>u=Value.type n
abbrev Vals:List V→List Value→Prop:=Paired RelV
theorem Vals.length {xs:List V} {us:List Value} (r:Vals xs us):xs.length=us.length:=Paired.length r
theorem Vals.get:∀{xs:List V} {us:List Value} {i:Nat} {x:V},Vals xs us→xs[i]?=some x→∃u,us[i]?=some u∧RelV x u
  | _,_,_,_,.nil,e=>by simp at e
  | _,_,0,_,.cons r _,e=>by simp at e; subst e; exact ⟨_,rfl,r⟩
  | _,_,i+1,x,.cons _ t,e=>by
    obtain ⟨u,h1,h2⟩:=Vals.get (i:=i) (x:=x) t (by simpa using e)
    exact ⟨u,by simpa using h1,h2⟩
theorem Vals.set {x:V} {u:Value} (r:RelV x u):∀{xs:List V} {us:List Value} (i:Nat),Vals xs us→Vals (xs.set i x) (us.set i u)
  | _,_,_,.nil=>.nil
  | _,_,0,.cons _ t=>.cons r t
  | _,_,i+1,.cons q t=>.cons q (Vals.set r i t)
theorem Vals.append:∀{xs ys:List V} {us ws:List Value},Vals xs us→Vals ys ws→Vals (xs++ys) (us++ws)
  | _,_,_,_,.nil,s=>s
  | _,_,_,_,.cons r t,s=>.cons r (Vals.append t s)
theorem Vals.take:∀{xs:List V} {us:List Value} (n:Nat),Vals xs us→Vals (xs.take n) (us.take n)
  | _,_,0,_=>.nil
  | _,_,_+1,.nil=>.nil
  | _,_,n+1,.cons r t=>.cons r (Vals.take n t)
theorem Vals.drop:∀{xs:List V} {us:List Value} (n:Nat),Vals xs us→Vals (xs.drop n) (us.drop n)
  | _,_,0,r=>r
  | _,_,_+1,.nil=>.nil
  | _,_,n+1,.cons _ t=>Vals.drop n t
theorem Vals.none_of:∀{xs:List V} {us:List Value} {i:Nat},Vals xs us→xs[i]?=none→us[i]?=none:=fun {xs us i} r e=>by
  have h1:=r.length
  have h2:xs.length≤i:=List.getElem?_eq_none_iff.mp e
  exact List.getElem?_eq_none_iff.mpr (by omega)
def RelO:Option V→Option Value→Prop
  | some v,some u=>RelV v u
  | none,none=>True
  | _,_=>False
def KV {κ:Type}:List (κ×V)→List (κ×Value)→Prop:=Paired fun (p:κ×V) (q:κ×Value)=>p.1=q.1∧RelV p.2 q.2
def kV:Key→V
  | .inl i=>.int i
  | .inr x=>.str x
inductive HO where
  | lst (xs:List V)
  | tup (xs:List V)
  | dK (kvs:List (Key×V)) | dT (kvs:List (List Key×V))
  | set (S:Int→Bool) (n:Nat)
  | ins (C dx:Addr) (fs:List (Str×V))
  | own (x:Addr)
  | xd (fs:List (Str×V))
  | met (f x:Addr)
  | rng (lo hi:Int)
  | frz (o:Obj) (u:HO)
  | tbl (ps:Array Value)
  | ext (φ:Heap→Prop)
abbrev Hp:=Addr→Option HO
def upd (H:Hp) (a:Addr) (o:HO):Hp:=fun b=>if b=a then some o else H b
theorem zp {H:Hp} {a:Addr} {o:HO}:upd H a o a=some o:=by unfold upd; rw [if_pos rfl]
theorem Zz {H:Hp} {a b:Addr} {o:HO} (h:b≠a):upd H a o b=H b:=by unfold upd; rw [if_neg h]
theorem ZB {H:Hp} {a b:Addr} {o:HO} (h:H a=some o) (h':H b=none):a≠b:=by
  intro e; subst e; rw [h] at h'; cases h'
section
variable (P:Program) (w:World)
def ObjOk (H:Hp) (h:Heap) (a:Addr):HO→Prop
  | .lst xs=>xs.length≤sizeLine∧∃(its:List Value) (n:Nat),Vals xs its∧h.get? a=some { cls:=.type "list",data:=.seq its.toArray n }
  | .tup xs=>xs.length≤sizeLine∧∃its:List Value,Vals xs its∧IsTup h a its.toArray
  | .dK kvs=>kvs.length≤sizeLine∧(a == sysModules)=false∧∃vs,KV kvs vs∧h.DictOf (Zdm P w) a vs
  | .dT kvs=>kvs.length≤sizeLine∧(a == sysModules)=false∧∃xs:List (List Key×Addr×Value),
      Paired (fun (p:List Key×V) (q:List Key×Addr×Value)=>p.1=q.1∧H q.2.1=some (.tup (p.1.map kV))∧RelV p.2 q.2.2) kvs xs∧
      ∃o es ep,h.get? a=some o∧o.ExactDict∧o.data=.dict es ep∧es.toList=xs.map (entryOfKey (tupleKind (Zdm P w)))∧(xs.map (·.1)).Nodup
  | .set S n=>h.SetOf (intKind P w) a S n
  | .ins C dx fs=>H dx=some (.own a)∧fs.length≤1000∧dx≠a∧h.get? a=some (PySem.W.instObj C dx)∧
      ∃mA,h.Ns1 dx mA∧(∀f,RelO (fs.lookup f) (mA f))∧PySem.Within mA (fs.map (·.1))
  | .own _=>∃o,h.get? a=some o
  | .xd fs=>∃mA,h.Ns1 a mA∧∀f,RelO (fs.lookup f) (mA f)
  | .rng lo hi=>∃t u v,h.get? a=some { cls:=.type "range",data:=.fields #[.int lo t,.int hi u,.int 1 v] }
  | .frz o u=>h.get? a=some o∧ObjOk H h a u
  | .tbl ps=>h.get? a=some { cls:=.none,data:=.fields ps }
  | .met f x=>h.get? a=some (PySem.W.methodObj (.ref f) (.ref x))
  | .ext φ=>φ h∧(∃o,h.get? a=some o)∧∀h1 h2:Heap,φ h1→(∀o,h1.get? a=some o→h2.get? a=some o)→φ h2
def HOk (H:Hp) (h:Heap):Prop:=∀a o,H a=some o→ObjOk P w H h a o
end
section
variable {P:Program} {w:World} {H H':Hp} {h h':Heap} {a:Addr} {o:HO}
theorem ObjOk.lt (x:ObjOk P w H h a o):a<h.objs.size:=by
  cases o with
  | lst xs=>obtain ⟨_,_,_,_,e⟩:=x; exact Heap.lt_size e
  | tup xs=>obtain ⟨_,_,_,p⟩:=x; exact p.lt
  | dK kvs=>obtain ⟨_,_,_,_,o,_,_,e,_⟩:=x; exact Heap.lt_size e
  | dT kvs=>obtain ⟨_,_,_,_,o,_,_,e,_⟩:=x; exact Heap.lt_size e
  | set S n=>obtain ⟨o,_,_,_,e,_⟩:=x; exact Heap.lt_size e
  | ins C dx fs=>obtain ⟨_,_,_,e,_⟩:=x; exact Heap.lt_size e
  | own y=>obtain ⟨_,e⟩:=x; exact Heap.lt_size e
  | xd fs=>obtain ⟨_,⟨_,_,_,e,_⟩,_⟩:=x; exact Heap.lt_size e
  | rng lo hi=>obtain ⟨_,_,_,e⟩:=x; exact Heap.lt_size e
  | frz ob u=>obtain ⟨e,_⟩:=x; exact Heap.lt_size e
  | tbl ps=>exact Heap.lt_size (show h.get? a=some _ from x)
  | met f y=>exact Heap.lt_size (show h.get? a=some _ from x)
  | ext φ=>obtain ⟨_,⟨_,e⟩,_⟩:=x; exact Heap.lt_size e
theorem Paired.mapP {α β:Type} {F G:α→β→Prop}:∀{l₁:List α} {l₂:List β},Paired F l₁ l₂→(∀a b,F a b→G a b)→Paired G l₁ l₂
  | _,_,.nil,_=>.nil
  | _,_,.cons r t,f=>.cons (f _ _ r) (Paired.mapP t f)
theorem ObjOk.stay (x:ObjOk P w H h a o) (k:∀b u,(b=a∨H b=some (.own a))→h.get? b=some u→h'.get? b=some u)
    (ho:∀b,H b=some (.own a)→H' b=some (.own a)) (ht:∀b xs,H b=some (.tup xs)→H' b=some (.tup xs)):ObjOk P w H' h' a o:=by
  induction o with
  | lst xs=>obtain ⟨z,its,n,r,e⟩:=x; exact ⟨z,its,n,r,k _ _ (.inl rfl) e⟩
  | tup xs=>obtain ⟨z,its,r,ob,e,c⟩:=x; exact ⟨z,its,r,ob,k _ _ (.inl rfl) e,c⟩
  | dK kvs=>obtain ⟨z,y,vs,r,ob,es,ep,e,c⟩:=x; exact ⟨z,y,vs,r,ob,es,ep,k _ _ (.inl rfl) e,c⟩
  | dT kvs=>
    obtain ⟨z,y,xs,r,ob,es,ep,e,c⟩:=x
    exact ⟨z,y,xs,Paired.mapP r fun p q z=>⟨z.1,ht _ _ z.2.1,z.2.2⟩,ob,es,ep,k _ _ (.inl rfl) e,c⟩
  | set S n=>obtain ⟨ob,es,ep,t,e,c⟩:=x; exact ⟨ob,es,ep,t,k _ _ (.inl rfl) e,c⟩
  | ins C dx fs=>
    obtain ⟨d,z,ne,e,mA,⟨od,es,ep,e2,c⟩,r⟩:=x
    exact ⟨ho _ d,z,ne,k _ _ (.inl rfl) e,mA,⟨od,es,ep,k _ _ (.inr d) e2,c⟩,r⟩
  | own y=>obtain ⟨ob,e⟩:=x; exact ⟨ob,k _ _ (.inl rfl) e⟩
  | xd fs=>obtain ⟨mA,⟨od,es,ep,e,c⟩,r⟩:=x; exact ⟨mA,⟨od,es,ep,k _ _ (.inl rfl) e,c⟩,r⟩
  | rng lo hi=>obtain ⟨t,u,v,e⟩:=x; exact ⟨t,u,v,k _ _ (.inl rfl) e⟩
  | frz ob u ih=>obtain ⟨e,q⟩:=x; exact ⟨k _ _ (.inl rfl) e,ih q⟩
  | tbl ps=>
    have e:h.get? a=some { cls:=.none,data:=.fields ps }:=x
    show h'.get? a=some { cls:=.none,data:=.fields ps }
    exact k a _ (.inl rfl) e
  | met f y=>
    have e:h.get? a=some (PySem.W.methodObj (.ref f) (.ref y)):=x
    show h'.get? a=some (PySem.W.methodObj (.ref f) (.ref y))
    exact k a _ (.inl rfl) e
  | ext φ=>obtain ⟨p,⟨o,e⟩,st⟩:=x; exact ⟨st _ _ p fun o q=>k _ _ (.inl rfl) q,⟨o,k _ _ (.inl rfl) e⟩,st⟩
theorem HOk.lt (x:HOk P w H h) (e:H a=some o):a<h.objs.size:=(x a o e).lt
theorem HOk.fresh (x:HOk P w H h) (e:h.objs.size≤a):H a=none:=by
  cases q:H a with
  | none=>rfl
  | some u=>exact absurd (Nat.lt_of_lt_of_le (x.lt q) e) (Nat.lt_irrefl _)
theorem HOk.kept (x:HOk P w H h) (k:∀b u,h.get? b=some u→h'.get? b=some u):HOk P w H h':=fun a o e=>
  (x a o e).stay (fun b u _ q=>k b u q) (fun _ q=>q) fun _ _ q=>q
theorem HOk.laid (x:HOk P w H h) (k:∀b u,h.get? b=some u→h'.get? b=some u) (hp:h.objs.size≤a) (new:ObjOk P w (upd H a o) h' a o):HOk P w (upd H a o) h':=fun b u e=>by
  have hn:=x.fresh hp
  by_cases hb:b=a
  · subst hb; rw [zp] at e; cases e; exact new
  · rw [Zz hb] at e
    exact (x b u e).stay (fun c v _ q=>k c v q) (fun c q=>by rw [Zz (ZB q hn)]; exact q) fun c xs q=>by rw [Zz (ZB q hn)]; exact q
end
def Rd (H:Hp) (a:Addr) (u:HO):Prop:=H a=some u∨∃o,H a=some (.frz o u)
theorem Rd.ok {P:Program} {w:World} {H:Hp} {h:Heap} {a:Addr} {u:HO} (r:Rd H a u) (x:HOk P w H h):ObjOk P w H h a u:=by
  rcases r with r | ⟨o,r⟩
  · exact x a u r
  · obtain ⟨_,q⟩:=x a _ r
    exact q
def Mut:Option HO→Prop
  | some (.lst _)=>True
  | some (.dK _)=>True
  | some (.dT _)=>True
  | some (.set _ _)=>True
  | some (.ins _ _ _)=>True
  | some (.ext _)=>True
  | _=>False
section
variable {P:Program} {w:World} {H:Hp} {h h':Heap} {x e:Addr} {o':HO}
theorem HOk.write (ok:HOk P w H h) (mu:Mut (H x)) (he:e=x∨H e=some (.own x)) (k:∀b u,b≠e→h.get? b=some u→h'.get? b=some u) (heo:∃u,h'.get? e=some u)
    (new:ObjOk P w (upd H x o') h' x o'):HOk P w (upd H x o') h':=fun b u q=>by
  have nown:∀c y,H c=some (.own y)→c≠x:=fun c y r z=>by subst z; rw [r] at mu; exact mu
  have ntup:∀c xs,H c=some (.tup xs)→c≠x:=fun c xs r z=>by subst z; rw [r] at mu; exact mu
  by_cases hb:b=x
  · subst hb; rw [zp] at q; cases q; exact new
  · rw [Zz hb] at q
    by_cases hbe:b=e
    · have q':H b=some (.own x):=by
        rcases he with z | z
        · exact absurd (hbe.trans z) hb
        · rw [hbe]; exact z
      rw [q] at q'; cases q'
      obtain ⟨v,hv⟩:=heo
      exact ⟨v,by rw [hbe]; exact hv⟩
    · refine (ok b u q).stay (fun c v hc r=>k c v ?_ r) (fun c r=>by rw [Zz (nown c b r)]; exact r) fun c xs r=>by rw [Zz (ntup c xs r)]; exact r
      rcases hc with rfl | hc
      · exact hbe
      · rintro rfl
        rcases he with z | z
        · exact nown c b hc z
        · rw [hc] at z; cases z; exact hb rfl
end
structure Un (fs ex:List Addr) (H H':Hp) (h h':Heap):Prop where
  keep:∀b o,h.get? b=some o→H b=none→b∉fs→b∉ex→h'.get? b=some o
  slot:∀b o,h.get? b=some o→H b=none→b∈fs→b∉ex→∃sl,h'.get? b=some { o with slots:=sl }
  free:∀b o,h.get? b=some o→H b=none→b∉ex→H' b=none
  there:∀b o,h.get? b=some o→b∉ex→∃o',h'.get? b=some o'
  tups:∀b xs,H b=some (.tup xs)→H' b=some (.tup xs)
  frzs:∀b o u,H b=some (.frz o u)→H' b=some (.frz o u)
  tbls:∀b ps,H b=some (.tbl ps)→∃more,H' b=some (.tbl (ps++more))
section
variable {fs fs' ex ex':List Addr} {H H1 H2:Hp} {h h1 h2 h':Heap} {a x e:Addr} {o:HO}
theorem Un.any (u:Un fs ex H H1 h h1) {b:Addr} {ob:Obj} (q:h.get? b=some ob) (n:H b=none) (hx:b∉ex):∃sl,h1.get? b=some { ob with slots:=sl }:=by
  by_cases hb:b∈fs
  · exact u.slot b ob q n hb hx
  · exact ⟨ob.slots,u.keep b ob q n hb hx⟩
theorem Un.kept (k:∀b u,h.get? b=some u→h'.get? b=some u):Un fs ex H H h h':=
  ⟨fun b ob q _ _ _=>k b ob q,fun b ob q _ _ _=>⟨ob.slots,k b ob q⟩,fun _ _ _ n _=>n,fun b ob q _=>⟨ob,k b ob q⟩,fun _ _ q=>q,fun _ _ _ q=>q,fun _ ps q=>⟨#[],by rw [q]; simp⟩⟩
theorem Un.refl:Un fs ex H H h h:=Un.kept fun _ _ q=>q
theorem Un.laid (k:∀b u,h.get? b=some u→h'.get? b=some u) (hp:h.objs.size≤a) (hn:H a=none):Un fs ex H (upd H a o) h h' where
  keep:=fun b u q _ _ _=>k b u q
  slot:=fun b u q _ _ _=>⟨u.slots,k b u q⟩
  free:=fun b u q n _=>by rw [Zz (Nat.ne_of_lt (Nat.lt_of_lt_of_le (Heap.lt_size q) hp))]; exact n
  there:=fun b u q _=>⟨u,k b u q⟩
  tups:=fun b xs q=>by rw [Zz (ZB q hn)]; exact q
  frzs:=fun b u xs q=>by rw [Zz (ZB q hn)]; exact q
  tbls:=fun b ps q=>⟨#[],by rw [Zz (ZB q hn),q]; simp⟩
theorem Un.write (mu:Mut (H x)) (he:e=x∨H e=some (.own x)) (k:∀b u,b≠e→h.get? b=some u→h'.get? b=some u) (heo:∃u,h'.get? e=some u):Un fs ex H (upd H x o) h h':=by
  have hx:∀b,H b=none→b≠x:=fun b n z=>by subst z; rw [n] at mu; exact mu
  have hb:∀b,H b=none→b≠e:=fun b n z=>by
    subst z
    rcases he with r | r
    · exact hx b n r
    · rw [n] at r; cases r
  have hm:∀b u,H b=some u→¬Mut (some u)→b≠x:=fun b u q nm z=>by subst z; rw [q] at mu; exact nm mu
  refine ⟨fun b u q n _ _=>k b u (hb b n) q,fun b u q n _ _=>⟨u.slots,k b u (hb b n) q⟩,fun b u q n _=>by rw [Zz (hx b n)]; exact n,fun b u q _=>?_,
    fun b xs q=>by rw [Zz (hm b _ q fun z=>z)]; exact q,fun b u xs q=>by rw [Zz (hm b _ q fun z=>z)]; exact q,fun b ps q=>⟨#[],by rw [Zz (hm b _ q fun z=>z),q]; simp⟩⟩
  by_cases hbe:b=e
  · subst hbe; exact heo
  · exact ⟨u,k b u hbe q⟩
end
def trk (h:Heap) (H:Hp):List Addr:=(List.range h.objs.size).filter fun a=>(H a).isSome
def Zdu (h:Heap) (H:Hp):Heap:=PySem.W.hideAll h (trk h H)
theorem Zf3 (h:Heap) (H:Hp):(Zdu h H).objs.size=h.objs.size:=PySem.W.hideAll_size _ _
theorem Zhh {h:Heap} {H:Hp} {b:Addr} {o:Obj} (e:h.get? b=some o) (n:H b=none):(Zdu h H).get? b=some o:=
  PySem.W.hideAll_get _ e fun hm=>by
    have q:(H b).isSome=true:=(List.mem_filter.mp hm).2
    rw [n] at q; simp at q
theorem Zh3 {h:Heap} {H:Hp} {b:Addr} {o:Obj} (e:(Zdu h H).get? b=some o):h.get? b=some o∧H b=none:=by
  have e':h.get? b=some o:=PySem.W.of_hideAll (trk h H) e
  refine ⟨e',?_⟩
  cases q:H b with
  | none=>rfl
  | some x=>
    have hm:b∈trk h H:=List.mem_filter.mpr ⟨List.mem_range.mpr (Heap.lt_size e'),by simp [q]⟩
    have z:(Zdu h H).get? b=none:=PySem.W.hideAll_none (trk h H) hm
    rw [z] at e; cases e
def Zin (g h:Heap) (L:Addr):List (Addr×Obj):=(List.range h.objs.size).filterMap fun a=>if a=L∨(g.get? a).isSome=true then none else (h.get? a).map fun o=>(a,o)
def rest (g h:Heap) (L d:Addr):List (Addr×Obj):=(Zin g h L).filter fun p=>decide (p.1≠d)
end L2
namespace L2
open PySem PySem.Spec PyProof.Rows
structure Mod (K:PySem.W.Frag) (mg:Str→Option Value) (base:Heap):Prop where
  kin:K.In base
  glob:base.Ns mainGlobals mg
  blt:∃mb,base.Ns builtinsNs mb∧∀x:Str,x≠"__name__"→mb x=bootBuiltins x
  nolimit:base.NoLimit
structure Cx where
  prog:Program
  w:World
  K:PySem.W.Frag
  mg:Str→Option Value
  base:Heap
  A:Around
  N:List Str
  s₀:Shared
  H₀:Hp
  env:Env
  outer:List Env
  stack:List Env
  ex:List Addr
  fn:Str→Bool
  calm:Bool
  pn:List (Addr×Obj)
  xe:Value→Shared→Prop
def frs (l:List Env):List Addr:=l.filterMap (·.frame)
abbrev Cx.fs (X:Cx):List Addr:=frs X.outer
def Vis (sc:Scope) (x:Str):Prop:=sc.names.lookup x=some .local∨sc.names.lookup x=some .cell∨sc.names.lookup x=some .free
def Loc (sc:Scope) (x:Str):Prop:=sc.names.lookup x=some .local∨sc.names.lookup x=some .cell
def ZlM (env:Env) (h:Heap) (m:Str→Option Value) (x:Str) (u:Value):Prop:=
  (env.kindOf x=some .local∧m x=some u)∨((env.kindOf x=some .cell∨env.kindOf x=some .free)∧∃c,env.cells.lookup x=some c∧h.IsCell c (some u))
structure Cx.Ok (X:Cx):Prop where
  mod:Mod X.K X.mg X.base
  kind:X.env.scope.kind=.function
  glob:X.env.globals=mainGlobals
  blt:X.env.builtins=builtinsNs
  above:X.s₀.heap.objs.size≤X.env.locals
  inj:∀x y c,X.env.cells.lookup x=some c→X.env.cells.lookup y=some c→x=y
  has:∀x,(X.env.kindOf x=some .cell∨X.env.kindOf x=some .free)→∃c,X.env.cells.lookup x=some c
  cab:∀x c,X.fn x=true→X.env.cells.lookup x=some c→X.s₀.heap.objs.size≤c
  hd:X.calm=true→X.A.handled=none
  frames:X.A.frames=some X.stack
  stk:X.stack=X.outer∨(X.stack=X.env::X.outer∧X.env.frame=some X.env.locals)
  exf:∀b∈X.ex,b≠X.env.locals∧∀x c,X.env.cells.lookup x=some c→c≠b
  bs:∀b o,X.base.get? b=some o→X.s₀.heap.get? b=some o∧X.H₀ b=none
  bsz:X.base.objs.size≤X.s₀.heap.objs.size
  noex:∀b o,X.base.get? b=some o→b∉X.ex
  exfs:∀b∈X.ex,b∉X.fs
  funs:X.s₀.heap.FunFrames X.base X.outer
  frf:∀b∈X.fs,X.H₀ b=none
structure Inv (X:Cx) (pins:List (Addr×Obj)) (σ:List (Option V)) (H:Hp) (s:Shared):Prop where
  ok:X.Ok
  os:s.os=X.s₀.os
  bare:AllBare s.gens
  base:Un X.fs X.ex X.H₀ H X.s₀.heap s.heap
  loc:∃m,s.heap.Ns X.env.locals m∧∀(i:Nat) (x:Str) (v:V),X.N[i]?=some x→σ[i]?=some (some v)→Vis X.env.scope x→∃u,RelV v u∧ZlM X.env s.heap m x u
  cell:∀x c,X.env.cells.lookup x=some c→∃v,s.heap.IsCell c v
  free:H X.env.locals=none
  freeC:∀x c,X.env.cells.lookup x=some c→H c=none
  pin:∀p∈X.pn++pins,s.heap.get? p.1=some p.2∧H p.1=none∧p.1≠X.env.locals∧p.1∉X.fs∧∀v,p.2.data≠.cell v
  hok:HOk X.prog X.w H s.heap
  len:σ.length=X.N.length
section
variable {X:Cx} {pins:List (Addr×Obj)} {σ:List (Option V)} {H H':Hp} {s:Shared} {h':Heap}
theorem Cx.Ok.nofr (ok:X.Ok) {b:Addr} {o:Obj} (e:X.base.get? b=some o):b∉X.fs:=fun hb=>by
  have:=(ok.funs.mem hb).1
  rw [e] at this; cases this
theorem Inv.bs (I:Inv X pins σ H s):∀b o,X.base.get? b=some o→s.heap.get? b=some o∧H b=none:=fun b o e=>
  ⟨I.base.keep b o (I.ok.bs b o e).1 (I.ok.bs b o e).2 (I.ok.nofr e) (I.ok.noex b o e),I.base.free b o (I.ok.bs b o e).1 (I.ok.bs b o e).2 (I.ok.noex b o e)⟩
theorem Inv.bk (I:Inv X pins σ H s):∀b o,X.base.get? b=some o→s.heap.get? b=some o:=fun b o e=>(I.bs b o e).1
theorem Inv.mod (I:Inv X pins σ H s):Mod X.K X.mg X.base:=I.ok.mod
theorem Inv.kIn (I:Inv X pins σ H s):X.K.In s.heap:=I.ok.mod.kin.keeps I.bk
theorem Inv.lt (I:Inv X pins σ H s):X.env.locals<s.heap.objs.size:=let ⟨_,hn,_⟩:=I.loc; hn.lt
theorem Inv.sz (I:Inv X pins σ H s):X.s₀.heap.objs.size≤s.heap.objs.size:=Nat.le_trans I.ok.above (Nat.le_of_lt I.lt)
theorem Inv.nofs (I:Inv X pins σ H s) {a:Addr} (h:s.heap.objs.size≤a):a∉X.fs:=fun hb=>by
  obtain ⟨_,o,ho,_⟩:=I.ok.funs.mem hb
  exact absurd (Nat.lt_of_lt_of_le (Heap.lt_size ho) (Nat.le_trans I.sz h)) (Nat.lt_irrefl _)
theorem Inv.cne (I:Inv X pins σ H s):∀x c,X.env.cells.lookup x=some c→c≠X.env.locals:=fun x c e z=>by
  obtain ⟨v,o,ho,hd⟩:=I.cell x c e
  obtain ⟨m,⟨o',es,ep,ho',hd',_⟩,_⟩:=I.loc
  rw [z,ho'] at ho; cases ho; rw [hd'] at hd; cases hd
theorem Inv.funs (I:Inv X pins σ H s):s.heap.FunFrames X.base X.outer:=by
  have all:∀(l:List Env),(∀b∈frs l,b∈X.fs)→X.s₀.heap.FunFrames X.base l→s.heap.FunFrames X.base l:=by
    intro l
    induction l with
    | nil=>intro _ _; trivial
    | cons env r ih=>
      intro hs hl
      obtain ⟨hk,⟨L,o,hf,hn,ho,hd⟩,hr⟩:=hl
      have hL:L∈X.fs:=hs L (by unfold frs; rw [List.filterMap_cons,hf]; exact List.mem_cons_self)
      obtain ⟨sl,e⟩:=I.base.slot L o ho (I.ok.frf L hL) hL fun z=>I.ok.exfs L z hL
      exact ⟨hk,⟨L,_,hf,hn,e,hd⟩,ih (fun b hb=>hs b (by unfold frs; rw [List.filterMap_cons,hf]; exact List.mem_cons_of_mem _ hb)) hr⟩
  exact all X.outer (fun _ hb=>hb) I.ok.funs
theorem Inv.stack (I:Inv X pins σ H s):s.heap.FunFrames X.base X.stack:=by
  rcases I.ok.stk with e | ⟨e,hf⟩
  · rw [e]; exact I.funs
  · rw [e]
    obtain ⟨m,hn,_⟩:=I.loc
    refine .cons (by rw [I.ok.kind]; decide) hf hn ?_ I.funs
    exact Heap.get?_none_of_le (Nat.le_trans I.ok.bsz I.ok.above)
theorem Inv.stkSub (I:Inv X pins σ H s):∀b∈frs X.stack,b∈X.env.locals::X.fs:=fun b hb=>by
  rcases I.ok.stk with e | ⟨e,hf⟩
  · rw [e] at hb; exact List.mem_cons_of_mem _ hb
  · rw [e] at hb
    unfold frs at hb
    rw [List.filterMap_cons,hf] at hb
    exact hb
theorem Inv.stkFree (I:Inv X pins σ H s):∀b∈frs X.stack,H b=none:=fun b hb=>by
  rcases List.mem_cons.mp (I.stkSub b hb) with e | hb
  · rw [e]; exact I.free
  · obtain ⟨_,o,ho,_⟩:=I.ok.funs.mem hb
    exact I.base.free b o ho (I.ok.frf b hb) fun z=>I.ok.exfs b z hb
theorem Inv.step {g':Array GenState} {t':Nat} {d':Drawn} {ch:List Addr} (I:Inv X pins σ H s)
    (hch:∀b∈ch,(b∈X.ex∨X.s₀.heap.objs.size≤b)∧b≠X.env.locals∧(∀x c,X.env.cells.lookup x=some c→c≠b)∧∀p∈X.pn++pins,p.1≠b)
    (keep:∀b o,b≠X.env.locals→b∉X.fs→b∉ch→s.heap.get? b=some o→H b=none→h'.get? b=some o)
    (slot:∀b o,b≠X.env.locals→b∈X.fs→b∉ch→s.heap.get? b=some o→H b=none→∃sl,h'.get? b=some { o with slots:=sl }) (free:∀b o,b∉ch→s.heap.get? b=some o→H b=none→H' b=none)
    (there:∀b o,b∉ch→s.heap.get? b=some o→∃o',h'.get? b=some o')
    (tups:∀b xs,H b=some (.tup xs)→H' b=some (.tup xs)) (frzs:∀b o u,H b=some (.frz o u)→H' b=some (.frz o u)) (tbls:∀b ps,H b=some (.tbl ps)→∃more,H' b=some (.tbl (ps++more)))
    (ns:∀m,s.heap.Ns X.env.locals m→h'.Ns X.env.locals m) (hok:HOk X.prog X.w H' h') (hg:AllBare g') :
    Inv X pins σ H' { s with heap:=h',gens:=g',drawn:=d',toks:=t' }:=by
  have neL:∀b o,X.s₀.heap.get? b=some o→b≠X.env.locals:=fun b o e=>Nat.ne_of_lt (Nat.lt_of_lt_of_le (Heap.lt_size e) I.ok.above)
  have neC:∀b o,X.s₀.heap.get? b=some o→b∉X.ex→b∉ch:=fun b o e hx hb=>by
    rcases (hch b hb).1 with z | z
    · exact hx z
    · exact absurd (Nat.lt_of_lt_of_le (Heap.lt_size e) z) (Nat.lt_irrefl _)
  have cellK:∀x c,X.env.cells.lookup x=some c→∀v,s.heap.IsCell c v→h'.IsCell c v:=fun x c e v ⟨o,ho,hd⟩=>by
    have nch:c∉ch:=fun z=>(hch c z).2.2.1 x c e rfl
    by_cases hc:c∈X.fs
    · obtain ⟨sl,q⟩:=slot c o (I.cne x c e) hc nch ho (I.freeC x c e)
      exact ⟨_,q,hd⟩
    · exact ⟨o,keep c o (I.cne x c e) hc nch ho (I.freeC x c e),hd⟩
  refine ⟨I.ok,I.os,hg,⟨fun b o e n hb hx=>?_,fun b o e n hb hx=>?_,fun b o e n hx=>?_,fun b o e hx=>?_,fun b xs e=>tups b xs (I.base.tups b xs e),fun b o xs e=>frzs b o xs (I.base.frzs b o xs e),fun b ps e=>?_⟩,?_,fun x c e=>?_,?_,fun x c e=>?_,fun p hp=>?_,hok,I.len⟩
  · exact keep b o (neL b o e) hb (neC b o e hx) (I.base.keep b o e n hb hx) (I.base.free b o e n hx)
  · obtain ⟨sl,e1⟩:=I.base.slot b o e n hb hx
    obtain ⟨sl',e2⟩:=slot b _ (neL b o e) hb (neC b o e hx) e1 (I.base.free b o e n hx)
    exact ⟨sl',e2⟩
  · obtain ⟨o',e1⟩:=I.base.there b o e hx
    exact free b o' (neC b o e hx) e1 (I.base.free b o e n hx)
  · obtain ⟨o',e1⟩:=I.base.there b o e hx
    exact there b o' (neC b o e hx) e1
  · obtain ⟨m1,e1⟩:=I.base.tbls b ps e
    obtain ⟨m2,e2⟩:=tbls b _ e1
    exact ⟨m1++m2,by rw [e2,Array.append_assoc]⟩
  · obtain ⟨m,hn,hl⟩:=I.loc
    refine ⟨m,ns m hn,fun i x v e1 e2 e3=>?_⟩
    obtain ⟨u,r,l⟩:=hl i x v e1 e2 e3
    refine ⟨u,r,?_⟩
    rcases l with l | ⟨k,c,e,z⟩
    · exact .inl l
    · exact .inr ⟨k,c,e,cellK x c e _ z⟩
  · obtain ⟨v,z⟩:=I.cell x c e
    exact ⟨v,cellK x c e v z⟩
  · obtain ⟨m,⟨o,_,_,ho,_⟩,_⟩:=I.loc
    exact free _ o (fun z=>(hch _ z).2.1 rfl) ho I.free
  · obtain ⟨v,o,ho,hd⟩:=I.cell x c e
    exact free c o (fun z=>(hch c z).2.2.1 x c e rfl) ho (I.freeC x c e)
  · obtain ⟨e,n,ne,nf,d⟩:=I.pin p hp
    have nch:p.1∉ch:=fun z=>(hch p.1 z).2.2.2 p hp rfl
    exact ⟨keep p.1 p.2 ne nf nch e n,free p.1 p.2 nch e n,ne,nf,d⟩
theorem Inv.un {t':Nat} (I:Inv X pins σ H s) (u:Un X.fs [] H H' s.heap h') (hok:HOk X.prog X.w H' h'):Inv X pins σ H' { s with heap:=h',toks:=t' }:=by
  obtain ⟨m,⟨o,es,ep,ho,r⟩,_⟩:=id I.loc
  obtain ⟨sl,hL⟩:=u.any ho I.free (by simp)
  exact I.step (g':=s.gens) (d':=s.drawn) (ch:=[]) (fun _ z=>nomatch z) (fun b o _ hb _ e n=>u.keep b o e n hb (by simp)) (fun b o _ hb _ e n=>u.slot b o e n hb (by simp)) (fun b o _ e n=>u.free b o e n (by simp)) (fun b o _ e=>u.there b o e (by simp)) u.tups u.frzs u.tbls (fun m' hm=>by
    obtain ⟨o',es',ep',ho',r'⟩:=hm
    rw [ho] at ho'; cases ho'
    exact ⟨_,es',ep',hL,r'⟩) hok I.bare
theorem Inv.call {g':Array GenState} {t':Nat} {d':Drawn} {ch:List Addr} (I:Inv X pins σ H s) (u:Un (frs X.stack) ch H H' s.heap h') (hok:HOk X.prog X.w H' h') (hg:AllBare g')
    (hch:∀b∈ch,(b∈X.ex∨X.s₀.heap.objs.size≤b)∧b≠X.env.locals∧(∀x c,X.env.cells.lookup x=some c→c≠b)∧∀p∈X.pn++pins,p.1≠b) :
    Inv X pins σ H' { s with heap:=h',gens:=g',drawn:=d',toks:=t' }:=by
  obtain ⟨m,⟨o,es,ep,ho,r⟩,_⟩:=id I.loc
  obtain ⟨sl,hL⟩:=u.any ho I.free fun z=>(hch _ z).2.1 rfl
  exact I.step (ch:=ch) hch (fun b o hL hb hc e n=>u.keep b o e n (fun z=>(List.mem_cons.mp (I.stkSub b z)).elim hL hb) hc) (fun b o _ _ hc e n=>u.any e n hc) (fun b o hc e n=>u.free b o e n hc) (fun b o hc e=>u.there b o e hc) u.tups u.frzs u.tbls (fun m' hm=>by
    obtain ⟨o',es',ep',ho',r'⟩:=hm
    rw [ho] at ho'; cases ho'
    exact ⟨_,es',ep',hL,r'⟩) hok hg
theorem Inv.turned {t':Nat} {it:Addr} (I:Inv X pins σ H s) (k:∀b o,b≠it→s.heap.get? b=some o→h'.get? b=some o) (hn:H it=none) (hL:it≠X.env.locals)
    (h1:it∈X.ex∨X.s₀.heap.objs.size≤it) (h2:∀x c,X.env.cells.lookup x=some c→c≠it) (h3:∀p∈X.pn++pins,p.1≠it):Inv X pins σ H { s with heap:=h',toks:=t' }:=by
  have nit:∀b u,H b=some u→b≠it:=fun b u e z=>by rw [z,hn] at e; cases e
  refine I.step (g':=s.gens) (d':=s.drawn) (ch:=[it]) (fun b hb=>?_) (fun b o _ _ hc e _=>k b o (fun z=>hc (by simp [z])) e) (fun b o _ _ hc e _=>⟨o.slots,k b o (fun z=>hc (by simp [z])) e⟩) (fun _ _ _ _ n=>n)
    (fun b o hc e=>⟨o,k b o (fun z=>hc (by simp [z])) e⟩) (fun _ _ e=>e) (fun _ _ _ e=>e) (fun b ps e=>⟨#[],by rw [e]; simp⟩) (fun m hm=>?_) (fun b u e=>?_) I.bare
  · have e:b=it:=by simpa using hb
    subst e
    exact ⟨h1,hL,h2,h3⟩
  · obtain ⟨o,es,ep,ho,r⟩:=hm
    exact ⟨o,es,ep,k _ o (Ne.symm hL) ho,r⟩
  · refine (I.hok b u e).stay (fun c v hc q=>k c v ?_ q) (fun _ q=>q) fun _ _ q=>q
    rcases hc with z | z
    · rw [z]; exact nit b u e
    · exact nit c _ z
theorem Inv.tok (I:Inv X pins σ H s) (t:Nat):Inv X pins σ H { s with toks:=t }:=I.un (h':=s.heap) (t':=t) Un.refl I.hok
theorem Inv.kept {t':Nat} (I:Inv X pins σ H s) (k:∀b u,s.heap.get? b=some u→h'.get? b=some u):Inv X pins σ H { s with heap:=h',toks:=t' }:=I.un (Un.kept k) (I.hok.kept k)
theorem Inv.laid {a:Addr} {o:HO} {t':Nat} (I:Inv X pins σ H s) (k:∀b u,s.heap.get? b=some u→h'.get? b=some u) (hp:s.heap.objs.size≤a) (new:ObjOk X.prog X.w (upd H a o) h' a o) :
    Inv X pins σ (upd H a o) { s with heap:=h',toks:=t' }:=I.un (Un.laid k hp (I.hok.fresh hp)) (I.hok.laid k hp new)
theorem Inv.write {x e:Addr} {o:HO} {t':Nat} (I:Inv X pins σ H s) (mu:Mut (H x)) (he:e=x∨H e=some (.own x)) (k:∀b u,b≠e→s.heap.get? b=some u→h'.get? b=some u) (heo:∃u,h'.get? e=some u)
    (new:ObjOk X.prog X.w (upd H x o) h' x o):Inv X pins σ (upd H x o) { s with heap:=h',toks:=t' }:=I.un (Un.write mu he k heo) (I.hok.write mu he k heo new)
theorem Inv.pins_of {pins':List (Addr×Obj)} (I:Inv X pins σ H s) (h:∀p∈pins',s.heap.get? p.1=some p.2∧H p.1=none∧p.1≠X.env.locals∧p.1∉X.fs∧∀v,p.2.data≠.cell v):Inv X pins' σ H s:=
  ⟨I.ok,I.os,I.bare,I.base,I.loc,I.cell,I.free,I.freeC,fun p hp=>(List.mem_append.mp hp).elim (fun z=>I.pin p (List.mem_append_left _ z)) (h p),I.hok,I.len⟩
theorem Zbh {N:List Str} (hN:N.Nodup) {i j:Nat} {x:Str} (a:N[i]?=some x) (b:N[j]?=some x):i=j:=by
  obtain ⟨h1,e1⟩:=List.getElem?_eq_some_iff.mp a
  obtain ⟨h2,e2⟩:=List.getElem?_eq_some_iff.mp b
  exact (List.getElem_inj hN).mp (e1.trans e2.symm)
theorem ZfF {M:Model} {A:Around} {E:Value→Shared→Prop} {i:Nat} {x:Str} {v:V} {u:Value} {Q:Unit→Shared→Prop} (I:Inv X pins σ H s) (hN:X.N.Nodup) (hi:X.N[i]?=some x) (hx:Loc X.env.scope x) (r:RelV v u)
    (h:∀s',Inv X pins (σ.set i (some v)) H s'→(∃a,Heap.SameBut a s.heap s'.heap∧(a=X.env.locals∨X.env.cells.lookup x=some a))→Q () s') (hf:X.fn x=true∨X.env.scope.names.lookup x=some .local:=by first | exact .inl rfl | exact .inr rfl | assumption):wpAny M A (storeName X.env x u) Q E s:=by
  obtain ⟨m,hn,hl⟩:=id I.loc
  have hcls:(X.env.scope.kind == .class || (X.env.scope.kind == .module && X.env.locals != X.env.globals))=false:=by rw [I.ok.kind]; rfl
  have hiσ:i < σ.length:=by rw [I.len]; exact (List.getElem?_eq_some_iff.mp hi).1
  have cne:=I.cne
  have tracked:∀{a:Addr} {h':Heap},(∃o,s.heap.get? a=some o∧H a=none)→Heap.SameBut a s.heap h'→HOk X.prog X.w H h':=fun {a h'} ha hs b ob e=>by
    obtain ⟨_,_,hfree⟩:=ha
    refine (I.hok b ob e).stay (fun c w' hc q=>(hs.2 c ?_).trans q) (fun _ q=>q) fun _ _ q=>q
    rintro rfl
    rcases hc with rfl | hc
    · rw [hfree] at e; cases e
    · rw [hfree] at hc; cases hc
  rcases hx with hk | hk
  · refine wpAny_storeName_local hk hn (fun h' hn' hs=>?_) hcls
    obtain ⟨oL,_,_,hoL,_⟩:=id hn
    refine h _ ⟨I.ok,I.os,I.bare,⟨fun b o e n hb hx=>?_,fun b o e n hb hx=>?_,I.base.free,fun b o e hx=>?_,I.base.tups,I.base.frzs,I.base.tbls⟩,⟨_,hn',fun j y v' e1 e2 e3=>?_⟩,fun y c e=>?_,I.free,I.freeC,fun p hp=>?_,tracked ⟨oL,hoL,I.free⟩ hs,by simpa using I.len⟩ ⟨_,hs,.inl rfl⟩
    · exact (hs.2 b (Nat.ne_of_lt (Nat.lt_of_lt_of_le (Heap.lt_size e) I.ok.above))).trans (I.base.keep b o e n hb hx)
    · obtain ⟨sl,e1⟩:=I.base.slot b o e n hb hx
      exact ⟨sl,(hs.2 b (Nat.ne_of_lt (Nat.lt_of_lt_of_le (Heap.lt_size e) I.ok.above))).trans e1⟩
    · obtain ⟨o',e1⟩:=I.base.there b o e hx
      exact ⟨o',(hs.2 b (Nat.ne_of_lt (Nat.lt_of_lt_of_le (Heap.lt_size e) I.ok.above))).trans e1⟩
    · by_cases hj:j=i
      · subst hj
        rw [hi] at e1; cases e1
        rw [List.getElem?_set_self hiσ] at e2
        cases e2
        exact ⟨u,r,.inl ⟨hk,by simp⟩⟩
      · rw [List.getElem?_set_ne (Ne.symm hj)] at e2
        obtain ⟨u',r',q⟩:=hl j y v' e1 e2 e3
        refine ⟨u',r',?_⟩
        rcases q with ⟨k,e⟩ | ⟨k,c,e,z⟩
        · refine .inl ⟨k,?_⟩
          have:y≠x:=fun e=>hj (Zbh hN e1 (e ▸ hi))
          simp [this,e]
        · exact .inr ⟨k,c,e,z.sameBut hs (cne y c e)⟩
    · obtain ⟨w',z⟩:=I.cell y c e
      exact ⟨w',z.sameBut hs (cne y c e)⟩
    · obtain ⟨e,n,ne,nf,d⟩:=I.pin p hp
      exact ⟨(hs.2 p.1 ne).trans e,n,ne,nf,d⟩
  · have hfn:X.fn x=true:=by
      rcases hf with z | z
      · exact z
      · rw [z] at hk; cases hk
    obtain ⟨c,hc⟩:=I.ok.has x (.inl hk)
    obtain ⟨w',z⟩:=I.cell x c hc
    refine wpAny_storeName_cell I.ok.kind hk hc z (fun h' hc' hs=>?_)
    obtain ⟨oc,hoc,hocd⟩:=id z
    refine h { s with heap:=h' } ⟨I.ok,I.os,I.bare,⟨fun b o e n hb hx=>?_,fun b o e n hb hx=>?_,I.base.free,fun b o e hx=>?_,I.base.tups,I.base.frzs,I.base.tbls⟩,⟨m,hn.sameBut hs (Ne.symm (cne x c hc)),fun j y v' e1 e2 e3=>?_⟩,fun y c' e=>?_,I.free,I.freeC,fun p hp=>?_,tracked ⟨oc,hoc,I.freeC x c hc⟩ hs,by simpa using I.len⟩ ⟨c,hs,.inr hc⟩
    · exact (hs.2 b (Nat.ne_of_lt (Nat.lt_of_lt_of_le (Heap.lt_size e) (I.ok.cab x c hfn hc)))).trans (I.base.keep b o e n hb hx)
    · obtain ⟨sl,e1⟩:=I.base.slot b o e n hb hx
      exact ⟨sl,(hs.2 b (Nat.ne_of_lt (Nat.lt_of_lt_of_le (Heap.lt_size e) (I.ok.cab x c hfn hc)))).trans e1⟩
    · obtain ⟨o',e1⟩:=I.base.there b o e hx
      exact ⟨o',(hs.2 b (Nat.ne_of_lt (Nat.lt_of_lt_of_le (Heap.lt_size e) (I.ok.cab x c hfn hc)))).trans e1⟩
    · by_cases hj:j=i
      · subst hj
        rw [hi] at e1; cases e1
        rw [List.getElem?_set_self hiσ] at e2
        cases e2
        exact ⟨u,r,.inr ⟨.inl hk,c,hc,hc'⟩⟩
      · rw [List.getElem?_set_ne (Ne.symm hj)] at e2
        obtain ⟨u',r',q⟩:=hl j y v' e1 e2 e3
        refine ⟨u',r',?_⟩
        rcases q with q | ⟨k,c',e,z'⟩
        · exact .inl q
        · refine .inr ⟨k,c',e,z'.sameBut hs ?_⟩
          rintro rfl
          exact hj (Zbh hN e1 (I.ok.inj _ _ _ e hc ▸ hi))
    · by_cases hcc:c'=c
      · subst hcc; exact ⟨_,hc'⟩
      · obtain ⟨w2,z2⟩:=I.cell y c' e
        exact ⟨w2,z2.sameBut hs hcc⟩
    · obtain ⟨e,n,ne,nf,d⟩:=I.pin p hp
      refine ⟨(hs.2 p.1 ?_).trans e,n,ne,nf,d⟩
      intro q
      rw [q,hoc] at e
      have q':oc=p.2:=Option.some.inj e
      exact d w' (by rw [←q']; exact hocd)
theorem Zcc {M:Model} {A:Around} {E:Value→Shared→Prop} {i:Nat} {x:Str} {v:V} {u:Value} {Q:Unit→Shared→Prop} (I:Inv X pins σ H s) (hN:X.N.Nodup) (hi:X.N[i]?=some x) (hx:Loc X.env.scope x) (r:RelV v u)
    (h:∀s',Inv X pins (σ.set i (some v)) H s'→Q () s') (hf:X.fn x=true∨X.env.scope.names.lookup x=some .local:=by first | exact .inl rfl | exact .inr rfl | assumption):wpAny M A (storeName X.env x u) Q E s:=
  ZfF I hN hi hx r (fun s' I' _=>h s' I') hf
theorem Inv.call' {s':Shared} {ch:List Addr} (I:Inv X pins σ H s) (ho:s'.os=s.os) (u:Un (frs X.stack) ch H H' s.heap s'.heap) (hok:HOk X.prog X.w H' s'.heap) (hg:AllBare s'.gens)
    (hch:∀b∈ch,(b∈X.ex∨X.s₀.heap.objs.size≤b)∧b≠X.env.locals∧(∀x c,X.env.cells.lookup x=some c→c≠b)∧∀p∈X.pn++pins,p.1≠b):Inv X pins σ H' s':=by
  obtain ⟨h',g',d',t',o'⟩:=s'
  have e:o'=s.os:=ho
  subst e
  exact I.call (g':=g') (t':=t') (d':=d') u hok hg hch
end
abbrev XK:=Value→Option Addr→Hp→Prop
abbrev St:=List (Option V)
abbrev VK:=V→Hp→Prop
abbrev TE:=St→Hp→VK→Prop
abbrev TT:=St→Hp→(Bool→Hp→Prop)→Prop
abbrev TA:=St→Hp→(List V→Hp→Prop)→Prop
structure ZaG where
  nx:St→Hp→Prop
  rt:VK
  bk:St→Hp→Prop:=fun _ _=>False
  ct:St→Hp→Prop:=fun _ _=>False
abbrev TS:=ZaG→St→Hp→Prop
def EP (X:Cx) (pins:List (Addr×Obj)) (σ:St) (Q:VK) (u:Value) (s':Shared):Prop:=∃v H',Inv X pins σ H' s'∧RelV v u∧Q v H'
def TP (X:Cx) (pins:List (Addr×Obj)) (σ:St) (Q:Bool→Hp→Prop) (b:Bool) (s':Shared):Prop:=∃H',Inv X pins σ H' s'∧Q b H'
def AP (X:Cx) (pins:List (Addr×Obj)) (σ:St) (Q:List V→Hp→Prop) (us:List Value) (s':Shared):Prop:=∃vs H',Inv X pins σ H' s'∧Vals vs us∧Q vs H'
def SP (X:Cx) (pins:List (Addr×Obj)) (D:ZaG) (f:Flow) (s':Shared):Prop:=
  match f with
  | .next=>∃σ' H',Inv X pins σ' H' s'∧D.nx σ' H'
  | .brk=>∃σ' H',Inv X pins σ' H' s'∧D.bk σ' H'
  | .cont=>∃σ' H',Inv X pins σ' H' s'∧D.ct σ' H'
  | .ret u=>∃v σ' H',Inv X pins σ' H' s'∧RelV v u∧D.rt v H'
def PE (X:Cx) (e:Expr) (t:TE):Prop:=
  ∀(pins:List (Addr×Obj)) (s:Shared) (σ:St) (H:Hp) (Q:VK),Inv X pins σ H s→t σ H Q→wpAny (model X.prog X.w) X.A (eval e X.env) (EP X pins σ Q) X.xe s
def PT (X:Cx) (e:Expr) (t:TT):Prop:=
  ∀(pins:List (Addr×Obj)) (s:Shared) (σ:St) (H:Hp) (Q:Bool→Hp→Prop),Inv X pins σ H s→t σ H Q→wpAny (model X.prog X.w) X.A (isTrue e X.env (eval e X.env)) (TP X pins σ Q) X.xe s
def PW (X:Cx) (e:Expr) (t:TT):Prop:=
  ∀(whole:Sem Value) (pins:List (Addr×Obj)) (s:Shared) (σ:St) (H:Hp) (Q:Bool→Hp→Prop),Inv X pins σ H s→t σ H Q→wpAny (model X.prog X.w) X.A (isTrue e X.env whole) (TP X pins σ Q) X.xe s
theorem PW.pt {X:Cx} {e:Expr} {t:TT} (h:PW X e t):PT X e t:=h _
def PA (X:Cx) (es:List Expr) (t:TA):Prop:=
  ∀(pos:Pos) (pins:List (Addr×Obj)) (s:Shared) (σ:St) (H:Hp) (Q:List V→Hp→Prop),Inv X pins σ H s→t σ H Q→wpAny (model X.prog X.w) X.A (spliced (backTo pos (starEach es X.env))) (AP X pins σ Q) X.xe s
def PS (X:Cx) (st:Stmt) (t:TS):Prop:=
  ∀(pins:List (Addr×Obj)) (s:Shared) (σ:St) (H:Hp) (D:ZaG),Inv X pins σ H s→t D σ H→wpAny (model X.prog X.w) X.A (exec st X.env) (SP X pins D) X.xe s
def PSs (X:Cx) (st:List Stmt) (t:TS):Prop:=
  ∀(pins:List (Addr×Obj)) (s:Shared) (σ:St) (H:Hp) (D:ZaG),Inv X pins σ H s→t D σ H→wpAny (model X.prog X.w) X.A (execs st X.env) (SP X pins D) X.xe s
theorem thn {α:Type} {t:Sem α} {Q Q':α→Shared→Prop} {M:Model} {A:Around} {E:Value→Shared→Prop} {s:Shared} (h:wpAny M A t Q E s) (hQ:∀a s,Q a s→Q' a s):wpAny M A t Q' E s:=wpAny_mono h hQ fun _ _ x=>x
end L2
namespace L2
open PySem PySem.Spec PyProof.Rows
section
variable {X:Cx}
theorem bin {a b:Expr} {ta tb:TE} (ha:PE X a ta) (hb:PE X b tb) {pins:List (Addr×Obj)} {s:Shared} {σ:St} {H:Hp} {R:V→V→Hp→Prop} (I:Inv X pins σ H s) (h:ta σ H fun x H1=>tb σ H1 fun y H2=>R x y H2)
    {α:Type} {Q:α→Shared→Prop} {f:Value→Value→Sem α}
    (hf:∀v u s2 x y H2,Inv X pins σ H2 s2→RelV x v→RelV y u→R x y H2→wpAny (model X.prog X.w) X.A (f v u) Q X.xe s2) :
    wpAny (model X.prog X.w) X.A (eval a X.env) (fun v s₁=>wpAny (model X.prog X.w) X.A (eval b X.env) (fun u s₂=>wpAny (model X.prog X.w) X.A (f v u) Q X.xe s₂) X.xe s₁) X.xe s:=by
  refine thn (ha pins s σ H _ I h) fun v s1 ⟨x,H1,I1,r1,q1⟩=>?_
  refine thn (hb pins s1 σ H1 _ I1 q1) fun u s2 ⟨y,H2,I2,r2,q2⟩=>?_
  exact hf v u s2 x y H2 I2 r1 r2 q2
def Zlh (i:Nat):TE:=fun σ H Q=>∃v,σ[i]?=some (some v)∧Q v H
def tC (v:V):TE:=fun _ H Q=>Q v H
theorem ZaZ {i:Nat} {x:Str} {pos:Pos} (hN:X.N[i]?=some x) (hv:Vis X.env.scope x) (hd:(x == ("__debug__":Str))=false:=by decide) (hcd:(x == ("__classdict__":Str))=false:=by decide):PE X (.Name x pos) (Zlh i):=by
  intro pins s σ H Q I h
  obtain ⟨v,e,h⟩:=h
  obtain ⟨m,hn,hl⟩:=I.loc
  obtain ⟨u,r,l⟩:=hl i x v hN e hv
  have fin:EP X pins σ Q u s:=⟨v,H,I,r,h⟩
  rcases l with ⟨hk,hm⟩ | ⟨hk,c,hc,hcell⟩
  · exact wpAny_Name (wpAny_loadName_local I.ok.kind hk hn hm fin) hd
  · rcases hk with hk | hk
    · exact wpAny_Name (wpAny_loadName_cell I.ok.kind hk hc hcell fin) hd
    · exact wpAny_Name (wpAny_loadName_free I.ok.kind hk hc hcell fin hcd) hd
theorem Zjd {i j pos}:PE X (.Constant (.int i) j pos) (tC (.int i)):=fun _ _ _ H _ I h=>wpAny_Constant_int ⟨.int i,H,I.tok _,⟨_,rfl⟩,h⟩
theorem Zkl {b j pos}:PE X (.Constant (.bool b) j pos) (tC (.bl b)):=fun _ _ _ H _ I h=>Constant_bool ⟨.bl b,H,I,rfl,h⟩
theorem Zjc {j pos}:PE X (.Constant .none j pos) (tC .non):=fun _ _ _ H _ I h=>Constant_none ⟨.non,H,I,rfl,h⟩
theorem Zjb {x j pos}:PE X (.Constant (.str x) j pos) (tC (.str x)):=fun _ _ _ H _ I h=>Calls.Constant_str ⟨.str x,H,I.tok _,⟨_,rfl⟩,h⟩
def Gl (X:Cx) (x:Str):Prop:=X.env.kindOf x=some .globalImplicit
theorem Zbk {E:Value→Shared→Prop} {pins:List (Addr×Obj)} {s:Shared} {σ:St} {H:Hp} {x:Str} {u:Value} {pos:Pos} {Q:Value→Shared→Prop} (I:Inv X pins σ H s) (hg:Gl X x) (hm:X.mg x=some u) (h:Q u s)
    (hd:(x == ("__debug__":Str))=false:=by decide):wpAny (model X.prog X.w) X.A (eval (.Name x pos) X.env) Q E s:=
  Calls.Name_function_global I.ok.kind hg (Calls.loadGlobal_global (by rw [I.ok.glob]; exact I.mod.glob.keeps I.bk) hm h) hd
theorem Zds {E:Value→Shared→Prop} {pins:List (Addr×Obj)} {s:Shared} {σ:St} {H:Hp} {x:Str} {u:Value} {pos:Pos} {Q:Value→Shared→Prop} (I:Inv X pins σ H s) (hg:Gl X x) (hm:X.mg x=none) (hv:bootBuiltins x=some u) (h:Q u s)
    (hn:x≠"__name__":=by decide) (hd:(x == ("__debug__":Str))=false:=by decide):wpAny (model X.prog X.w) X.A (eval (.Name x pos) X.env) Q E s:=by
  obtain ⟨mb,h1,h2⟩:=I.mod.blt
  exact Calls.Name_function_global I.ok.kind hg (Calls.loadGlobal_builtin (by rw [I.ok.glob]; exact I.mod.glob.keeps I.bk) hm (by rw [I.ok.blt]; exact h1.keeps I.bk) ((h2 x hn).trans hv) h) hd
theorem Ze9 {x:Str} {v:V} {u:Value} {pos:Pos} (hg:Gl X x) (hm:X.mg x=some u) (r:RelV v u) (hd:(x == ("__debug__":Str))=false:=by decide):PE X (.Name x pos) (tC v):=
  fun _ _ _ H _ I h=>Zbk I hg hm ⟨v,H,I,r,h⟩ hd
theorem Zfa {x:Str} {v:V} {u:Value} {pos:Pos} (hg:Gl X x) (hm:X.mg x=none) (hv:bootBuiltins x=some u) (r:RelV v u) (hn:x≠"__name__":=by decide) (hd:(x == ("__debug__":Str))=false:=by decide):PE X (.Name x pos) (tC v):=
  fun _ _ _ H _ I h=>Zds I hg hm hv ⟨v,H,I,r,h⟩ hn hd
variable {a b:Expr} {ta tb:TE} {pos:Pos}
variable {tA tB':TT} {rest:List Expr}
def Zlr (t u:TT):TT:=fun σ H Q=>t σ H fun c H1=>if c=true then u σ H1 Q else Q false H1
def tOr (t u:TT):TT:=fun σ H Q=>t σ H fun c H1=>if c=true then Q true H1 else u σ H1 Q
def Zln (t:TT):TT:=fun σ H Q=>t σ H fun c H1=>Q (!c) H1
theorem ZhQ (ha:PT X a tA):PW X (.BoolOp .And [a] pos) tA:=by
  intro wh pins s σ H Q I h
  refine isTrue_and (thn (ha pins s σ H Q I h) fun c s1 e=>?_)
  cases c with
  | true=>exact isTrue_and_nil e
  | false=>exact e
theorem Zi1 (ha:PT X a tA):PW X (.BoolOp .Or [a] pos) tA:=by
  intro wh pins s σ H Q I h
  refine isTrue_or (thn (ha pins s σ H Q I h) fun c s1 e=>?_)
  cases c with
  | false=>exact isTrue_or_nil e
  | true=>exact e
theorem Zi2 (ha:PT X a tA) (hb:PW X (.BoolOp .And (b::rest) pos) tB'):PW X (.BoolOp .And (a::b::rest) pos) (Zlr tA tB'):=by
  intro wh pins s σ H Q I h
  refine isTrue_and (thn (ha pins s σ H _ I h) fun c s1 ⟨H1,I1,q1⟩=>?_)
  cases c with
  | true=>exact hb wh pins s1 σ H1 Q I1 q1
  | false=>exact ⟨H1,I1,q1⟩
theorem Zkd (ha:PT X a tA) (hb:PW X (.BoolOp .Or (b::rest) pos) tB'):PW X (.BoolOp .Or (a::b::rest) pos) (tOr tA tB'):=by
  intro wh pins s σ H Q I h
  refine isTrue_or (thn (ha pins s σ H _ I h) fun c s1 ⟨H1,I1,q1⟩=>?_)
  cases c with
  | true=>exact ⟨H1,I1,q1⟩
  | false=>exact hb wh pins s1 σ H1 Q I1 q1
theorem Zi4 (ha:PT X a tA):PT X (.UnaryOp .Not a pos) (Zln tA):=by
  intro pins s σ H Q I h
  exact isTrue_not (ha pins s σ H (fun c H1=>Q (!c) H1) I h)
def Zj6 (ta tb:TE):TE:=fun σ H Q=>ta σ H fun x H1=>∃c,x=.bl c∧if c=true then tb σ H1 Q else Q (.bl false) H1
def Zlm (ta tb:TE):TE:=fun σ H Q=>ta σ H fun x H1=>∃c,x=.bl c∧if c=true then Q (.bl true) H1 else tb σ H1 Q
theorem ZgI {op} {t:TE} (h:PE X a t):PE X (.BoolOp op [a] pos) t:=fun pins s σ H Q I hw=>BoolOp_one (h pins s σ H Q I hw)
theorem ZgN (ha:PE X a ta) (hb:PE X (.BoolOp .And (b::rest) pos) tb):PE X (.BoolOp .And (a::b::rest) pos) (Zj6 ta tb):=by
  intro pins s σ H Q I h
  refine BoolOp_and (thn (ha pins s σ H _ I h) fun v s1 ⟨x,H1,I1,r1,q1⟩=>?_)
  obtain ⟨c,rfl,q1⟩:=q1
  cases r1
  refine wpAny_truthy_bool ?_
  cases c with
  | true=>exact hb pins s1 σ H1 Q I1 q1
  | false=>exact ⟨.bl false,H1,I1,rfl,q1⟩
theorem Zkh (ha:PE X a ta) (hb:PE X (.BoolOp .Or (b::rest) pos) tb):PE X (.BoolOp .Or (a::b::rest) pos) (Zlm ta tb):=by
  intro pins s σ H Q I h
  refine BoolOp_or (thn (ha pins s σ H _ I h) fun v s1 ⟨x,H1,I1,r1,q1⟩=>?_)
  obtain ⟨c,rfl,q1⟩:=q1
  cases r1
  refine wpAny_truthy_bool ?_
  cases c with
  | false=>exact hb pins s1 σ H1 Q I1 q1
  | true=>exact ⟨.bl true,H1,I1,rfl,q1⟩
def tIf (t:TT) (ta tb:TE):TE:=fun σ H Q=>t σ H fun c H1=>if c=true then ta σ H1 Q else tb σ H1 Q
theorem ZgK {c:Expr} (hc:PT X c tA) (ha:PE X a ta) (hb:PE X b tb):PE X (.IfExp c a b pos) (tIf tA ta tb):=by
  intro pins s σ H Q I h
  refine wpAny_IfExp (thn (hc pins s σ H _ I h) fun d s1 ⟨H1,I1,q1⟩=>?_)
  cases d with
  | true=>exact ha pins s1 σ H1 Q I1 q1
  | false=>exact hb pins s1 σ H1 Q I1 q1
end
end L2
namespace L2
open PySem PySem.Spec PyProof.Rows
def SqL (K:PySem.W.Frag) (H:Hp) (a:Addr) (xs:List V):Prop:=
  Rd H a (.lst xs)∨
    ∃(o:Obj) (its:Array Value) (n:Nat),K.lookup a=some o∧o.cls=.type "list"∧o.dict=none∧o.data=.seq its n∧its.size≤sizeLine∧Vals xs its.toList
def SqT (K:PySem.W.Frag) (H:Hp) (a:Addr) (xs:List V):Prop:=
  Rd H a (.tup xs)∨
    ∃(o:Obj) (its:Array Value) (n:Nat),K.lookup a=some o∧o.cls=.type "tuple"∧o.data=.seq its n∧its.size≤sizeLine∧Vals xs its.toList
def ZlK:Value→Option V
  | .none=>some .non
  | .bool b=>some (.bl b)
  | .int i _=>some (.int i)
  | .str x _=>some (.str x)
  | .bytes b _=>some (.byt b)
  | .float b _=>some (.flt b)
  | .ref a=>some (.ref a)
  | .type n=>some (.ty n)
  | _=>none
theorem RelV.abs {x:V} {u:Value} (r:RelV x u):ZlK u=some x:=by
  cases x with
  | non=>cases r; rfl
  | bl _=>cases r; rfl
  | int _=>obtain ⟨t,rfl⟩:=r; rfl
  | str _=>obtain ⟨t,rfl⟩:=r; rfl
  | byt _=>obtain ⟨t,rfl⟩:=r; rfl
  | flt _=>obtain ⟨t,rfl⟩:=r; rfl
  | ref _=>cases r; rfl
  | ty _=>cases r; rfl
theorem RelV.inj {x y:V} {u:Value} (r:RelV x u) (q:RelV y u):x=y:=Option.some.inj (r.abs.symm.trans q.abs)
theorem Vals.inj:∀{xs ys:List V} {us:List Value},Vals xs us→Vals ys us→xs=ys
  | _,_,_,.nil,.nil=>rfl
  | _,_,_,.cons r t,.cons r' t'=>by rw [r.inj r',Vals.inj t t']
section
variable {X:Cx} {pins:List (Addr×Obj)} {σ:St} {H:Hp} {s:Shared} {a:Addr} {xs ys:List V}
theorem SqL.of {K:PySem.W.Frag} (h:H a=some (.lst xs)):SqL K H a xs:=.inl (.inl h)
theorem SqT.of {K:PySem.W.Frag} (h:H a=some (.tup xs)):SqT K H a xs:=.inl (.inl h)
theorem Inv.list (I:Inv X pins σ H s) (h:SqL X.K H a xs):∃its:List Value,Vals xs its∧PlainL s.heap a its.toArray∧xs.length≤sizeLine:=by
  rcases h with h | ⟨o,its,n,hk,hc,hd,hs,hz,r⟩
  · obtain ⟨z,its,n,r,e⟩:=h.ok I.hok
    exact ⟨its,r,⟨_,n,e,rfl,rfl,rfl⟩,z⟩
  · refine ⟨its.toList,r,⟨o,n,I.kIn a o hk,hc,hd,by simpa using hs⟩,?_⟩
    have e:=r.length
    simp only [Array.length_toList] at e
    omega
theorem Inv.tuple (I:Inv X pins σ H s) (h:SqT X.K H a xs):∃its:List Value,Vals xs its∧IsTup s.heap a its.toArray∧xs.length≤sizeLine:=by
  rcases h with h | ⟨o,its,n,hk,hc,hs,hz,r⟩
  · obtain ⟨z,its,r,p⟩:=h.ok I.hok
    exact ⟨its,r,p,z⟩
  · refine ⟨its.toList,r,⟨o,I.kIn a o hk,hc,n,by simpa using hs⟩,?_⟩
    have e:=r.length
    simp only [Array.length_toList] at e
    omega
theorem Inv.list_inj (I:Inv X pins σ H s) (h:SqL X.K H a xs) (h':SqL X.K H a ys):xs=ys:=by
  obtain ⟨its,r,⟨o,n,e,_,_,d⟩,_⟩:=I.list h
  obtain ⟨its',r',⟨o',n',e',_,_,d'⟩,_⟩:=I.list h'
  rw [e] at e'; cases e'
  rw [d] at d'
  injection d' with d1 _
  have:its=its':=by simpa using congrArg Array.toList d1
  subst this
  exact r.inj r'
theorem Inv.tuple_inj (I:Inv X pins σ H s) (h:SqT X.K H a xs) (h':SqT X.K H a ys):xs=ys:=by
  obtain ⟨its,r,⟨o,e,_,n,d⟩,_⟩:=I.tuple h
  obtain ⟨its',r',⟨o',e',_,n',d'⟩,_⟩:=I.tuple h'
  rw [e] at e'; cases e'
  rw [d] at d'
  injection d' with d1 _
  have:its=its':=by simpa using congrArg Array.toList d1
  subst this
  exact r.inj r'
end
abbrev Cx.wish (X:Cx) (E:Value→Shared→Prop):Cx:={ X with xe:=E }
abbrev Cx.nox (X:Cx):Cx:=X.wish fun _ _=>False
theorem Cx.Ok.wish {X:Cx} (ok:X.Ok) (E:Value→Shared→Prop):(X.wish E).Ok:=
  ⟨ok.mod,ok.kind,ok.glob,ok.blt,ok.above,ok.inj,ok.has,ok.cab,ok.hd,ok.frames,ok.stk,ok.exf,ok.bs,ok.bsz,ok.noex,ok.exfs,ok.funs,ok.frf⟩
theorem Cx.Ok.unwish {X:Cx} {E:Value→Shared→Prop} (ok:(X.wish E).Ok):X.Ok:=
  ⟨ok.mod,ok.kind,ok.glob,ok.blt,ok.above,ok.inj,ok.has,ok.cab,ok.hd,ok.frames,ok.stk,ok.exf,ok.bs,ok.bsz,ok.noex,ok.exfs,ok.funs,ok.frf⟩
section
variable {X:Cx} {pins:List (Addr×Obj)} {σ:St} {H:Hp} {s:Shared} {E:Value→Shared→Prop}
theorem Inv.wish (I:Inv X pins σ H s) (E:Value→Shared→Prop):Inv (X.wish E) pins σ H s:=⟨I.ok.wish E,I.os,I.bare,I.base,I.loc,I.cell,I.free,I.freeC,I.pin,I.hok,I.len⟩
theorem Inv.unwish (I:Inv (X.wish E) pins σ H s):Inv X pins σ H s:=⟨I.ok.unwish,I.os,I.bare,I.base,I.loc,I.cell,I.free,I.freeC,I.pin,I.hok,I.len⟩
theorem SP.unwish {D:ZaG} {f:Flow} {s':Shared} (h:SP (X.wish E) pins D f s'):SP X pins D f s':=by
  cases f with
  | next=>obtain ⟨σ',H',I,q⟩:=h; exact ⟨σ',H',I.unwish,q⟩
  | brk=>obtain ⟨σ',H',I,q⟩:=h; exact ⟨σ',H',I.unwish,q⟩
  | cont=>obtain ⟨σ',H',I,q⟩:=h; exact ⟨σ',H',I.unwish,q⟩
  | ret u=>obtain ⟨v,σ',H',I,r,q⟩:=h; exact ⟨v,σ',H',I.unwish,r,q⟩
theorem PT.nox {e:Expr} {t:TT} (h:PT X.nox e t):PT X e t:=fun pins s σ H Q I hw=>
  wpAny_mono (h pins s σ H Q (I.wish _) hw) (fun _ _ ⟨H',I',q⟩=>⟨H',I'.unwish,q⟩) fun _ _ z=>False.elim z
theorem PSs.nox {st:List Stmt} {t:TS} (h:PSs X.nox st t):PSs X st t:=fun pins s σ H D I hw=>
  wpAny_mono (h pins s σ H D (I.wish _) hw) (fun _ _ q=>q.unwish) fun _ _ z=>False.elim z
end
section
variable {X:Cx} {st:Stmt} {rest:List Stmt} {t u:TS} {e:Expr} {te:TE} {pos:Pos}
def Zj4:TS:=fun D σ H=>D.nx σ H
def Zlk (t u:TS):TS:=fun D σ H=>t { D with nx:=u D } σ H
theorem Ze7:PSs X [] Zj4:=fun _ _ σ H _ I h=>wpAny_execs_nil ⟨σ,H,I,h⟩
theorem ZdY (h1:PS X st t) (h2:PSs X rest u):PSs X (st::rest) (Zlk t u):=by
  intro pins s σ H D I h
  refine wpAny_execs_cons (thn (h1 pins s σ H { D with nx:=u D } I h) fun f s1 q=>?_)
  cases f with
  | next=>
    obtain ⟨σ',H',I',q⟩:=q
    exact h2 pins s1 σ' H' D I' q
  | ret v=>exact q
  | brk=>exact q
  | cont=>exact q
theorem Zde (h1:PS X st t):PSs X [st] t:=by
  intro pins s σ H D I h
  refine wpAny_execs_cons (thn (h1 pins s σ H D I h) fun f s1 q=>?_)
  cases f with
  | next=>exact wpAny_execs_nil q
  | ret v=>exact q
  | brk=>exact q
  | cont=>exact q
theorem Inv.quiet {pins:List (Addr×Obj)} {σ:St} {H:Hp} {s:Shared} (I:Inv X pins σ H s):interactive X.env=false:=by simp [interactive,I.ok.kind]
def Zj5 (te:TE):TS:=fun D σ H=>te σ H fun _ H1=>D.nx σ H1
theorem ZhT (he:PE X e te) (hs:swapsWith e none pos.line X.env=pure false:=by rfl):PS X (.Expr e pos) (Zj5 te):=by
  intro pins s σ H D I h
  exact wpAny_Expr_any (thn (he pins s σ H _ I h) fun v s1 ⟨x,H1,I1,r1,q1⟩=>⟨σ,H1,I1,q1⟩) I.quiet hs
def Zll (te:TE):TS:=fun D σ H=>te σ H D.rt
theorem Zi5 (he:PE X e te):PS X (.Return (some e) pos) (Zll te):=by
  intro pins s σ H D I h
  exact wpAny_Return_some (thn (he pins s σ H _ I h) fun v s1 ⟨x,H1,I1,r1,q1⟩=>⟨x,σ,H1,I1,r1,q1⟩)
def Zlp (c:TT) (t u:TS):TS:=fun D σ H=>c σ H fun b H1=>if b=true then t D σ H1 else u D σ H1
theorem Ziz {c:Expr} {a b:List Stmt} {tc:TT} (hc:PT X c tc) (ha:PSs X a t) (hb:PSs X b u):PS X (.If c a b pos) (Zlp tc t u):=by
  intro pins s σ H D I h
  refine wpAny_If (thn (hc pins s σ H _ I h) fun d s1 ⟨H1,I1,q1⟩=>?_)
  cases d with
  | true=>exact ha pins s1 σ H1 D I1 q1
  | false=>exact hb pins s1 σ H1 D I1 q1
end
abbrev TG:=V→St→Hp→(St→Hp→Prop)→Prop
def PG (X:Cx) (target:Expr) (t:TG):Prop:=
  ∀(pins:List (Addr×Obj)) (s:Shared) (σ:St) (H:Hp) (v:V) (u:Value) (Q:St→Hp→Prop),Inv X pins σ H s→RelV v u→t v σ H Q→
    wpAny (model X.prog X.w) X.A (assign target X.env u) (fun _ s'=>∃σ' H',Inv X pins σ' H' s'∧Q σ' H') X.xe s
abbrev ZjI:=V→V→V→Hp→(Hp→Prop)→Prop
def ZkO (X:Cx) (t:ZjI):Prop:=
  ∀(pins:List (Addr×Obj)) (s:Shared) (σ:St) (H:Hp) (o i v:V) (ov iv u:Value) (Q:Hp→Prop),Inv X pins σ H s→RelV o ov→RelV i iv→RelV v u→t o i v H Q→
    wpAny (model X.prog X.w) X.A (setItem ov iv u) (fun _ s'=>∃H',Inv X pins σ H' s'∧Q H') X.xe s
section
variable {X:Cx} {pos:Pos}
def Zed (i:Nat):TG:=fun v σ H Q=>Q (σ.set i (some v)) H
theorem Zdh {i:Nat} {x:Str} (hN:X.N.Nodup) (hi:X.N[i]?=some x) (hx:Loc X.env.scope x) (hf:X.fn x=true∨X.env.scope.names.lookup x=some .local:=by first | exact .inl rfl | exact .inr rfl | assumption):PG X (.Name x pos) (Zed i):=by
  intro pins s σ H v u Q I r h
  exact wpAny_assign_Name (Zcc I hN hi hx r (fun s' I'=>⟨_,H,I',h⟩) hf)
def ZkE (to ti:TE) (t:ZjI):TG:=fun v σ H Q=>to σ H fun o H1=>ti σ H1 fun i H2=>t o i v H2 fun H3=>Q σ H3
theorem ZgG {o i:Expr} {to ti:TE} {t:ZjI} (ho:PE X o to) (hi:PE X i ti) (hs:ZkO X t)
    (ha:∀v,assign (.Subscript o i pos) X.env v=(do
      let ov ←holding [v] (eval o X.env)
      let iv ←holding [v,ov] (eval i X.env)
      standAt pos
      holding [v,ov,iv] (setItem ov iv v)
      release [v,ov,iv] []):=by intro _; rfl):PG X (.Subscript o i pos) (ZkE to ti t):=by
  intro pins s σ H v u Q I r h
  rw [ha]
  refine wpAny_bind (wpAny_holding (thn (ho pins s σ H _ I h) fun ov s1 ⟨x,H1,I1,r1,q1⟩=>?_))
  refine wpAny_bind (wpAny_holding (thn (hi pins s1 σ H1 _ I1 q1) fun iv s2 ⟨y,H2,I2,r2,q2⟩=>?_))
  refine wpAny_bind (wpAny_standAt (wpAny_bind (wpAny_holding (thn (hs pins s2 σ H2 x y v ov iv u _ I2 r1 r2 r q2) fun _ s3 ⟨H3,I3,q3⟩=>?_))))
  exact wpAny_release ⟨σ,H3,I3,q3⟩
def ZhK (te:TE) (g:TG):TS:=fun D σ H=>te σ H fun x H1=>g x σ H1 D.nx
theorem ZgD {tg e:Expr} {te:TE} {g:TG} (he:PE X e te) (hg:PG X tg g) (hs:swapsWithSole [tg] e pos.line X.env=pure false:=by rfl) (hw:swappedStores [tg] e X.env=pure none:=by rfl)
    (h1:(assignEach [tg] X.env).map (·.2)=[assign tg X.env]:=by rfl):PS X (.Assign [tg] e pos) (ZhK te g):=by
  intro pins s σ H D I h
  refine wpAny_Assign_stores (thn (he pins s σ H _ I h) fun v s1 ⟨x,H1,I1,r1,q1⟩=>?_) hs hw
  rw [h1]
  exact thn (hg pins s1 σ H1 x v _ I1 r1 q1) fun _ s2 q=>q
theorem Zdf {i:Nat} {x:Str} {e:Expr} {te:TE} {pos':Pos} (hN:X.N.Nodup) (hi:X.N[i]?=some x) (hx:Loc X.env.scope x) (he:PE X e te) (hs:swapsWith e (some (.Name x pos')) pos.line X.env=pure false:=by rfl) (hf:X.fn x=true∨X.env.scope.names.lookup x=some .local:=by first | exact .inl rfl | exact .inr rfl | assumption) :
    PS X (.Assign [.Name x pos'] e pos) (ZhK te (Zed i)):=by
  intro pins s σ H D I h
  refine wpAny_Assign_Name (thn (he pins s σ H _ I h) fun v s1 ⟨y,H1,I1,r1,q1⟩=>?_) hs
  exact Zcc I1 hN hi hx r1 (fun s2 I2=>⟨_,H1,I2,q1⟩) hf
end
section
variable {X:Cx} {pos:Pos}
def ZiV (c:TT) (tb:TS):TS:=fun D σ H=>∃W:Nat→St→Hp→Prop,(∃m,W m σ H)∧∀m σ H,W m σ H→
  c σ H fun b H1=>if b=true then ∃N:St→Hp→Prop,(∀σ' H',N σ' H'→∃m',m'<m∧W m' σ' H')∧tb { D with nx:=N,ct:=N,bk:=D.nx } σ H1 else D.nx σ H1
theorem ZgB {c:Expr} {body:List Stmt} {tc:TT} {tb:TS} (hp:PassesOwn (model X.prog X.w) X.A X.env X.xe) (hc:PT X c tc) (hb:PSs X body tb):PS X (.While c body [] pos) (ZiV tc tb):=by
  intro pins s σ H D I h
  obtain ⟨W,⟨m0,w0⟩,turn⟩:=h
  refine wpAny_While (codeAny_whileLoop (fun n s'=>∃σ' H',Inv X pins σ' H' s'∧W n σ' H') ?_ m0 ⟨σ,H,I,w0⟩)
  rintro n s1 ⟨σ1,H1,I1,w1⟩
  refine wpAny_passesOwn hp (thn (hc pins s1 σ1 H1 _ I1 (turn n σ1 H1 w1)) fun b s2 ⟨H2,I2,q2⟩=>?_)
  cases b with
  | true=>
    obtain ⟨N,hN,q2⟩:=q2
    rw [if_pos rfl]
    refine wpAny_passesOwn hp (thn (hb pins s2 σ1 H2 _ I2 q2) fun f s3 q3=>?_)
    cases f with
    | next=>
      obtain ⟨σ3,H3,I3,n3⟩:=q3
      obtain ⟨m',hm,w3⟩:=hN σ3 H3 n3
      exact ⟨m',hm,σ3,H3,I3,w3⟩
    | cont=>
      obtain ⟨σ3,H3,I3,n3⟩:=q3
      obtain ⟨m',hm,w3⟩:=hN σ3 H3 n3
      exact ⟨m',hm,σ3,H3,I3,w3⟩
    | brk=>exact q3
    | ret v=>exact q3
  | false=>
    rw [if_neg Bool.false_ne_true]
    exact wpAny_execs_nil ⟨σ1,H2,I2,q2⟩
end
structure It where
  go:Nat→Hp→Prop
  yld:Nat→Hp→V→Hp→Prop
  stop:Nat→Hp→Prop
def ZcF (X:Cx) (pins:List (Addr×Obj)) (H:Hp) (b:Addr):Prop:=
  H b=none∧b≠X.env.locals∧b∉X.fs∧(b∈X.ex∨X.s₀.heap.objs.size≤b)∧(∀x c,X.env.cells.lookup x=some c→c≠b)∧∀p∈X.pn++pins,p.1≠b
theorem Inv.fpOk {X:Cx} {pins:List (Addr×Obj)} {σ:St} {H H':Hp} {s:Shared} {b:Addr} (I:Inv X pins σ H s) (hb:s.heap.objs.size≤b) (hn:H' b=none):ZcF X pins H' b:=by
  refine ⟨hn,Nat.ne_of_gt (Nat.lt_of_lt_of_le I.lt hb),I.nofs hb,.inr (Nat.le_trans I.sz hb),fun x c e z=>?_,fun p hp z=>?_⟩
  · obtain ⟨v,q⟩:=I.cell x c e
    exact absurd (Nat.lt_of_lt_of_le q.lt (by rw [z]; exact hb)) (Nat.lt_irrefl _)
  · exact absurd (Nat.lt_of_lt_of_le (Heap.lt_size (I.pin p hp).1) (by rw [z]; exact hb)) (Nat.lt_irrefl _)
structure ZhA (P:Program) (w:World) (K:PySem.W.Frag) (tg:Expr) (J:It) (fp:List Addr) (it:Addr) (tn:Nat→Heap→Prop):Prop where
  mem:it∈fp
  obj:∀i h,tn i h→∀b∈fp,∃o,h.get? b=some o∧∀v,o.data≠.cell v
  keep:∀i h h',tn i h→(∀b∈fp,∀o,h.get? b=some o→h'.get? b=some o)→tn i h'
  item:∀(X:Cx),X.prog=P→X.w=w→X.K=K→X.calm=true→∀(i:Nat) (pins:List (Addr×Obj)) (s:Shared) (σ:St) (H:Hp) (E:Value→Shared→Prop),Inv X pins σ H s→(∀b∈fp,ZcF X pins H b)→tn i s.heap→J.go i H→
    wpAny (model P w) X.A (pyNext (.ref it)) (fun r s1=>∃u,r=some u∧
      wpAny (model P w) X.A (letOwnedTupleGo tg (.ref it) u) (fun _ s2=>∃x H',Inv X pins σ H' s2∧RelV x u∧J.yld i H x H'∧tn (i+1) s2.heap∧∀b∈fp,H' b=none) E s1) E s
  done:∀(X:Cx),X.prog=P→X.w=w→X.K=K→X.calm=true→∀(i:Nat) (pins:List (Addr×Obj)) (s:Shared) (σ:St) (H:Hp) (E:Value→Shared→Prop),Inv X pins σ H s→(∀b∈fp,ZcF X pins H b)→tn i s.heap→J.stop i H→
    wpAny (model P w) X.A (pyNext (.ref it)) (fun r s1=>r=none∧Inv X pins σ H s1) E s
  self:∀(A:Around) (i:Nat) (s:Shared) (Q:Value→Shared→Prop) (E:Value→Shared→Prop),tn i s.heap→Q (.ref it) s→wpAny (model P w) A (pyIter (.ref it)) Q E s
abbrev TI:=St→Hp→(It→Hp→Prop)→Prop
def PIE (X:Cx) (pins:List (Addr×Obj)) (σ:St) (tg:Expr) (R:It→Hp→Prop) (itv:Value) (s2:Shared):Prop:=
  ∃(it:Addr) (fp:List Addr) (tn:Nat→Heap→Prop) (J:It) (H':Hp),itv=.ref it∧Inv X pins σ H' s2∧ZhA X.prog X.w X.K tg J fp it tn∧tn 0 s2.heap∧(∀b∈fp,ZcF X pins H' b)∧R J H'
def PI (X:Cx) (tg iter:Expr) (wi:TI):Prop:=
  ∀(pins:List (Addr×Obj)) (s:Shared) (σ:St) (H:Hp) (R:It→Hp→Prop),Inv X pins σ H s→wi σ H R→
    wpAny (model X.prog X.w) X.A (eval iter X.env) (fun v s1=>wpAny (model X.prog X.w) X.A (pyIter v) (PIE X pins σ tg R) X.xe s1) X.xe s
theorem Zhj {M:Model} {A:Around} {E:Value→Shared→Prop} {s:Shared} {tg:Expr} {it:Addr} {u:Value} {o:Obj} {n:String} {vs:Array Value} {Q:Unit→Shared→Prop} (ho:s.heap.get? it=some o) (hc:o.cls=.type n) (hd:o.data=.fields vs)
    (hn:["enumerate","zip","dict_itemiterator","dict_reverseitemiterator","odict_iterator","itertools.zip_longest","itertools.pairwise"].contains n=false) (hQ:Q () s):wpAny M A (letOwnedTupleGo tg (.ref it) u) Q E s:=by
  unfold letOwnedTupleGo
  cases tg<;>first
    | exact wpAny_pure hQ
    | (cases u<;>first
        | exact wpAny_pure hQ
        | (refine wpAny_bind (wpAny_load ho ?_)
           rw [hc,hd]
           show wpAny M A (if (["enumerate","zip","dict_itemiterator","dict_reverseitemiterator","odict_iterator","itertools.zip_longest","itertools.pairwise"].contains n && vs[0]? == some (rawInt _))=true then _ else _) Q E s
           rw [if_neg (by intro h; rw [hn,Bool.false_and] at h; cases h)]
           exact wpAny_pure hQ))
def Itl (K:PySem.W.Frag) (a:Addr):It:=
  ⟨fun i H=>∃xs x,SqL K H a xs∧xs[i]?=some x,fun i H x H'=>H'=H∧∀xs,SqL K H a xs→xs[i]?=some x,fun i H=>∃xs,SqL K H a xs∧xs.length≤i⟩
def Itt (K:PySem.W.Frag) (a:Addr):It:=
  ⟨fun i H=>∃xs x,SqT K H a xs∧xs[i]?=some x,fun i H x H'=>H'=H∧∀xs,SqT K H a xs→xs[i]?=some x,fun i H=>∃xs,SqT K H a xs∧xs.length≤i⟩
def Itr (lo:Int) (n:Nat):It:=⟨fun i _=>i<n,fun i H x H'=>H'=H∧x=.int (lo+i),fun i _=>n≤i⟩
theorem ZfB {P:Program} {w:World} {K:PySem.W.Frag} {tg:Expr} (a it:Addr):ZhA P w K tg (Itl K a) [it] it (fun i h=>h.IsListIter it a i) where
  mem:=by simp
  obj:=fun i h st b hb=>by
    have e:b=it:=by simpa using hb
    subst e
    obtain ⟨o,e,c,d⟩:=st
    exact ⟨o,e,fun v z=>by rw [d] at z; cases z⟩
  keep:=fun i h h' st k=>st.at fun o e=>k it (by simp) o e
  item:=by
    intro X hP hw hK hc i pins s σ H E I hf st hg
    subst hP hw hK
    obtain ⟨xs,x,hq,hx⟩:=hg
    obtain ⟨its,rv,p,hz⟩:=I.list hq
    obtain ⟨u,hu,ru⟩:=rv.get hx
    obtain ⟨f0,f1,f2,f3,f4,f5⟩:=hf it (by simp)
    refine wpAny_pyNext_list_item st p.isList (x:=u) (by simpa using hu) fun h' st' sb=>?_
    have I1:Inv X pins σ H { s with heap:=h' }:=I.turned (t':=s.toks) (fun b o hb e=>(sb.2 b hb).trans e) f0 f1 f3 f4 f5
    obtain ⟨o,e,c,d⟩:=id st'
    exact ⟨u,rfl,Zhj (s:={ s with heap:=h' }) e c d (by decide) ⟨x,H,I1,ru,⟨rfl,fun ys hy=>by rw [I.list_inj hy hq]; exact hx⟩,st',fun b hb=>(hf b hb).1⟩⟩
  done:=by
    intro X hP hw hK hc i pins s σ H E I hf st hg
    subst hP hw hK
    obtain ⟨xs,hq,hx⟩:=hg
    obtain ⟨its,rv,p,hz⟩:=I.list hq
    obtain ⟨f0,f1,f2,f3,f4,f5⟩:=hf it (by simp)
    have hl:=rv.length
    exact wpAny_pyNext_list_end (I.ok.hd hc) st p.isList (by simp; omega) fun h' eb=>⟨rfl,I.turned (t':=s.toks) (fun b o hb e=>eb b o hb e) f0 f1 f3 f4 f5⟩
  self:=fun _ _ _ _ _ st h=>wpAny_pyIter_listiter st h
theorem Zer {P:Program} {w:World} {K:PySem.W.Frag} {tg:Expr} (a it:Addr):ZhA P w K tg (Itt K a) [it] it (fun i h=>h.IsTupleIter it a i) where
  mem:=by simp
  obj:=fun i h st b hb=>by
    have e:b=it:=by simpa using hb
    subst e
    obtain ⟨o,e,c,d⟩:=st
    exact ⟨o,e,fun v z=>by rw [d] at z; cases z⟩
  keep:=fun i h h' st k=>st.at fun o e=>k it (by simp) o e
  item:=by
    intro X hP hw hK hc i pins s σ H E I hf st hg
    subst hP hw hK
    obtain ⟨xs,x,hq,hx⟩:=hg
    obtain ⟨its,rv,p,hz⟩:=I.tuple hq
    obtain ⟨u,hu,ru⟩:=rv.get hx
    obtain ⟨f0,f1,f2,f3,f4,f5⟩:=hf it (by simp)
    refine wpAny_pyNext_tuple_item st (show s.heap.IsTuple a its.toArray from p) (x:=u) (by simpa using hu) fun h' st' sb=>?_
    have I1:Inv X pins σ H { s with heap:=h' }:=I.turned (t':=s.toks) (fun b o hb e=>(sb.2 b hb).trans e) f0 f1 f3 f4 f5
    obtain ⟨o,e,c,d⟩:=id st'
    exact ⟨u,rfl,Zhj (s:={ s with heap:=h' }) e c d (by decide) ⟨x,H,I1,ru,⟨rfl,fun ys hy=>by rw [I.tuple_inj hy hq]; exact hx⟩,st',fun b hb=>(hf b hb).1⟩⟩
  done:=by
    intro X hP hw hK hc i pins s σ H E I hf st hg
    subst hP hw hK
    obtain ⟨xs,hq,hx⟩:=hg
    obtain ⟨its,rv,p,hz⟩:=I.tuple hq
    obtain ⟨f0,f1,f2,f3,f4,f5⟩:=hf it (by simp)
    have hl:=rv.length
    exact wpAny_pyNext_tuple_end (I.ok.hd hc) st (show s.heap.IsTuple a its.toArray from p) (by simp; omega) fun h' eb=>⟨rfl,I.turned (t':=s.toks) (fun b o hb e=>eb b o hb e) f0 f1 f3 f4 f5⟩
  self:=fun _ _ _ _ _ st h=>wpAny_pyIter_tupleiter st h
theorem Zes {P:Program} {w:World} {K:PySem.W.Frag} {tg:Expr} (it:Addr) (lo:Int) (n:Nat):ZhA P w K tg (Itr lo n) [it] it (fun i h=>IsRangeIter h it (lo+(i:Nat)*1) ((n:Int)-(i:Nat)) 1) where
  mem:=by simp
  obj:=fun i h st b hb=>by
    have e:b=it:=by simpa using hb
    subst e
    exact ⟨_,st,fun v z=>by
      have z':Data.fields _=Data.cell v:=z
      cases z'⟩
  keep:=fun i h h' st k=>k it (by simp) _ st
  item:=by
    intro X hP hw hK hc i pins s σ H E I hf st hg
    subst hP hw hK
    obtain ⟨f0,f1,f2,f3,f4,f5⟩:=hf it (by simp)
    have W:=Walks.range (prog:=X.prog) (w:=X.w) (I.ok.hd hc) it lo 1 n
    refine W.item i s _ _ hg st fun v h' tk hv st' kk=>?_
    obtain ⟨t,rfl⟩:=hv
    have I1:Inv X pins σ H { s with heap:=h',toks:=tk }:=I.turned (fun b o hb e=>kk b o (by simpa using hb) e) f0 f1 f3 f4 f5
    refine ⟨_,rfl,Zhj (s:={ s with heap:=h',toks:=tk }) (n:="range_iterator") st' rfl rfl (by decide) ⟨.int (lo+i),H,I1,⟨t,?_⟩,⟨rfl,rfl⟩,st',fun b hb=>(hf b hb).1⟩⟩
    rw [Int.mul_one]
  done:=by
    intro X hP hw hK hc i pins s σ H E I hf st hg
    subst hP hw hK
    obtain ⟨f0,f1,f2,f3,f4,f5⟩:=hf it (by simp)
    exact wpAny_pyNext_range_end (I.ok.hd hc) st (by have:n≤i:=hg; omega) fun h' eb=>⟨rfl,I.turned (t':=s.toks) (fun b o hb e=>eb b o hb e) f0 f1 f3 f4 f5⟩
  self:=fun _ _ _ _ _ st h=>wpAny_pyIter_rangeiter st h
end L2
namespace L2
open PySem PySem.Spec PyProof.Rows
section
variable {X:Cx} {tg:Expr}
theorem Zgw {pins:List (Addr×Obj)} {σ:St} {H:Hp} {s:Shared} {R:It→Hp→Prop} {E:Value→Shared→Prop} {lo hi:Int} {t u v:Tok} {tk:Nat} (I:Inv X pins σ H s) (h1 : -(2 ^ 62)≤lo) (h2:lo<2 ^ 62) (h3 : -(2 ^ 62)≤hi) (h4:hi<2 ^ 62)
    (q:R (Itr lo (hi-lo).toNat) H):wpAny (model X.prog X.w) X.A (pyIter (.ref s.heap.objs.size)) (PIE X pins σ tg R) E { s with heap:=s.heap.push { cls:=.type "range",data:=.fields #[.int lo t,.int hi u,.int 1 v] },toks:=tk }:=by
  refine wpAny_pyIter_range (IsRange.new ..) (small_one h1 h2 h3 h4) ?_
  have I1:Inv X pins σ H { s with heap:=s.heap.push { cls:=.type "range",data:=.fields #[.int lo t,.int hi u,.int 1 v] },toks:=tk }:=I.kept fun b o e=>Heap.get?_push_of_some _ e
  refine ⟨(s.heap.push { cls:=.type "range",data:=.fields #[.int lo t,.int hi u,.int 1 v] }).objs.size,[(s.heap.push { cls:=.type "range",data:=.fields #[.int lo t,.int hi u,.int 1 v] }).objs.size],_,_,H,rfl,
    I1.kept (t':=tk) fun b o e=>Heap.get?_push_of_some _ e,Zes _ lo (hi-lo).toNat,?_,fun b hb=>?_,q⟩
  · have e1:lo+((0:Nat):Int)*1=lo:=by simp
    have e2:(((hi-lo).toNat:Nat):Int)-((0:Nat):Int)=Builtin.Range.rangeSize lo hi 1:=by rw [rangeSize_one]; split<;>omega
    show IsRangeIter _ _ (lo+((0:Nat):Int)*1) ((((hi-lo).toNat:Nat):Int)-((0:Nat):Int)) 1
    rw [e1,e2]
    exact Heap.get?_push_size _ rfl
  · have e:b=(s.heap.push { cls:=.type "range",data:=.fields #[.int lo t,.int hi u,.int 1 v] }).objs.size:=by simpa using hb
    subst e
    exact I1.fpOk (Nat.le_refl _) (I1.hok.fresh (Nat.le_refl _))
def ZkC (ta:TA):TI:=fun σ H R=>ta σ H fun vs H1=>∃j:Int,vs=[.int j]∧-(2 ^ 62)≤j∧j<2 ^ 62∧R (Itr 0 j.toNat) H1
theorem ZfN {a:Expr} {ta:TA} {p pos:Pos} (hg:Gl X "range") (hm:X.mg "range"=none) (ha:PA X [a] ta) (hs:starEach [a] X.env=[(false,eval a X.env)]:=by rfl):PI X tg (.Call (.Name "range" p) [a] [] pos) (ZkC ta):=by
  intro pins s σ H R I h
  refine Call_ (Zds I hg hm boot_range (PyProof.Rows.callWith_type1 (thn (ha pos pins s σ H _ I h) fun us s1 ⟨vs,H1,I1,r1,q1⟩=>?_) hs rfl))
  obtain ⟨j,e,q1,q2,q⟩:=q1
  subst e
  cases r1 with
  | cons r rr=>
    cases rr
    obtain ⟨t,rfl⟩:=r
    exact call_range_1 (Zgw I1 (by omega) (by omega) q1 q2 (by simpa using q))
def Zlq (wi:TI) (g:TG) (tb:TS):TS:=fun D σ H=>wi σ H fun J H1=>∃W:Nat→Nat→St→Hp→Prop,(∃m,W 0 m σ H1)∧∀i m σ H,W i m σ H→
  (J.stop i H∧D.nx σ H)∨(J.go i H∧∃N:St→Hp→Prop,(∀σ' H',N σ' H'→∃m',m'<m∧W (i+1) m' σ' H')∧∀x H',J.yld i H x H'→g x σ H' fun σ2 H2=>tb { D with nx:=N,ct:=N,bk:=D.nx } σ2 H2)
def Zdg (fp:List Addr) (h:Heap):List (Addr×Obj):=fp.filterMap fun b=>(h.get? b).map fun o=>(b,o)
theorem Zah {fp:List Addr} {h:Heap} {b:Addr} {o:Obj} (hb:b∈fp) (e:h.get? b=some o):(b,o)∈Zdg fp h:=List.mem_filterMap.mpr ⟨b,hb,by rw [e]; rfl⟩
theorem ZfS {fp:List Addr} {h:Heap} {p:Addr×Obj} (hp:p∈Zdg fp h):p.1∈fp∧h.get? p.1=some p.2:=by
  obtain ⟨b,hb,e⟩:=List.mem_filterMap.mp hp
  cases q:h.get? b with
  | none=>rw [q] at e; cases e
  | some o=>
    rw [q] at e
    have e':(b,o)=p:=Option.some.inj e
    subst e'
    exact ⟨hb,q⟩
theorem Inv.pinned {pins:List (Addr×Obj)} {σ:St} {H:Hp} {s:Shared} {fp:List Addr} (I:Inv X pins σ H s) (hf:∀b∈fp,ZcF X pins H b) (ho:∀b∈fp,∃o,s.heap.get? b=some o∧∀v,o.data≠.cell v):Inv X (pins++Zdg fp s.heap) σ H s:=
  I.pins_of fun p hp=>(List.mem_append.mp hp).elim (fun z=>I.pin p (List.mem_append_right _ z)) fun z=>by
    obtain ⟨hb,e⟩:=ZfS z
    obtain ⟨f0,f1,f2,_⟩:=hf p.1 hb
    obtain ⟨o,e',d⟩:=ho p.1 hb
    rw [e] at e'; cases e'
    exact ⟨e,f0,f1,f2,d⟩
theorem Inv.unpinned {pins pl:List (Addr×Obj)} {σ:St} {H:Hp} {s:Shared} (I:Inv X (pins++pl) σ H s):Inv X pins σ H s:=I.pins_of fun p hp=>I.pin p (List.mem_append_right _ (List.mem_append_left _ hp))
theorem Zi6 {iter:Expr} {body:List Stmt} {wi:TI} {g:TG} {tb:TS} {pos:Pos} (hp:PassesOwn (model X.prog X.w) X.A X.env X.xe) (hc:X.calm=true) (hi:PI X tg iter wi) (hg:PG X tg g) (hb:PSs X body tb)
    (hs:∀x,foldedSetIterable iter X.env x=pure x:=by intro _; rfl):PS X (.For tg iter body [] pos) (Zlq wi g tb):=by
  intro pins s σ H D I h
  refine wpAny_For (thn (hi pins s σ H _ I h) fun v s1 h1=>thn h1 fun itv s2 h2=>?_) hs
  obtain ⟨it,fp,tn,J,H2,e,I2,T,st2,f2,W,⟨m0,w0⟩,turn⟩:=h2
  subst e
  have stat:∀{H':Hp},(∀b∈fp,H' b=none)→∀b∈fp,ZcF X pins H' b:=fun hn b hb=>⟨hn b hb,(f2 b hb).2⟩
  refine codeAny_forLoop_any (fun n s'=>∃i σ' H',Inv X pins σ' H' s'∧tn i s'.heap∧(∀b∈fp,H' b=none)∧W i n σ' H') ?_ m0 ⟨0,σ,H2,I2,st2,fun b hb=>(f2 b hb).1,w0⟩
  rintro n s3 ⟨i,σ3,H3,I3,st3,fr3,w3⟩
  rcases turn i n σ3 H3 w3 with ⟨stop,qn⟩ | ⟨go,N,hN,step⟩
  · refine wpAny_passesOwn hp (thn (T.done X rfl rfl rfl hc i pins s3 σ3 H3 X.xe I3 (stat fr3) st3 stop) fun r s4 ⟨hr,I4⟩=>?_)
    subst hr
    exact wpAny_execs_nil ⟨σ3,H3,I4,qn⟩
  · refine wpAny_passesOwn hp (thn (T.item X rfl rfl rfl hc i pins s3 σ3 H3 X.xe I3 (stat fr3) st3 go) fun r s4 ⟨u,hr,h4⟩=>?_)
    subst hr
    refine wpAny_passesOwn hp (thn h4 fun _ s5 ⟨x,H5,I5,r5,y5,st5,fr5⟩=>?_)
    have I5':=I5.pinned (stat fr5) (T.obj _ _ st5)
    refine wpAny_passesOwn hp (thn (hg _ s5 σ3 H5 x u _ I5' r5 (step x H5 y5)) fun _ s6 ⟨σ6,H6,I6,q6⟩=>?_)
    refine wpAny_passesOwn hp (thn (hb _ s6 σ6 H6 _ I6 q6) fun f s7 q7=>?_)
    have again:∀{σ7:St} {H7:Hp},Inv X (pins++Zdg fp s5.heap) σ7 H7 s7→N σ7 H7→∃m,m<n∧∃i σ' H',Inv X pins σ' H' s7∧tn i s7.heap∧(∀b∈fp,H' b=none)∧W i m σ' H':=fun {σ7 H7} I7 n7=>by
      obtain ⟨m',hm,w7⟩:=hN σ7 H7 n7
      refine ⟨m',hm,i+1,σ7,H7,I7.unpinned,T.keep _ _ _ st5 fun b hb o e=>(I7.pin (b,o) (List.mem_append_right _ (List.mem_append_right _ (Zah hb e)))).1,fun b hb=>?_,w7⟩
      obtain ⟨o,e,d⟩:=T.obj _ _ st5 b hb
      exact (I7.pin (b,o) (List.mem_append_right _ (List.mem_append_right _ (Zah hb e)))).2.1
    cases f with
    | next=>obtain ⟨σ7,H7,I7,n7⟩:=q7; exact again I7 n7
    | cont=>obtain ⟨σ7,H7,I7,n7⟩:=q7; exact again I7 n7
    | brk=>obtain ⟨σ7,H7,I7,q7⟩:=q7; exact ⟨σ7,H7,I7.unpinned,q7⟩
    | ret v=>obtain ⟨x7,σ7,H7,I7,r7,q7⟩:=q7; exact ⟨x7,σ7,H7,I7.unpinned,r7,q7⟩
end
end L2
namespace L2
open PySem PySem.Spec PyProof.Rows
abbrev R2:=V→V→Hp→VK→Prop
def OpR (X:Cx) (f:Value→Value→Sem Value) (r:R2):Prop:=
  ∀(pins:List (Addr×Obj)) (s:Shared) (σ:St) (H:Hp) (x y:V) (v u:Value) (Q:VK),Inv X pins σ H s→RelV x v→RelV y u→r x y H Q→
    wpAny (model X.prog X.w) X.A (f v u) (EP X pins σ Q) X.xe s
def CallR (X:Cx) (f:Value) (r:List V→Hp→VK→Prop):Prop:=
  ∀(pins:List (Addr×Obj)) (s:Shared) (σ:St) (H:Hp) (xs:List V) (us:List Value) (Q:VK),Inv X pins σ H s→Vals xs us→r xs H Q→
    wpAny (model X.prog X.w) X.A (call f us) (EP X pins σ Q) X.xe s
def ZlL (X:Cx) (r:V→Hp→(Bool→Hp→Prop)→Prop):Prop:=
  ∀(pins:List (Addr×Obj)) (s:Shared) (σ:St) (H:Hp) (x:V) (v:Value) (Q:Bool→Hp→Prop),Inv X pins σ H s→RelV x v→r x H Q→
    wpAny (model X.prog X.w) X.A (truthy v) (TP X pins σ Q) X.xe s
def tOp (r:R2) (ta tb:TE):TE:=fun σ H Q=>ta σ H fun x H1=>tb σ H1 fun y H2=>r x y H2 Q
def rI (C:Int→Int→Prop) (g:Int→Int→V):R2:=fun x y H Q=>∃i j,x=.int i∧y=.int j∧C i j∧Q (g i j) H
def rI0 (g:Int→Int→V):R2:=fun x y H Q=>∃i j,x=.int i∧y=.int j∧Q (g i j) H
section
variable {X:Cx} {a b c:Expr} {ta tb tc:TE} {pos:Pos}
theorem ZjC (ha:PE X a ta) (hb:PE X b tb) {pins:List (Addr×Obj)} {s:Shared} {σ:St} {H:Hp} {R:V→V→Hp→Prop} (I:Inv X pins σ H s)
    (h:ta σ H fun x H1=>tb σ H1 fun y H2=>R x y H2) {Q:Value→Shared→Prop} {f:Value→Value→Sem Value}
    (hf:∀v u s2 x y H2,Inv X pins σ H2 s2→RelV x v→RelV y u→R x y H2→wpAny (model X.prog X.w) X.A (f v u) Q X.xe s2) :
    wpAny (model X.prog X.w) X.A (eval a X.env) (fun v s₁=>wpAny (model X.prog X.w) X.A (eval b X.env) (fun u s₂=>wpAny (model X.prog X.w) X.A (f v u) Q X.xe s₂) X.xe s₁) X.xe s:=by
  refine thn (ha pins s σ H _ I h) fun v s1 ⟨x,H1,I1,r1,q1⟩=>?_
  refine thn (hb pins s1 σ H1 _ I1 q1) fun u s2 ⟨y,H2,I2,r2,q2⟩=>?_
  exact hf v u s2 x y H2 I2 r1 r2 q2
theorem Zki {op:Operator} {r:R2} (ho:OpR X (binaryOp op) r) (ha:PE X a ta) (hb:PE X b tb):PE X (.BinOp a op b pos) (tOp r ta tb):=by
  intro pins s σ H Q I h
  exact wpAny_BinOp (ZjC ha hb I h fun v u s2 x y H2 I2 rx ry q=>ho pins s2 σ H2 x y v u Q I2 rx ry q)
theorem opI {f:Value→Value→Sem Value} {C:Int→Int→Prop} {g:Int→Int→Int}
    (rule:∀(i j:Int) (t u:Tok) (s:Shared) (Q:Value→Shared→Prop) (E:Value→Shared→Prop),C i j→Q (.int (g i j) s.toks) { s with toks:=s.toks+1 }→wpAny (model X.prog X.w) X.A (f (.int i t) (.int j u)) Q E s) :
    OpR X f (rI C fun i j=>.int (g i j)):=by
  intro pins s σ H x y v u Q I rx ry h
  obtain ⟨i,j,rfl,rfl,hc,q⟩:=h
  obtain ⟨t,rfl⟩:=rx
  obtain ⟨t',rfl⟩:=ry
  exact rule i j t t' s _ _ hc ⟨.int (g i j),H,I.tok _,⟨_,rfl⟩,q⟩
theorem Zjm {f:Value→Value→Sem Value} {g:Int→Int→Int}
    (rule:∀(i j:Int) (t u:Tok) (s:Shared) (Q:Value→Shared→Prop) (E:Value→Shared→Prop),Q (.int (g i j) s.toks) { s with toks:=s.toks+1 }→wpAny (model X.prog X.w) X.A (f (.int i t) (.int j u)) Q E s) :
    OpR X f (rI0 fun i j=>.int (g i j)):=by
  intro pins s σ H x y v u Q I rx ry h
  obtain ⟨i,j,rfl,rfl,q⟩:=h
  obtain ⟨t,rfl⟩:=rx
  obtain ⟨t',rfl⟩:=ry
  exact rule i j t t' s _ _ ⟨.int (g i j),H,I.tok _,⟨_,rfl⟩,q⟩
theorem Zh2 {f:Value→Value→Sem Value} {g:Int→Int→Bool}
    (rule:∀(i j:Int) (t u:Tok) (s:Shared) (Q:Value→Shared→Prop) (E:Value→Shared→Prop),Q (.bool (g i j)) s→wpAny (model X.prog X.w) X.A (f (.int i t) (.int j u)) Q E s) :
    OpR X f (rI0 fun i j=>.bl (g i j)):=by
  intro pins s σ H x y v u Q I rx ry h
  obtain ⟨i,j,rfl,rfl,q⟩:=h
  obtain ⟨t,rfl⟩:=rx
  obtain ⟨t',rfl⟩:=ry
  exact rule i j t t' s _ _ ⟨.bl (g i j),H,I,rfl,q⟩
def CMul (i j:Int):Prop:=(-(2 ^ 64)<i∧i<2 ^ 64)∨(-(2 ^ 64)<j∧j<2 ^ 64)
theorem CMul.ok {i j:Int} (h:CMul i j):IntMulOk i j:=by
  rcases h with ⟨h1,h2⟩ | ⟨h1,h2⟩
  · exact .of_left (intBits_le_64 h1 h2)
  · exact .of_right (intBits_le_64 h1 h2)
theorem op_add:OpR X (binaryOp .Add) (rI0 fun i j=>.int (i+j)):=Zjm fun _ _ _ _ _ _ _ q=>add_int q
theorem Zjf:OpR X (binaryOp .Sub) (rI0 fun i j=>.int (i-j)):=Zjm fun _ _ _ _ _ _ _ q=>sub_int q
theorem op_mul:OpR X (binaryOp .Mult) (rI CMul fun i j=>.int (i*j)):=opI fun _ _ _ _ _ _ _ hc q=>mul_int q hc.ok
theorem Zji:OpR X (binaryOp .Mod) (rI (fun _ j=>0<j) fun i j=>.int (i % j)):=opI fun i j _ _ _ _ _ hc q=>by
  have h1:(0:Int)<j:=hc
  exact mod_int' (by omega) (by rw [Int.fmod_eq_emod_of_nonneg i (by omega)]; exact q)
theorem Zjl:OpR X (binaryOp .BitAnd) (rI0 fun i j=>.int (Builtin.bitAnd i j)):=Zjm fun _ _ _ _ _ _ _ q=>and_int q
end
section
variable {X:Cx} {a b c:Expr} {ta tb tc:TE} {pos:Pos}
theorem Zhl {pins:List (Addr×Obj)} {σ:St} {H:Hp} {s:Shared} {Q:VK} {k k':Bool} (I:Inv X pins σ H s) (q:Q (.bl k) H) (e:k=k'):EP X pins σ Q (.bool k') s:=by
  subst e
  exact ⟨.bl k,H,I,rfl,q⟩
theorem Zkn:OpR X (compareOp .Lt) (rI0 fun i j=>.bl (decide (i<j))):=Zh2 fun _ _ _ _ _ _ _ q=>lt_int q
theorem Zko:OpR X (compareOp .LtE) (rI0 fun i j=>.bl (decide (i≤j))):=Zh2 fun _ _ _ _ _ _ _ q=>le_int q
theorem Zkp:OpR X (compareOp .Gt) (rI0 fun i j=>.bl (decide (j<i))):=Zh2 fun _ _ _ _ _ _ _ q=>gt_int q
theorem Zkq:OpR X (compareOp .GtE) (rI0 fun i j=>.bl (decide (j≤i))):=Zh2 fun _ _ _ _ _ _ _ q=>ge_int q
theorem op_isN:OpR X (compareOp .Is) (fun x y H Q=>y=.non∧Q (.bl (decide (x=.non))) H):=by
  intro pins s σ H x y v u Q I rx ry h
  obtain ⟨rfl,q⟩:=h
  cases ry
  refine is_none_gen (Zhl I q ?_)
  cases x<;>first
    | (cases rx; rfl)
    | (obtain ⟨t,rfl⟩:=rx; rfl)
theorem op_notN:OpR X (compareOp .IsNot) (fun x y H Q=>y=.non∧Q (.bl (!decide (x=.non))) H):=by
  intro pins s σ H x y v u Q I rx ry h
  obtain ⟨rfl,q⟩:=h
  cases ry
  refine isnot_none_gen (Zhl I q ?_)
  cases x<;>first
    | (cases rx; rfl)
    | (obtain ⟨t,rfl⟩:=rx; rfl)
def Zkw:HO→Bool
  | .lst _=>true
  | .ins _ _ _=>true
  | _=>false
theorem obj_there {pins:List (Addr×Obj)} {s:Shared} {σ:St} {H:Hp} {a:Addr} {o:HO} (I:Inv X pins σ H s) (h:H a=some o) (p:Zkw o=true):∃ob,s.heap.get? a=some ob∧ob.cls≠.type "tuple":=by
  cases o with
  | lst xs=>
    obtain ⟨_,its,n,_,e⟩:xs.length≤sizeLine∧∃(its:List Value) (n:Nat),Vals xs its∧s.heap.get? a=some { cls:=.type "list",data:=.seq its.toArray n }:=I.hok a _ h
    exact ⟨_,e,(by show Value.type "list"≠.type "tuple"; decide +kernel)⟩
  | ins C dx fs=>
    have x:=I.hok a _ h
    obtain ⟨_,_,_,e,_⟩:=x
    exact ⟨_,e,(by show Value.ref C≠.type "tuple"; exact fun z=>by cases z)⟩
  | _=>exact absurd (show false=true from p) Bool.false_ne_true
theorem OpR.or {f:Value→Value→Sem Value} {r r':R2} (h:OpR X f r) (h':OpR X f r'):OpR X f (fun x y H Q=>r x y H Q∨r' x y H Q):=by
  intro pins s σ H x y v u Q I rx ry q
  rcases q with q | q
  · exact h pins s σ H x y v u Q I rx ry q
  · exact h' pins s σ H x y v u Q I rx ry q
theorem ZgU (b:Expr) {op:CmpOp} (h:op≠.In:=by decide) (h2:op≠.NotIn:=by decide):behindInMarks op b=false:=by
  have e1:(op == CmpOp.In)=false:=by cases op<;>first | rfl | exact absurd rfl h
  have e2:(op == CmpOp.NotIn)=false:=by cases op<;>first | rfl | exact absurd rfl h2
  cases b<;>simp [behindInMarks,e1,e2]
theorem ZhZ {op:CmpOp} {r:R2} (ho:OpR X (compareOp op) r) (ha:PE X a ta) (hb:PE X b tb) (hm:behindInMarks op b=false):PE X (.Compare a [op] [b] pos) (tOp r ta tb):=by
  intro pins s σ H Q I h
  exact wpAny_Compare1 (ZjC ha hb I h fun v u s2 x y H2 I2 rx ry q=>ho pins s2 σ H2 x y v u Q I2 rx ry q) hm
def Ziv (t:TE):TT:=fun σ H Q=>t σ H fun x H'=>∃k,x=.bl k∧Q k H'
theorem ZhS {op:CmpOp} {r:R2} (ho:OpR X (compareOp op) r) (ha:PE X a ta) (hb:PE X b tb) (hm:behindInMarks op b=false):PT X (.Compare a [op] [b] pos) (Ziv (tOp r ta tb)):=by
  intro pins s σ H Q I h
  refine wpAny_isTrue_Compare1 (thn (ha pins s σ H _ I h) fun v s1 ⟨x,H1,I1,r1,q1⟩=>thn (hb pins s1 σ H1 _ I1 q1) fun u s2 ⟨y,H2,I2,r2,q2⟩=>
    thn (ho pins s2 σ H2 x y v u _ I2 r1 r2 q2) fun c s3 ⟨z,H3,I3,r3,k,e,q3⟩=>?_) hm
  subst e
  cases r3
  exact wpAny_truthy_bool ⟨H3,I3,q3⟩
def ZeA (r r':R2) (ta tb tc:TE):TE:=fun σ H Q=>ta σ H fun x H1=>tb σ H1 fun y H2=>r x y H2 fun z H3=>∃k,z=.bl k∧
  (if k=true then tc σ H3 fun w' H4=>r' y w' H4 Q else Q (.bl false) H3)
theorem ZgL {op op':CmpOp} {r r':R2} (ho:OpR X (compareOp op) r) (ho':OpR X (compareOp op') r') (ha:PE X a ta) (hb:PE X b tb) (hc:PE X c tc)
    (hm:lastMarks [op,op'] [b,c]=false:=by with_unfolding_all rfl):PE X (.Compare a [op,op'] [b,c] pos) (ZeA r r' ta tb tc):=by
  intro pins s σ H Q I h
  refine Compare_chain (thn (ha pins s σ H _ I h) fun v s1 ⟨x,H1,I1,r1,q1⟩=>chain_link (thn (hb pins s1 σ H1 _ I1 q1) fun u s2 ⟨y,H2,I2,r2,q2⟩=>
    thn (ho pins s2 σ H2 x y v u _ I2 r1 r2 q2) fun d s3 ⟨z,H3,I3,r3,k,e,q3⟩=>?_)) hm
  subst e
  cases r3
  refine wpAny_truthy_bool ?_
  cases k with
  | false=>exact ite_ff ⟨.bl false,H3,I3,rfl,q3⟩
  | true=>exact ite_tt (chain_last (thn (hc pins s3 σ H3 _ I3 q3) fun w' s4 ⟨z',H4,I4,r4,q4⟩=>ho' pins s4 σ H4 y z' u w' Q I4 r2 r4 q4))
theorem ZgA {op op':CmpOp} {r r':R2} (ho:OpR X (compareOp op) r) (ho':OpR X (compareOp op') r') (ha:PE X a ta) (hb:PE X b tb) (hc:PE X c tc)
    (hm:lastMarks [op,op'] [b,c]=false:=by with_unfolding_all rfl):PT X (.Compare a [op,op'] [b,c] pos) (Ziv (ZeA r r' ta tb tc)):=by
  intro pins s σ H Q I h
  refine isTrue_chain (thn (ha pins s σ H _ I h) fun v s1 ⟨x,H1,I1,r1,q1⟩=>test_link (thn (hb pins s1 σ H1 _ I1 q1) fun u s2 ⟨y,H2,I2,r2,q2⟩=>
    thn (ho pins s2 σ H2 x y v u _ I2 r1 r2 q2) fun d s3 ⟨z,H3,I3,r3,k,e,q3⟩=>?_)) hm
  subst e
  cases r3
  refine wpAny_truthy_bool ?_
  cases k with
  | false=>
    obtain ⟨k',e',q'⟩:=q3
    cases e'
    exact ite_ff ⟨H3,I3,q'⟩
  | true=>
    refine ite_tt (test_last (thn (hc pins s3 σ H3 _ I3 q3) fun w' s4 ⟨z',H4,I4,r4,q4⟩=>thn (ho' pins s4 σ H4 y z' u w' _ I4 r2 r4 q4) fun d' s5 ⟨z2,H5,I5,r5,k2,e2,q5⟩=>?_))
    subst e2
    cases r5
    exact wpAny_truthy_bool ⟨H5,I5,q5⟩
def TruV (K:PySem.W.Frag) (x:V) (H:Hp) (k:Bool):Prop:=
  match x with
  | .non=>k=false
  | .bl b=>k=b
  | .int i=>k=(i != 0)
  | .str y=>y.length≤sizeLine∧k=((y.length:Int) != 0)
  | .byt y=>y.size≤sizeLine∧k=((y.size:Int) != 0)
  | .ref p=>(∃xs,SqL K H p xs∧k=!xs.isEmpty)∨(∃xs,SqT K H p xs∧k=!xs.isEmpty)∨∃kvs,H p=some (.dK kvs)∧k=!kvs.isEmpty
  | _=>False
theorem ZeL {κ:Type} {kvs:List (κ×V)} {vs:List (κ×Value)} (r:KV kvs vs):(!vs.isEmpty)=!kvs.isEmpty:=by
  cases r<;>rfl
theorem Zcn {xs:List V} {its:List Value} (r:Vals xs its):(!its.toArray.isEmpty)=!xs.isEmpty:=by
  cases r<;>simp
theorem Za4:(sizeLine:Nat)<2 ^ 63:=by rw [sizeLine_eq]; decide
theorem Zgp:ZlL X (fun x H Q=>∃k,TruV X.K x H k∧Q k H):=by
  intro pins s σ H x v Q I rx h
  obtain ⟨k,e,q⟩:=h
  have hl:=Za4
  have hs:sizeLine=16777216:=sizeLine_eq
  cases x with
  | non=>
    cases rx
    have e':k=false:=e
    subst e'
    exact truthy_none ⟨H,I,q⟩
  | bl b=>
    cases rx
    have e':k=b:=e
    subst e'
    exact wpAny_truthy_bool ⟨H,I,q⟩
  | int i=>
    obtain ⟨t,rfl⟩:=rx
    have e':k=(i != 0):=e
    subst e'
    exact PySem.P.truthy_int ⟨H,I,q⟩
  | str y=>
    obtain ⟨t,rfl⟩:=rx
    obtain ⟨hy,e'⟩:y.length≤sizeLine∧k=((y.length:Int) != 0):=e
    subst e'
    exact PySem.P.truthy_str (by omega) ⟨H,I.tok _,q⟩
  | byt y=>
    obtain ⟨t,rfl⟩:=rx
    obtain ⟨hy,e'⟩:y.size≤sizeLine∧k=((y.size:Int) != 0):=e
    subst e'
    exact PySem.W.truthy_bytes (by omega) ⟨H,I.tok _,q⟩
  | ref p=>
    cases rx
    have e':(∃xs,SqL X.K H p xs∧k=!xs.isEmpty)∨(∃xs,SqT X.K H p xs∧k=!xs.isEmpty)∨∃kvs,H p=some (.dK kvs)∧k=!kvs.isEmpty:=e
    rcases e' with ⟨xs,hx,e'⟩ | ⟨xs,hx,e'⟩ | ⟨kvs,hx,e'⟩
    · subst e'
      obtain ⟨its,r,pl,hz⟩:=I.list hx
      have hlen:=r.length
      exact wpAny_truthy_list pl.isList (by simp only [List.size_toArray]; omega) ⟨H,I.tok _,by rw [Zcn r]; exact q⟩
    · subst e'
      obtain ⟨its,r,pl,hz⟩:=I.tuple hx
      have hlen:=r.length
      exact truthy_tuple pl (by simp only [List.size_toArray]; omega) ⟨H,I.tok _,by rw [Zcn r]; exact q⟩
    · subst e'
      obtain ⟨hz,hS,vs,r,m⟩:kvs.length≤sizeLine∧(p == sysModules)=false∧∃vs,KV kvs vs∧s.heap.DictOf (Zdm X.prog X.w) p vs:=I.hok p _ hx
      have hlen:kvs.length=vs.length:=Paired.length r
      exact wpAny_truthy_dict hS m (by omega) ⟨H,I.tok _,by rw [ZeL r]; exact q⟩
  | _=>exact (show False from e).elim
theorem Zgz (ha:PE X a ta) (he:∀whole,isTrue a X.env whole=(do let v ←whole; standAt a.pos; holding [v] (truthy v))) :
    PT X a (fun σ H Q=>ta σ H fun x H'=>∃k,TruV X.K x H' k∧Q k H'):=by
  intro pins s σ H Q I h
  exact isTrue_plain (thn (ha pins s σ H _ I h) fun v s1 ⟨x,H1,I1,r1,q1⟩=>Zgp pins s1 σ H1 x v Q I1 r1 q1) (he _)
theorem op_add_str:OpR X (binaryOp .Add) (fun x y H Q=>∃i j,x=.str i∧y=.str j∧i.length+j.length≤sizeLine∧Q (.str (i++j)) H):=by
  intro pins s σ H x y v u Q I rx ry h
  obtain ⟨i,j,rfl,rfl,hz,q⟩:=h
  obtain ⟨t,rfl⟩:=rx
  obtain ⟨t',rfl⟩:=ry
  exact add_str (fun t' tk=>⟨.str (i++j),H,I.tok _,⟨_,rfl⟩,q⟩) hz
theorem ZbM {x:V} {us:List Value} (r:Vals [x] us):∃u,us=[u]∧RelV x u:=by
  cases r with
  | cons r1 r2=>cases r2; exact ⟨_,rfl,r1⟩
theorem Zf7:CallR X (.type "int") (fun xs H Q=>(∃i,xs=[.int i]∧Q (.int i) H)∨∃k,xs=[.bl k]∧Q (.int (if k then 1 else 0)) H):=by
  intro pins s σ H xs us Q I r h
  rcases h with ⟨i,rfl,q⟩ | ⟨k,rfl,q⟩
  · obtain ⟨u,rfl,t,rfl⟩:=ZbM r
    exact call_int_int ⟨.int i,H,I,⟨_,rfl⟩,q⟩
  · obtain ⟨u,rfl,r1⟩:=ZbM r
    cases r1
    exact call_int_bool ⟨.int (if k then 1 else 0),H,I.tok _,⟨_,rfl⟩,q⟩
end
end L2
namespace L2
open PySem PySem.Spec PyProof.Rows
structure ObjM (h:Heap) (x dx C:Addr) (mA:Str→Option Value):Prop where
  obj:h.get? x=some (PySem.W.instObj C dx)
  ns:h.Ns1 dx mA
  ne:dx≠x
theorem Zf0 {h:Heap} {dx:Addr} {mA:Str→Option Value} (n:h.Ns1 dx mA):∃od,h.get? dx=some od∧∀name,PySem.W.lookIn name od=some (mA name):=by
  obtain ⟨o,es,ep,ho,hd,hk,_,hm⟩:=n
  refine ⟨o,ho,fun name=>?_⟩
  have e:=hm name
  unfold nsFind findBy at e
  rw [←Array.find?_toList] at e
  unfold PySem.W.lookIn
  rw [hd]
  dsimp only
  split
  · rename_i y q
    rw [q] at e
    exact congrArg some e
  · rename_i q
    rw [q] at e
    have a:es.toList.any (·.refKey)=false:=by
      rw [List.any_eq_false]
      intro y hy
      obtain ⟨z,t,hkey⟩:=hk y (Array.mem_toList_iff.mp hy)
      simp [DictEntry.refKey,hkey]
    have a':¬es.toList.any (·.refKey)=true:=by rw [a]; exact Bool.false_ne_true
    rw [if_neg a']
    exact congrArg some e
theorem ObjM.look {h:Heap} {x dx C:Addr} {mA:Str→Option Value} (I:ObjM h x dx C mA):∃od,PySem.W.InstAt h x (PySem.W.instObj C dx) C (some od)∧∀name,PySem.W.lookIn name od=some (mA name):=
  let ⟨od,ho,hl⟩:=Zf0 I.ns
  ⟨od,⟨I.obj,rfl,rfl,ho⟩,hl⟩
section
variable {prog:Program} {w:World} {A:Around} {E:Value→Shared→Prop} {s:Shared} {K:PySem.W.Frag} {x dx C f:Addr} {mA:Str→Option Value} {name:Str} {v:Value}
end
section
variable {P:Program} {w:World} {H H':Hp} {h h':Heap} {a C dx:Addr} {fs fs':List (Str×V)}
theorem Zid (hok:HOk P w H h) (e:H a=some (.ins C dx fs)):∃mA,ObjM h a dx C mA∧(∀f,RelO (fs.lookup f) (mA f))∧PySem.Within mA (fs.map (·.1))∧fs.length≤1000∧H dx=some (.own a):=by
  obtain ⟨d,z,ne,ob,mA,n,r,q⟩:=(show ObjOk P w H h a (.ins C dx fs) from hok a _ e)
  exact ⟨mA,⟨ob,n,ne⟩,r,q,z,d⟩
end
structure Cls (K:PySem.W.Frag) (C:Addr):Prop where
  pg:PySem.W.plainGet K C Str.empty=true
  hd:PySem.W.hasDictIn K C=true
  po:PySem.W.plainOver K C=true
  sa:PySem.W.findIn K (.ref C) "__setattr__"=some (some (.builtin "object.__setattr__"))
theorem Cls.get {K:PySem.W.Frag} {C:Addr} (c:Cls K C) (f:Str):PySem.W.plainGet K C f=true:=c.pg
structure Con (K:PySem.W.Frag) (C:Addr) (f:Str) (v:V) (u:Value):Prop where
  at_:PySem.W.findIn K (.ref C) f=some (some u)
  rel:RelV v u
  get:PySem.W.specialIn K u "__get__"=some none
  cp:PySem.W.copiedNames.contains f=false
structure Zmc (K:PySem.W.Frag) (C:Addr) (m:Str) (f:Addr):Prop where
  at_:PySem.W.findIn K (.ref C) m=some (some (.ref f))
  fn:PySem.W.isFn K (.ref f)=true
  kp:PySem.W.keepIn K (.ref f)=true
section
variable {X:Cx} {pins:List (Addr×Obj)} {σ:St} {H:Hp} {s:Shared} {a C dx:Addr} {fs:List (Str×V)} {f:Str} {v:V} {A:Around} {E:Value→Shared→Prop}
end
section
variable {X:Cx} {o e value:Expr} {f:Str} {pos pos' tpos:Pos} {ta tv:TE}
end
section
variable {X:Cx} {pins:List (Addr×Obj)} {σ:St} {H:Hp} {s:Shared} {A:Around} {E:Value→Shared→Prop} {Q:Value→Shared→Prop} {c:Value} {b:Bool}
inductive Zbx (K:PySem.W.Frag) (H:Hp):V→Value→Prop where
  | non:Zbx K H .non (.type "NoneType")
  | bl (x:Bool):Zbx K H (.bl x) (.type "bool")
  | int (i:Int):Zbx K H (.int i) (.type "int")
  | str (x:Str):Zbx K H (.str x) (.type "str")
  | flt (x:UInt64):Zbx K H (.flt x) (.type "float")
  | lst {a:Addr} {xs:List V} (e:H a=some (.lst xs)):Zbx K H (.ref a) (.type "list")
  | frz {a:Addr} {o:Obj} {xs:List V} (e:H a=some (.frz o (.lst xs))):Zbx K H (.ref a) (.type "list")
  | tup {a:Addr} {xs:List V} (e:H a=some (.tup xs)):Zbx K H (.ref a) (.type "tuple")
  | dK {a:Addr} {kvs:List (Key×V)} (e:H a=some (.dK kvs)):Zbx K H (.ref a) (.type "dict")
  | dT {a:Addr} {kvs:List (List Key×V)} (e:H a=some (.dT kvs)):Zbx K H (.ref a) (.type "dict")
  | ins {a C dx:Addr} {fs:List (Str×V)} (e:H a=some (.ins C dx fs)) (cl:Cls K C) (ha:PySem.W.findIn K (.ref C) "__class__"=some (some (.builtin "object.__class__")))
      (hn:PySem.W.specialIn K (.builtin "object.__class__") "__get__"=some (some (.builtin "getset_descriptor.__get__"))) (htk:PySem.W.takesIn K (.builtin "object.__class__")=some true)
      (hm:PySem.W.mroIn K C (.type "object")=some true):Zbx K H (.ref a) (.ref C)
theorem Zf1 {x:V} {u t:Value} (I:Inv X pins σ H s) (rx:RelV x u) (ty:Zbx X.K H x t) (e:PySem.W.kitOne X.K t c=some b) (h:∀tk,Q (.bool b) { s with toks:=tk }) :
    wpAny (model X.prog X.w) A (call (.builtin "isinstance") [u,c]) Q E s:=by
  cases ty with
  | non=>cases (show u=Value.none from rx); exact PySem.W.kia_one PySem.W.kitx_none I.kIn True.intro e (fun z=>nomatch z) h
  | bl y=>cases (show u=Value.bool y from rx); exact PySem.W.kia_one PySem.W.kitx_bool I.kIn True.intro e (fun z=>nomatch z) h
  | int i=>obtain ⟨t,q⟩:=(show ∃t,u=Value.int i t from rx); cases q; exact PySem.W.kia_one PySem.W.kitx_int I.kIn True.intro e (fun z=>nomatch z) h
  | str y=>obtain ⟨t,q⟩:=(show ∃t,u=Value.str y t from rx); cases q; exact PySem.W.kia_one PySem.W.kitx_str I.kIn True.intro e (fun z=>nomatch z) h
  | flt y=>obtain ⟨t,q⟩:=(show ∃t,u=Value.float y t from rx); cases q; exact PySem.W.kia_one PySem.W.kitx_float I.kIn True.intro e (fun z=>nomatch z) h
  | @lst a xs ea=>
    cases (show u=Value.ref a from rx)
    obtain ⟨_,_,n,_,h1⟩:=(show ObjOk X.prog X.w H s.heap a (.lst xs) from I.hok a _ ea)
    exact PySem.W.kia_one PySem.W.kitx_list I.kIn ⟨_,h1,rfl⟩ e (fun z=>nomatch z) h
  | @frz a ob xs ea=>
    cases (show u=Value.ref a from rx)
    obtain ⟨_,_,_,n,_,h1⟩:=(show ObjOk X.prog X.w H s.heap a (.frz ob (.lst xs)) from I.hok a _ ea)
    exact PySem.W.kia_one PySem.W.kitx_list I.kIn ⟨_,h1,rfl⟩ e (fun z=>nomatch z) h
  | @tup a xs ea=>
    cases (show u=Value.ref a from rx)
    obtain ⟨_,_,_,p⟩:=(show ObjOk X.prog X.w H s.heap a (.tup xs) from I.hok a _ ea)
    obtain ⟨o,h1,h2,_⟩:=p
    exact PySem.W.kia_one PySem.W.kitx_tuple I.kIn ⟨o,h1,h2⟩ e (fun z=>nomatch z) h
  | @dK a kvs ea=>
    cases (show u=Value.ref a from rx)
    obtain ⟨_,_,vs,_,p⟩:=(show ObjOk X.prog X.w H s.heap a (.dK kvs) from I.hok a _ ea)
    obtain ⟨o,es,ep,h1,h2,_⟩:=p
    exact PySem.W.kia_one PySem.W.kitx_dict I.kIn ⟨o,h1,h2.1⟩ e (fun z=>nomatch z) h
  | @dT a kvs ea=>
    cases (show u=Value.ref a from rx)
    obtain ⟨_,_,xs,_,o,es,ep,h1,h2,_⟩:=(show ObjOk X.prog X.w H s.heap a (.dT kvs) from I.hok a _ ea)
    exact PySem.W.kia_one PySem.W.kitx_dict I.kIn ⟨o,h1,h2.1⟩ e (fun z=>nomatch z) h
  | @ins a C dx fs ea cl ha hn htk hm=>
    cases (show u=Value.ref a from rx)
    obtain ⟨mA,O,_⟩:=Zid I.hok ea
    obtain ⟨od,J,_⟩:=O.look
    exact PySem.W.kia_one (PySem.W.kitx_own (cl.get _) cl.hd ha hn htk hm) I.kIn J e (fun z=>nomatch z) h
end
end L2
namespace L2
open PySem PySem.Spec PyProof.Rows
structure Room (k:Nat) (A:Around):Prop where
  hd:A.handled=none
  dp:A.depth+3*k+5<recursionLimit
  un:A.units+16*k+200<cLine
theorem Room.mono {j k:Nat} {A:Around} (r:Room k A) (h:j≤k):Room j A:=⟨r.hd,by have:=r.dp; omega,by have:=r.un; omega⟩
theorem Room.deeper {k:Nat} {A:Around} (r:Room (k+1) A) (env:Env):Room k (A.deeper env):=
  ⟨r.hd,by have:=r.dp; show A.depth+1+3*k+5<_; omega,by have:=r.un; show A.units+3+16*k+200<_; omega⟩
theorem Room.depth {k:Nat} {A:Around} (r:Room k A):A.depth<recursionLimit:=by have:=r.dp; omega
theorem Room.units {k:Nat} {A:Around} (r:Room k A):A.units+64<cLine:=by have:=r.un; omega
def ZiW:TA:=fun _ H Q=>Q [] H
def Zgt (ta:TE) (tr:TA):TA:=fun σ H Q=>ta σ H fun x H1=>tr σ H1 fun xs H2=>Q (x::xs) H2
section
variable {X:Cx} {e:Expr} {es:List Expr} {te:TE} {t:TA} {pos:Pos}
theorem ZbE:PA X [] ZiW:=fun _ _ _ _ H Q I h=>Calls.spliced_nil ⟨[],H,I,.nil,h⟩
theorem zY (ha:PE X e te) (hr:PA X es t) (hs:starEach (e::es) X.env=(false,eval e X.env)::starEach es X.env:=by rfl):PA X (e::es) (Zgt te t):=by
  intro pos pins s σ H Q I h
  rw [hs]
  show wpAny _ _ (spliced ((false,eval e X.env)::backTo pos (starEach es X.env))) _ _ s
  refine Calls.spliced_cons (thn (ha pins s σ H _ I h) fun u s1 ⟨x,H1,I1,r1,q1⟩=>?_)
  exact thn (hr pos pins s1 σ H1 _ I1 q1) fun us s2 ⟨xs,H2,I2,r2,q2⟩=>⟨x::xs,H2,I2,.cons r1 r2,q2⟩
def Zli (t:TA):TE:=fun σ H Q=>t σ H fun xs H1=>xs.length≤sizeLine∧∀p,H1 p=none→Q (.ref p) (upd H1 p (.tup xs))
def Zlo (t:TA):TE:=fun σ H Q=>t σ H fun xs H1=>xs.length≤sizeLine∧∀p,H1 p=none→Q (.ref p) (upd H1 p (.lst xs))
theorem Zja {x1} (h:PA X es t):PE X (.Tuple es x1 pos) (Zli t):=by
  intro pins s σ H Q I hq
  refine wpAny_Tuple_spliced (thn (h pos pins s σ H _ I hq) fun us s1 ⟨xs,H1,I1,r,z,q⟩=>⟨by rw [←r.length]; exact z,?_⟩)
  have hf:H1 s1.heap.objs.size=none:=I1.hok.fresh (Nat.le_refl _)
  refine ⟨.ref s1.heap.objs.size,upd H1 s1.heap.objs.size (.tup xs),I1.laid (t':=s1.toks) (fun b u e=>Heap.get?_push_of_some _ e) (Nat.le_refl _) ?_,rfl,q _ hf⟩
  exact ⟨z,us,r,⟨_,Heap.get?_push_size _ rfl,rfl,_,rfl⟩⟩
theorem ZgJ (h:PA X es t):PE X (.List es pos) (Zlo t):=by
  intro pins s σ H Q I hq
  refine wpAny_List_spliced (thn (h pos pins s σ H _ I hq) fun us s1 ⟨xs,H1,I1,r,z,q⟩=>⟨by rw [←r.length]; exact z,?_⟩)
  have hf:H1 s1.heap.objs.size=none:=I1.hok.fresh (Nat.le_refl _)
  refine ⟨.ref s1.heap.objs.size,upd H1 s1.heap.objs.size (.lst xs),I1.laid (t':=s1.toks) (fun b u e=>Heap.get?_push_of_some _ e) (Nat.le_refl _) ?_,rfl,q _ hf⟩
  exact ⟨z,us,0,r,Heap.get?_push_size _ rfl⟩
end
abbrev Sp:=List V→Hp→VK→XK→Prop
abbrev CXT:=List Env→Hp→Shared→XK→Value→Shared→Prop
structure Ziq (P:Program) (w:World) (K:PySem.W.Frag) (mg:Str→Option Value) (base:Heap) (A:Around) (outer:List Env) (s:Shared) (H:Hp):Prop where
  frames:A.frames=some outer
  mod:Mod K mg base
  bs:∀b o,base.get? b=some o→s.heap.get? b=some o∧H b=none
  bsz:base.objs.size≤s.heap.objs.size
  funs:s.heap.FunFrames base outer
  frf:∀b∈frs outer,H b=none
  hok:HOk P w H s.heap
  bare:AllBare s.gens
def CE (outer:List Env) (P:Program) (w:World) (H:Hp) (s:Shared) (Q:VK) (u:Value) (s':Shared):Prop:=
  ∃v H',s'.os=s.os∧AllBare s'.gens∧Un (frs outer) [] H H' s.heap s'.heap∧HOk P w H' s'.heap∧RelV v u∧Q v H'
def CR (CX:CXT) (outer:List Env) (P:Program) (w:World) (H:Hp) (s:Shared) (Q:VK) (E:XK) (r:Result) (s':Shared):Prop:=
  match r with
  | .ok (.ret u)=>CE outer P w H s Q u s'
  | .ok _=>False
  | .error e=>CX outer H s E e s'
structure FnOk (P:Program) (w:World) (K:PySem.W.Frag) (mg:Str→Option Value) (base:Heap) (CX:CXT) (k:Nat) (f:Addr) (fd:FuncData) (ps:List Str) (sp:Sp):Prop where
  len:∀vs H Q E,sp vs H Q E→vs.length=ps.length
  run:∀(A:Around) (outer:List Env) (s:Shared) (H:Hp) (args:Args) (us:List Value) (vs:List V) (Q:VK) (E:XK),Room k A→Ziq P w K mg base A outer s H→BindsTo s fd args (ps.zip us)→Vals vs us→sp vs H Q E→
    codeAny (model P w) A (.call (.ref f) args) (CR CX outer P w H s Q E) s
theorem FnOk.imp {P:Program} {w:World} {K:PySem.W.Frag} {mg:Str→Option Value} {base:Heap} {CX:CXT} {k:Nat} {f:Addr} {fd:FuncData} {ps:List Str} {sp sp':Sp} (F:FnOk P w K mg base CX k f fd ps sp)
    (h:∀vs H Q E,sp' vs H Q E→sp vs H Q E):FnOk P w K mg base CX k f fd ps sp':=
  ⟨fun vs H Q E q=>F.len vs H Q E (h _ _ _ _ q),fun A outer s H args us vs Q E hr he hb hv hs=>F.run A outer s H args us vs Q E hr he hb hv (h _ _ _ _ hs)⟩
section
variable {X:Cx} {pins:List (Addr×Obj)} {σ:St} {H:Hp} {s s':Shared}
theorem Inv.env0 (I:Inv X pins σ H s):Ziq X.prog X.w X.K X.mg X.base X.A X.stack s H:=
  ⟨I.ok.frames,I.ok.mod,I.bs,Nat.le_trans I.ok.bsz I.sz,I.stack,I.stkFree,I.hok,I.bare⟩
theorem Inv.after {Q:VK} {u:Value} (I:Inv X pins σ H s) (h:CE X.stack X.prog X.w H s Q u s'):EP X pins σ Q u s':=by
  obtain ⟨v,H',os,bare,un,hok,r,q⟩:=h
  obtain ⟨hh,g,d,t,os'⟩:=s'
  obtain rfl:os'=s.os:=os
  exact ⟨v,H',I.call (h':=hh) (g':=g) (d':=d) (t':=t) (ch:=[]) un hok bare (fun b z=>absurd z (by simp)),r,q⟩
end
def Zix (sp:Sp) (dvs:List V) (E:XK) (t:TA):TE:=fun σ H Q=>t σ H fun vs H1=>sp (vs++dvs) H1 Q E
def Binds (K:PySem.W.Frag) (fd:FuncData) (ps:List Str) (ds:List Value):Prop:=
  ∀(s:Shared) (us:List Value),K.In s.heap→(us++ds).length=ps.length→BindsTo s fd ⟨us,[]⟩ (ps.zip (us++ds))
theorem Binds.all {K:PySem.W.Frag} {fd:FuncData} {ps:List Str} (h:∀us:List Value,us.length=ps.length→bindArgs fd ⟨us,[]⟩=pure (ps.zip us)):Binds K fd ps []:=fun s us _ hl=>by
  rw [List.append_nil] at hl ⊢
  exact .of_eq (h us hl)
def ZeS (CX:CXT) (X:Cx) (E:XK):Prop:=∀(pins:List (Addr×Obj)) (σ:St) (H:Hp) (s:Shared) (e:Value) (s':Shared),Inv X pins σ H s→CX X.stack H s E e s'→X.xe e s'
section
variable {X:Cx} {CX:CXT} {k:Nat} {f C:Addr} {fd:FuncData} {ps:List Str} {sp:Sp} {dvs:List V} {ds:List Value} {E:XK} {x m:Str} {p pos apos:Pos} {e o:Expr} {es:List Expr} {ta:TE} {t:TA}
theorem Zi0 {pins:List (Addr×Obj)} {σ:St} {H:Hp} {s:Shared} {Q:VK} {us:List Value} {vs:List V} (F:FnOk X.prog X.w X.K X.mg X.base CX k f fd ps sp) (hr:Room k X.A) (hb:Binds X.K fd ps ds) (hd:Vals dvs ds) (hx:ZeS CX X E)
    (I:Inv X pins σ H s) (r:Vals vs us) (h:sp (vs++dvs) H Q E):wpAny (model X.prog X.w) X.A (call (.ref f) us) (EP X pins σ Q) X.xe s:=by
  have r2:Vals (vs++dvs) (us++ds):=r.append hd
  have hl:(us++ds).length=ps.length:=by rw [←r2.length]; exact F.len _ _ _ _ h
  refine wpAny_call (codeAny_mono (F.run X.A X.stack s H ⟨us,[]⟩ (us++ds) (vs++dvs) Q E hr I.env0 (hb s us I.kIn hl) r2 h) fun r s' hq=>?_)
  cases r with
  | error e=>exact hx pins σ H s e s' I hq
  | ok fl=>
    cases fl with
    | ret u=>exact I.after hq
    | next=>exact False.elim hq
    | brk=>exact False.elim hq
    | cont=>exact False.elim hq
theorem Zh0 (F:FnOk X.prog X.w X.K X.mg X.base CX k f fd ps sp) (hr:Room k X.A) (hg:Gl X x) (hm:X.mg x=some (.ref f)) (hk:PySem.W.keepIn X.K (.ref f)=true) (hb:Binds X.K fd ps ds) (hd:Vals dvs ds) (hx:ZeS CX X E)
    (ha:PA X (e::es) t) (hdb:(x == ("__debug__":Str))=false:=by decide) (he:starEach (e::es) X.env=(false,eval e X.env)::starEach es X.env:=by rfl) (hpl:(backTo pos (starEach es X.env)).any (·.1)=false:=by rfl) :
    PE X (.Call (.Name x p) (e::es) [] pos) (Zix sp dvs E t):=by
  intro pins s σ H Q I h
  refine wpAny_Call_Name_kw (Zbk I hg hm ?_ hdb)
  refine PySem.W.callWith_K (h₀:=X.base) I.ok.mod.kin hk (thn (ha pos pins s σ H _ I h) fun us s1 ⟨vs,H1,I1,r,q⟩=>⟨I1.kIn,?_⟩) he hpl
  exact Zi0 F hr hb hd hx I1 r q
structure Mk (K:PySem.W.Frag) (C f:Addr):Prop where
  makes:PySem.W.makesIn K C=true
  init:PySem.W.findIn K (.ref C) "__init__"=some (some (.ref f))
  fn:PySem.W.isFn K (.ref f)=true
  kp:PySem.W.keepIn K (.ref C)=true
end
section
variable {X:Cx} {CX:CXT} {k:Nat} {f C:Addr} {fd:FuncData} {ps ks:List Str} {sp:Sp} {E:XK} {x m:Str} {p pos apos kpos:Pos} {e o:Expr} {es:List Expr} {kws:List Keyword} {te ta:TE} {t tk:TA} {nm:Option Str}
structure ZlN (K:PySem.W.Frag) (fd:FuncData) (ps ks:List Str) (g:List Value→List Value→List Value) (gV:List V→List V→List V):Prop where
  to:∀(s:Shared) (us ws:List Value),K.In s.heap→(g us ws).length=ps.length→BindsTo s fd ⟨us,ks.zip ws⟩ (ps.zip (g us ws))
  rel:∀{vs:List V} {us:List Value} {zs:List V} {ws:List Value},Vals vs us→Vals zs ws→Vals (gV vs zs) (g us ws)
variable {g:List Value→List Value→List Value} {gV:List V→List V→List V}
end
structure ZC (N P:List Str) (sc:Scope):Prop where
  kind:sc.kind=.function
  co:sc.isCoroutine=false
  gen:sc.isGenerator=false
  nd:N.Nodup
  pre:N.take P.length=P
  par:∀x∈P,sc.names.lookup x=some .local∨sc.names.lookup x=some .cell
  nofree:∀y∈sc.names,y.2≠.free
theorem Zc1 {kindOf:Str→Option NameKind} {x:Str}:∀{binds:List (Str×Value)} {m:Str→Option Value},(∀v,(x,v)∉binds)→bindL kindOf binds m x=m x
  | [],_,_=>rfl
  | (n,v)::r,m,h=>by
    unfold bindL
    rw [Zc1 fun w hw=>h w (List.mem_cons_of_mem _ hw)]
    split
    · have:x≠n:=by rintro rfl; exact h v List.mem_cons_self
      simp [this]
    · rfl
theorem Zc3 {kindOf:Str→Option NameKind} {x:Str}:∀{binds:List (Str×Value)} {m:Str→Option Value},(∀v,(x,v)∉binds)→bindC kindOf binds m x=m x
  | [],_,_=>rfl
  | (n,v)::r,m,h=>by
    unfold bindC
    rw [Zc3 fun w hw=>h w (List.mem_cons_of_mem _ hw)]
    split
    · rfl
    · have:x≠n:=by rintro rfl; exact h v List.mem_cons_self
      simp [this]
theorem Zc2 {kindOf:Str→Option NameKind} {x:Str} {v:Value}:∀{P:List Str} {vs:List Value} {i:Nat} {m:Str→Option Value},P.Nodup→P[i]?=some x→vs[i]?=some v→kindOf x=some .local→
    bindL kindOf (P.zip vs) m x=some v
  | [],_,_,_,_,h,_,_=>by simp at h
  | _::_,[],_,_,_,_,h,_=>by simp at h
  | p::P,w::vs,0,m,nd,h1,h2,hk=>by
    simp at h1 h2; subst h1; subst h2
    show bindL kindOf ((p,w)::P.zip vs) m p=_
    unfold bindL
    rw [Zc1 fun v hv=>(List.nodup_cons.mp nd).1 (List.of_mem_zip hv).1,if_pos hk]
    simp
  | p::P,w::vs,i+1,m,nd,h1,h2,hk=>by
    show bindL kindOf ((p,w)::P.zip vs) m x=_
    unfold bindL
    exact Zc2 (i:=i) (List.nodup_cons.mp nd).2 (by simpa using h1) (by simpa using h2) hk
theorem Zc4 {kindOf:Str→Option NameKind} {x:Str} {v:Value}:∀{P:List Str} {vs:List Value} {i:Nat} {m:Str→Option Value},P.Nodup→P[i]?=some x→vs[i]?=some v→kindOf x≠some .local→
    bindC kindOf (P.zip vs) m x=some v
  | [],_,_,_,_,h,_,_=>by simp at h
  | _::_,[],_,_,_,_,h,_=>by simp at h
  | p::P,w::vs,0,m,nd,h1,h2,hk=>by
    simp at h1 h2; subst h1; subst h2
    show bindC kindOf ((p,w)::P.zip vs) m p=_
    unfold bindC
    rw [Zc3 fun v hv=>(List.nodup_cons.mp nd).1 (List.of_mem_zip hv).1,if_neg hk]
    simp
  | p::P,w::vs,i+1,m,nd,h1,h2,hk=>by
    show bindC kindOf ((p,w)::P.zip vs) m x=_
    unfold bindC
    exact Zc4 (i:=i) (List.nodup_cons.mp nd).2 (by simpa using h1) (by simpa using h2) hk
def Zao (N:List Str) (vs:List V):St:=vs.map some++List.replicate (N.length-vs.length) none
def ZaT (CX:CXT) (P:Program) (w:World) (K:PySem.W.Frag) (mg:Str→Option Value) (base:Heap) (N:List Str) (qual:Str) (scope:Scope) (f:Addr) (cd:Value) (A:Around) (outer:List Env) (s:Shared) (H:Hp) (E:XK):Cx where
  prog:=P
  w:=w
  K:=K
  mg:=mg
  base:=base
  A:=A.deeper (envOfC qual scope s.heap.objs.size f cd)
  N:=N
  s₀:=s
  H₀:=H
  env:=envOfC qual scope s.heap.objs.size f cd
  outer:=outer
  stack:=envOfC qual scope s.heap.objs.size f cd::outer
  ex:=[]
  calm:=true
  fn:=fun _=>true
  pn:=[]
  xe:=fun e s'=>wpAny (model P w) (A.deeper (envOfC qual scope s.heap.objs.size f cd)) (leaving (envOfC qual scope s.heap.objs.size f cd) e) (fun _ s''=>CX outer H s E e s'') (fun e' s''=>CX outer H s E e' s'') s'
theorem Zeg {sc:Scope} {n:Nat} {x:Str} (h:sc.names.lookup x=some .cell):∃c,(cellsFrom n sc.names []).lookup x=some c:=by
  have q:=PySem.W.cellsFrom_some sc.names n [] (.inl h)
  exact Option.isSome_iff_exists.mp q
theorem Zf2 {CX:CXT} {P:Program} {w:World} {K:PySem.W.Frag} {mg:Str→Option Value} {base:Heap} {N ps:List Str} {qual:Str} {scope:Scope} {f:Addr} {cd:Value} {A:Around} {outer:List Env} {s s1:Shared} {H:Hp} {E:XK} {us:List Value} {vs:List V}
    (S:ZC N ps scope) (hd:A.handled=none) (e0:Ziq P w K mg base A outer s H) (hl:vs.length=ps.length) (r:Vals vs us)
    (x:InCallC s s.heap.objs.size (bindL (envOfC qual scope s.heap.objs.size f cd).kindOf (ps.zip us) fun _=>none) (cellsFrom (s.heap.objs.size+1) scope.names []) (bindC (envOfC qual scope s.heap.objs.size f cd).kindOf (ps.zip us) fun _=>none) s1) :
    Inv (ZaT CX P w K mg base N qual scope f cd A outer s H E) [] (Zao N vs) H s1:=by
  have hpl:ps.length≤N.length:=by have:=congrArg List.length S.pre; rw [List.length_take] at this; omega
  obtain ⟨h1,tk,rfl,hk⟩:=x.done
  have noA:∀b:Addr,b∉(ZaT CX P w K mg base N qual scope f cd A outer s H E).ex:=fun b z=>absurd (show b∈([]:List Addr) from z) (by simp)
  refine ⟨⟨e0.mod,S.kind,rfl,rfl,Nat.le_refl _,fun y z c h1 h2=>?_,fun y hy=>?_,fun y c _ h=>?_,fun _=>hd,Around.frames_deeper e0.frames,.inr ⟨rfl,rfl⟩,fun b z=>absurd z (noA b),e0.bs,e0.bsz,fun b _ _=>noA b,fun b z=>absurd z (noA b),e0.funs,e0.frf⟩,
    rfl,e0.bare,Un.kept hk,⟨_,x.toInCall.ns,fun i y v h1 h2 h3=>?_⟩,fun y c h=>⟨_,x.cell y c h⟩,e0.hok.fresh (Nat.le_refl _),fun y c h=>?_,fun p hp=>absurd (show p∈([]:List (Addr×Obj)) from hp) (by simp),e0.hok.kept hk,?_⟩
  · exact name_of_addr x.apart (PySem.mem_of_lookup h1) (PySem.mem_of_lookup h2)
  · have hy:scope.names.lookup y=some .cell∨scope.names.lookup y=some .free:=hy
    rcases hy with hy | hy
    · exact Zeg hy
    · exact absurd rfl (S.nofree _ (PySem.mem_of_lookup hy))
  · exact Nat.le_of_lt (x.above y c (PySem.mem_of_lookup h))
  · have hi:i<vs.length:=by
      unfold Zao at h2
      by_cases hi:i<vs.length
      · exact hi
      · rw [List.getElem?_append_right (by simpa using hi)] at h2
        rw [List.getElem?_replicate] at h2
        split at h2<;>cases h2
    have ha:vs[i]?=some v:=by
      unfold Zao at h2
      rw [List.getElem?_append_left (by simpa using hi),List.getElem?_map] at h2
      cases e:vs[i]? with
      | none=>rw [e] at h2; cases h2
      | some a=>rw [e] at h2; cases h2; rfl
    obtain ⟨u,hu,rv⟩:=r.get ha
    have hp:ps[i]?=some y:=by
      rw [←S.pre,List.getElem?_take_of_lt (by omega)]; exact h1
    have ndP:ps.Nodup:=by rw [←S.pre]; exact S.nd.sublist (List.take_sublist _ _)
    refine ⟨u,rv,?_⟩
    rcases S.par y (List.mem_of_getElem? hp) with k | k
    · exact .inl ⟨k,Zc2 ndP hp hu k⟩
    · obtain ⟨c,e⟩:=Zeg (n:=s.heap.objs.size+1) k
      refine .inr ⟨.inl k,c,e,?_⟩
      have q:=x.cell y c e
      rw [Zc4 ndP hp hu (by show scope.names.lookup y≠_; rw [k]; decide)] at q
      exact q
  · exact e0.hok.fresh (Nat.le_of_lt (x.above y c (PySem.mem_of_lookup h)))
  · unfold Zao
    show _=N.length
    rw [List.length_append,List.length_map,List.length_replicate]
    omega
theorem ZiH {CX:CXT} {P:Program} {w:World} {K:PySem.W.Frag} {mg:Str→Option Value} {base:Heap} {k:Nat} {f:Addr} {name qual:Str} {params:Arguments} {body:List Stmt} {scope:Scope} {dV kV doc pm cdv ct oc:Value} {an od:Option Addr}
    {osl:Array (Option Value)} {N ps:List Str} {sp:Sp} (lk:K.lookup f=some ⟨oc,od,.func (PySem.W.fnOf name qual params body scope dV kV doc pm an cdv ct),osl⟩) (hcd:PySem.W.codeIn K cdv qual=true) (S:ZC N ps scope)
    (len:∀vs H Q E,sp vs H Q E→vs.length=ps.length)
    (hbody:∀(A:Around) (outer:List Env) (s:Shared) (H:Hp) (vs:List V) (Q:VK) (E:XK),Room k (A.deeper (envOfC qual scope s.heap.objs.size f cdv))→sp vs H Q E→
      ∃t,PSs (ZaT CX P w K mg base N qual scope f cdv A outer s H E) body t∧t { nx:=fun _ H'=>Q .non H',rt:=Q } (Zao N vs) H) :
    FnOk P w K mg base CX (k+1) f (PySem.W.fnOf name qual params body scope dV kV doc pm an cdv ct) ps sp:=by
  refine ⟨len,fun A outer s H args us vs Q E hr e0 hb r hsp=>?_⟩
  have hl:=len _ _ _ _ hsp
  have KX:K.In s.heap:=e0.mod.kin.keeps fun b o e=>(e0.bs b o e).1
  have lim:s.heap.NoLimit:=e0.mod.nolimit.keeps fun b o e=>(e0.bs b o e).1
  have hkind:∀y∈ps.zip us,scope.names.lookup y.1=some .local∨(scope.names.lookup y.1=some .cell∧((cellsFrom (s.heap.objs.size+1) scope.names []).lookup y.1).isSome=true):=fun ⟨n,v⟩ hy=>by
    rcases S.par n (List.of_mem_zip hy).1 with q | q
    · exact .inl q
    · exact .inr ⟨q,PySem.W.cellsFrom_some _ _ _ (.inl q)⟩
  refine codeAny_call_function hr.depth (KX _ _ lk) rfl S.co S.gen rfl (PySem.W.codeRec_of KX hcd) (hb _ _ _ _ ?_)
  refine wpAny_newFunctionEnv_cells S.kind hkind fun env he s1 x=>?_
  subst he
  refine ⟨lim.keeps x.toInCall.keep,codeAny_func ?_⟩
  obtain ⟨t,ht,hq⟩:=hbody A outer s H vs Q E (hr.deeper _) hsp
  have I:Inv (ZaT CX P w K mg base N qual scope f cdv A outer s H E) [] (Zao N vs) H s1:=Zf2 S hr.hd e0 hl r x
  refine wpAny_mono (ht [] s1 (Zao N vs) H _ I hq) (fun fl s' hs=>?_) fun e s' hs=>hs
  have fin:∀{σ':St} {H':Hp} {v:V} {u:Value},Inv (ZaT CX P w K mg base N qual scope f cdv A outer s H E) [] σ' H' s'→RelV v u→Q v H'→CE outer P w H s Q u s':=
    fun {σ' H' v u} J rv q=>⟨v,H',J.os,J.bare,J.base,J.hok,rv,q⟩
  cases fl with
  | ret u=>
    obtain ⟨v,σ',H',J,rv,q⟩:=hs
    exact fin J rv q
  | next=>
    obtain ⟨σ',H',J,q⟩:=hs
    exact fin (v:=V.non) (u:=Value.none) J rfl q
  | brk=>
    obtain ⟨_,_,_,q⟩:=hs
    exact False.elim q
  | cont=>
    obtain ⟨_,_,_,q⟩:=hs
    exact False.elim q
end L2
namespace L2
open PySem PySem.Spec PyProof.Rows
section
variable {X:Cx} {x:Str} {p pos:Pos} {e:Expr} {es:List Expr} {t:TA} {id T:String} {r:List V→Hp→VK→Prop}
def tCB (r:List V→Hp→VK→Prop) (t:TA):TE:=fun σ H Q=>t σ H fun vs H1=>r vs H1 Q
theorem Zbe (hc:CallR X (.builtin id) r) (hg:Gl X x) (hm:X.mg x=none) (hv:bootBuiltins x=some (.builtin id)) (ha:PA X (e::es) t) (hn:x≠"__name__":=by decide) (hdb:(x == ("__debug__":Str))=false:=by decide)
    (he:starEach (e::es) X.env=(false,eval e X.env)::starEach es X.env:=by rfl) (hpl:(backTo pos (starEach es X.env)).any (·.1)=false:=by rfl):PE X (.Call (.Name x p) (e::es) [] pos) (tCB r t):=by
  intro pins s σ H Q I h
  refine wpAny_Call_Name_kw (Zds I hg hm hv ?_ hn hdb)
  exact PyProof.Rows.callWith_builtin1 (thn (ha pos pins s σ H _ I h) fun us s1 ⟨vs,H1,I1,r1,q1⟩=>hc pins s1 σ H1 vs us Q I1 r1 q1) he hpl
theorem ZfP (hc:CallR X (.type T) r) (hg:Gl X x) (hm:X.mg x=none) (hv:bootBuiltins x=some (.type T)) (ha:PA X (e::es) t) (hn:x≠"__name__":=by decide) (hdb:(x == ("__debug__":Str))=false:=by decide)
    (he:starEach (e::es) X.env=(false,eval e X.env)::starEach es X.env:=by rfl) (hpl:(backTo pos (starEach es X.env)).any (·.1)=false:=by rfl):PE X (.Call (.Name x p) (e::es) [] pos) (tCB r t):=by
  intro pins s σ H Q I h
  refine wpAny_Call_Name_kw (Zds I hg hm hv ?_ hn hdb)
  exact PyProof.Rows.callWith_type1 (thn (ha pos pins s σ H _ I h) fun us s1 ⟨vs,H1,I1,r1,q1⟩=>hc pins s1 σ H1 vs us Q I1 r1 q1) he hpl
end
end L2
namespace HT
open PySem PyProof.Rows
section
open PySem.SeqAt
open PySem.AutoSeq1 (wpAny_loadPart')
open PySem.MeetsSeq PySem.MeetsSeq2 PySem.MeetsSeq3
end
section
variable {prog:Program} {w:World} {A:Around} {E:Value→Shared→Prop} {s:Shared}
theorem cat_tup {t b:Addr} {vs ws:List Value} {Q:Value→Shared→Prop} (ht:IsTup s.heap t vs.toArray) (hb:IsTup s.heap b ws.toArray) (hv:vs≠[])
    (h1:ws=[]→Q (.ref t) s) (h2:ws≠[]→Q (.ref s.heap.objs.size) { s with heap:=s.heap.push { cls:=.type "tuple",data:=.seq (vs++ws).toArray } })
    (hsz:vs.length+ws.length≤sizeLine):wpAny (model prog w) A (binaryOp .Add (.ref t) (.ref b)) Q E s:=by
  obtain ⟨⟨cls,dd,data,sl⟩,ho,hc,n,hd⟩:=id ht
  obtain ⟨⟨cls2,dd2,data2,sl2⟩,ho2,hc2,n2,hd2⟩:=id hb
  simp only at hc hd hc2 hd2
  subst hc hd hc2 hd2
  have e:vs.toArray++ws.toArray=(vs++ws).toArray:=by simp
  by_cases hw:ws=[]
  · exact concat_meets ⟨_,ho,rfl⟩ ⟨_,ho2,rfl⟩ noFill_tuple_add seq_tuple_add PySem.F.slot_tuple_add PySem.F.entry_tuple_add (PySem.F.args_tuple_add_2 _ _)
      (tuple_addW1 t b vs.toArray ws.toArray n n2 dd dd2 sl sl2 (by simpa using hv) (by simp [hw])) ⟨ho,ho2,h1 hw⟩
  · refine concat_meets ⟨_,ho,rfl⟩ ⟨_,ho2,rfl⟩ noFill_tuple_add seq_tuple_add PySem.F.slot_tuple_add PySem.F.entry_tuple_add (PySem.F.args_tuple_add_2 _ _)
      (tuple_addW2 t b vs.toArray ws.toArray n n2 dd dd2 sl sl2 (by simpa using hv) (by simpa using hw) (by rw [List.size_toArray,List.size_toArray]; exact hsz)) ⟨ho,ho2,?_⟩
    rw [e]
    exact h2 hw
def sIx (n d:Nat):Option Int→Nat
  | none=>d
  | some v=>if v<0 then (v+(n:Int)).toNat else min v.toNat n
theorem sIx_none (n d:Nat):sIx n d none=d:=rfl
theorem sIx_nat (n d k:Nat):sIx n d (some (k:Int))=min k n:=by
  show (if (k:Int)<0 then ((k:Int)+(n:Int)).toNat else min (k:Int).toNat n)=min k n
  rw [if_neg (by omega),Int.toNat_natCast]
theorem ZiZ (n d:Nat) (hd:d≤n) (o:Option Int):sIx n d o≤n:=by
  cases o with
  | none=>exact hd
  | some v=>
    show (if v<0 then (v+(n:Int)).toNat else min v.toNat n)≤n
    by_cases hv:v<0
    · rw [if_pos hv]; omega
    · rw [if_neg hv]; exact Nat.min_le_right _ _
theorem Zfr (v:Int) (n d:Nat):(if v<0 then max (v+(n:Int)) 0 else min v (n:Int))=((sIx n d (some v):Nat):Int):=by
  show (if v<0 then max (v+(n:Int)) 0 else min v (n:Int))=(((if v<0 then (v+(n:Int)).toNat else min v.toNat n):Nat):Int)
  by_cases hv:v<0
  · simp only [if_pos hv]; omega
  · simp only [if_neg hv]; omega
theorem ZeR (lo hi:Option Int) (n:Nat):Builtin.Slice.sliceAdjust lo hi 1 (n:Int)=(((sIx n 0 lo:Nat):Int),((sIx n n hi:Nat):Int)):=by
  have h1:¬((1:Int)<0):=by omega
  unfold Builtin.Slice.sliceAdjust
  simp only [h1,if_false]
  refine Prod.ext ?_ ?_
  · cases lo with
    | none=>rfl
    | some v=>exact Zfr v n 0
  · cases hi with
    | none=>rfl
    | some v=>exact Zfr v n n
theorem ZeC (i j:Nat):Builtin.Slice.slicePlaces (i:Int) (j:Int) 1=j-i:=by
  unfold Builtin.Slice.slicePlaces
  have h1:(1:Int) > 0:=by omega
  simp only [h1,if_true,Int.ediv_one]
  split<;>omega
theorem Zcd {v:Value} {o:Option Int} {Q:Option Int→Shared→Prop} (p:IsPart v o) (h:Q o s):wpAny (model prog w) A (Builtin.Slice.slicePartIndex v) Q E s:=by
  cases p with
  | none=>exact slicePart_none h
  | int i t=>exact slicePart_int h
theorem ZbB {sl:Addr} {vl vu:Value} {lo hi:Option Int} {n:Nat} {Q:Int×Int×Nat→Shared→Prop} (hs:s.heap.IsSliceOf sl vl vu .none) (pl:IsPart vl lo) (pu:IsPart vu hi)
    (h:Q (((sIx n 0 lo:Nat):Int),1,sIx n n hi-sIx n 0 lo) s):wpAny (model prog w) A (Builtin.Slice.sliceApplied (.ref sl) (pure (n:Int))) Q E s:=by
  obtain ⟨os,hos,hcs,hds⟩:=id hs
  unfold Builtin.Slice.sliceApplied Builtin.Slice.sliceFields
  refine wpAny_bind (wpAny_bind (wpAny_field hos hds (x:=vl) rfl (wpAny_bind (wpAny_field hos hds (x:=vu) rfl (wpAny_bind (wpAny_field hos hds (x:=.none) rfl (wpAny_pure ?_)))))))
  refine wpAny_bind (slicePart_none ?_)
  show wpAny _ _ (if ((1:Int) == 0)=true then _ else _) _ _ s
  rw [if_neg (by decide)]
  refine wpAny_bind (Zcd pl (wpAny_bind (Zcd pu (wpAny_bind (wpAny_pure ?_)))))
  show wpAny _ _ (match Builtin.Slice.sliceAdjust lo hi 1 (n:Int) with | (lo,hi)=>pure (lo,(1:Int),Builtin.Slice.slicePlaces lo hi 1)) _ _ s
  rw [ZeR lo hi n]
  show wpAny _ _ (pure (((sIx n 0 lo:Nat):Int),(1:Int),Builtin.Slice.slicePlaces ((sIx n 0 lo:Nat):Int) ((sIx n n hi:Nat):Int) 1)) _ _ s
  rw [ZeC]
  exact wpAny_pure h
theorem ZgF (xs:Array Value) (i k:Nat):((List.range k).filterMap fun (m:Nat)=>xs[((i:Int)+(m:Int)*1).toNat]?).toArray=((xs.toList.drop i).take k).toArray:=by
  have e:(fun (m:Nat)=>xs[((i:Int)+(m:Int)*1).toNat]?)=fun m=>xs[i+m]?:=by
    funext m
    have:((i:Int)+(m:Int)*1).toNat=i+m:=by omega
    rw [this]
  rw [e]
  have:=pick_run xs i k
  rw [List.filterMap_map] at this
  have e2:((fun x=>xs[x]?)∘fun x=>i+x)=fun m=>xs[i+m]?:=rfl
  rw [e2] at this
  rw [this]
theorem getItem_tuple_cut {t sl:Addr} {items:Array Value} {vl vu:Value} {lo hi:Option Int} {Q:Value→Shared→Prop} (ht:IsTup s.heap t items) (hs:s.heap.IsSliceOf sl vl vu .none) (pl:IsPart vl lo) (pu:IsPart vu hi)
    (hw:¬(sIx items.size 0 lo=0∧sIx items.size items.size hi=items.size))
    (h:Q (.ref s.heap.objs.size) { s with heap:=s.heap.push { cls:=.type "tuple",data:=.seq ((items.toList.drop (sIx items.size 0 lo)).take (sIx items.size items.size hi-sIx items.size 0 lo)).toArray } })
    (hsz:items.size≤sizeLine):wpAny (model prog w) A (getItem (.ref t) (.ref sl)) Q E s:=by
  have htake:sizeOk (.seq ((items.toList.drop (sIx items.size 0 lo)).take (sIx items.size items.size hi-sIx items.size 0 lo)).toArray):=by
    show ((items.toList.drop (sIx items.size 0 lo)).take (sIx items.size items.size hi-sIx items.size 0 lo)).toArray.size≤sizeLine
    rw [List.size_toArray,List.length_take,List.length_drop,Array.length_toList]
    omega
  have hj:sIx items.size items.size hi≤items.size:=ZiZ _ _ (Nat.le_refl _) hi
  obtain ⟨os,hos,hcs,hds⟩:=id hs
  have hTs:s.TypeIs (.ref sl) "slice":=⟨os,hos,hcs⟩
  unfold getItem
  try with_reducible refine wpAny_holding ?_
  first | refine wpAny_bind (wpAny_pure ?_) | skip
  refine wpAny_bind (wpAny_sequenceKey ht.typeIs (by decide) ?_)
  refine wpAny_bind (wpAny_callSpecial?_slot (name:=Str.ofString "__getitem__") ht.typeIs PyProof.Rows.slot_tuple_getitem
    (wpAny_call_entry PyProof.Rows.slot_tuple_getitem ht.typeIs entry_tuple_getitem ?_ (args_tuple_getitem _ _)))
  show wpAny _ _ (Builtin.Tuple.tupleItemsOf (.ref t) >>= _) _ _ s
  refine wpAny_bind (tupleItemsOf_ ht ?_)
  refine wpAny_bind (wpAny_typeOf hTs ?_)
  rw [if_pos (by decide)]
  refine wpAny_bind (ZbB hs pl pu ?_)
  have hno:¬((((sIx items.size 0 lo:Nat):Int) == 0 && (1:Int) == 1 && (sIx items.size items.size hi-sIx items.size 0 lo) == items.size)=true):=by
    intro q
    rw [Bool.and_eq_true,Bool.and_eq_true] at q
    have q1:((sIx items.size 0 lo:Nat):Int)=0:=eq_of_beq q.1.1
    have q2:sIx items.size items.size hi-sIx items.size 0 lo=items.size:=eq_of_beq q.2
    exact hw ⟨by omega,by omega⟩
  show wpAny _ _ (if (((sIx items.size 0 lo:Nat):Int) == 0 && (1:Int) == 1 && (sIx items.size items.size hi-sIx items.size 0 lo) == items.size)=true then _ else _) _ _ s
  rw [if_neg hno,ZgF]
  first
    | exact wpAny_bind (m:=Builtin.Tuple.tupleExact _) (wpAny_newObj_type (wpAny_pure ⟨_,rfl,wpAny_pure h⟩) htake)
    | exact wpAny_bind (m:=Builtin.Tuple.tupleExact _) (wpAny_newObj_type (wpAny_bind (wpAny_pure (wpAny_pure ⟨_,rfl,wpAny_pure h⟩))) htake)
    | exact wpAny_bind (wpAny_bind (m:=Builtin.Tuple.tupleExact _) (wpAny_newObj_type (wpAny_pure (wpAny_pure ⟨_,rfl,wpAny_pure h⟩)) htake))
    | exact wpAny_bind (wpAny_bind (m:=Builtin.Tuple.tupleExact _) (wpAny_newObj_type (wpAny_pure ⟨_,rfl,wpAny_pure h⟩) htake))
end
end HT
namespace L2
open PySem PySem.Spec PyProof.Rows
abbrev TO:=St→Hp→(Option Int→Hp→Prop)→Prop
def PO (X:Cx) (e:Option Expr) (t:TO):Prop:=
  ∀(pins:List (Addr×Obj)) (s:Shared) (σ:St) (H:Hp) (Q:Option Int→Hp→Prop),Inv X pins σ H s→t σ H Q→
    wpAny (model X.prog X.w) X.A (evalPart e X.env) (fun u s'=>∃o H',Inv X pins σ H' s'∧IsPart u o∧Q o H') X.xe s
def ZhJ:TO:=fun _ H Q=>Q none H
def Zj3 (t:TE):TO:=fun σ H Q=>t σ H fun x H1=>∃i,x=.int i∧Q (some i) H1
section
variable {X:Cx} {e:Expr} {te:TE} {lo hi:Option Expr} {tl th:TO} {pos p2:Pos}
theorem ZhW:PO X none ZhJ:=by
  intro pins s σ H Q I h
  rw [evalPart_none]
  exact wpAny_pure ⟨none,H,I,.none,h⟩
theorem ZhV (h:PE X e te):PO X (some e) (Zj3 te):=by
  intro pins s σ H Q I hw
  rw [evalPart_some]
  refine thn (h pins s σ H _ I hw) fun u s1 ⟨x,H1,I1,r1,q1⟩=>?_
  obtain ⟨i,rfl,q⟩:=q1
  obtain ⟨t,rfl⟩:=r1
  exact ⟨some i,H1,I1,.int i t,q⟩
def SlR (X:Cx) (r:V→Option Int→Option Int→Hp→VK→Prop):Prop:=
  ∀(pins:List (Addr×Obj)) (s:Shared) (σ:St) (H:Hp) (x:V) (v vl vu:Value) (lo hi:Option Int) (sl:Addr) (Q:VK),Inv X pins σ H s→RelV x v→s.heap.IsSliceOf sl vl vu .none→IsPart vl lo→IsPart vu hi→r x lo hi H Q→
    ∃T id,typeLookup (.type T) "__getitem__"=pure (some (.builtin id))∧s.TypeIs v T∧wpAny (model X.prog X.w) X.A (getItem v (.ref sl)) (EP X pins σ Q) X.xe s
theorem SlR.or {r r':V→Option Int→Option Int→Hp→VK→Prop} (h:SlR X r) (h':SlR X r'):SlR X (fun x lo hi H Q=>r x lo hi H Q∨r' x lo hi H Q):=by
  intro pins s σ H x v vl vu lo hi sl Q I rx hs pl pu q
  rcases q with q | q
  · exact h pins s σ H x v vl vu lo hi sl Q I rx hs pl pu q
  · exact h' pins s σ H x v vl vu lo hi sl Q I rx hs pl pu q
def tSl (r:V→Option Int→Option Int→Hp→VK→Prop) (te:TE) (tl th:TO):TE:=fun σ H Q=>te σ H fun x H1=>tl σ H1 fun l H2=>th σ H2 fun u H3=>r x l u H3 Q
theorem ZgH {r:V→Option Int→Option Int→Hp→VK→Prop} (hr:SlR X r) (he:PE X e te) (hl:PO X lo tl) (hu:PO X hi th):PE X (.Subscript e (.Slice lo hi none p2) pos) (tSl r te tl th):=by
  intro pins s σ H Q I h
  refine Subscript_ (thn (he pins s σ H _ I h) fun v s1 ⟨x,H1,I1,r1,q1⟩=>?_)
  refine wpAny_Slice (thn (hl pins s1 σ H1 _ I1 q1) fun vl s2 ⟨l,H2,I2,pl,q2⟩=>thn (hu pins s2 σ H2 _ I2 q2) fun vu s3 ⟨u,H3,I3,pu,q3⟩=>?_)
  rw [evalPart_none]
  refine wpAny_pure ?_
  have I4:Inv X pins σ H3 { s3 with heap:=s3.heap.push { cls:=.type "slice",data:=.fields #[vl,vu,.none] } }:=I3.kept (t':=s3.toks) fun b ob q=>Heap.get?_push_of_some _ q
  obtain ⟨T,id,hT,ht,hg⟩:=hr pins { s3 with heap:=s3.heap.push { cls:=.type "slice",data:=.fields #[vl,vu,.none] } } σ H3 x v vl vu l u s3.heap.objs.size Q I4 r1 (Heap.IsSliceOf.new ..) pl pu q3
  show wpAny (model X.prog X.w) X.A (subscriptTail e (.Slice lo hi none p2) v (.ref s3.heap.objs.size)) (EP X pins σ Q) X.xe { s3 with heap:=s3.heap.push { cls:=.type "slice",data:=.fields #[vl,vu,.none] } }
  exact tail_any (ops:=[.ref s3.heap.objs.size,v]) ht hT hg (by with_unfolding_all rfl)
def Zee (xs:List V) (lo hi:Option Int):List V:=(xs.drop (HT.sIx xs.length 0 lo)).take (HT.sIx xs.length xs.length hi-HT.sIx xs.length 0 lo)
theorem ZbQ (xs:List V) (lo hi:Option Int):(Zee xs lo hi).length≤xs.length:=by
  unfold Zee
  rw [List.length_take,List.length_drop]
  omega
def Zls (K:PySem.W.Frag):V→Option Int→Option Int→Hp→VK→Prop:=fun x lo hi H Q=>∃a xs,x=.ref a∧SqT K H a xs∧
  ¬(HT.sIx xs.length 0 lo=0∧HT.sIx xs.length xs.length hi=xs.length)∧∀p,H p=none→Q (.ref p) (upd H p (.tup (Zee xs lo hi)))
theorem ZiY:SlR X (Zls X.K):=by
  intro pins s σ H x v vl vu lo hi sl Q I rx hs pl pu h
  obtain ⟨a,xs,rfl,hx,hw,q⟩:=h
  cases rx
  obtain ⟨its,r,ht,hz⟩:=I.tuple hx
  have hlen:its.toArray.size=xs.length:=by rw [List.size_toArray]; exact r.length.symm
  refine ⟨"tuple",_,PyProof.Rows.slot_tuple_getitem.lookup,ht.typeIs,?_⟩
  refine HT.getItem_tuple_cut ht hs pl pu (by rw [hlen]; exact hw) ?_ (by rw [hlen]; exact hz)
  rw [hlen]
  refine ⟨.ref s.heap.objs.size,_,I.laid (t':=s.toks) (o:=.tup (Zee xs lo hi)) (fun b ob q=>Heap.get?_push_of_some _ q) (Nat.le_refl _) ?_,rfl,q _ (I.hok.fresh (Nat.le_refl _))⟩
  exact ⟨Nat.le_trans (ZbQ xs lo hi) hz,_,(r.drop (HT.sIx xs.length 0 lo)).take (HT.sIx xs.length xs.length hi-HT.sIx xs.length 0 lo),IsTup.new _ _⟩
def Zkc (K:PySem.W.Frag):R2:=fun x y H Q=>∃a b xs ys,x=.ref a∧y=.ref b∧SqT K H a xs∧SqT K H b ys∧xs≠[]∧xs.length+ys.length≤sizeLine∧
  (ys=[]→Q (.ref a) H)∧(ys≠[]→∀p,H p=none→Q (.ref p) (upd H p (.tup (xs++ys))))
theorem Vals.nil_iff {xs:List V} {us:List Value} (r:Vals xs us):us=[]↔xs=[]:=by
  cases r with
  | nil=>simp
  | cons _ _=>simp
theorem op_catT:OpR X (binaryOp .Add) (Zkc X.K):=by
  intro pins s σ H x y v u Q I rx ry h
  obtain ⟨a,b,xs,ys,rfl,rfl,ha,hb,hx,hz,q1,q2⟩:=h
  cases rx
  cases ry
  obtain ⟨its,r1,p1,_⟩:=I.tuple ha
  obtain ⟨its2,r2,p2,_⟩:=I.tuple hb
  refine HT.cat_tup p1 p2 (fun z=>hx (r1.nil_iff.mp z)) (fun z=>⟨.ref a,H,I,rfl,q1 (r2.nil_iff.mp z)⟩) (fun z=>?_) (by rw [←r1.length,←r2.length]; exact hz)
  refine ⟨.ref s.heap.objs.size,_,I.laid (t':=s.toks) (o:=.tup (xs++ys)) (fun b ob q=>Heap.get?_push_of_some _ q) (Nat.le_refl _) ?_,rfl,q2 (fun w=>z (r2.nil_iff.mpr w)) _ (I.hok.fresh (Nat.le_refl _))⟩
  exact ⟨by rw [List.length_append]; exact hz,_,r1.append r2,IsTup.new _ _⟩
end
end L2
namespace L2
open PySem PySem.Spec PyProof.Rows
def ixN (n:Nat) (i:Int):Option Nat:=if 0≤i then (if i<n then some i.toNat else none) else if -(n:Int)≤i then some (i+n).toNat else none
def atI {α:Type} (xs:List α) (i:Int):Option α:=(ixN xs.length i).bind fun j=>xs[j]?
theorem Zfm {n:Nat} {i:Int} {j:Nat} (h:ixN n i=some j):seqIndex? i n=some j∧j<n∧-(n:Int)≤i∧i<n:=by
  unfold ixN at h
  by_cases h0:0≤i
  · rw [if_pos h0] at h
    by_cases h1:i<n
    · rw [if_pos h1] at h
      have e:i.toNat=j:=Option.some.inj h
      exact ⟨by rw [seqIndex_of h0 h1,e],by omega,by omega,h1⟩
    · rw [if_neg h1] at h; cases h
  · rw [if_neg h0] at h
    by_cases h1 : -(n:Int)≤i
    · rw [if_pos h1] at h
      have e:(i+n).toNat=j:=Option.some.inj h
      exact ⟨by rw [seqIndex_neg (by omega) h1,e],by omega,h1,by omega⟩
    · rw [if_neg h1] at h; cases h
theorem ZdC {α:Type} {xs:List α} {i:Int} {v:α} (h:atI xs i=some v):∃j,seqIndex? i xs.length=some j∧xs[j]?=some v∧j<xs.length∧-(xs.length:Int)≤i∧i<xs.length:=by
  unfold atI at h
  cases e:ixN xs.length i with
  | none=>rw [e] at h; cases h
  | some j=>
    rw [e] at h
    obtain ⟨h1,h2,h3,h4⟩:=Zfm e
    exact ⟨j,h1,h,h2,h3,h4⟩
theorem Zbv {α:Type} {xs:List α} {j:Nat} {v:α} (h:xs[j]?=some v):atI xs (j:Int)=some v:=by
  have hj:j<xs.length:=(List.getElem?_eq_some_iff.mp h).1
  have e:ixN xs.length (j:Int)=some j:=by
    unfold ixN
    rw [if_pos (by omega),if_pos (by omega)]; simp
  unfold atI; rw [e]; exact h
def ZdG (b:Expr):Prop:=∀o i,subscripted b false o i=operate [o,i] (getItem o i)
def IxR (X:Cx) (r:R2):Prop:=
  ∀(value slice:Expr) (pins:List (Addr×Obj)) (s:Shared) (σ:St) (H:Hp) (x y:V) (v u:Value) (Q:VK),Inv X pins σ H s→RelV x v→RelV y u→r x y H Q→
    subscripted slice false v u=operate [v,u] (getItem v u)→wpAny (model X.prog X.w) X.A (subscriptTail value slice v u) (EP X pins σ Q) X.xe s
def MtR (X:Cx) (id:String) (r:V→List V→Hp→VK→Prop):Prop:=
  ∀(pins:List (Addr×Obj)) (s:Shared) (σ:St) (H:Hp) (x:V) (xs:List V) (v:Value) (us:List Value) (Q:VK),Inv X pins σ H s→RelV x v→Vals xs us→r x xs H Q→
    wpAny (model X.prog X.w) X.A (call (.builtin id) (v::us)) (EP X pins σ Q) X.xe s
section
variable {X:Cx} {a b:Expr} {ta tb:TE} {pos:Pos}
theorem IxR.or {r r':R2} (h:IxR X r) (h':IxR X r'):IxR X (fun x y H Q=>r x y H Q∨r' x y H Q):=by
  intro value slice pins s σ H x y v u Q I rx ry q hs
  rcases q with q | q
  · exact h value slice pins s σ H x y v u Q I rx ry q hs
  · exact h' value slice pins s σ H x y v u Q I rx ry q hs
theorem ZiB {r:R2} (hr:IxR X r) (ha:PE X a ta) (hb:PE X b tb) (hs:ZdG b):PE X (.Subscript a b pos) (tOp r ta tb):=by
  intro pins s σ H Q I h
  exact Subscript_ (ZjC ha hb I h fun v u s2 x y H2 I2 rx ry q=>hr a b pins s2 σ H2 x y v u Q I2 rx ry q (hs _ _))
def Zkb (K:PySem.W.Frag):R2:=fun x y H Q=>∃p xs i v,x=.ref p∧y=.int i∧SqL K H p xs∧atI xs i=some v∧Q v H
def Zj9 (K:PySem.W.Frag):R2:=fun x y H Q=>∃p xs i v,x=.ref p∧y=.int i∧SqT K H p xs∧atI xs i=some v∧Q v H
def Zka:R2:=fun x y H Q=>∃z i c,x=.str z∧y=.int i∧z.length≤sizeLine∧atI z.cps.toList i=some c∧Q (.str ⟨#[c]⟩) H
theorem ix_list:IxR X (Zkb X.K):=by
  intro value slice pins s σ H x y v u Q I rx ry h hs
  obtain ⟨p,xs,i,z,rfl,rfl,hq,he,q⟩:=h
  cases rx
  obtain ⟨t,rfl⟩:=ry
  obtain ⟨its,r,pl,hz⟩:=I.list hq
  obtain ⟨j,h1,h2,h3,h4,h5⟩:=ZdC he
  obtain ⟨w,ew,rw'⟩:=r.get h2
  have hl:=r.length
  have hn:=Za4
  have fin:EP X pins σ Q w s:=⟨z,H,I,rw',q⟩
  by_cases h0:0≤i
  · have hj:i.toNat=j:=by
      rw [seqIndex_of h0 h5] at h1
      exact Option.some.inj h1
    exact item_listR pl.isList h0 (by omega) (by rw [hj]; simpa using ew) fin hs
  · have hj:(i+(its.toArray.size:Int)).toNat=j:=by
      rw [seqIndex_neg (by omega) h4] at h1
      rw [List.size_toArray,←hl]
      exact Option.some.inj h1
    exact subscriptTail_builtinR (x:=w) pl.isList.typeIs slot_list_getitem.lookup
      (wpAny_getItem_list_neg (Q:=fun r s'=>r=w∧EP X pins σ Q r s') pl.isList (by omega) (by rw [List.size_toArray]<;>omega) (by omega) (by rw [hj]; simpa using ew) ⟨rfl,fin⟩) hs
theorem ix_tup:IxR X (Zj9 X.K):=by
  intro value slice pins s σ H x y v u Q I rx ry h hs
  obtain ⟨p,xs,i,z,rfl,rfl,hq,he,q⟩:=h
  cases rx
  obtain ⟨t,rfl⟩:=ry
  obtain ⟨its,r,pl,hz⟩:=I.tuple hq
  obtain ⟨j,h1,h2,h3,h4,h5⟩:=ZdC he
  obtain ⟨w,ew,rw'⟩:=r.get h2
  have hl:=r.length
  have hn:=Za4
  have fin:EP X pins σ Q w s:=⟨z,H,I,rw',q⟩
  exact subscriptTail_builtinR (x:=w) pl.typeIs slot_tuple_getitem.lookup
    (getItem_tuple (j:=j) (Q:=fun r s'=>r=w∧EP X pins σ Q r s') pl (by omega) (by omega) (by rw [List.size_toArray,←hl]; exact h1) (by simpa using ew) ⟨rfl,fin⟩) hs
theorem Zjw:IxR X Zka:=by
  intro value slice pins s σ H x y v u Q I rx ry h hs
  obtain ⟨z,i,c,rfl,rfl,hz,he,q⟩:=h
  obtain ⟨t,rfl⟩:=rx
  obtain ⟨t',rfl⟩:=ry
  obtain ⟨j,h1,h2,h3,h4,h5⟩:=ZdC he
  have hl:z.cps.toList.length=z.length:=by simp [Str.length]
  rw [hl] at h1 h4 h5
  have hn:=Za4
  exact tail_any (typeIs_str s z t) slot_str_getitem.lookup (getItem_str (c:=c) (by
    have e1:decide (i < -(2 ^ 63:Int))=false:=decide_eq_false (by omega)
    have e2:decide (i≥2 ^ 63)=false:=decide_eq_false (by omega)
    rw [e1,e2,Bool.or_false]) (by rw [h1]; simpa using h2) ⟨.str ⟨#[c]⟩,H,I.tok _,⟨_,rfl⟩,q⟩) hs
def rIx (K:PySem.W.Frag):R2:=fun x y H Q=>Zkb K x y H Q∨Zj9 K x y H Q∨Zka x y H Q
theorem Zg9:IxR X (rIx X.K):=ix_list.or (ix_tup.or Zjw)
theorem ZeJ (its:List Value) (n j:Nat) (u:Value):Obj.mapSeq (·.setIfInBounds j u) { cls:=.type "list",data:=.seq its.toArray n }={ cls:=.type "list",data:=.seq (its.set j u).toArray n }:=by
  simp [Obj.mapSeq]
theorem Inv.lst {pins:List (Addr×Obj)} {σ:St} {H:Hp} {s:Shared} {p:Addr} {xs:List V} (I:Inv X pins σ H s) (h:H p=some (.lst xs)) :
    ∃(its:List Value) (n:Nat),Vals xs its∧s.heap.get? p=some { cls:=.type "list",data:=.seq its.toArray n }∧xs.length≤sizeLine:=by
  obtain ⟨z,its,n,r,e⟩:=I.hok p _ h
  exact ⟨its,n,r,e,z⟩
theorem Inv.lstUpd {pins:List (Addr×Obj)} {σ:St} {H:Hp} {s:Shared} {p:Addr} {xs ys:List V} {its its':List Value} {n n':Nat} {f:Obj→Obj} (I:Inv X pins σ H s) (h:H p=some (.lst xs))
    (ho:s.heap.get? p=some { cls:=.type "list",data:=.seq its.toArray n }) (hf:f { cls:=.type "list",data:=.seq its.toArray n }={ cls:=.type "list",data:=.seq its'.toArray n' }) (r:Vals ys its') (hz:ys.length≤sizeLine) (t:Nat) :
    Inv X pins σ (upd H p (.lst ys)) { s with heap:=s.heap.update p f,toks:=t }:=by
  have e:(s.heap.update p f).get? p=some { cls:=.type "list",data:=.seq its'.toArray n' }:=by
    rw [Heap.get?_update_self f ho (by rw [hf]<;>rfl),hf]
  refine I.write (x:=p) (e:=p) (by rw [h]; trivial) (.inl rfl) (fun b u hb q=>(Heap.get?_update_other _ _ (Ne.symm hb)).trans q) ⟨_,e⟩ ?_
  exact ⟨hz,its',n',r,e⟩
def Ziy:V→V→V→Hp→(Hp→Prop)→Prop:=fun o i v H Q=>∃p xs k j,o=.ref p∧i=.int k∧H p=some (.lst xs)∧ixN xs.length k=some j∧Q (upd H p (.lst (xs.set j v)))
theorem ZdU:ZkO X Ziy:=by
  intro pins s σ H o i v ov iv u Q I ro ri rv h
  obtain ⟨p,xs,k,j,rfl,rfl,hp,hj,q⟩:=h
  cases ro
  obtain ⟨t,rfl⟩:=ri
  obtain ⟨its,n,r,ho,hz⟩:=I.lst hp
  obtain ⟨h1,h2,h3,h4⟩:=Zfm hj
  have hl:=r.length
  have hn:=Za4
  have I':Inv X pins σ (upd H p (.lst (xs.set j v))) { s with heap:=s.heap.update p (Obj.mapSeq (·.setIfInBounds j u)) }:=
    I.lstUpd hp ho (ZeJ its n j u) (r.set rv j) (by rw [List.length_set]; exact hz) s.toks
  by_cases h0:0≤k
  · have hk:k.toNat=j:=by
      rw [seqIndex_of h0 h4] at h1
      exact Option.some.inj h1
    exact PySem.W.ki_setAt ho h0 (by omega) (by rw [List.size_toArray,←hl]; exact h4) (by rw [hk]; exact ⟨_,I',q⟩)
  · have hk:(k+(its.toArray.size:Int)).toNat=j:=by
      rw [seqIndex_neg (by omega) h3] at h1
      rw [List.size_toArray,←hl]
      exact Option.some.inj h1
    exact PySem.W.ki_setBack ho (by omega) (by rw [List.size_toArray,←hl]; exact h3) (by omega) (by rw [hk]; exact ⟨_,I',q⟩)
theorem Zda (lo hi:Option Int) (n:Nat):(sliceBounds lo hi none n).1=((HT.sIx n 0 lo:Nat):Int)∧(sliceBounds lo hi none n).2.1=((HT.sIx n n hi:Nat):Int)∧(sliceBounds lo hi none n).2.2=1:=by
  refine ⟨?_,?_,rfl⟩
  · cases lo with
    | none=>simp [sliceBounds,HT.sIx]
    | some i=>
      simp only [sliceBounds,HT.sIx,Option.getD_none,show (1:Int) > 0 by decide,if_true]
      by_cases h:i<0
      · simp only [h,if_true]<;>omega
      · simp only [h,if_false]<;>omega
  · cases hi with
    | none=>simp [sliceBounds,HT.sIx]
    | some i=>
      simp only [sliceBounds,HT.sIx,Option.getD_none,show (1:Int) > 0 by decide,if_true]
      by_cases h:i<0
      · simp only [h,if_true]<;>omega
      · simp only [h,if_false]<;>omega
theorem ZcA (its:List Value) (lo hi:Option Int):slicePick its.toArray lo hi none=((its.drop (HT.sIx its.length 0 lo)).take (HT.sIx its.length its.length hi-HT.sIx its.length 0 lo)).toArray:=by
  obtain ⟨h1,h2,h3⟩:=Zda lo hi its.toArray.size
  unfold slicePick
  rw [h1,h2,h3]
  simp only [sliceRange_one,pick_run,List.size_toArray]<;>rfl
def Zj7 (K:PySem.W.Frag):V→Option Int→Option Int→Hp→VK→Prop:=fun x lo hi H Q=>∃a xs,x=.ref a∧SqL K H a xs∧∀p,H p=none→Q (.ref p) (upd H p (.lst (Zee xs lo hi)))
theorem sl_list:SlR X (Zj7 X.K):=by
  intro pins s σ H x v vl vu lo hi sl Q I rx hs pl pu h
  obtain ⟨a,xs,rfl,hx,q⟩:=h
  cases rx
  obtain ⟨its,r,ht,hz⟩:=I.list hx
  have hlen:=r.length
  refine ⟨"list",_,slot_list_getitem.lookup,ht.isList.typeIs,?_⟩
  refine wpAny_getItem_list_slice ht.isList hs pl pu .none (by simp) ?_ (by rw [List.size_toArray]<;>omega)
  rw [ZcA,←hlen]
  refine ⟨.ref s.heap.objs.size,_,I.laid (t':=s.toks) (o:=.lst (Zee xs lo hi)) (fun b ob q=>Heap.get?_push_of_some _ q) (Nat.le_refl _) ?_,rfl,q _ (I.hok.fresh (Nat.le_refl _))⟩
  exact ⟨Nat.le_trans (ZbQ xs lo hi) hz,_,0,(r.drop (HT.sIx xs.length 0 lo)).take (HT.sIx xs.length xs.length hi-HT.sIx xs.length 0 lo),Heap.get?_push_size _ rfl⟩
def zZ:V→Bool
  | .non=>true
  | .bl _=>true
  | .int _=>true
  | .str _=>true
  | _=>false
def eqV:V→V→Bool
  | .non,.non=>true
  | .bl a,.bl b=>a == b
  | .bl a,.int b=>(if a then 1 else 0) == b
  | .int a,.bl b=>a == (if b then 1 else 0)
  | .int a,.int b=>a == b
  | .str a,.str b=>a == b
  | _,_=>false
theorem ZjB {A:Around} {s:Shared} {y x:V} {u v:Value} (ry:RelV y u) (rx:RelV x v) (fy:zZ y=true) (fx:zZ x=true):SeqAt.EqAt A s u v (eqV y x):=by
  cases y with
  | non=>
    cases ry
    cases x with
    | non=>cases rx; exact SeqAt.EqAt.same _
    | bl b=>cases rx; exact SeqAt.EqAt.none_bool b
    | int b=>obtain ⟨t,rfl⟩:=rx; exact SeqAt.EqAt.none_int b t
    | str b=>obtain ⟨t,rfl⟩:=rx; exact SeqAt.EqAt.none_str b t
    | _=>exact absurd (show false=true from fx) Bool.false_ne_true
  | bl a=>
    cases ry
    cases x with
    | non=>cases rx; exact SeqAt.EqAt.bool_none a
    | bl b=>cases rx; exact SeqAt.EqAt.bool_bool a b
    | int b=>obtain ⟨t,rfl⟩:=rx; exact SeqAt.EqAt.bool_int a b t
    | str b=>obtain ⟨t,rfl⟩:=rx; exact SeqAt.EqAt.bool_str a b t
    | _=>exact absurd (show false=true from fx) Bool.false_ne_true
  | int a=>
    obtain ⟨t',rfl⟩:=ry
    cases x with
    | non=>cases rx; exact SeqAt.EqAt.int_none a t'
    | bl b=>cases rx; exact SeqAt.EqAt.int_bool a t' b
    | int b=>obtain ⟨t,rfl⟩:=rx; exact SeqAt.EqAt.int_int a t' b t
    | str b=>obtain ⟨t,rfl⟩:=rx; exact SeqAt.EqAt.int_str a t' b t
    | _=>exact absurd (show false=true from fx) Bool.false_ne_true
  | str a=>
    obtain ⟨t',rfl⟩:=ry
    cases x with
    | non=>cases rx; exact SeqAt.EqAt.str_none a t'
    | bl b=>cases rx; exact SeqAt.EqAt.str_bool a t' b
    | int b=>obtain ⟨t,rfl⟩:=rx; exact SeqAt.EqAt.str_int a t' b t
    | str b=>obtain ⟨t,rfl⟩:=rx; exact SeqAt.EqAt.str_str a t' b t
    | _=>exact absurd (show false=true from fx) Bool.false_ne_true
  | _=>exact absurd (show false=true from fy) Bool.false_ne_true
def eqU (x:V) (u:Value):Bool:=match u with
  | .none=>eqV .non x
  | .bool b=>eqV (.bl b) x
  | .int i _=>eqV (.int i) x
  | .str z _=>eqV (.str z) x
  | _=>false
theorem Zhm {x y:V} {u:Value} (r:RelV y u) (f:zZ y=true):eqU x u=eqV y x:=by
  cases y with
  | non=>cases r; rfl
  | bl b=>cases r; rfl
  | int i=>obtain ⟨t,rfl⟩:=r; rfl
  | str z=>obtain ⟨t,rfl⟩:=r; rfl
  | _=>exact absurd (show false=true from f) Bool.false_ne_true
theorem Zbw {x:V}:∀{xs:List V} {us:List Value},Vals xs us→xs.all zZ=true→us.any (eqU x)=xs.any fun y=>eqV y x
  | _,_,.nil,_=>rfl
  | y::xs,u::us,.cons r t,f=>by
    rw [List.all_cons,Bool.and_eq_true] at f
    rw [List.any_cons,List.any_cons,Zhm r f.1,Zbw t f.2]
theorem Zax {A:Around} {s:Shared} {x:V} {v:Value} (rx:RelV x v) (fx:zZ x=true):∀{xs:List V} {us:List Value},Vals xs us→xs.all zZ=true→∀u∈us,SeqAt.EqAt A s u v (eqU x u)
  | _,_,.nil,_=>fun u hu=>by cases hu
  | y::xs,u::us,.cons r t,f=>fun u' hu=>by
    rw [List.all_cons,Bool.and_eq_true] at f
    rcases List.mem_cons.mp hu with rfl | hu
    · rw [Zhm r f.1]; exact ZjB r rx f.1 fx
    · exact Zax rx fx t f.2 u' hu
def inV (x:V) (xs:List V):Bool:=xs.any fun y=>eqV y x
def rIn (K:PySem.W.Frag) (neg:Bool):R2:=fun x y H Q=>∃p xs,y=.ref p∧(SqL K H p xs∨SqT K H p xs)∧zZ x=true∧xs.all zZ=true∧Q (.bl (if neg then !inV x xs else inV x xs)) H
theorem ZfQ:OpR X (compareOp .In) (rIn X.K false):=by
  intro pins s σ H x y v u Q I rx ry h
  obtain ⟨p,xs,rfl,hq,fx,fs,q⟩:=h
  cases ry
  rcases hq with hq | hq
  · obtain ⟨its,r,pl,hz⟩:=I.list hq
    refine SeqAt.in_listAt (eqU x) pl.isList (fun w hw=>Zax rx fx r fs w (by simpa using hw)) ⟨.bl _,H,I,rfl,?_⟩
    rw [show its.toArray.any (eqU x)=its.any (eqU x) by simp,Zbw r fs]
    exact q
  · obtain ⟨its,r,pl,hz⟩:=I.tuple hq
    refine SeqAt.in_tupleAt (eqU x) pl (fun w hw=>Zax rx fx r fs w (by simpa using hw)) ⟨.bl _,H,I,rfl,?_⟩
    rw [show its.toArray.any (eqU x)=its.any (eqU x) by simp,Zbw r fs]
    exact q
theorem Zdi:OpR X (compareOp .NotIn) (rIn X.K true):=by
  intro pins s σ H x y v u Q I rx ry h
  obtain ⟨p,xs,rfl,hq,fx,fs,q⟩:=h
  cases ry
  rcases hq with hq | hq
  · obtain ⟨its,r,pl,hz⟩:=I.list hq
    refine SeqAt.notIn_listAt (eqU x) pl.isList (fun w hw=>Zax rx fx r fs w (by simpa using hw)) ⟨.bl _,H,I,rfl,?_⟩
    rw [show its.toArray.any (eqU x)=its.any (eqU x) by simp,Zbw r fs]
    exact q
  · obtain ⟨its,r,pl,hz⟩:=I.tuple hq
    refine SeqAt.notIn_tupleAt (eqU x) pl (fun w hw=>Zax rx fx r fs w (by simpa using hw)) ⟨.bl _,H,I,rfl,?_⟩
    rw [show its.toArray.any (eqU x)=its.any (eqU x) by simp,Zbw r fs]
    exact q
theorem Zbq:CallR X (.builtin "len") (fun xs H Q=>∃p ys,xs=[.ref p]∧(SqL X.K H p ys∨SqT X.K H p ys)∧Q (.int ys.length) H):=by
  intro pins s σ H xs us Q I r h
  obtain ⟨p,ys,rfl,hq,q⟩:=h
  obtain ⟨u,rfl,rx⟩:=ZbM r
  cases rx
  have hn:=Za4
  rcases hq with hq | hq
  · obtain ⟨its,r',pl,hz⟩:=I.list hq
    have hlen:=r'.length
    exact Calls.call_len_list pl.isList (by simp only [List.size_toArray]<;>omega) ⟨.int ys.length,H,I.tok _,⟨s.toks+1,by rw [List.size_toArray,hlen]⟩,q⟩
  · obtain ⟨its,r',pl,hz⟩:=I.tuple hq
    have hlen:=r'.length
    exact len_tuple pl (by simp only [List.size_toArray]<;>omega) ⟨.int ys.length,H,I.tok _,⟨s.toks+1,by rw [List.size_toArray,hlen]⟩,q⟩
theorem call_len_str:CallR X (.builtin "len") (fun xs H Q=>∃z,xs=[.str z]∧z.length≤sizeLine∧Q (.int z.length) H):=by
  intro pins s σ H xs us Q I r h
  obtain ⟨z,rfl,hz,q⟩:=h
  obtain ⟨u,rfl,t,rfl⟩:=ZbM r
  have hn:=Za4
  exact len_str (by omega) ⟨.int z.length,H,I.tok _,⟨_,rfl⟩,q⟩
theorem CallR.or {f:Value} {r r':List V→Hp→VK→Prop} (h:CallR X f r) (h':CallR X f r'):CallR X f (fun xs H Q=>r xs H Q∨r' xs H Q):=by
  intro pins s σ H xs us Q I rs q
  rcases q with q | q
  · exact h pins s σ H xs us Q I rs q
  · exact h' pins s σ H xs us Q I rs q
theorem Zdy:CallR X (.type "list") (fun xs H Q=>∃p ys,xs=[.ref p]∧(SqL X.K H p ys∨SqT X.K H p ys)∧∀l,H l=none→Q (.ref l) (upd H l (.lst ys))):=by
  intro pins s σ H xs us Q I r h
  obtain ⟨p,ys,rfl,hq,q⟩:=h
  obtain ⟨u,rfl,rx⟩:=ZbM r
  cases rx
  have fin:∀(its:List Value),Vals ys its→ys.length≤sizeLine→∀(h':Heap) (c':Nat),(∀b o',s.heap.get? b=some o'→h'.get? b=some o')→
      h'.get? s.heap.objs.size=some { cls:=.type "list",dict:=none,data:=.seq its.toArray c',slots:=#[] }→EP X pins σ Q (.ref s.heap.objs.size) { s with heap:=h' }:=fun its r' hz h' c' kp e=>
    ⟨.ref s.heap.objs.size,_,I.laid (t':=s.toks) kp (Nat.le_refl _) (show ObjOk X.prog X.w _ h' _ (.lst ys) from ⟨hz,its,c',r',e⟩),rfl,q _ (I.hok.fresh (Nat.le_refl _))⟩
  rcases hq with hq | hq
  · obtain ⟨its,r',pl,hz⟩:=I.list hq
    have hlen:=r'.length
    obtain ⟨o,ho,hc,n,hd⟩:=pl.isList
    exact call_list_seq p (.inl rfl) ho hc hd (fun h' c' kp e=>fin its r' hz h' c' kp e) (by simp only [List.size_toArray]<;>omega)
  · obtain ⟨its,r',pl,hz⟩:=I.tuple hq
    have hlen:=r'.length
    obtain ⟨o,ho,hc,n,hd⟩:=pl
    exact call_list_seq p (.inr rfl) ho hc hd (fun h' c' kp e=>fin its r' hz h' c' kp e) (by simp only [List.size_toArray]<;>omega)
theorem ZcE:CallR X (.type "tuple") (fun xs H Q=>∃p ys,xs=[.ref p]∧((SqL X.K H p ys∧∀l,H l=none→Q (.ref l) (upd H l (.tup ys)))∨(SqT X.K H p ys∧Q (.ref p) H))):=by
  intro pins s σ H xs us Q I r h
  obtain ⟨p,ys,rfl,h⟩:=h
  obtain ⟨u,rfl,rx⟩:=ZbM r
  cases rx
  rcases h with ⟨hq,q⟩ | ⟨hq,q⟩
  · obtain ⟨its,r',pl,hz⟩:=I.list hq
    have hlen:=r'.length
    refine call_tuple_list pl.isList (fun h' kp=>?_) (by simp only [List.size_toArray]<;>omega)
    have I1:Inv X pins σ H { s with heap:=h' }:=I.kept (t':=s.toks) kp
    have I2:Inv X pins σ (upd H h'.objs.size (.tup ys)) { s with heap:=h'.push { cls:=.type "tuple",data:=.seq its.toArray } }:=
      I1.laid (t':=s.toks) (fun b o e=>Heap.get?_push_of_some _ e) (Nat.le_refl _) (show ObjOk X.prog X.w _ _ _ (.tup ys) from ⟨hz,its,r',IsTup.new _ _⟩)
    exact ⟨.ref h'.objs.size,_,I2,rfl,q _ (I1.hok.fresh (Nat.le_refl _))⟩
  · obtain ⟨its,r',pl,hz⟩:=I.tuple hq
    exact call_tuple_same pl ⟨.ref p,H,I,rfl,q⟩
def tyV (K:PySem.W.Frag) (T:String) (x:V) (H:Hp):Prop:=match x with
  | .str _=>T = "str"
  | .int _=>T = "int"
  | .ref p=>(T = "list"∧∃xs,SqL K H p xs)∨(T = "tuple"∧∃o,K.lookup p=some o∧o.cls=.type "tuple"∧o.dict=none)∨
      (T = "dict"∧((∃kvs,H p=some (.dK kvs))∨∃kvs,H p=some (.dT kvs)))∨(T = "set"∧∃S n,H p=some (.set S n))
  | _=>False
theorem ZiR {pins:List (Addr×Obj)} {σ:St} {H:Hp} {s:Shared} {T:String} {x:V} {v:Value} (I:Inv X pins σ H s) (r:RelV x v) (ty:tyV X.K T x H) :
    s.TypeIs v T∧∀a,v=.ref a→∃ob,s.heap.get? a=some ob∧ob.dict=none:=by
  cases x with
  | str z=>
    obtain ⟨t,rfl⟩:=r
    cases (show T = "str" from ty)
    exact ⟨typeIs_str s z t,fun _ e=>nomatch e⟩
  | int i=>
    obtain ⟨t,rfl⟩:=r
    cases (show T = "int" from ty)
    exact ⟨typeIs_int s i t,fun _ e=>nomatch e⟩
  | ref p=>
    cases r
    rcases ty with ⟨rfl,xs,hq⟩ | ⟨rfl,o,hk,hc,hd⟩ | ⟨rfl,hk⟩ | ⟨rfl,S,n,hk⟩
    · obtain ⟨its,_,pl,_⟩:=I.list hq
      refine ⟨pl.isList.typeIs,fun a e=>?_⟩
      cases e
      obtain ⟨o,n,e,c,hd,_⟩:=pl
      exact ⟨o,e,hd⟩
    · refine ⟨⟨o,I.kIn p o hk,hc⟩,fun a e=>?_⟩
      cases e
      exact ⟨o,I.kIn _ o hk,hd⟩
    · have z:∃o,s.heap.get? p=some o∧o.ExactDict:=by
        rcases hk with ⟨kvs,hk⟩ | ⟨kvs,hk⟩
        · obtain ⟨_,_,_,_,o,_,_,e,ex,_⟩:=I.hok p _ hk
          exact ⟨o,e,ex⟩
        · obtain ⟨_,_,_,_,o,_,_,e,ex,_⟩:=I.hok p _ hk
          exact ⟨o,e,ex⟩
      obtain ⟨o,e,ex⟩:=z
      refine ⟨⟨o,e,ex.1⟩,fun a e2=>?_⟩
      cases e2
      exact ⟨o,e,ex.2.1⟩
    · obtain ⟨o,_,_,_,e,ex,_⟩:=I.hok p _ hk
      refine ⟨⟨o,e,ex.1⟩,fun a e2=>?_⟩
      cases e2
      exact ⟨o,e,ex.2.1⟩
  | _=>exact False.elim ty
def tBM (K:PySem.W.Frag) (T:String) (r:V→List V→Hp→VK→Prop) (to:TE) (t:TA):TE:=fun σ H Q=>to σ H fun x H1=>tyV K T x H1∧t σ H1 fun xs H2=>r x xs H2 Q
variable {o e:Expr} {es:List Expr} {to:TE} {t:TA} {name:Str} {apos cpos:Pos} {T id:String} {r:V→List V→Hp→VK→Prop}
theorem Zkk (pa:PlainAttrs T) (slot:Slot T name id) (hty:typeOf (.builtin id)=pure (.type "method_descriptor")) (hm:MtR X id r) (ho:PE X o to) (ha:PA X (e::es) t)
    (hbase:attributeBase o name X.env (eval o X.env)=eval o X.env:=by rfl)
    (hfew:((backTo cpos (starEach (e::es) X.env)).all (fun x=>!x.1) && (backToKw cpos (keywordEach [] X.env)).all (fun x=>x.1.isSome)
      && decide ((e::es).length+([]:List Keyword).length+(if ([]:List Keyword).isEmpty then 0 else 1)<30))=true:=by rfl)
    (hline:(apos.endLine == cpos.line)=true:=by rfl) (hs:starEach (e::es) X.env=(false,eval e X.env)::starEach es X.env:=by rfl) (hplain:(backTo cpos (starEach es X.env)).any (·.1)=false:=by rfl) :
    PE X (.Call (.Attribute o name apos) (e::es) [] cpos) (tBM X.K T r to t):=by
  intro pins s σ H Q I h
  refine wpAny_Call_method_late hbase hfew hline rfl (thn (ho pins s σ H _ I h) fun v s1 ⟨x,H1,I1,r1,ty,q1⟩=>?_)
  obtain ⟨h1,h2⟩:=ZiR I1 r1 ty
  refine ⟨T,id,pa,slot,hty,h1,h2,?_⟩
  have hA:=ha cpos pins s1 σ H1 _ I1 q1
  rw [hs] at hA ⊢
  refine Calls.callWith_builtin (by show (false || (backTo cpos (starEach es X.env)).any (·.1))=false; rw [hplain]<;>rfl) (Calls.evalArgs_plain ?_)
  exact thn hA fun us s2 ⟨vs,H2,I2,r2,q2⟩=>hm pins s2 σ H2 x vs v us Q I2 r1 r2 q2
end
end L2
namespace L2
open PySem PySem.Spec PyProof.Rows
def MtM (X:Cx) (id:String) (r:V→List V→Hp→VK→Prop):Prop:=
  ∀(pins:List (Addr×Obj)) (s:Shared) (σ:St) (H:Hp) (x:V) (xs:List V) (v:Value) (us:List Value) (Q:VK),Inv X pins σ H s→RelV x v→Vals xs us→r x xs H Q→
    wpAny (model X.prog X.w) X.A (call (.builtin id) (v::us)) (EP X pins σ Q) X.xe s
theorem Vals.one:∀{x:V} {us:List Value},Vals [x] us→∃u,us=[u]∧RelV x u
  | _,_,.cons r .nil=>⟨_,rfl,r⟩
theorem Vals.rep {xs:List V} {us:List Value} (h:Vals xs us):∀k:Nat,Vals (List.replicate k xs).flatten (List.replicate k us).flatten
  | 0=>.nil
  | k+1=>by
    rw [List.replicate_succ,List.replicate_succ,List.flatten_cons,List.flatten_cons]
    exact Vals.append h (Vals.rep h k)
theorem ZaK (its:List Value):∀(k:Nat) (acc:List Value),
    List.foldl (fun x1 x2=>x1++x2) acc.toArray (List.replicate k its.toArray)=(acc++(List.replicate k its).flatten).toArray
  | 0,acc=>by simp
  | k+1,acc=>by
    have e:acc.toArray++its.toArray=(acc++its).toArray:=by simp
    have e2:(acc++its)++(List.replicate k its).flatten=acc++(List.replicate (k+1) its).flatten:=by
      rw [List.replicate_succ,List.flatten_cons,List.append_assoc]
    rw [←e2,←ZaK its k (acc++its),←e,List.replicate_succ,List.foldl_cons]
section
variable {X:Cx} {pins:List (Addr×Obj)} {σ:St} {H:Hp} {s:Shared} {l b:Addr} {xs ys zs:List V}
theorem Inv.lset {its its':List Value} {n:Nat} {f:Array Value→Array Value} {t':Nat} (I:Inv X pins σ H s) (hH:H l=some (.lst xs))
    (e:s.heap.get? l=some { cls:=.type "list",data:=.seq its.toArray n }) (hf:f its.toArray=its'.toArray) (hv:Vals ys its') (hz:ys.length≤sizeLine) :
    Inv X pins σ (upd H l (.lst ys)) { s with heap:=s.heap.update l (Obj.mapSeq f),toks:=t' }:=by
  have q:=PySem.IsL.update e f
  rw [hf] at q
  refine I.write (x:=l) (e:=l) (by rw [hH]; exact trivial) (.inl rfl) (fun b' u hb hu=>(Heap.get?_update_other s.heap (Obj.mapSeq f) (Ne.symm hb)).trans hu) ⟨_,q⟩ ?_
  exact ⟨hz,its',_,hv,q⟩
theorem Inv.lnew {its:List Value} {t':Nat} (I:Inv X pins σ H s) (hv:Vals ys its) (hz:ys.length≤sizeLine) :
    Inv X pins σ (upd H s.heap.objs.size (.lst ys)) { s with heap:=s.heap.push { cls:=.type "list",data:=.seq its.toArray },toks:=t' }:=
  I.laid (fun _ _ q=>Heap.get?_push_of_some _ q) (Nat.le_refl _) ⟨hz,its,0,hv,Heap.get?_push_size _ rfl⟩
theorem Inv.fresh (I:Inv X pins σ H s):H s.heap.objs.size=none:=I.hok.fresh (Nat.le_refl _)
theorem Inv.lstM (I:Inv X pins σ H s) (hH:H l=some (.lst xs)):xs.length≤sizeLine∧∃(its:List Value) (n:Nat),Vals xs its∧xs.length=its.length∧s.heap.get? l=some { cls:=.type "list",data:=.seq its.toArray n }:=by
  obtain ⟨z,its,n,r,e⟩:=I.hok l _ hH
  exact ⟨z,its,n,r,r.length,e⟩
theorem Zbf {n:Nat} (h:n≤sizeLine):Builtin.List.listTooLong n=false:=by
  unfold Builtin.List.listTooLong
  exact decide_eq_false (by omega)
end
section
variable {X:Cx}
def Ze5:V→List V→Hp→VK→Prop:=fun x vs H Q=>∃l xs y,x=.ref l∧vs=[y]∧H l=some (.lst xs)∧xs.length<sizeLine∧Q .non (upd H l (.lst (xs++[y])))
theorem ZfT:MtM X "list.append" Ze5:=by
  intro pins s σ H x vs v us Q I rx rv h
  obtain ⟨l,xs,y,rfl,rfl,hH,hz,q⟩:=h
  cases rx
  obtain ⟨u,rfl,ru⟩:=rv.one
  obtain ⟨z,its,n,r,hl,e⟩:=I.lstM hH
  refine call_meets F.slot_list_append ⟨_,e,rfl⟩ F.entry_list_append (F.args_list_append_2 _ _) (PySem.list_append l its.toArray n u (by rw [List.size_toArray]; omega)) ⟨e,?_⟩
  refine ⟨.non,_,I.lset (its':=its++[u]) hH e (by simp) (r.append (.cons ru .nil)) ?_,rfl,q⟩
  rw [List.length_append,List.length_singleton]
  omega
def ZhP:V→List V→Hp→VK→Prop:=fun x vs H Q=>∃l b xs zs,x=.ref l∧vs=[.ref b]∧H l=some (.lst xs)∧H b=some (.lst zs)∧xs.length+zs.length≤sizeLine∧Q .non (upd H l (.lst (xs++zs)))
theorem ZjO:MtM X "list.extend" ZhP:=by
  intro pins s σ H x vs v us Q I rx rv h
  obtain ⟨l,b,xs,zs,rfl,rfl,hH,hB,hz,q⟩:=h
  cases rx
  obtain ⟨u,rfl,ru⟩:=rv.one
  cases ru
  obtain ⟨z,its,n,r,hl,e⟩:=I.lstM hH
  obtain ⟨z2,its2,n2,r2,hl2,e2⟩:=I.lstM hB
  have hsz:its.toArray.size+its2.toArray.size≤sizeLine:=by rw [List.size_toArray,List.size_toArray]; omega
  have hlong:¬(!its.toArray.isEmpty && Builtin.List.listTooLong (its.toArray.size+its2.toArray.size))=true:=by
    rw [Zbf hsz,Bool.and_false]
    exact Bool.false_ne_true
  refine call_meets F.slot_list_extend ⟨_,e,rfl⟩ F.entry_list_extend (F.args_list_extend_2 _ _)
    (AutoSeq1.list_extend_list_list_0 l its.toArray n b its2.toArray n2 hlong (by rw [List.size_toArray]; omega) (by omega)) ⟨e,e2,?_⟩
  refine ⟨.non,_,I.lset (its':=its++its2) hH e (by simp) (r.append r2) ?_,rfl,q⟩
  rw [List.length_append]
  omega
def Zlu:R2:=fun x y H Q=>∃l b xs zs,x=.ref l∧y=.ref b∧H l=some (.lst xs)∧H b=some (.lst zs)∧xs.length+zs.length≤sizeLine∧∀p,H p=none→Q (.ref p) (upd H p (.lst (xs++zs)))
theorem ZgR:OpR X (binaryOp .Add) Zlu:=by
  intro pins s σ H x y v u Q I rx ry h
  obtain ⟨l,b,xs,zs,rfl,rfl,hH,hB,hz,q⟩:=h
  cases rx
  cases ry
  obtain ⟨z,its,n,r,hl,e⟩:=I.lstM hH
  obtain ⟨z2,its2,n2,r2,hl2,e2⟩:=I.lstM hB
  refine PySem.P.add_list e e2 ?_ (by rw [List.size_toArray,List.size_toArray]; omega)
  have ea:its.toArray++its2.toArray=(its++its2).toArray:=by simp
  rw [ea]
  exact ⟨.ref _,_,I.lnew (t':=s.toks) (r.append r2) (by rw [List.length_append]; omega),rfl,q _ I.fresh⟩
def Zlt:R2:=fun x y H Q=>∃l k xs,x=.ref l∧y=.int k∧H l=some (.lst xs)∧-(2 ^ 63)≤k∧k<2 ^ 63∧xs.length*k.toNat≤sizeLine∧
  ∀p,H p=none→Q (.ref p) (upd H p (.lst (List.replicate k.toNat xs).flatten))
theorem Zdr {α:Type} (xs:List α) (k:Nat):(List.replicate k xs).flatten.length=k*xs.length:=by
  induction k with
  | zero=>simp
  | succ k ih=>rw [List.replicate_succ,List.flatten_cons,List.length_append,ih,Nat.succ_mul,Nat.add_comm]
theorem Zjg:OpR X (binaryOp .Mult) Zlt:=by
  intro pins s σ H x y v u Q I rx ry h
  obtain ⟨l,k,xs,rfl,rfl,hH,h1,h2,hz,q⟩:=h
  cases rx
  obtain ⟨t,rfl⟩:=ry
  obtain ⟨z,its,n,r,hl,e⟩:=I.lstM hH
  have hlen:its.toArray.size*k.toNat≤sizeLine:=by rw [List.size_toArray,←hl]; exact hz
  have hcap:¬its.toArray.size*k.toNat > (2 ^ 63-1)/8:=by
    have:(sizeLine:Nat)≤(2 ^ 63-1)/8:=by decide
    omega
  have hfit:¬(!Builtin.List.listFitsIndex k)=true:=by
    rw [fitsIndex_both h1 h2]
    exact Bool.false_ne_true
  have hlong:¬Builtin.List.listTooLong (its.toArray.size*k.toNat)=true:=by
    rw [Zbf hlen]
    exact Bool.false_ne_true
  have hnew:List.foldl (fun x1 x2=>x1++x2) #[] (List.replicate (if its.toArray.isEmpty=true then 0 else k.toNat) its.toArray)=(List.replicate k.toNat its).flatten.toArray:=by
    have f0:∀m:Nat,List.foldl (fun x1 x2=>x1++x2) #[] (List.replicate m its.toArray)=(List.replicate m its).flatten.toArray:=fun m=>by
      have:=ZaK its m []
      rw [List.nil_append] at this
      exact this
    rw [f0]
    cases its with
    | nil=>simp
    | cons a r'=>rw [if_neg (by simp)]
  refine wpAny_binaryOp_repeat_ref (T:="list") (U:="int") (by decide) ⟨_,e,rfl⟩ (fun s'=>typeIs_int s' k t) noFill_list_mul F.fills_int_mul F.slot_int_rmul repeat_list F.slot_int_index.lookup
    (call_meets F.slot_int_rmul (typeIs_int s k t) F.entry_int_rmul (F.args_int_rmul_2 _ _) (int___rmul___int_list k t l its.toArray n)
      ⟨e,rfl,⟨_,e,rfl⟩,call_meets F.slot_list_mul ⟨_,e,rfl⟩ F.entry_list_mul (F.args_list_mul_2 _ _) (AutoListH.list___mul___list_int_3 l its.toArray n k t hfit hcap hlong) ⟨e,?_⟩⟩)
  rw [hnew]
  exact ⟨.ref _,_,I.lnew (t':=s.toks) (r.rep k.toNat) (by rw [Zdr,Nat.mul_comm]; exact hz),rfl,q _ I.fresh⟩
end
section
variable {prog:Program} {w:World} {A:Around} {E:Value→Shared→Prop} {s:Shared}
theorem ZeQ {a c n:Nat} (hac:a≤c) (hc:c≤n):sliceBounds (some (a:Int)) (some (c:Int)) none n=((a:Int),(c:Int),1):=by
  simp only [sliceBounds,Option.getD_none]
  have h1:¬((a:Int)<0):=by omega
  have h2:¬((c:Int)<0):=by omega
  simp only [h1,h2,if_false,show (1:Int) > 0 by decide,if_true]
  congr 1
  · omega
  · congr 1; omega
set_option maxRecDepth 100000 in
theorem ZhD {l b sl:Addr} {items new:Array Value} {n n2:Nat} {vl vu:Value} {a c:Nat} {Q:Unit→Shared→Prop}
    (e:s.heap.get? l=some { cls:=.type "list",data:=.seq items n }) (e2:s.heap.get? b=some { cls:=.type "list",data:=.seq new n2 }) (hne:l≠b)
    (hs:s.heap.IsSliceOf sl vl vu .none) (pl:IsPart vl (some (a:Int))) (pu:IsPart vu (some (c:Int))) (hac:a≤c) (hc:c≤items.size)
    (hsz:items.size+new.size≤sizeLine) (h:Q () { s with heap:=s.heap.update l (Obj.mapSeq fun xs=>xs.extract 0 a++new++xs.extract c xs.size) }) :
    wpAny (model prog w) A (setItem (.ref l) (.ref sl) (.ref b)) Q E s:=by
  have hl:s.heap.IsList l items:=PySem.IsL.isList e
  have hb:s.heap.IsList b new:=PySem.IsL.isList e2
  obtain ⟨os,hos,hcs,hds⟩:=id hs
  have hTs:s.TypeIs (.ref sl) "slice":=⟨os,hos,hcs⟩
  have hstep:¬((rawPart none == rawInt 0)=true):=Bool.false_ne_true
  have hsame:Builtin.List.listSameRef (.ref l) (.ref b)=false:=by
    unfold Builtin.List.listSameRef
    exact beq_eq_false_iff_ne.mpr hne
  have hmax:(max (a:Int) (c:Int)).toNat=c:=by omega
  have hz':((fun xs:Array Value=>xs.extract 0 a++new++xs.extract c xs.size) items).size≤sizeLine+1:=by
    simp only [Array.size_append,Array.size_extract]
    omega
  unfold setItem
  try with_reducible refine wpAny_holding ?_
  first | refine wpAny_bind (wpAny_pure ?_) | skip
  refine wpAny_bind (wpAny_sequenceKey hl.typeIs (by decide) ?_)
  refine wpAny_bind (wpAny_callSpecial?_slot (name:=Str.ofString "__setitem__") hl.typeIs slot_list_setitem
    (wpAny_call_entry slot_list_setitem hl.typeIs entry_list_setitem ?_ (args_list_setitem _ _ _)))
  show wpAny _ _ (Builtin.List.listSubscript? (.ref sl) >>= _) _ _ s
  refine wpAny_bind ?_
  unfold Builtin.List.listSubscript?
  refine wpAny_bind (wpAny_specialOf hTs slice_no_index ?_)
  simp only [Option.isNone_none,if_true]
  refine wpAny_pure ?_
  show wpAny _ _ (typeOf (.ref sl) >>= _) _ _ s
  refine wpAny_bind (wpAny_typeOf hTs ?_)
  first
    | rw [if_neg (by decide)]
    | refine PySem.W.KFB.if_not (by decide) ?_
  rw [listSliceParts_eq]
  refine wpAny_bind (wpAny_bind (wpAny_field hos hds (x:=.none) rfl (wpAny_bind (wpAny_listPart .none ?_))))
  rw [if_neg hstep]
  refine wpAny_bind (wpAny_field hos hds (x:=vl) rfl (wpAny_bind (wpAny_listPart pl ?_)))
  refine wpAny_bind (wpAny_field hos hds (x:=vu) rfl (wpAny_bind (wpAny_listPart pu (wpAny_pure ?_))))
  first
    | simp only [hsame,Bool.false_eq_true,if_false]
    | refine PySem.W.KFB.if_not hsame ?_
    | (dsimp only
       rw [if_neg (by rw [hsame]; exact Bool.false_ne_true)])
  refine wpAny_bind (m:=Builtin.List.listAllItems (.ref b) "must assign iterable to extended slice") ?_
  unfold Builtin.List.listAllItems
  refine wpAny_bind (wpAny_typeOf hb.typeIs ?_)
  first
    | refine PySem.W.KFB.if_so (by decide) ?_
    | rw [if_pos (by decide)]
    | simp only [beq_self_eq_true,Bool.true_or,if_true]
  unfold Builtin.List.listItems
  refine wpAny_bind (wpAny_seqItems e2 rfl (wpAny_pure ?_))
  refine wpAny_bind (wpAny_bind (wpAny_seqItems e rfl (wpAny_pure ?_)))
  refine wpAny_bind (wpAny_of_eq ((sliceIndices_raw (some (a:Int)) (some (c:Int)) none items.size (by simp)).trans (congrArg (pure:Int×Int×Int→Sem (Int×Int×Int)) (ZeQ hac hc))) ?_)
  show wpAny _ _ (if ((1:Int) == 1)=true then _ else _) _ _ s
  rw [if_pos (by decide)]
  refine wpAny_bind (wpAny_rule ?_)
  first
    | simp only [Zbf hsz,Bool.false_eq_true,if_false]
    | refine PySem.W.KFB.if_not (Zbf hsz) ?_
  first | refine wpAny_bind (wpAny_pure ?_) | skip
  show wpAny _ _ (updateSeq l (fun xs=>xs.extract 0 ((a:Int)).toNat++new++xs.extract (max (a:Int) (c:Int)).toNat xs.size) >>= _) _ _ s
  rw [hmax,Int.toNat_natCast]
  refine wpAny_bind (wpAny_updateSeq (hz:=Nat.le_trans (Nat.le_add_right _ _) hsz) (_hz':=hz') e rfl ?_)
  refine wpAny_bind (wpAny_letGo ?_)
  first
    | exact wpAny_bind (wpAny_pure (wpAny_pure ⟨.none,rfl,wpAny_pure h⟩))
    | exact wpAny_pure ⟨.none,rfl,wpAny_pure h⟩
end
section
variable {X:Cx}
end
end L2
namespace Att
open PySem PySem.W PySem.Calls PyProof.Rows
theorem ZbY {P:Params} {h:Heap}:∀(ns:List Int) (vs:List Value),WellAll P h vs (ns.map WData.int)→IntsAre vs ns:=by
  intro ns
  induction ns with
  | nil=>
    intro vs w
    rw [List.map_nil] at w
    cases w
    exact .nil
  | cons n ns ih=>
    intro vs w
    rw [List.map_cons] at w
    cases w with
    | cons a b=>
      cases a
      exact .cons _ _ (ih _ b)
theorem ZfI {l:OpenLaw} {n:Nat} (hn:l.most=some n) {P:Params} {h:Heap} {args:List WData} {vals:List Value}
    (hpre:l.row.toRowW.claim.pre args=true) (hwl:WellAll P h vals args) :
    ∃a vs ns,vals=[Value.ref a]∧args=[WData.list (ns.map WData.int)]∧h.get? a=some { cls:=.type "list",data:=.seq vs.toArray }∧IntsAre vs ns∧ns.length≤n:=by
  have hsh:WShape.hasAll [] args [.list .int]=true:=(pre_splitW hpre).1
  have hc:l.pre.holds [] { args:=args }=true:=(pre_splitW hpre).2
  obtain ⟨d,r,rfl,h1,h2⟩:=hasAllW_cons hsh
  obtain rfl:=hasAllW_nil h2
  obtain ⟨xs,rfl,h3⟩:=hasW_list h1
  obtain ⟨ns,rfl⟩:=items_int h3
  have hlen:ns.length≤n:=by
    unfold OpenLaw.pre at hc
    have h4:(WTm.not (.lt (.lit (.int (n:Int))) (.len (.arg 0)))).holds [] { args:=[.list (ns.map .int)] }=true:=by
      have h4:=(holds_andW hc).1
      rw [hn] at h4
      exact h4
    have h5:=condW_of h4 (w_not (w_lt w_lit (w_len_list (w_arg rfl))))
    rw [List.length_map] at h5
    refine Nat.le_of_not_lt fun q=>?_
    have q':(n:Int)<((ns.length:Nat):Int):=by omega
    first
      | (rw [decide_eq_true q'] at h5; exact absurd h5 (by decide))
      | (simp at h5; omega)
  cases hwl with
  | cons w1 w2=>
    cases w2
    cases w1 with
    | list ho hall=>exact ⟨_,_,ns,rfl,rfl,ho,ZbY ns _ hall,hlen⟩
theorem ZfM (l:OpenLaw) (args:List WData):l.row.toRowW.claim.post args (.bool true) args=true:=
  postW_of (r:=l.row.toRowW) (X:=(true == true))
    (show WShape.has [] (.bool true) .bool=true by first | rfl | decide | simp [WShape.has,WShape.arms,WShape.armsAll])
    (show (WTm.eq .res (.lit (.bool true))).value [] { args:=args,res:=some (.bool true),after:=args }=some (.bool (true == true)) from w_eq_bool (w_res rfl) w_lit) rfl
theorem attach_call {l:OpenLaw} {n:Nat} {q:Program} {loose:List Str} {XP:(Str→Option Value)→Heap→Prop} {YP:World→Heap→Prop} {d:DefRec}
    (hn:l.most=some n) (hdf:d.params.defaults=[])
    (call:∀(w:World) (s₀ s₁:Shared) (mg mb:Str→Option Value) (fa:Addr) (o:Obj) (pm cd doc:Value) (a:Addr) (vs:List Value) (ns:List Int),
      Ground q loose [] XP w s₀ mg mb s₁.heap→YP w s₁.heap→
      s₁.heap.get? fa=some o→o.data=.func (docDef d.name d.params d.body d.scope pm cd doc)→s₁.heap.CodeRec cd d.name→mg d.name=some (.ref fa)→
      s₁.heap.get? a=some { cls:=.type "list",data:=.seq vs.toArray }→IntsAre vs ns→ns.length≤n→s₁.gens=#[]→
      codeAny (model l.prog w) callerA (.call (.ref fa) ⟨[.ref a],[]⟩) (fun r s'=>r=.ok (.ret (.bool true))∧OldK s₁.heap s'.heap∧s'.os=s₁.os∧AllBare s'.gens) s₁) :
    WalkO q loose XP YP l.row.toRowW d [] (fun f vs=>PySem.call f vs):=by
  intro w s₀ s₁ mg mb G Y fa o pm cd doc dV kV ho hd hcd hD hmg hg args vals as hpre hlay hrd hwl hlo
  obtain rfl:dV=.none:=Dflts.none hD hdf
  obtain rfl:kV=.none:=Dflts.noKw hD
  obtain ⟨a,vs,ns,rfl,rfl,hobj,hints,hlen⟩:=ZfI hn hpre hwl
  refine enter_call (codeAny_mono (call w s₀ s₁ mg mb fa o pm cd doc a vs ns G Y ho (fd_plain hd) hcd hmg hobj hints hlen hg) fun r s' hq=>?_)
  obtain ⟨rfl,h2,h3,h4⟩:=hq
  exact ⟨.inl ⟨.bool true,.bool true,[],rfl,fun _=>rfl,.bool true,ZfM l _,fun _=>⟨List.Pairwise.nil,fun _ hm=>(nomatch hm)⟩⟩,h2,h3,h4⟩
section
variable {prog:Program} {w:World} {A:Around} {E:Value→Shared→Prop} {s:Shared} {K:Frag}
end
end Att
namespace L2
open PySem PySem.Spec PyProof.Rows
theorem ZcG:∀{vs:List Value} {ns:List Int},IntsAre vs ns→Vals (ns.map V.int) vs
  | _,_,.nil=>.nil
  | _,_,.cons n t h=>.cons ⟨t,rfl⟩ (ZcG h)
def Zio (H:Hp):Prop:=∀b,H b=none∨∃o xs,H b=some (.frz o (.lst xs))
theorem Zg8 {P:Program} {w:World} {K:PySem.W.Frag} {mg mb:Str→Option Value} {CX:CXT} {k:Nat} {fa a:Addr} {fd:FuncData} {x:Str} {sp:Sp} {s₁:Shared} {vs:List Value} {ns:List Int}
    (KX:K.In s₁.heap) (hns:s₁.heap.Ns mainGlobals mg) (hb:s₁.heap.Ns builtinsNs mb) (hbb:∀x:Str,x≠"__name__"→mb x=bootBuiltins x) (hlim:s₁.heap.NoLimit) (hg:s₁.gens=#[])
    (ha:s₁.heap.get? a=some { cls:=.type "list",data:=.seq vs.toArray }) (hi:IntsAre vs ns) (hl:ns.length≤sizeLine) (hr:Room k callerA)
    (F:∀base:Heap,K.In base→base.Ns mainGlobals mg→FnOk P w K mg base CX k fa fd [x] sp) (hbind:∀(s:Shared) (u:Value),BindsTo s fd ⟨[u],[]⟩ [(x,u)])
    (hsp:∀H:Hp,Zio H→SqL K H a (ns.map V.int)→sp [.ref a] H (fun v _=>v=.bl true) fun _ _ _=>False)
    (hCX:∀H e s',CX [] H s₁ (fun _ _ _=>False) e s'→False) :
    codeAny (model P w) callerA (.call (.ref fa) ⟨[.ref a],[]⟩) (fun r s'=>r=.ok (.ret (.bool true))∧OldK s₁.heap s'.heap∧s'.os=s₁.os∧AllBare s'.gens) s₁:=by
  have rv:=ZcG hi
  have lenV:=hi.length
  have core:∀H:Hp,Zio H→SqL K H a (ns.map V.int)→HOk P w H s₁.heap→(∀b,H b≠none→b=a)→(H a≠none→K.lookup a=none)→
      codeAny (model P w) callerA (.call (.ref fa) ⟨[.ref a],[]⟩) (fun r s'=>r=.ok (.ret (.bool true))∧OldK s₁.heap s'.heap∧s'.os=s₁.os∧AllBare s'.gens) s₁:=by
    intro H hO hS hok hA hK
    have base_of:∀{b:Addr} {o:Obj},s₁.heap.get? b=some o→H b=none→(Zdu s₁.heap H).get? b=some o:=fun e n=>Zhh e n
    have noA:∀{b:Addr} {o:Obj} {es:Array DictEntry} {ep:Nat},s₁.heap.get? b=some o→o.data=.dict es ep→H b=none:=fun {b o es ep} e d=>by
      cases q:H b with
      | none=>rfl
      | some u=>
        have e':b=a:=hA b (by rw [q]; simp)
        subst e'
        rw [ha] at e; cases e
        have d':Data.seq vs.toArray _=Data.dict es ep:=d
        cases d'
    have nsK:∀{b:Addr} {m:Str→Option Value},s₁.heap.Ns b m→(Zdu s₁.heap H).Ns b m:=fun {b m} ⟨o,es,ep,e,d,r⟩=>⟨o,es,ep,base_of e (noA e d),d,r⟩
    have hKb:K.In (Zdu s₁.heap H):=fun b o e=>base_of (KX b o e) (by
      cases q:H b with
      | none=>rfl
      | some u=>
        have e':b=a:=hA b (by rw [q]; simp)
        subst e'
        rw [hK (by rw [q]; simp)] at e; cases e)
    have hM:Mod K mg (Zdu s₁.heap H):=⟨hKb,nsK hns,⟨mb,nsK hb,hbb⟩,let ⟨mc,h1,h2⟩:=hlim; ⟨mc,nsK h1,h2⟩⟩
    have e0:Ziq P w K mg (Zdu s₁.heap H) callerA [] s₁ H:=⟨rfl,hM,fun b o e=>Zh3 e,Nat.le_of_eq (Zf3 _ _),trivial,fun b hb=>absurd (show b∈([]:List Addr) from hb) (by simp),hok,.of_eq hg⟩
    refine codeAny_mono ((F _ hKb (nsK hns)).run callerA [] s₁ H ⟨[.ref a],[]⟩ [.ref a] [.ref a] _ _ hr e0 (hbind s₁ (.ref a)) (.cons rfl .nil) (hsp H hO hS)) fun r s' h=>?_
    cases r with
    | error e=>exact (hCX H e s' h).elim
    | ok fl=>
      cases fl with
      | next=>exact False.elim h
      | brk=>exact False.elim h
      | cont=>exact False.elim h
      | ret u=>
        obtain ⟨v,H',os,bare,un,hok',r',q⟩:=h
        have q':v=.bl true:=q
        subst q'
        obtain rfl:u=Value.bool true:=r'
        refine ⟨rfl,OldK.of_keep fun b o e=>?_,os,bare⟩
        cases q:H b with
        | none=>exact un.keep b o e q (by intro z; exact absurd (show b∈([]:List Addr) from z) (by simp)) (by simp)
        | some u=>
          rcases hO b with z | ⟨ob,xs,z⟩
          · rw [q] at z; cases z
          · have z2:=un.frzs b ob _ z
            obtain ⟨e1,_⟩:=hok b _ z
            obtain ⟨e2,_⟩:=hok' b _ z2
            rw [e] at e1; cases e1
            exact e2
  cases hk:K.lookup a with
  | some o=>
    have e:=KX a o hk
    rw [ha] at e
    cases e
    refine core (fun _=>none) (fun _=>.inl rfl) (.inr ⟨_,vs.toArray,_,hk,rfl,rfl,rfl,by rw [List.size_toArray,lenV]; exact hl,by simpa using rv⟩) (fun b u z=>by have z':(none:Option HO)=some u:=z; cases z') (fun b z=>absurd rfl z) fun z=>absurd rfl z
  | none=>
    refine core (fun b=>if b=a then some (.frz { cls:=.type "list",data:=.seq vs.toArray } (.lst (ns.map V.int))) else none) (fun b=>?_) (.inl (.inr ⟨{ cls:=.type "list",data:=.seq vs.toArray },if_pos rfl⟩)) (fun b u z=>?_) (fun b z=>?_) fun _=>hk
    · by_cases hb:b=a
      · exact .inr ⟨_,_,if_pos hb⟩
      · exact .inl (if_neg hb)
    · by_cases hb:b=a
      · have z':=(if_pos hb).symm.trans z
        cases z'
        subst hb
        exact ⟨ha,by rw [List.length_map]; exact hl,vs,_,rv,ha⟩
      · have z':=(if_neg hb).symm.trans z
        cases z'
    · by_cases hb:b=a
      · exact hb
      · exact absurd (if_neg hb) z
end L2
namespace L2
open PySem PySem.Spec PyProof.Rows
theorem ZhG {l:PySem.W.OpenLaw} {n k:Nat} {q:Program} {loose:List Str} {XP:(Str→Option Value)→Heap→Prop} {YP:World→Heap→Prop} {d:DefRec} {K:Params→PySem.W.Frag} {CX:World→CXT} {sp:World→Sp} {x:Str}
    (hn:l.most=some n) (hn2:n≤sizeLine) (hdf:d.params.defaults=[]) (hr:Room k callerA)
    (hY:∀(w:World) (h:Heap),YP w h→(K w.params).In h)
    (F:∀(w:World) (mg:Str→Option Value) (fa:Addr) (h:Heap),(K w.params).In h→h.Ns mainGlobals mg→mg d.name=some (.ref fa)→
      ∃fd:FuncData,(∀(s:Shared) (u:Value),BindsTo s fd ⟨[u],[]⟩ [(x,u)])∧
        ∀base:Heap,(K w.params).In base→base.Ns mainGlobals mg→FnOk l.prog w (K w.params) mg base (CX w) k fa fd [x] (sp w))
    (hsp:∀(w:World) (H:Hp) (a:Addr) (ns:List Int),ns.length≤n→Zio H→SqL (K w.params) H a (ns.map V.int)→sp w [.ref a] H (fun v _=>v=.bl true) fun _ _ _=>False)
    (hCX:∀(w:World) (H:Hp) (s:Shared) (e:Value) (s':Shared),CX w [] H s (fun _ _ _=>False) e s'→False) :
    PySem.W.WalkO q loose XP YP l.row.toRowW d [] (fun f vs=>PySem.call f vs):=by
  refine Att.attach_call hn hdf fun w s₀ s₁ mg mb fa o pm cd doc a vs ns G Y ho hd hcd hmg hobj hints hlen hg=>?_
  have KX:=hY w _ Y
  obtain ⟨fd,hb,hF⟩:=F w mg fa _ KX G.T.g hmg
  exact Zg8 KX G.T.g G.T.b G.T.builtins G.T.nolimit hg hobj hints (Nat.le_trans hlen hn2) hr hF hb (fun H hO hS=>hsp w H a ns hlen hO hS) fun H e s'=>hCX w H s₁ e s'
end L2
namespace L2
open PySem PySem.Spec PyProof.Rows
def ZF (s:Stmt):Arguments:=match s with
  | .FunctionDef _ a _ _ _ _ _ _ _ _=>a
  | _=>{ posonlyargs:=[],args:=[],vararg:=none,kwonlyargs:=[],kw_defaults:=[],kwarg:=none,defaults:=[] }
def Zy (s:Stmt):List Stmt:=match s with
  | .FunctionDef _ _ b _ _ _ _ _ _ _=>b
  | _=>[]
def Zj (s:Stmt):Scope:=match s with
  | .FunctionDef _ _ _ _ _ _ sc _ _ _=>sc
  | _=>{ kind:=.function,names:=[],isGenerator:=false,isCoroutine:=false }
abbrev CX0:CXT:=fun _ _ _ _ _ _=>False
abbrev E0:XK:=fun _ _ _=>False
theorem Zkm {X:Cx}:ZeS CX0 X E0:=fun _ _ _ _ _ _ _ h=>h.elim
structure Fun (K:PySem.W.Frag) (x qual:Str) (st:Stmt) (f:Addr) (fd:FuncData):Prop where
  ex:∃(oc:Value) (od:Option Addr) (kV doc pm:Value) (an:Option Addr) (cdv ct:Value) (osl:Array (Option Value)),
    fd=PySem.W.fnOf x qual (ZF st) (Zy st) (Zj st) .none kV doc pm an cdv ct∧K.lookup f=some ⟨oc,od,.func fd,osl⟩∧PySem.W.codeIn K cdv qual=true
  kp:PySem.W.keepIn K (.ref f)=true
section
variable {P:Program} {w:World} {K:PySem.W.Frag} {mg:Str→Option Value} {base:Heap}
theorem Fun.ok {x qual:Str} {st:Stmt} {f:Addr} {fd:FuncData} {N ps:List Str} {k:Nat} {sp:Sp} (F:Fun K x qual st f fd) (S:ZC N ps (Zj st)) (len:∀vs H Q E,sp vs H Q E→vs.length=ps.length)
    (hbody:∀(cdv:Value) (A:Around) (outer:List Env) (s:Shared) (H:Hp) (vs:List V) (Q:VK) (E:XK),Room k (A.deeper (envOfC qual (Zj st) s.heap.objs.size f cdv))→sp vs H Q E→
      ∃t,PSs (ZaT CX0 P w K mg base N qual (Zj st) f cdv A outer s H E).nox (Zy st) t∧t { nx:=fun _ H'=>Q .non H',rt:=Q } (Zao N vs) H):FnOk P w K mg base CX0 (k+1) f fd ps sp:=by
  obtain ⟨oc,od,kV,doc,pm,an,cdv,ct,osl,rfl,lk,hcd⟩:=F.ex
  refine ZiH lk hcd S len fun A outer s H vs Q E hr hsp=>?_
  obtain ⟨t,h,q⟩:=hbody cdv A outer s H vs Q E hr hsp
  exact ⟨t,h.nox,q⟩
theorem Fun.binds {x qual:Str} {st:Stmt} {f:Addr} {fd:FuncData} {ps:List Str} (F:Fun K x qual st f fd)
    (h:∀(kV doc pm:Value) (an:Option Addr) (cdv ct:Value) (us:List Value),us.length=ps.length→bindArgs (PySem.W.fnOf x qual (ZF st) (Zy st) (Zj st) .none kV doc pm an cdv ct) ⟨us,[]⟩=pure (ps.zip us)):Binds K fd ps []:=by
  obtain ⟨oc,od,kV,doc,pm,an,cdv,ct,osl,rfl,lk,hcd⟩:=F.ex
  exact .all (h kV doc pm an cdv ct)
theorem zb {x qual:Str} {st:Stmt} {f:Addr} {oc:Value} {od an:Option Addr} {osl:Array (Option Value)} {kV doc pm cdv ct:Value} (l:K.lookup f=some ⟨oc,od,.func (PySem.W.fnOf x qual (ZF st) (Zy st) (Zj st) .none kV doc pm an cdv ct),osl⟩)
    (c:PySem.W.codeIn K cdv qual=true) (k:PySem.W.keepIn K (.ref f)=true):Fun K x qual st f (PySem.W.fnOf x qual (ZF st) (Zy st) (Zj st) .none kV doc pm an cdv ct):=⟨⟨oc,od,kV,doc,pm,an,cdv,ct,osl,rfl,l,c⟩,k⟩
end
section
variable {X:Cx}
end
end L2
namespace L2
open PySem PySem.Spec PyProof.Rows
section
variable {P:Program} {w:World} {K:PySem.W.Frag} {mg:Str→Option Value} {base:Heap}
def ZK (K:PySem.W.Frag) (mg:Str→Option Value) (x:Str) (st:Stmt) (ps:List Str):Prop:=
  ∃(f:Addr) (fd:FuncData),Fun K x x st f fd∧Binds K fd ps []∧mg x=some (.ref f)
def Def (P:Program) (w:World) (K:PySem.W.Frag) (mg:Str→Option Value) (base:Heap) (k:Nat) (x:Str) (ps:List Str) (sp:Sp):Prop:=
  ∃(f:Addr) (fd:FuncData),FnOk P w K mg base CX0 k f fd ps sp∧Binds K fd ps []∧PySem.W.keepIn K (.ref f)=true∧mg x=some (.ref f)
end
section
variable {X:Cx} {k:Nat} {x:Str} {ps:List Str} {sp:Sp} {p pos:Pos} {e:Expr} {es:List Expr} {t:TA}
theorem ZgM {j:Nat} (D:Def X.prog X.w X.K X.mg X.base k x ps sp) (hr:Room j X.A) (hj:k≤j) (ha:PA X (e::es) t) (hg:Gl X x:=by rfl) (hdb:(x == ("__debug__":Str))=false:=by decide)
    (he:starEach (e::es) X.env=(false,eval e X.env)::starEach es X.env:=by rfl) (hpl:(backTo pos (starEach es X.env)).any (·.1)=false:=by rfl):PE X (.Call (.Name x p) (e::es) [] pos) (Zix sp [] E0 t):=by
  obtain ⟨f,fd,F,b,kp,m⟩:=D
  exact Zh0 F (hr.mono hj) hg m kp b .nil Zkm ha hdb he hpl
theorem ZhY {i:Int} (h:∃t,X.mg x=some (.int i t)) (hg:Gl X x:=by rfl) (hd:(x == ("__debug__":Str))=false:=by decide):PE X (.Name x pos) (tC (.int i)):=by
  obtain ⟨t,h⟩:=h
  exact Ze9 hg h ⟨t,rfl⟩ hd
def ZkP (_ j:Int):Prop:=0<j∧j.natAbs.log2<9000
theorem ZgQ:OpR X (binaryOp .FloorDiv) (rI ZkP fun i j=>.int (i/j)):=opI fun i j _ _ _ _ _ hc q=>by
  have h1:(0:Int)<j:=hc.1
  exact floordiv_int (by omega) (by rw [Int.fdiv_eq_ediv_of_nonneg i (by omega)]; exact q) (.inl (PyProof.noPylong_of_log2 hc.2))
theorem Zeh:CallR X (.builtin "isinstance") (fun xs H Q=>∃(x:V) (n:String) (t:Value) (b:Bool),xs=[x,.ty n]∧Zbx X.K H x t∧PySem.W.kitOne X.K t (.type n)=some b∧Q (.bl b) H):=by
  intro pins s σ H xs us Q I r h
  obtain ⟨x,n,t,b,rfl,ty,e,q⟩:=h
  cases r with
  | cons rx rr=>
    cases rr with
    | cons ry rr=>
      cases rr
      cases ry
      exact Zf1 I rx ty e fun tk=>⟨.bl b,H,I.tok tk,rfl,q⟩
theorem Zkg {x:Str} {n:String} {pos:Pos} (hm:X.mg x=none) (hv:bootBuiltins x=some (.type n)) (hg:Gl X x:=by rfl) (hn:x≠"__name__":=by decide) (hd:(x == ("__debug__":Str))=false:=by decide):PE X (.Name x pos) (tC (.ty n)):=
  Zfa hg hm hv rfl hn hd
end
end L2
set_option maxHeartbeats 4000000
namespace L2
open PySem PySem.Spec PyProof.Rows
theorem Zbp {scope:Scope} {env:Env} (h:∀x∈scope.names,x.2=.free→∃c,env.cells.lookup x.1=some c) :
    ∃cl:List (Str×Addr),closureFor scope env=pure cl∧(∀n c,(n,c)∈cl→env.cells.lookup n=some c)∧∀x∈scope.names,x.2=.free→∃c,(x.1,c)∈cl:=by
  have key:∀(names:List (Str×NameKind)) (acc:List (Str×Addr)),(∀x∈names,x.2=.free→∃c,env.cells.lookup x.1=some c)→(∀n c,(n,c)∈acc→env.cells.lookup n=some c)→
      ∃cl:List (Str×Addr),(forIn names acc fun (x:Str×NameKind) (cs:List (Str×Addr))=>if (x.2 == NameKind.free)=true then (do let c ←cellOf env x.1; pure (ForInStep.yield ((x.1,c)::cs)):Sem _) else pure (ForInStep.yield cs))=(pure cl:Sem _)∧
        (∀n c,(n,c)∈cl→env.cells.lookup n=some c)∧(∀p∈acc,p∈cl)∧∀x∈names,x.2=.free→∃c,(x.1,c)∈cl:=by
    intro names
    induction names with
    | nil=>intro acc _ ha; exact ⟨acc,rfl,ha,fun _ p=>p,fun x hx=>nomatch hx⟩
    | cons y r ih=>
      intro acc hx ha
      obtain ⟨n,k⟩:=y
      by_cases hk:k=.free
      · subst hk
        obtain ⟨c,hc⟩:=hx (n,.free) List.mem_cons_self rfl
        obtain ⟨cl,e,h1,h2,h3⟩:=ih ((n,c)::acc) (fun x z=>hx x (List.mem_cons_of_mem _ z)) (fun m d z=>by
          rcases List.mem_cons.mp z with z | z
          · cases z; exact hc
          · exact ha m d z)
        refine ⟨cl,?_,h1,fun p z=>h2 p (List.mem_cons_of_mem _ z),fun x z zf=>?_⟩
        · have ec:cellOf env n=pure c:=by unfold cellOf; rw [hc]
          rw [List.forIn_cons]
          simp only [beq_self_eq_true,if_true,ec,pure_bind]
          exact e
        · rcases List.mem_cons.mp z with z | z
          · cases z; exact ⟨c,h2 _ List.mem_cons_self⟩
          · exact h3 x z zf
      · obtain ⟨cl,e,h1,h2,h3⟩:=ih acc (fun x z=>hx x (List.mem_cons_of_mem _ z)) ha
        refine ⟨cl,?_,h1,h2,fun x z zf=>?_⟩
        · have hb:(k == NameKind.free)=false:=by simpa using hk
          rw [List.forIn_cons]
          simp only [hb,Bool.false_eq_true,if_false,pure_bind]
          exact e
        · rcases List.mem_cons.mp z with z | z
          · cases z; exact absurd zf hk
          · exact h3 x z zf
  obtain ⟨cl,e,h1,_,h3⟩:=key scope.names [] h (fun n c z=>nomatch z)
  refine ⟨cl,?_,h1,h3⟩
  simp only [closureFor]
  rw [e]
  rfl
def Cx.comp (X:Cx) (scope:Scope) (N':List Str) (cl:List (Str×Addr)) (C:Addr) (s₀:Shared) (H₀:Hp) (fp:List Addr):Cx where
  prog:=X.prog
  w:=X.w
  K:=X.K
  mg:=X.mg
  base:=X.base
  A:=X.A
  N:=N'
  s₀:=s₀
  H₀:=H₀
  env:=compEnvC scope cl C X.env
  outer:=X.stack
  stack:=X.stack
  ex:=fp
  fn:=fun _=>false
  calm:=X.calm
  pn:=[]
  xe:=fun _ _=>False
def inner (src:List Nat) (σ:St) (x:Option V):St:=x::src.map fun j=>(σ[j]?).join
theorem Zck {α:Type} {l:List (Str×α)} {n:Str} {c:α} (h:(n,c)∈l):∃d,l.lookup n=some d:=by
  induction l with
  | nil=>cases h
  | cons y r ih=>
    obtain ⟨m,d⟩:=y
    by_cases e:n == m
    · exact ⟨d,by rw [List.lookup_cons,e]⟩
    · rcases List.mem_cons.mp h with z | z
      · cases z; exact absurd (beq_self_eq_true n) e
      · obtain ⟨d',q⟩:=ih z
        exact ⟨d',by rw [List.lookup_cons,Bool.eq_false_iff.mpr e]; exact q⟩
theorem Zaf {env:Env} {n:Str}:∀{names:List (Str×NameKind)} {k:NameKind},(∀y∈names,y.2≠.cell)→
    (names.map fun (n,k)=>if (k == NameKind.free && env.scope.kind == .function && env.kindOf n == some .cell) then (n,NameKind.cell) else (n,k)).lookup n=some k→(k=.cell∨k=.free)→(n,NameKind.free)∈names
  | [],_,_,h,_=>by simp at h
  | (m,j)::r,k,hc,h,hk=>by
    have nc:j≠.cell:=hc (m,j) List.mem_cons_self
    rw [List.map_cons] at h
    by_cases e:n == m
    · have en:n=m:=by simpa using e
      subst en
      by_cases cnd:(j == NameKind.free && env.scope.kind == .function && env.kindOf n == some .cell)=true
      · have:j=.free:=by
          simp only [Bool.and_eq_true,beq_iff_eq] at cnd
          exact cnd.1.1
        rw [this]
        exact List.mem_cons_self
      · simp only [cnd] at h
        rw [if_neg (by simp),List.lookup_cons,beq_self_eq_true] at h
        cases h
        rcases hk with rfl | rfl
        · exact absurd rfl nc
        · exact List.mem_cons_self
    · refine List.mem_cons_of_mem _ (Zaf (env:=env) (k:=k) (fun y hy=>hc y (List.mem_cons_of_mem _ hy)) ?_ hk)
      rw [List.lookup_cons] at h
      have e2:(n == (if (j == NameKind.free && env.scope.kind == .function && env.kindOf m == some .cell)=true then (m,NameKind.cell) else (m,j)).1)=false:=by
        split<;>exact Bool.eq_false_iff.mpr e
      rw [e2] at h
      exact h
theorem Zbd {env:Env}:∀{names:List (Str×NameKind)} {x:Str},names.lookup x=some .free→
    (names.map fun (n,k)=>if (k == NameKind.free && env.scope.kind == .function && env.kindOf n == some .cell) then (n,NameKind.cell) else (n,k)).lookup x=some .cell∨
    (names.map fun (n,k)=>if (k == NameKind.free && env.scope.kind == .function && env.kindOf n == some .cell) then (n,NameKind.cell) else (n,k)).lookup x=some .free
  | [],_,h=>by simp at h
  | (n,k)::r,x,h=>by
    have ih:=@Zbd env r x
    rw [List.map_cons]
    cases hx:x == n with
    | true=>
      simp only [List.lookup_cons,hx] at h
      cases h
      by_cases hc:(NameKind.free == NameKind.free && env.scope.kind == .function && env.kindOf n == some .cell)=true
      · left
        show List.lookup x ((if (NameKind.free == NameKind.free && env.scope.kind == .function && env.kindOf n == some .cell)=true then (n,NameKind.cell) else (n,NameKind.free))::_)=_
        rw [if_pos hc,List.lookup_cons,hx]
      · right
        show List.lookup x ((if (NameKind.free == NameKind.free && env.scope.kind == .function && env.kindOf n == some .cell)=true then (n,NameKind.cell) else (n,NameKind.free))::_)=_
        rw [if_neg hc,List.lookup_cons,hx]
    | false=>
      simp only [List.lookup_cons,hx] at h
      have e:∀t,List.lookup x ((if (k == NameKind.free && env.scope.kind == .function && env.kindOf n == some .cell)=true then (n,NameKind.cell) else (n,k))::t)=List.lookup x t:=fun t=>by
        split<;>rw [List.lookup_cons,hx]
      rcases ih h with q | q
      · exact .inl ((e _).trans q)
      · exact .inr ((e _).trans q)
section
variable {X:Cx} {x:Str} {px:Pos} {iter elt:Expr} {scope:Scope} {pos:Pos} {N':List Str} {src:List Nat} {wi:TI} {te:TE}
structure za (scope sc:Scope) (x:Str) (N N':List Str) (src:List Nat):Prop where
  kind:scope.kind=.function
  cell:∀y∈scope.names,y.2≠.cell
  loc:∀y∈scope.names,y.2=.local→scope.names.lookup y.1=some .local
  own:scope.names.lookup x=some .local
  free:∀y∈scope.names,y.2=.free→sc.names.lookup y.1=some .cell
  nd:N'.Nodup
  names:N'=x::src.map fun j=>N.getD j x
  all:∀j∈src,j<N.length
  fr:∀j∈src,sc.names.lookup (N.getD j x)=some .cell∧scope.names.lookup (N.getD j x)=some .free
theorem ZeO {pins:List (Addr×Obj)} {σ:St} {H:Hp} {s s':Shared} {C:Addr} {cl:List (Str×Addr)} {fp:List Addr} (I:Inv X pins σ H s) (S:za scope X.env.scope x X.N N' src)
    (hcl:∀n c,(n,c)∈cl→X.env.cells.lookup n=some c) (hcl2:∀y∈scope.names,y.2=.free→∃c,(y.1,c)∈cl) (hC:s.heap.objs.size≤C) (hfp:∀b∈fp,ZcF X pins H b) (hfl:∀b∈fp,b<s.heap.objs.size)
    (hn:∃m,s'.heap.Ns C m) (hk:∀b o,s.heap.get? b=some o→s'.heap.get? b=some o) (ho:s'.os=s.os) (hg:s'.gens=s.gens) :
    Inv (X.comp scope N' cl C s H fp) [] (inner src σ none) H s':=by
  have cll:∀n c,cl.lookup n=some c→X.env.cells.lookup n=some c:=fun n c e=>hcl n c (PySem.mem_of_lookup e)
  refine ⟨⟨I.ok.mod,S.kind,I.ok.glob,I.ok.blt,hC,fun y z c h1 h2=>I.ok.inj y z c (cll _ _ h1) (cll _ _ h2),fun y hy=>?_,fun y c h=>absurd (show false=true from h) (by decide),I.ok.hd,I.ok.frames,.inl rfl,fun b hb=>⟨Nat.ne_of_lt (Nat.lt_of_lt_of_le (hfl b hb) hC),fun y c e=>(hfp b hb).2.2.2.2.1 y c (cll y c e)⟩,
    I.bs,Nat.le_trans I.ok.bsz I.sz,fun b o e hb=>?_,fun b hb=>?_,I.stack,I.stkFree⟩,ho,?_,Un.kept hk,?_,fun y c e=>?_,I.hok.fresh hC,fun y c e=>I.freeC y c (cll y c e),fun p hp=>absurd (show p∈([]:List (Addr×Obj)) from hp) (by simp),I.hok.kept hk,?_⟩
  · have hy':(relabel scope X.env).names.lookup y=some .cell∨(relabel scope X.env).names.lookup y=some .free:=hy
    have:(y,NameKind.free)∈scope.names:=by
      rcases hy' with h | h
      · exact Zaf S.cell h (.inl rfl)
      · exact Zaf S.cell h (.inr rfl)
    obtain ⟨c,hc⟩:=hcl2 _ this rfl
    exact Zck hc
  · rcases (hfp b hb).2.2.2.1 with z | z
    · exact I.ok.noex b o e z
    · exact absurd (Nat.lt_of_lt_of_le (Heap.lt_size e) (Nat.le_trans I.ok.bsz z)) (Nat.lt_irrefl _)
  · intro hs
    rcases List.mem_cons.mp (I.stkSub b hs) with z | z
    · exact (hfp b hb).2.1 z
    · exact (hfp b hb).2.2.1 z
  · rw [hg]; exact I.bare
  · obtain ⟨m,hm⟩:=hn
    refine ⟨m,hm,fun i y v h1 h2 h3=>?_⟩
    have h1':N'[i]?=some y:=h1
    rw [S.names] at h1'
    cases i with
    | zero=>cases (show (some none:Option (Option V))=some (some v) from h2)
    | succ k=>
      rw [List.getElem?_cons_succ,List.getElem?_map] at h1'
      have h2':(src.map fun j=>(σ[j]?).join)[k]?=some (some v):=h2
      rw [List.getElem?_map] at h2'
      cases e:src[k]? with
      | none=>rw [e] at h1'; cases h1'
      | some j=>
        rw [e] at h1' h2'
        have hj:=List.mem_of_getElem? e
        have ey:X.N.getD j x=y:=Option.some.inj h1'
        have ev:(σ[j]?).join=some v:=Option.some.inj h2'
        have eN:X.N[j]?=some y:=by
          have:=S.all j hj
          rw [List.getElem?_eq_getElem this]
          rw [List.getD_eq_getElem?_getD,List.getElem?_eq_getElem this] at ey
          exact congrArg some ey
        have eσ:σ[j]?=some (some v):=by
          cases q:σ[j]? with
          | none=>rw [q] at ev; cases ev
          | some z=>rw [q] at ev; exact congrArg some ev
        obtain ⟨k1,k2⟩:=S.fr j hj
        rw [ey] at k1 k2
        obtain ⟨mo,hmo,hl⟩:=I.loc
        obtain ⟨u,r,l⟩:=hl j y v eN eσ (.inr (.inl k1))
        refine ⟨u,r,?_⟩
        rcases l with ⟨z,_⟩ | ⟨_,c,hc,hcell⟩
        · have z':X.env.scope.names.lookup y=some .local:=z
          rw [k1] at z'; cases z'
        · obtain ⟨c',hc'⟩:=hcl2 _ (PySem.mem_of_lookup k2) rfl
          obtain ⟨d,hd⟩:=Zck hc'
          have ed:d=c:=by
            have:=cll _ _ hd
            rw [hc] at this
            exact (Option.some.inj this).symm
          subst ed
          obtain ⟨o,e1,e2⟩:=hcell
          refine .inr ⟨?_,d,hd,o,hk _ _ e1,e2⟩
          rcases h3 with z | z | z
          · have z':(relabel scope X.env).names.lookup y=some .local:=z
            rcases Zbd (env:=X.env) k2 with w | w
            · have w':(relabel scope X.env).names.lookup y=some .cell:=w
              rw [w'] at z'; cases z'
            · have w':(relabel scope X.env).names.lookup y=some .free:=w
              rw [w'] at z'; cases z'
          · exact .inl z
          · exact .inr z
  · obtain ⟨v,o,e1,e2⟩:=I.cell y c (cll y c e)
    exact ⟨v,o,hk _ _ e1,e2⟩
  · show (inner src σ none).length=N'.length
    rw [S.names]
    unfold inner
    rw [List.length_cons,List.length_cons,List.length_map,List.length_map]
theorem Zef {prog:Program} {w:World} {A:Around} {R:Result→Shared→Prop} {s:Shared} {elt target iter:Expr} {scope:Scope} {pos:Pos} {it acc:Value} {env:Env} (I:Nat→Shared→Prop)
    (turn:∀n s,I n s→wpAny (model prog w) A (pyNext it) (fun r s₁=>match r with
      | none=>R (.ok .next) s₁
      | some v=>wpAny (model prog w) A (letOwnedTupleGo target it v) (fun _ s₂=>wpAny (model prog w) A (assign target env v) (fun _ s₃=>wpAny (model prog w) A (eval elt env) (fun x s₄=>
          wpAny (model prog w) A (call (.builtin "list.append") [acc,x]) (fun _ s₅=>∃m,m<n∧I m s₅) (notedBy (model prog w) A env fun e s'=>R (.error e) s') s₄) (notedBy (model prog w) A env fun e s'=>R (.error e) s') s₃)
          (notedBy (model prog w) A env fun e s'=>R (.error e) s') s₂) (notedBy (model prog w) A env fun e s'=>R (.error e) s') s₁) (notedBy (model prog w) A env fun e s'=>R (.error e) s') s)
    (n:Nat) (h:I n s):codeAny (model prog w) A (.compLoop (.ListComp elt [⟨target,iter,[],0⟩] scope pos) 0 it acc env) R s:=by
  refine codeAny_loop rfl I (fun n s hI=>?_) n h
  show wpAny _ A ((compTurn (.ListComp elt [⟨target,iter,[],0⟩] scope pos) 0 it acc env).onRaise (fun x=>do noteFrame x env; theTreesLotGoes x)) _ _ s
  refine wpAny_noted ?_
  rw [compTurn_list1]
  refine wpAny_bind (wpAny_standAt (wpAny_bind (thn (turn n s hI) fun r s₁ h₁=>?_)))
  cases r with
  | none=>exact wpAny_pure h₁
  | some v=>
    refine wpAny_bind (thn h₁ fun _ s₂ h₂=>wpAny_bind (thn h₂ fun _ s₃ h₃=>?_))
    exact wpAny_bind (wpAny_bind (thn h₃ fun x s₄ h₄=>wpAny_bind (thn h₄ fun _ s₅ h₅=>wpAny_pure (wpAny_pure ⟨rfl,h₅⟩))))
def lcR (J:It) (src:List Nat) (σ:St) (te:TE) (H1:Hp) (Q:VK):Prop:=∃(n:Nat) (Pv:Nat→List V→Hp→Prop),n≤sizeLine∧Pv 0 [] H1∧
  (∀i ys H,i<n→Pv i ys H→J.go i H∧∀y H',J.yld i H y H'→te (inner src σ (some y)) H' fun z H2=>Pv (i+1) (ys++[z]) H2)∧
  ∀ys H,Pv n ys H→J.stop n H∧∀p,H p=none→Q (.ref p) (upd H p (.lst ys))
def tLc (wi:TI) (src:List Nat) (te:TE):TE:=fun σ H Q=>wi σ H fun J H1=>lcR J src σ te H1 Q
theorem HOk.lay {P:Program} {w:World} {H:Hp} {h:Heap} {a:Addr} {o:HO} (x:HOk P w H h) (hn:H a=none) (new:ObjOk P w (upd H a o) h a o):HOk P w (upd H a o) h:=fun b u e=>by
  by_cases hb:b=a
  · subst hb; rw [zp] at e; cases e; exact new
  · rw [Zz hb] at e
    exact (x b u e).stay (fun c v _ q=>q) (fun c q=>by rw [Zz (ZB q hn)]; exact q) fun c xs q=>by rw [Zz (ZB q hn)]; exact q
theorem Un.lay {fs ex:List Addr} {H H1:Hp} {h h1:Heap} {a:Addr} {o:HO} (u:Un fs ex H H1 h h1) (hn:H1 a=none) (hh:h.get? a=none):Un fs ex H (upd H1 a o) h h1 where
  keep:=u.keep
  slot:=u.slot
  free:=fun b ob q n hx=>by rw [Zz (fun z=>by rw [z,hh] at q; cases q)]; exact u.free b ob q n hx
  there:=u.there
  tups:=fun b xs q=>by rw [Zz (ZB (u.tups b xs q) hn)]; exact u.tups b xs q
  frzs:=fun b ob xs q=>by rw [Zz (ZB (u.frzs b ob xs q) hn)]; exact u.frzs b ob xs q
  tbls:=fun b ps q=>by
    obtain ⟨m,e⟩:=u.tbls b ps q
    exact ⟨m,by rw [Zz (ZB e hn)]; exact e⟩
theorem Zg7 {pins:List (Addr×Obj)} {σ:St} {H:Hp} {s:Shared} {cl:List (Str×Addr)} {it:Addr} {fp:List Addr} {tn:Nat→Heap→Prop} {J:It} {n:Nat} {Pv:Nat→List V→Hp→Prop} {RR:Value→Addr→Result→Shared→Prop} {E:Value→Shared→Prop}
    (I:Inv X pins σ H s) (hcm:X.calm=true) (S:za scope X.env.scope x X.N N' src) (hcl:∀n c,(n,c)∈cl→X.env.cells.lookup n=some c) (hcl2:∀y∈scope.names,y.2=.free→∃c,(y.1,c)∈cl)
    (T:ZhA X.prog X.w X.K (.Name x px) J fp it tn) (t0:tn 0 s.heap) (hfp:∀b∈fp,ZcF X pins H b)
    (helt:∀(cl:List (Str×Addr)) (C:Addr) (s₀:Shared) (H₀:Hp) (fp:List Addr),PE (X.comp scope N' cl C s₀ H₀ fp) elt te)
    (hn:n≤sizeLine) (p0:Pv 0 [] H) (turn:∀i ys H,i<n→Pv i ys H→J.go i H∧∀y H',J.yld i H y H'→te (inner src σ (some y)) H' fun z H2=>Pv (i+1) (ys++[z]) H2) (stop:∀ys H,Pv n ys H→J.stop n H)
    (hR:∀(D C:Addr) (o:Obj) (ys:List V) (H':Hp) (s':Shared),Pv n ys H'→H' D=none→Inv X (pins++[(C,o)]) σ (upd H' D (.lst ys)) s'→(∃m,s'.heap.Ns C m)→ZcF X pins (upd H' D (.lst ys)) C→RR (.ref D) C (.ok .next) s') :
    wpAny (model X.prog X.w) X.A (newList []) (fun acc s₃=>wpAny (model X.prog X.w) X.A (newFunctionEnv scope X.env.globals cl [] X.env.qual none .none (some X.env)) (fun cenv s₄=>
      codeAny (model X.prog X.w) X.A (.compStart (.ListComp elt [⟨.Name x px,iter,[],0⟩] scope pos) 0 (.ref it) acc { cenv with scope:=relabel scope X.env }) (RR acc cenv.locals) s₄) E s₃) E s:=by
  refine wpAny_newObj_type (wpAny_newFunctionEnv S.cell (by intro y hy; simp at hy) (fun h₁ hns₁ hsb₁=>?_) S.kind)
  dsimp only at hns₁ hsb₁ ⊢
  generalize hH2:s.heap.push { cls:=.type "list",dict:=none,data:=.seq ([]:List Value).toArray }=H2 at hns₁ hsb₁ ⊢
  have hC:H2.objs.size=s.heap.objs.size+1:=by rw [←hH2,Heap.size_push]
  have hDC:s.heap.objs.size≠H2.objs.size:=by rw [hC]; exact Nat.ne_of_lt (Nat.lt_succ_self _)
  have hCle:s.heap.objs.size≤H2.objs.size:=by rw [hC]; exact Nat.le_succ _
  have below:∀b,b<s.heap.objs.size→b≠H2.objs.size∧b≠s.heap.objs.size:=fun b hb=>⟨by rw [hC]; exact Nat.ne_of_lt (Nat.lt_succ_of_lt hb),Nat.ne_of_lt hb⟩
  have old:∀b o,s.heap.get? b=some o→h₁.get? b=some o:=fun b o e=>hsb₁.extBut b o (below b (Heap.lt_size e)).1 (Heap.get?_push_of_some _ (hH2 ▸ Heap.get?_push_of_some _ e))
  have hacc:h₁.PlainList s.heap.objs.size #[]:=⟨_,hsb₁.extBut _ _ hDC (Heap.get?_push_of_some _ (hH2 ▸ Heap.get?_push_size _ rfl))⟩
  have hfl:∀b∈fp,b<s.heap.objs.size:=fun b hb=>by
    obtain ⟨o,e,_⟩:=T.obj 0 _ t0 b hb
    exact Heap.lt_size e
  have fresh:∀a,s.heap.objs.size≤a→s.heap.get? a=none:=fun a ha=>by
    cases e:s.heap.get? a with
    | none=>rfl
    | some o'=>exact absurd (Heap.lt_size e) (Nat.not_lt.mpr ha)
  generalize eD:s.heap.objs.size=D at hDC hacc hCle below fresh hfl hC ⊢
  generalize eC:H2.objs.size=C at hDC hCle below hC hns₁ hsb₁ ⊢
  have I1:Inv (X.comp scope N' cl C s H fp) [] (inner src σ none) H { s with heap:=h₁,toks:=s.toks+([]:List (Str×Value)).length }:=
    ZeO I S hcl hcl2 (by rw [eD]; exact hCle) hfp (by rw [eD]; exact hfl) ⟨_,hns₁⟩ old rfl rfl
  have stat:∀{H':Hp} {pl:List (Addr×Obj)},(∀p∈pl,p.1=D)→(∀b∈fp,H' b=none)→∀b∈fp,ZcF (X.comp scope N' cl C s H fp) pl H' b:=fun {H' pl} hp hn b hb=>
    ⟨hn b hb,(below b (hfl b hb)).1,fun z=>by
      rcases List.mem_cons.mp (I.stkSub b z) with q | q
      · exact (hfp b hb).2.1 q
      · exact (hfp b hb).2.2.1 q,.inl hb,fun y c e=>(hfp b hb).2.2.2.2.1 y c (hcl y c (PySem.mem_of_lookup e)),fun p hq=>by
      rw [hp p (by rcases List.mem_append.mp hq with z | z; exact absurd (show p∈([]:List (Addr×Obj)) from z) (by simp); exact z)]
      exact Ne.symm (below b (hfl b hb)).2⟩
  have nD:D∉frs X.stack:=fun z=>by
    rcases List.mem_cons.mp (I.stkSub D z) with q | q
    · have:=I.lt; rw [←q,eD] at this; exact Nat.lt_irrefl _ this
    · exact I.nofs (a:=D) (by rw [eD]; exact Nat.le_refl _) q
  have nC:C∉X.fs:=I.nofs (by rw [eD]; exact hCle)
  have cellD:∀y c,cl.lookup y=some c→c<D:=fun y c e=>by
    obtain ⟨v,q⟩:=I.cell y c (hcl y c (PySem.mem_of_lookup e))
    have:=q.lt
    rw [eD] at this
    exact this
  have loop:∀s₃:Shared,s₃={ s with heap:=h₁,toks:=s.toks+([]:List (Str×Value)).length }→
      codeAny (model X.prog X.w) X.A (.compLoop (.ListComp elt [⟨.Name x px,iter,[],0⟩] scope pos) 0 (.ref it) (.ref D) (compEnvC scope cl C X.env)) (RR (.ref D) C) s₃:=by
    rintro s₃ rfl
    refine Zef (fun k s'=>∃(i:Nat) (ys:List V) (its:List Value) (H':Hp) (xo:Option V),Inv (X.comp scope N' cl C s H fp) [] (inner src σ xo) H' s'∧tn i s'.heap∧(∀b∈fp,H' b=none)∧s'.heap.PlainList D its.toArray∧Vals ys its∧H' D=none∧
      Pv i ys H'∧ys.length=i∧i≤n∧k=n+1-i) ?_ (n+1) ⟨0,[],[],H,none,I1,T.keep _ _ _ t0 (fun b _ o e=>old b o e),fun b hb=>(hfp b hb).1,hacc,.nil,I.hok.fresh (by rw [eD]; exact Nat.le_refl _),p0,rfl,Nat.zero_le _,rfl⟩
    rintro k s' ⟨i,ys,its,H',xo,I3,t3,f3,l3,v3,d3,p3,e3,le3,rfl⟩
    by_cases hlt:i<n
    · obtain ⟨go,step⟩:=turn i ys H' hlt p3
      obtain ⟨nn,oD⟩:=id l3
      have I3p:Inv (X.comp scope N' cl C s H fp) [(D,{ cls:=.type "list",data:=.seq its.toArray nn })] (inner src σ xo) H' s':=
        I3.pins_of fun p hp=>by
          have ep:p=(D,{ cls:=.type "list",data:=.seq its.toArray nn }):=by simpa using hp
          subst ep
          exact ⟨oD,d3,hDC,nD,fun v z=>by cases z⟩
      refine thn (T.item (X.comp scope N' cl C s H fp) rfl rfl rfl hcm i _ s' _ H' _ I3p (stat (by simp) f3) t3 go) fun r s4 ⟨u,hr,h4⟩=>?_
      subst hr
      refine thn h4 fun _ s5 ⟨y,H5,I5,r5,y5,st5,fr5⟩=>?_
      have I5':=I5.pinned (stat (by simp) fr5) (T.obj _ _ st5)
      have hg:PG (X.comp scope N' cl C s H fp) (.Name x px) (Zed 0):=
        Zdh S.nd (by show N'[0]?=some x; rw [S.names]; rfl) (.inl (lookup_relabel_local S.own)) (.inr (lookup_relabel_local S.own))
      refine wpAny_mono (hg _ s5 _ H5 y u (fun σ2 H2=>σ2=inner src σ (some y)∧H2=H5) I5' r5 ⟨rfl,rfl⟩) (fun _ s6 ⟨σ6,H6,I6,e6,e6'⟩=>?_) fun _ _ z=>False.elim z
      subst e6 e6'
      refine wpAny_mono (helt cl C s H fp _ s6 _ _ _ I6 (step y _ y5)) (fun v s7 ⟨z,H7,I7,r7,q7⟩=>?_) fun _ _ z=>False.elim z
      have o7:=I7.pin (D,{ cls:=.type "list",data:=.seq its.toArray nn }) (by simp)
      have hys:its.toArray.size≤sizeLine:=by
        have:=v3.length
        rw [List.size_toArray]
        omega
      refine wpAny_list_append_plain (hsz:=hys) (items:=its.toArray) (s:=s7) ⟨nn,o7.1⟩ fun h8 hl8 hs8=>?_
      refine ⟨n+1-(i+1),by omega,i+1,ys++[z],its++[v],H7,some y,?_,?_,?_,?_,v3.append (.cons r7 .nil),o7.2.1,q7,by rw [List.length_append,e3]<;>rfl,hlt,rfl⟩
      · have I7':Inv (X.comp scope N' cl C s H fp) [] (inner src σ (some y)) H7 s7:=I7.pins_of fun p hp=>absurd hp (by simp)
        exact I7'.turned (t':=s7.toks) (it:=D) (fun b o hb e=>(hs8.2 b hb).trans e) o7.2.1 hDC (.inr (by show s.heap.objs.size≤D; rw [eD]; exact Nat.le_refl _)) (fun y c e=>Nat.ne_of_lt (cellD y c e)) fun p hp=>absurd (show p∈([]:List (Addr×Obj)) from hp) (by simp)
      · refine T.keep _ _ _ st5 fun b hb o e=>(hs8.2 b (below b (hfl b hb)).2).trans ?_
        exact (I7.pin (b,o) (List.mem_append_right _ (List.mem_append_right _ (Zah hb e)))).1
      · intro b hb
        obtain ⟨o,e,_⟩:=T.obj _ _ st5 b hb
        exact (I7.pin (b,o) (List.mem_append_right _ (List.mem_append_right _ (Zah hb e)))).2.1
      · have:(its++[v]).toArray=its.toArray.push v:=by simp
        rw [this]; exact hl8
    · have ein:i=n:=by omega
      subst ein
      obtain ⟨nn,oD⟩:=id l3
      have I3p:Inv (X.comp scope N' cl C s H fp) [(D,{ cls:=.type "list",data:=.seq its.toArray nn })] (inner src σ xo) H' s':=
        I3.pins_of fun p hp=>by
          have ep:p=(D,{ cls:=.type "list",data:=.seq its.toArray nn }):=by simpa using hp
          subst ep
          exact ⟨oD,d3,hDC,nD,fun v z=>by cases z⟩
      refine thn (T.done (X.comp scope N' cl C s H fp) rfl rfl rfl hcm i _ s' _ H' _ I3p (stat (by simp) f3) t3 (stop ys H' p3)) fun r s4 ⟨hr,I4⟩=>?_
      subst hr
      have o4:=I4.pin (D,{ cls:=.type "list",data:=.seq its.toArray nn }) (by simp)
      have newI:Inv X pins σ (upd H' D (.lst ys)) s4:=I.call' (ch:=fp) I4.os (I4.base.lay d3 (fresh D (Nat.le_refl _))) (I4.hok.lay d3 ⟨by omega,its,nn,v3,o4.1⟩) I4.bare (fun b hb=>
        ⟨(hfp b hb).2.2.2.1,(hfp b hb).2.1,(hfp b hb).2.2.2.2.1,(hfp b hb).2.2.2.2.2⟩)
      obtain ⟨m,hm,_⟩:=I4.loc
      obtain ⟨o,es,ep,ho,hd,_⟩:=id hm
      refine hR D C o ys H' s4 p3 d3 (newI.pins_of fun p hp=>?_) ⟨m,hm⟩ (I.fpOk (by rw [eD]; exact hCle) (by rw [Zz (Ne.symm hDC)]; exact I4.free))
      rcases List.mem_append.mp hp with z | z
      · exact newI.pin p (List.mem_append_right _ z)
      · have ep:p=(C,o):=by simpa using z
        subst ep
        refine ⟨ho,by rw [Zz (Ne.symm hDC)]; exact I4.free,fun z=>?_,nC,fun v z=>?_⟩
        · have:=I.lt
          rw [eD,←z] at this
          exact absurd (Nat.lt_of_lt_of_le this hCle) (Nat.lt_irrefl _)
        · have z':o.data=.cell v:=z
          rw [hd] at z'; cases z'
  exact codeAny_compStart_list (loop _ rfl) (T.self _ 0 _ _ _ (T.keep _ _ _ t0 (fun b _ o e=>old b o e)) (loop _ rfl))
theorem Zkj {sc:Scope} {N:List Str} (S:za scope sc x N N' src) (hsc:X.env.scope=sc) (hN:X.N=N) (hi:PI X (.Name x px) iter wi)
    (helt:∀(cl:List (Str×Addr)) (C:Addr) (s₀:Shared) (H₀:Hp) (fp:List Addr),PE (X.comp scope N' cl C s₀ H₀ fp) elt te) (hcm:X.calm=true:=by rfl) (hs:∀v,foldedSetIterable iter X.env v=pure v:=by intro _; rfl) :
    PE X (.ListComp elt [⟨.Name x px,iter,[],0⟩] scope pos) (tLc wi src te):=by
  subst hsc hN
  intro pins s σ H Q I h
  obtain ⟨cl,hclos,hcl,hcl2⟩:=Zbp (scope:=scope) (env:=X.env) fun y hy hf=>I.ok.has y.1 (.inl (S.free y hy hf))
  rw [eval_ListComp]
  refine wpAny_comprehension_free (use:=none) rfl hs hclos S.kind S.loc ?_
  refine thn (hi pins s σ H _ I h) fun v s1 h1=>thn h1 fun itv s2 h2=>?_
  obtain ⟨it,fp,tn,J,H2,e,I2,T,st2,f2,n,Pv,hn,p0,turn,done⟩:=h2
  subst e
  refine Zg7 I2 hcm S hcl hcl2 T st2 f2 helt hn p0 turn (fun ys H p=>(done ys H p).1) fun D C o ys H' s' p d J' hm ho=>?_
  obtain ⟨m,hm⟩:=hm
  refine ⟨m,hm,fun h' hs'=>?_⟩
  have J2:Inv X pins σ (upd H' D (.lst ys)) s':=J'.pins_of fun q hq=>J'.pin q (List.mem_append_right _ (List.mem_append_left _ hq))
  obtain ⟨f0,f1,f2,f3,f4,f5⟩:=ho
  exact ⟨.ref D,_,J2.turned (t':=s'.toks) (it:=C) (fun b o hb e=>(hs'.2 b hb).trans e) f0 f1 f3 f4 f5,rfl,(done ys H' p).2 D d⟩
theorem Zke {sc:Scope} {N:List Str} {i:Nat} {y:Str} {py spos:Pos} (hnd:X.N.Nodup) (hi':X.N[i]?=some y) (S:za scope sc x N N' src) (hsc:X.env.scope=sc) (hN:X.N=N) (hi:PI X (.Name x px) iter wi)
    (helt:∀(cl:List (Str×Addr)) (C:Addr) (s₀:Shared) (H₀:Hp) (fp:List Addr),PE (X.comp scope N' cl C s₀ H₀ fp) elt te) (hsw:swapsWith (.ListComp elt [⟨.Name x px,iter,[],0⟩] scope pos) (some (.Name y py)) spos.line X.env=pure true:=by rfl)
    (hy:X.env.scope.names.lookup y=some .local:=by rfl) (hcm:X.calm=true:=by rfl) (hs:∀v,foldedSetIterable iter X.env v=pure v:=by intro _; rfl) :
    PS X (.Assign [.Name y py] (.ListComp elt [⟨.Name x px,iter,[],0⟩] scope pos) spos) (ZhK (tLc wi src te) (Zed i)):=by
  subst hsc hN
  intro pins s σ H Dn I h
  obtain ⟨cl,hclos,hcl,hcl2⟩:=Zbp (scope:=scope) (env:=X.env) fun y hy hf=>I.ok.has y.1 (.inl (S.free y hy hf))
  rw [exec_Assign_Name_used _ _ _ _ hsw]
  refine wpAny_bind (wpAny_standAt (wpAny_bind ?_))
  show wpAny _ X.A (do let _ ←comprehension (.ListComp elt [⟨.Name x px,iter,[],0⟩] scope pos) scope X.env _ (newList []) false (eval iter X.env) (some (assign (.Name y py) X.env))) _ _ s
  refine wpAny_bind (wpAny_mono (wpAny_comprehension_free (use:=some (assign (.Name y py) X.env)) (Q:=fun _ s'=>SP X pins Dn .next s') rfl hs hclos S.kind S.loc ?_) (fun _ s' hq=>wpAny_pure (wpAny_pure hq)) fun _ _ e=>e)
  refine thn (hi pins s σ H _ I h) fun v s1 h1=>thn h1 fun itv s2 h2=>?_
  obtain ⟨it,fp,tn,J,H2,e,I2,T,st2,f2,n,Pv,hn,p0,turn,done⟩:=h2
  subst e
  refine Zg7 I2 hcm S hcl hcl2 T st2 f2 helt hn p0 turn (fun ys H p=>(done ys H p).1) fun D C o ys H' s' p d J' hm ho=>?_
  show wpAny _ X.A (assign (.Name y py) X.env (.ref D)) _ _ _
  obtain ⟨m,hm⟩:=hm
  have hg:PG X (.Name y py) (Zed i):=Zdh hnd hi' (.inl hy) (.inr hy)
  refine thn (hg _ s' σ _ (.ref D) (.ref D) (fun σ2 H3=>σ2=σ.set i (some (.ref D))∧H3=upd H' D (.lst ys)) J' rfl ⟨rfl,rfl⟩) fun _ s6 ⟨σ6,H6,I6,e6,e7⟩=>?_
  subst e6 e7
  have pc:=I6.pin (C,o) (by simp)
  have pc':=J'.pin (C,o) (by simp)
  refine ⟨m,hm.at fun q e=>?_,fun h' hs'=>?_⟩
  · rw [pc'.1] at e; cases e; exact pc.1
  have J2:Inv X pins (σ.set i (some (.ref D))) (upd H' D (.lst ys)) s6:=I6.pins_of fun q hq=>I6.pin q (List.mem_append_right _ (List.mem_append_left _ hq))
  obtain ⟨f0,f1,f2,f3,f4,f5⟩:=ho
  exact ⟨_,_,J2.turned (t':=s6.toks) (it:=C) (fun b o hb e=>(hs'.2 b hb).trans e) f0 f1 f3 f4 f5,(done ys H' p).2 D d⟩
end
end L2
namespace L2
open PySem PySem.Spec PyProof.Rows PySem.SeqAt
section
variable {X:Cx}
theorem Zf9 {bs:List Bool}:(List.range bs.length).all (fun i=>bs.getD i false)=bs.all id:=by
  induction bs with
  | nil=>rfl
  | cons b r ih=>
    rw [List.length_cons,List.range_succ_eq_map,List.all_cons,List.all_map,List.all_cons]
    have:((fun i=>(b::r).getD i false)∘Nat.succ)=fun i=>r.getD i false:=by funext i; rfl
    rw [this,ih]
    rfl
theorem Zhu (hc:X.calm=true):CallR X (.builtin "all") (fun xs H Q=>∃(p:Addr) (bs:List Bool),xs=[.ref p]∧SqL X.K H p (bs.map V.bl)∧Q (.bl (bs.all id)) H):=by
  intro pins s σ H xs us Q I r h
  obtain ⟨p,bs,rfl,hq,q⟩:=h
  obtain ⟨u,rfl,rx⟩:=ZbM r
  cases rx
  obtain ⟨its,r',pl,hz⟩:=I.list hq
  have hl:=r'.length
  rw [List.length_map] at hl
  refine call_all_walk (wpAny_pyIter_list pl.isList ?_)
  have hne:p≠s.heap.objs.size:=by
    obtain ⟨o,n,e,_⟩:=pl
    exact Nat.ne_of_lt (Heap.lt_size e)
  refine ⟨s.heap.objs.size,_,_,_,_,_,fun i=>bs.getD i false,rfl,Walks.list (A:=X.A.in1) (I.ok.hd hc) _ p hne its.toArray,⟨⟨_,Heap.get?_push_size _ rfl,rfl,rfl⟩,?_⟩,?_,fun h' tk hk=>?_⟩
  · obtain ⟨o,n,e,hc',hd,hs⟩:=pl
    exact ⟨o,Heap.get?_push_of_some _ e,hc',n,hs⟩
  · intro i v s2 Q2 E2 hp q2
    have hp':its[i]?=some v:=by simpa using hp
    have hi:i<bs.length:=by rw [hl]; exact (List.getElem?_eq_some_iff.mp hp').1
    obtain ⟨u,hu,ru⟩:=r'.get (i:=i) (x:=.bl (bs.getD i false)) (by rw [List.getElem?_map,List.getElem?_eq_getElem hi,List.getD_eq_getElem?_getD,List.getElem?_eq_getElem hi]; rfl)
    rw [hp'] at hu; cases hu
    cases ru
    exact wpAny_truthy_bool q2
  · refine ⟨.bl (bs.all id),H,(I.kept (t':=s.toks) fun b o e=>Heap.get?_push_of_some _ e).turned (it:=s.heap.objs.size) (fun b o hb e=>hk b o (by simpa using hb) e) (I.hok.fresh (Nat.le_refl _)) (Nat.ne_of_gt I.lt) (.inr I.sz) (fun x c e z=>?_) (fun q hq z=>?_),?_,q⟩
    · obtain ⟨v,w'⟩:=I.cell x c e
      exact absurd w'.lt (by rw [z]; exact Nat.lt_irrefl _)
    · exact absurd (Heap.lt_size (I.pin q hq).1) (by rw [z]; exact Nat.lt_irrefl _)
    · show Value.bool _=Value.bool _
      rw [List.size_toArray,←hl,Zf9]
theorem ZcP {ns:List Int}:∀k,k≤ns.length→preSum (fun i=>ns.getD i 0) k=(ns.take k).sum
  | 0,_=>by simp [preSum]
  | k+1,h=>by
    have hk:k<ns.length:=by omega
    rw [preSum,ZcP k (by omega),List.take_add_one,List.getElem?_eq_getElem hk,List.getD_eq_getElem?_getD,List.getElem?_eq_getElem hk]
    show _=(ns.take k++[ns[k]]).sum
    rw [List.sum_append,List.sum_cons,List.sum_nil,Int.add_zero]
    rfl
theorem Zht (hc:X.calm=true):CallR X (.builtin "sum") (fun xs H Q=>∃(p:Addr) (ns:List Int),xs=[.ref p]∧SqL X.K H p (ns.map V.int)∧Q (.int ns.sum) H):=by
  intro pins s σ H xs us Q I r h
  obtain ⟨p,ns,rfl,hq,q⟩:=h
  obtain ⟨u,rfl,rx⟩:=ZbM r
  cases rx
  obtain ⟨its,r',pl,hz⟩:=I.list hq
  have hl:=r'.length
  rw [List.length_map] at hl
  refine call_sum_walkG (wpAny_pyIter_list pl.isList ?_)
  have hne:p≠s.heap.objs.size:=by
    obtain ⟨o,n,e,_⟩:=pl
    exact Nat.ne_of_lt (Heap.lt_size e)
  refine ⟨s.heap.objs.size,_,_,_,_,_,fun i=>ns.getD i 0,rfl,Walks.list (A:=X.A.in1) (I.ok.hd hc) _ p hne its.toArray,⟨⟨_,Heap.get?_push_size _ rfl,rfl,rfl⟩,?_⟩,?_,?_,fun h' tk t' hk=>?_⟩
  · obtain ⟨o,n,e,hc',hd,hs⟩:=pl
    exact ⟨o,Heap.get?_push_of_some _ e,hc',n,hs⟩
  · intro b hb
    have hb':b=s.heap.objs.size∨b=p:=by simpa using hb
    rcases hb' with rfl | rfl
    · show _<(s.heap.push _).objs.size
      rw [Heap.size_push]; exact Nat.lt_succ_self _
    · obtain ⟨o,n,e,_⟩:=pl
      show _<(s.heap.push _).objs.size
      rw [Heap.size_push]; exact Nat.lt_succ_of_lt (Heap.lt_size e)
  · intro i v hp
    have hp':its[i]?=some v:=by simpa using hp
    have hi:i<ns.length:=by rw [hl]; exact (List.getElem?_eq_some_iff.mp hp').1
    obtain ⟨u,hu,ru⟩:=r'.get (i:=i) (x:=.int (ns.getD i 0)) (by rw [List.getElem?_map,List.getElem?_eq_getElem hi,List.getD_eq_getElem?_getD,List.getElem?_eq_getElem hi]; rfl)
    rw [hp'] at hu; cases hu
    exact ru
  · refine ⟨.int ns.sum,H,(I.kept (t':=s.toks) fun b o e=>Heap.get?_push_of_some _ e).turned (it:=s.heap.objs.size) (fun b o hb e=>hk b o (by simpa using hb) e) (I.hok.fresh (Nat.le_refl _)) (Nat.ne_of_gt I.lt) (.inr I.sz) (fun x c e z=>?_) (fun q hq z=>?_),⟨t',?_⟩,q⟩
    · obtain ⟨v,w'⟩:=I.cell x c e
      exact absurd w'.lt (by rw [z]; exact Nat.lt_irrefl _)
    · exact absurd (Heap.lt_size (I.pin q hq).1) (by rw [z]; exact Nat.lt_irrefl _)
    · rw [List.size_toArray,←hl,ZcP _ (Nat.le_refl _),List.take_length]
mutual
inductive RdV (K:PySem.W.Frag) (H:Hp):V→PyData→Prop
  | non:RdV K H .non .none
  | bl (b:Bool):RdV K H (.bl b) (.bool b)
  | int (i:Int):RdV K H (.int i) (.int i)
  | str (x:Str):RdV K H (.str x) (.str x)
  | lst {a:Addr} {xs:List V} {ds:List PyData}:SqL K H a xs→RdVs K H xs ds→RdV K H (.ref a) (.list ds)
  | tup {a:Addr} {xs:List V} {ds:List PyData}:SqT K H a xs→RdVs K H xs ds→RdV K H (.ref a) (.tuple ds)
inductive RdVs (K:PySem.W.Frag) (H:Hp):List V→List PyData→Prop
  | nil:RdVs K H [] []
  | cons {x:V} {xs:List V} {d:PyData} {ds:List PyData}:RdV K H x d→RdVs K H xs ds→RdVs K H (x::xs) (d::ds)
end
mutual
theorem RdV.reads {pins:List (Addr×Obj)} {σ:St} {H:Hp} {s:Shared} (I:Inv X pins σ H s):∀{x:V} {d:PyData} {u:Value},RdV X.K H x d→RelV x u→∃as,Reads s.heap u d as
  | _,_,_,.non,r=>by cases r; exact ⟨_,.none⟩
  | _,_,_,.bl b,r=>by cases r; exact ⟨_,.bool b⟩
  | _,_,_,.int i,r=>by obtain ⟨t,rfl⟩:=r; exact ⟨_,.int i t⟩
  | _,_,_,.str x,r=>by obtain ⟨t,rfl⟩:=r; exact ⟨_,.str x t⟩
  | _,_,_,.lst h hs,r=>by
    cases r
    obtain ⟨its,rv,⟨o,n,e,hc,hd,hq⟩,_⟩:=I.list h
    obtain ⟨as,q⟩:=RdVs.reads I hs rv
    exact ⟨_,.list e hc hq (by simpa using q)⟩
  | _,_,_,.tup h hs,r=>by
    cases r
    obtain ⟨its,rv,⟨o,e,hc,n,hq⟩,_⟩:=I.tuple h
    obtain ⟨as,q⟩:=RdVs.reads I hs rv
    exact ⟨_,.tuple e hc hq (by simpa using q)⟩
theorem RdVs.reads {pins:List (Addr×Obj)} {σ:St} {H:Hp} {s:Shared} (I:Inv X pins σ H s):∀{xs:List V} {ds:List PyData} {us:List Value},RdVs X.K H xs ds→Vals xs us→∃as,ReadsAll s.heap us ds as
  | _,_,_,.nil,r=>by cases r; exact ⟨_,.nil⟩
  | _,_,_,.cons h hs,r=>by
    cases r with
    | cons r rr=>
      obtain ⟨as,q⟩:=RdV.reads I h r
      obtain ⟨bs,q2⟩:=RdVs.reads I hs rr
      exact ⟨_,.cons q q2⟩
end
theorem Zjk (hu:X.A.units+64<cLine):OpR X (compareOp .Eq) (fun x y H Q=>∃d e:PyData,RdV X.K H x d∧RdV X.K H y e∧shaped d=true∧shaped e=true∧noMix d e=true∧Q (.bl (same d e)) H):=by
  intro pins s σ H x y v u Q I rx ry h
  obtain ⟨d,e,hd,he,sd,se,hm,q⟩:=h
  obtain ⟨as,ra⟩:=hd.reads I rx
  obtain ⟨bs,rb⟩:=he.reads I ry
  exact eq_dataH_same ra rb sd se hu hm ⟨.bl _,H,I,rfl,q⟩
theorem Zjh (hu:X.A.units+64<cLine):OpR X (compareOp .NotEq) (fun x y H Q=>∃d e:PyData,RdV X.K H x d∧RdV X.K H y e∧shaped d=true∧shaped e=true∧noMix d e=true∧Q (.bl (!same d e)) H):=by
  intro pins s σ H x y v u Q I rx ry h
  obtain ⟨d,e,hd,he,sd,se,hm,q⟩:=h
  obtain ⟨as,ra⟩:=hd.reads I rx
  obtain ⟨bs,rb⟩:=he.reads I ry
  exact ne_dataH_same ra rb sd se hu hm ⟨.bl _,H,I,rfl,q⟩
theorem Zh1:OpR X (compareOp .IsNot) (fun x y H Q=>∃b c:Bool,x=.bl b∧y=.bl c∧Q (.bl (!(b == c))) H):=by
  intro pins s σ H x y v u Q I rx ry h
  obtain ⟨b,c,rfl,rfl,q⟩:=h
  cases rx
  cases ry
  have e:(Value.bool b == Value.bool c)=(b == c):=by cases b<;>cases c<;>rfl
  exact wpAny_isNot_plain rfl ⟨.bl _,H,I,rfl,by rw [e]; exact q⟩
def Zas (xs:List V) (lo hi st:Option Int):List V:=(sliceRange (sliceBounds lo hi st xs.length).1 (sliceBounds lo hi st xs.length).2.1 (sliceBounds lo hi st xs.length).2.2).filterMap (xs[·]?)
theorem Vals.pick {xs:List V} {us:List Value} (r:Vals xs us):∀ks:List Nat,Vals (ks.filterMap (xs[·]?)) (ks.filterMap (us[·]?))
  | []=>.nil
  | k::ks=>by
    cases e:xs[k]? with
    | none=>
      have e':=r.none_of e
      rw [List.filterMap_cons_none e,List.filterMap_cons_none e']
      exact r.pick ks
    | some x=>
      obtain ⟨u,e',q⟩:=r.get e
      rw [List.filterMap_cons_some e,List.filterMap_cons_some e']
      exact .cons q (r.pick ks)
def Zlj (K:PySem.W.Frag) (te:TE) (tl th ts:TO):TE:=fun σ H Q=>te σ H fun x H1=>tl σ H1 fun l H2=>th σ H2 fun u H3=>ts σ H3 fun st H4=>∃a xs,x=.ref a∧SqL K H4 a xs∧st≠some 0∧(Zas xs l u st).length≤sizeLine∧
  ∀p,H4 p=none→Q (.ref p) (upd H4 p (.lst (Zas xs l u st)))
theorem ZfO {e sp:Expr} {te:TE} {lo hi:Option Expr} {tl th ts:TO} {pos p2:Pos} (he:PE X e te) (hl:PO X lo tl) (hu:PO X hi th) (hs:PO X (some sp) ts):PE X (.Subscript e (.Slice lo hi (some sp) p2) pos) (Zlj X.K te tl th ts):=by
  intro pins s σ H Q I h
  refine Subscript_ (thn (he pins s σ H _ I h) fun v s1 ⟨x,H1,I1,r1,q1⟩=>?_)
  refine wpAny_Slice (thn (hl pins s1 σ H1 _ I1 q1) fun vl s2 ⟨l,H2,I2,pl,q2⟩=>thn (hu pins s2 σ H2 _ I2 q2) fun vu s3 ⟨u,H3,I3,pu,q3⟩=>thn (hs pins s3 σ H3 _ I3 q3) fun vs s4 ⟨st,H4,I4,ps,q4⟩=>?_)
  obtain ⟨a,xs,rfl,hx,h0,hz',q⟩:=q4
  cases r1
  have I5:Inv X pins σ H4 { s4 with heap:=s4.heap.push { cls:=.type "slice",data:=.fields #[vl,vu,vs] } }:=I4.kept (t':=s4.toks) fun b ob q=>Heap.get?_push_of_some _ q
  obtain ⟨its,r,ht,hz⟩:=I5.list hx
  have hlen:=r.length
  show wpAny (model X.prog X.w) X.A (subscriptTail e (.Slice lo hi (some sp) p2) (.ref a) (.ref s4.heap.objs.size)) (EP X pins σ Q) X.xe { s4 with heap:=s4.heap.push { cls:=.type "slice",data:=.fields #[vl,vu,vs] } }
  refine tail_any (ops:=[.ref a,.ref s4.heap.objs.size]) ht.isList.typeIs slot_list_getitem.lookup (wpAny_getItem_list_slice ht.isList (Heap.IsSliceOf.new ..) pl pu ps h0 ?_ (by rw [List.size_toArray]<;>omega)) (by with_unfolding_all rfl)
  have ep:slicePick its.toArray l u st=((sliceRange (sliceBounds l u st xs.length).1 (sliceBounds l u st xs.length).2.1 (sliceBounds l u st xs.length).2.2).filterMap (its[·]?)).toArray:=by
    unfold slicePick
    rw [List.size_toArray,←hlen]
    simp
  rw [ep]
  refine ⟨.ref _,_,I5.laid (t':=s4.toks) (o:=.lst (Zas xs l u st)) (fun b ob q=>Heap.get?_push_of_some _ q) (Nat.le_refl _) ?_,rfl,q _ (I5.hok.fresh (Nat.le_refl _))⟩
  exact ⟨hz',_,0,r.pick _,Heap.get?_push_size _ rfl⟩
theorem ZbF:fillsNumberSlot (.type "tuple") "mul"=pure false:=
  PySem.fillsNumberSlot_seq (id:="tuple.__mul__") (r:=some (.builtin "tuple.__rmul__")) F.slot_tuple_mul.lookup (by decide +kernel) F.slot_tuple_rmul.lookup (by decide +kernel)
theorem Zdd:seqRepeat? (.type "tuple")=pure (some (.builtin "tuple.__mul__")):=by
  unfold seqRepeat?
  rw [PySem.seqSlot_of (T:="tuple") (name:="__mul__") (id:="tuple.__mul__") F.slot_tuple_mul.lookup (by decide +kernel),PySem.seqSlot_of (T:="tuple") (name:="__rmul__") (id:="tuple.__rmul__") F.slot_tuple_rmul.lookup (by decide +kernel)]
  rfl
end
end L2
namespace L2
open PySem PySem.Spec PyProof.Rows Builtin
theorem Zco (a:Int) (t:Tok) (l:Addr) (items:Array Value) (n:Nat) (dd:Option Addr) (sl:Array (Option Value)) :
    Meets (Builtin.«int.__rmul__» ⟨[.int a t,.ref l],[]⟩) (fun _ R s=>s.heap.get? l=some { cls:=.type "tuple",dict:=dd,data:=.seq items n,slots:=sl }∧R (.ok (.ret Value.notImplemented)) s):=
  .of_wp fun prog w A R s h=>by obtain ⟨hp,g,d,tk,os⟩:=s; obtain ⟨hl,h⟩:=h; wp_walk; exact ⟨_,rfl,h⟩
theorem Zcz (l:Addr) (items:Array Value) (n:Nat) (dd:Option Addr) (sl:Array (Option Value)) (u:Tok) :
    Meets (Builtin.«tuple.__mul__» ⟨[.ref l,.int 1 u],[]⟩) (fun _ R s=>s.heap.get? l=some { cls:=.type "tuple",dict:=dd,data:=.seq items n,slots:=sl }∧R (.ok (.ret (Value.ref l))) s):=
  .of_wp fun prog w A R s h=>by
    obtain ⟨hp,g,d,tk,os⟩:=s; obtain ⟨hl,h⟩:=h
    wp_walk
    exact ⟨_,rfl,h⟩
theorem Zca (l:Addr) (items:Array Value) (n:Nat) (dd:Option Addr) (sl:Array (Option Value)) (u:Tok) (h0:items.isEmpty=false) :
    Meets (Builtin.«tuple.__mul__» ⟨[.ref l,.int 0 u],[]⟩) (fun _ R s=>s.heap.get? l=some { cls:=.type "tuple",dict:=dd,data:=.seq items n,slots:=sl }∧R (.ok (.ret (Value.ref s.heap.objs.size))) { s with heap:=s.heap.push { cls:=.type "tuple",data:=.seq #[] } }):=
  .of_wp fun prog w A R s h=>by
    obtain ⟨hp,g,d,tk,os⟩:=s; obtain ⟨hl,h⟩:=h
    wp_walk
    exact ⟨_,rfl,h⟩
theorem Zcb (l:Addr) (items:Array Value) (n:Nat) (dd:Option Addr) (sl:Array (Option Value)) (x:Int) (u:Tok) (h0:items.isEmpty=false) (h1:2≤x) (h2:x<1000) (h3:items.size*x≤1000) :
    Meets (Builtin.«tuple.__mul__» ⟨[.ref l,.int x u],[]⟩) (fun _ R s=>s.heap.get? l=some { cls:=.type "tuple",dict:=dd,data:=.seq items n,slots:=sl }∧R (.ok (.ret (Value.ref s.heap.objs.size))) { s with heap:=s.heap.push { cls:=.type "tuple",data:=.seq (List.foldl (fun x1 x2=>x1++x2) #[] (List.replicate x.toNat items)) } }):=
  .of_wp fun prog w A R s h=>by
    obtain ⟨hp,g,d,tk,os⟩:=s; obtain ⟨hl,h⟩:=h
    have c1:¬(decide (x < -(2 ^ 63)) || decide (x≥2 ^ 63))=true:=by rw [decide_eq_false (by omega),decide_eq_false (by omega)]; decide
    have c2:¬(items.isEmpty || x == 1)=true:=by
      have:(x == 1)=false:=by simp; omega
      rw [h0,this]; decide
    have c3:¬(decide (x≤0) || items.isEmpty)=true:=by rw [h0,decide_eq_false (by omega)]; decide
    have c4:¬((items.size:Int)*x > (2 ^ 63-1)/8):=by omega
    have c5:¬Tuple.tupleTooMany ((items.size:Int)*x)=true:=by
      unfold Tuple.tupleTooMany
      rw [decide_eq_false (by rw [sizeLine_eq]; omega)]
      decide
    wp_walk
    rw [if_neg c1]
    wp_walk
    rw [if_neg c2]
    show wpAny (model prog w) A.in1 (if (decide (x≤0) || items.isEmpty)=true then _ else if (items.size:Int)*x > (2 ^ 63-1)/8 then _ else if Tuple.tupleTooMany ((items.size:Int)*x)=true then _ else _) _ _ _
    rw [if_neg c3,if_neg c4,if_neg c5]
    have hz:(List.foldl (fun x1 x2=>x1++x2) #[] (List.replicate x.toNat items)).size≤sizeLine:=by
      have:(List.replicate x.toNat items).foldl (fun x1 x2=>x1++x2) #[]=(List.replicate x.toNat items.toList).flatten.toArray:=by
        have:=ZaK items.toList x.toNat []
        simpa using this
      rw [this,List.size_toArray,Zdr,sizeLine_eq]
      have e:items.toList.length=items.size:=by simp
      rw [e]
      have e2:((x.toNat*items.size:Nat):Int)=(items.size:Int)*x:=by
        rw [Int.natCast_mul,Int.mul_comm]
        congr 1
        omega
      omega
    wp_walk
    exact ⟨_,rfl,h⟩
section
variable {X:Cx}
def Zj8 (K:PySem.W.Frag):R2:=fun x y H Q=>∃(a:Addr) (k:Int) (xs:List V),x=.ref a∧y=.int k∧SqT K H a xs∧xs≠[]∧0≤k∧k<1000∧(xs.length:Int)*k≤1000∧
  (k=1→Q (.ref a) H)∧(k≠1→∀p,H p=none→Q (.ref p) (upd H p (.tup (List.replicate k.toNat xs).flatten)))
theorem op_repT:OpR X (binaryOp .Mult) (Zj8 X.K):=by
  intro pins s σ H x y v u Q I rx ry h
  obtain ⟨a,k,xs,rfl,rfl,hH,hne,h0,h1,h2,q1,q2⟩:=h
  cases rx
  obtain ⟨t,rfl⟩:=ry
  obtain ⟨its,r,pl,hz⟩:=I.tuple hH
  obtain ⟨⟨oc,dd,data,sl⟩,e,hc,n,hd⟩:=pl
  simp only at hc hd
  subst hc hd
  have hl:=r.length
  have he:its.toArray.isEmpty=false:=by
    cases r with
    | nil=>exact absurd rfl hne
    | cons _ _=>rfl
  refine wpAny_binaryOp_repeat_ref (T:="tuple") (U:="int") (by decide) ⟨_,e,rfl⟩ (fun s'=>typeIs_int s' k t) ZbF F.fills_int_mul F.slot_int_rmul Zdd F.slot_int_index.lookup
    (call_meets F.slot_int_rmul (typeIs_int s k t) F.entry_int_rmul (F.args_int_rmul_2 _ _) (Zco k t a its.toArray n dd sl) ⟨e,rfl,⟨_,e,rfl⟩,?_⟩)
  by_cases k1:k=1
  · subst k1
    exact call_meets F.slot_tuple_mul ⟨_,e,rfl⟩ F.entry_tuple_mul (F.args_tuple_mul_2 _ _) (Zcz a its.toArray n dd sl t) ⟨e,.ref a,H,I,rfl,q1 rfl⟩
  · by_cases k0:k=0
    · subst k0
      refine call_meets F.slot_tuple_mul ⟨_,e,rfl⟩ F.entry_tuple_mul (F.args_tuple_mul_2 _ _) (Zca a its.toArray n dd sl t he) ⟨e,.ref s.heap.objs.size,_,I.laid (t':=s.toks) (o:=.tup []) (fun b ob q=>Heap.get?_push_of_some _ q) (Nat.le_refl _) ?_,rfl,?_⟩
      · exact ⟨Nat.zero_le _,[],.nil,IsTup.new _ _⟩
      · exact q2 k1 _ (I.hok.fresh (Nat.le_refl _))
    · refine call_meets F.slot_tuple_mul ⟨_,e,rfl⟩ F.entry_tuple_mul (F.args_tuple_mul_2 _ _) (Zcb a its.toArray n dd sl k t he (by omega) h1 (by rw [List.size_toArray,←hl]; exact h2)) ⟨e,?_⟩
      have hnew:List.foldl (fun x1 x2=>x1++x2) #[] (List.replicate k.toNat its.toArray)=(List.replicate k.toNat its).flatten.toArray:=by
        have:=ZaK its k.toNat []
        rw [List.nil_append] at this
        exact this
      rw [hnew]
      refine ⟨.ref s.heap.objs.size,_,I.laid (t':=s.toks) (o:=.tup (List.replicate k.toNat xs).flatten) (fun b ob q=>Heap.get?_push_of_some _ q) (Nat.le_refl _) ?_,rfl,q2 k1 _ (I.hok.fresh (Nat.le_refl _))⟩
      refine ⟨?_,_,r.rep k.toNat,IsTup.new _ _⟩
      rw [Zdr,sizeLine_eq]
      have e2:((k.toNat*xs.length:Nat):Int)=(xs.length:Int)*k:=by
        rw [Int.natCast_mul,Int.mul_comm]
        congr 1
        omega
      omega
end
end L2
namespace My
open PySem L2
def ZI (t:Int):Int:=if t=0 then 0 else (t-1) % 65535+1
theorem Zbo {t:Int} (h:0≤t):0≤ZI t∧ZI t≤65535∧(ZI t-t) % 65535=0∧(ZI t=0↔t=0):=by
  unfold ZI; split<;>omega
theorem Za6 {t:Int} (h:0≤t) (h1:t≤65535):ZI t=t:=by
  unfold ZI; split<;>omega
theorem ZcX {t:Int} (h:65535<t):ZI (t % 65536+t/65536)=ZI t∧0≤t % 65536+t/65536∧t % 65536+t/65536<t:=by
  unfold ZI
  rw [if_neg (by omega),if_neg (by omega)]
  omega
def Zt:List Int→Int
  | []=>0
  | [a]=>256*a
  | a::b::r=>256*a+b+Zt r
def Zap:List Int→List Int
  | []=>[]
  | [a]=>[a]
  | a::_::r=>a::Zap r
def Zce:List Int→List Int
  | []=>[]
  | [_]=>[]
  | _::b::r=>b::Zce r
theorem ZeX:∀ns:List Int,256*(Zap ns).sum+(Zce ns).sum=Zt ns
  | []=>rfl
  | [a]=>by simp [Zap,Zce,Zt]
  | a::b::r=>by
    have:=ZeX r
    simp only [Zap,Zce,Zt,List.sum_cons]
    omega
theorem ZeV:∀{ns:List Int},(∀z∈ns,0≤z)→0≤Zt ns
  | [],_=>by simp [Zt]
  | [a],h=>by have:=h a (by simp); simp only [Zt]; omega
  | a::b::r,h=>by
    have h1:=h a (by simp)
    have h2:=h b (by simp)
    have h3:=ZeV (ns:=r) fun z hz=>h z (by simp [hz])
    simp only [Zt]; omega
theorem Zb8:∀{ns ms:List Int},ns.length % 2=0→Zt (ns++ms)=Zt ns+Zt ms
  | [],ms,_=>by simp [Zt]
  | [a],ms,h=>by simp at h
  | a::b::r,ms,h=>by
    have:=Zb8 (ns:=r) (ms:=ms) (by simp only [List.length_cons] at h; omega)
    show Zt (a::b::(r++ms))=_
    simp only [Zt,this]
    omega
theorem ZeM {w:Int} (h:0≤w):ZI (w+(256*((65535-ZI w)/256)+(65535-ZI w) % 256))=65535:=by
  have e:256*((65535-ZI w)/256)+(65535-ZI w) % 256=65535-ZI w:=by omega
  rw [e]
  unfold ZI
  split<;>split<;>omega
theorem zS:∀(m:Nat) (ns:List Int),ns.length≤2*m→((List.range m).map fun k=>2*k).filterMap (fun i=>(ns.map V.int)[i]?)=(Zap ns).map V.int
  | 0,ns,h=>by
    have:ns=[]:=List.length_eq_zero_iff.mp (by omega)
    subst this; rfl
  | m+1,ns,h=>by
    rw [List.range_succ_eq_map,List.map_cons,List.map_map]
    have shift:∀(xs:List Int),(List.map ((fun k=>2*k)∘Nat.succ) (List.range m)).filterMap (fun i=>(xs.map V.int)[i]?)=((List.range m).map fun k=>2*k).filterMap (fun i=>((xs.drop 2).map V.int)[i]?):=fun xs=>by
      rw [List.filterMap_map,List.filterMap_map]
      congr 1
      funext k
      show (xs.map V.int)[2*(k+1)]?=((xs.drop 2).map V.int)[2*k]?
      rw [List.getElem?_map,List.getElem?_map,List.getElem?_drop]
      congr 2
      omega
    match ns,h with
    | [],_=>
      have:=shift []
      rw [List.filterMap_cons_none (by rfl),this,zS m _ (by simp)]
      rfl
    | [a],_=>
      have:=shift [a]
      rw [List.filterMap_cons_some (b:=V.int a) (by rfl),this,zS m _ (by simp)]
      rfl
    | a::b::r,h=>
      have:=shift (a::b::r)
      rw [List.filterMap_cons_some (b:=V.int a) (by rfl),this,zS m _ (by simp only [List.length_cons] at h; simp; omega)]
      rfl
theorem Zfc:∀ns:List Int,Zce ns=Zap (ns.drop 1)
  | []=>rfl
  | [_]=>rfl
  | [_,_]=>rfl
  | _::b::c::r=>by
    have:=Zfc (c::r)
    simp only [Zce,List.drop,Zap] at *
    rw [this]
theorem Zf6 (ns:List Int):Zas (ns.map V.int) none none (some 2)=(Zap ns).map V.int:=by
  unfold Zas sliceBounds sliceRange
  simp only [Option.getD_some,List.length_map,show ((2:Int) > 0)=True from eq_true (by decide),if_true]
  have e:(if (0:Int)<(ns.length:Int) then ((ns.length:Int)-0+2-1)/2 else 0).toNat=(ns.length+1)/2:=by split<;>omega
  rw [e]
  have e2:(fun k:Nat=>((0:Int)+2*(k:Int)).toNat)=fun k=>2*k:=by funext k; omega
  rw [e2]
  exact zS _ ns (by omega)
theorem Zhn (ns:List Int):Zas (ns.map V.int) (some 1) none (some 2)=(Zce ns).map V.int:=by
  unfold Zas sliceBounds sliceRange
  simp only [Option.getD_some,List.length_map,show ((2:Int) > 0)=True from eq_true (by decide),show ((1:Int)<0)=False from eq_false (by decide),if_true,if_false]
  rw [Zfc]
  by_cases h:ns.length=0
  · have:ns=[]:=List.length_eq_zero_iff.mp h
    subst this; rfl
  · have e0:max (0:Int) (min 1 (ns.length:Int))=1:=by omega
    rw [e0]
    have e:(if (1:Int)<(ns.length:Int) then ((ns.length:Int)-1+2-1)/2 else 0).toNat=ns.length/2:=by split<;>omega
    rw [e,←zS (ns.length/2) (ns.drop 1) (by rw [List.length_drop]; omega),List.filterMap_map,List.filterMap_map]
    congr 1
    funext k
    show (ns.map V.int)[((1:Int)+2*(k:Int)).toNat]?=((ns.drop 1).map V.int)[2*k]?
    rw [List.getElem?_map,List.getElem?_map,List.getElem?_drop]
    congr 2
theorem ZcY:∀ns:List Int,(Zap ns).length≤ns.length
  | []=>Nat.le_refl _
  | [_]=>Nat.le_refl _
  | _::_::r=>by have:=ZcY r; simp only [Zap,List.length_cons]; omega
theorem Zd1:∀ns:List Int,(Zce ns).length≤ns.length
  | []=>Nat.le_refl _
  | [_]=>Nat.zero_le _
  | _::_::r=>by have:=Zd1 r; simp only [Zce,List.length_cons]; omega
def wpre (ns:List Int):Nat→Int
  | 0=>0
  | i+1=>wpre ns i+ns.getD i 0*(if i % 2=0 then 256 else 1)
theorem ZdN (a b:Int) (r:List Int):∀i,wpre (a::b::r) (i+2)=256*a+b+wpre r i
  | 0=>by simp [wpre]; omega
  | i+1=>by
    have e:(i+2) % 2=i % 2:=by omega
    rw [wpre,ZdN a b r i]
    show _+r.getD i 0*(if (i+2) % 2=0 then 256 else 1)=256*a+b+(wpre r i+r.getD i 0*(if i % 2=0 then 256 else 1))
    rw [e]
    omega
theorem ZdO:∀ns:List Int,wpre ns ns.length=Zt ns
  | []=>rfl
  | [a]=>by simp [wpre,Zt]; omega
  | a::b::r=>by
    show wpre (a::b::r) (r.length+2)=_
    rw [ZdN,ZdO r]
    rfl
end My
namespace L2.MM
open PySem PySem.Spec PyProof.Rows
theorem nr {α:Sort _} {a b:α} (h:a=b):a=b:=h
inductive D where
  | non | bl (b:Bool) | int (i:Int) | str (x:Str) | ty (n:String)
  | scr (ns:List Int) | tup (xs:List D) | lst (xs:List D) | ref (l:Nat)
  deriving Inhabited
inductive Zeo where
  | lst (xs:List D) | dK (kvs:List (Key×D)) | dT (kvs:List (List Key×D)) | ins (C:Str) (fs:List (Str×D))
abbrev Sto:=List Zeo
structure Bx where
  n:Nat
  m:Nat→Addr
  F:Addr→Prop
  os:List Addr
  ks:Addr→List Int→Prop
def Bx.ok (B:Bx) (a:Addr):Prop:=(∀i,i<B.n→B.m i≠a)∧¬B.F a∧a∉B.os
mutual
def RepV (B:Bx) (H:Hp):D→V→Prop
  | .non,v=>v=.non
  | .bl b,v=>v=.bl b
  | .int i,v=>v=.int i
  | .str x,v=>v=.str x
  | .ty n,v=>v=.ty n
  | .scr ns,v=>∃a,v=.ref a∧((∃o,H a=some (.frz o (.lst (ns.map V.int)))∧B.ok a)∨B.ks a ns)
  | .tup xs,v=>∃a vs,v=.ref a∧H a=some (.tup vs)∧B.ok a∧RepL B H xs vs
  | .lst xs,v=>∃a vs,v=.ref a∧H a=some (.lst vs)∧B.ok a∧RepL B H xs vs
  | .ref l,v=>l<B.n∧v=.ref (B.m l)
def RepL (B:Bx) (H:Hp):List D→List V→Prop
  | [],vs=>vs=[]
  | d::ds,vs=>∃v r,vs=v::r∧RepV B H d v∧RepL B H ds r
end
abbrev RepKV {κ:Type} (B:Bx) (H:Hp):List (κ×D)→List (κ×V)→Prop:=Paired fun p q=>p.1=q.1∧RepV B H p.2 q.2
structure ExtS (B B':Bx) (H H':Hp):Prop where
  n:B.n≤B'.n
  m:∀i,i<B.n→B'.m i=B.m i
  fr:∀i,B.n≤i→i<B'.n→H (B'.m i)=none
  keep:∀a o,H a=some o→(∀i,i<B.n→B.m i≠a)→a∉B.os→H' a=some o
  sm:∀a,H a≠none→H' a≠none
  os:∀a,a∈B'.os→a∈B.os∨H a=none
  F:B'.F=B.F
  ks:B'.ks=B.ks
structure ExtE (B B':Bx) (H H':Hp):Prop extends ExtS B B' H H' where
  osE:B'.os=B.os
  ko:∀a o,a∈B.os→(∀i,i<B.n→B.m i≠a)→H a=some o→H' a=some o
theorem ExtS.refl (B:Bx) (H:Hp):ExtS B B H H:=⟨Nat.le_refl _,fun _ _=>rfl,fun i h h'=>absurd h' (Nat.not_lt.mpr h),fun _ _ h _ _=>h,fun _ h=>h,fun _ h=>.inl h,rfl,rfl⟩
theorem ExtE.refl (B:Bx) (H:Hp):ExtE B B H H:=⟨ExtS.refl B H,rfl,fun _ _ _ _ h=>h⟩
section
variable {B B' B'':Bx} {H H' H'':Hp}
theorem Bx.ok.ext {a:Addr} {o:HO} (k:B.ok a) (E:ExtS B B' H H') (h:H a=some o):B'.ok a∧H' a=some o:=by
  refine ⟨⟨fun i hi e=>?_,by rw [E.F]; exact k.2.1,fun z=>?_⟩,E.keep a o h k.1 k.2.2⟩
  · by_cases q:i<B.n
    · rw [E.m i q] at e; exact k.1 i q e
    · have:=E.fr i (Nat.not_lt.mp q) hi
      rw [e,h] at this; cases this
  · rcases E.os a z with z | z
    · exact k.2.2 z
    · rw [h] at z; cases z
theorem ExtS.trans (E:ExtS B B' H H') (E':ExtS B' B'' H' H''):ExtS B B'' H H'' where
  n:=Nat.le_trans E.n E'.n
  m:=fun i hi=>(E'.m i (Nat.lt_of_lt_of_le hi E.n)).trans (E.m i hi)
  fr:=fun i h1 h2=>by
    by_cases q:i<B'.n
    · rw [E'.m i q]; exact E.fr i h1 q
    · cases z:H (B''.m i) with
      | none=>rfl
      | some o=>exact absurd (E'.fr i (Nat.not_lt.mp q) h2) (E.sm _ (by rw [z]; simp))
  keep:=fun a o h h1 h2=>by
    have h':=E.keep a o h h1 h2
    refine E'.keep a o h' (fun i hi e=>?_) (fun z=>?_)
    · by_cases q:i<B.n
      · rw [E.m i q] at e; exact h1 i q e
      · have:=E.fr i (Nat.not_lt.mp q) hi
        rw [e,h] at this; cases this
    · rcases E.os a z with z | z
      · exact h2 z
      · rw [h] at z; cases z
  sm:=fun a h=>E'.sm a (E.sm a h)
  os:=fun a h=>by
    rcases E'.os a h with z | z
    · exact E.os a z
    · right
      cases q:H a with
      | none=>rfl
      | some o=>exact absurd z (E.sm a (by rw [q]; simp))
  F:=E'.F.trans E.F
  ks:=E'.ks.trans E.ks
theorem ExtE.trans (E:ExtE B B' H H') (E':ExtE B' B'' H' H''):ExtE B B'' H H'' where
  toExtS:=E.toExtS.trans E'.toExtS
  osE:=E'.osE.trans E.osE
  ko:=fun a o ha h1 h=>by
    have h':=E.ko a o ha h1 h
    refine E'.ko a o (by rw [E.osE]; exact ha) (fun i hi e=>?_) h'
    by_cases q:i<B.n
    · rw [E.m i q] at e; exact h1 i q e
    · have:=E.fr i (Nat.not_lt.mp q) hi
      rw [e,h] at this; cases this
mutual
theorem RepV.ext (E:ExtS B B' H H'):∀{d:D} {v:V},RepV B H d v→RepV B' H' d v
  | .non,_,h=>h
  | .bl _,_,h=>h
  | .int _,_,h=>h
  | .str _,_,h=>h
  | .ty _,_,h=>h
  | .scr _,_,h=>by
    obtain ⟨a,e,h⟩:=h
    refine ⟨a,e,?_⟩
    rcases h with ⟨o,h,k⟩ | h
    · obtain ⟨k',h'⟩:=k.ext E h
      exact .inl ⟨o,h',k'⟩
    · exact .inr (by rw [E.ks]; exact h)
  | .tup _,_,h=>by
    obtain ⟨a,vs,e,h,k,l⟩:=h
    obtain ⟨k',h'⟩:=k.ext E h
    exact ⟨a,vs,e,h',k',RepL.ext E l⟩
  | .lst _,_,h=>by
    obtain ⟨a,vs,e,h,k,l⟩:=h
    obtain ⟨k',h'⟩:=k.ext E h
    exact ⟨a,vs,e,h',k',RepL.ext E l⟩
  | .ref l,_,h=>⟨Nat.lt_of_lt_of_le h.1 E.n,by rw [h.2,E.m l h.1]⟩
theorem RepL.ext (E:ExtS B B' H H'):∀{ds:List D} {vs:List V},RepL B H ds vs→RepL B' H' ds vs
  | [],_,h=>h
  | _::_,_,h=>by
    obtain ⟨v,r,e,hv,hr⟩:=h
    exact ⟨v,r,e,RepV.ext E hv,RepL.ext E hr⟩
end
theorem RepL.len:∀{ds:List D} {vs:List V},RepL B H ds vs→vs.length=ds.length
  | [],_,h=>by cases (show _=[] from h); rfl
  | _::_,_,h=>by
    obtain ⟨v,r,rfl,_,hr⟩:=h
    simp [RepL.len hr]
theorem RepL.app:∀{ds es:List D} {vs us:List V},RepL B H ds vs→RepL B H es us→RepL B H (ds++es) (vs++us)
  | [],_,_,_,h,q=>by cases (show _=[] from h); exact q
  | _::_,_,_,_,h,q=>by
    obtain ⟨v,r,rfl,hv,hr⟩:=h
    exact ⟨v,_,rfl,hv,RepL.app hr q⟩
theorem RepL.get:∀{ds:List D} {vs:List V} {i:Nat} {d:D},RepL B H ds vs→ds[i]?=some d→∃v,vs[i]?=some v∧RepV B H d v
  | [],_,_,_,_,e=>by simp at e
  | _::_,_,0,_,h,e=>by
    obtain ⟨v,r,rfl,hv,_⟩:=h
    simp at e; subst e
    exact ⟨v,rfl,hv⟩
  | _::_,_,i+1,_,h,e=>by
    obtain ⟨v,r,rfl,_,hr⟩:=h
    obtain ⟨w,q1,q2⟩:=RepL.get (i:=i) hr (by simpa using e)
    exact ⟨w,by simpa using q1,q2⟩
theorem RepL.take:∀{ds:List D} {vs:List V} (n:Nat),RepL B H ds vs→RepL B H (ds.take n) (vs.take n)
  | _,_,0,_=>by rw [List.take_zero,List.take_zero]; exact rfl
  | [],_,n+1,h=>by cases (show _=[] from h); exact rfl
  | _::_,_,n+1,h=>by
    obtain ⟨v,r,rfl,hv,hr⟩:=h
    exact ⟨v,_,rfl,hv,RepL.take n hr⟩
theorem RepL.drop:∀{ds:List D} {vs:List V} (n:Nat),RepL B H ds vs→RepL B H (ds.drop n) (vs.drop n)
  | _,_,0,h=>h
  | [],_,n+1,h=>by cases (show _=[] from h); exact rfl
  | _::_,_,n+1,h=>by
    obtain ⟨v,r,rfl,hv,hr⟩:=h
    exact RepL.drop n hr
theorem RepL.set {d:D} {v:V} (q:RepV B H d v):∀{ds:List D} {vs:List V} (i:Nat),RepL B H ds vs→RepL B H (ds.set i d) (vs.set i v)
  | [],_,_,h=>by cases (show _=[] from h); exact rfl
  | _::_,_,0,h=>by
    obtain ⟨w,r,rfl,_,hr⟩:=h
    exact ⟨v,r,rfl,q,hr⟩
  | _::_,_,i+1,h=>by
    obtain ⟨w,r,rfl,hw,hr⟩:=h
    exact ⟨w,_,rfl,hw,RepL.set q i hr⟩
theorem RepL.map {α:Type} {f:α→D} {g:α→V} (q:∀a,RepV B H (f a) (g a)):∀l:List α,RepL B H (l.map f) (l.map g)
  | []=>rfl
  | a::l=>⟨_,_,rfl,q a,RepL.map q l⟩
theorem RepKV.ext {κ:Type} (E:ExtS B B' H H'):∀{ks:List (κ×D)} {vs:List (κ×V)},RepKV B H ks vs→RepKV B' H' ks vs
  | _,_,.nil=>.nil
  | _,_,.cons h t=>.cons ⟨h.1,RepV.ext E h.2⟩ (RepKV.ext E t)
end
structure Mo where
  cl:Str→Addr
  K:PySem.W.Frag
def KL (K:PySem.W.Frag) (a:Addr) (ns:List Int):Prop:=∃(o:Obj) (its:Array Value) (n:Nat),K.lookup a=some o∧o.cls=.type "list"∧o.dict=none∧o.data=.seq its n∧its.size≤sizeLine∧Vals (ns.map V.int) its.toList
def CellOk (cl:Mo) (B:Bx) (H:Hp) (a:Addr):Zeo→Prop
  | .lst xs=>∃vs,H a=some (.lst vs)∧RepL B H xs vs
  | .dK kvs=>∃vs,H a=some (.dK vs)∧RepKV B H kvs vs
  | .dT kvs=>∃vs,H a=some (.dT vs)∧RepKV B H kvs vs
  | .ins C fs=>∃dx vs,H a=some (.ins (cl.cl C) dx vs)∧RepKV B H fs vs
structure Good (cl:Mo) (B:Bx) (θ:Sto) (H:Hp):Prop where
  len:θ.length=B.n
  inj:∀i j,i<B.n→j<B.n→B.m i=B.m j→i=j
  cel:∀i c,θ[i]?=some c→CellOk cl B H (B.m i) c
  cF:∀i,i<B.n→¬B.F (B.m i)∧B.m i∉B.os
  Fs:∀a,B.F a→H a≠none
  oS:∀a,a∈B.os→H a≠none
  oF:∀a,a∈B.os→¬B.F a
  kc:∀a ns,B.ks a ns→KL cl.K a ns
section
variable {cl:Mo} {B B' B'':Bx} {H H' H'':Hp} {θ θ':Sto}
theorem CellOk.ext {a:Addr} {c:Zeo} (k:CellOk cl B H a c) (E:ExtS B B' H H') (h:∀o,H a=some o→H' a=some o):CellOk cl B' H' a c:=by
  cases c with
  | lst xs=>obtain ⟨vs,e,r⟩:=k; exact ⟨vs,h _ e,r.ext E⟩
  | dK kvs=>obtain ⟨vs,e,r⟩:=k; exact ⟨vs,h _ e,r.ext E⟩
  | dT kvs=>obtain ⟨vs,e,r⟩:=k; exact ⟨vs,h _ e,r.ext E⟩
  | ins C fs=>obtain ⟨dx,vs,e,r⟩:=k; exact ⟨dx,vs,h _ e,r.ext E⟩
theorem CellOk.there {a:Addr} {c:Zeo} (k:CellOk cl B H a c):H a≠none:=by
  cases c with
  | lst xs=>obtain ⟨vs,e,r⟩:=k; rw [e]; simp
  | dK kvs=>obtain ⟨vs,e,r⟩:=k; rw [e]; simp
  | dT kvs=>obtain ⟨vs,e,r⟩:=k; rw [e]; simp
  | ins C fs=>obtain ⟨dx,vs,e,r⟩:=k; rw [e]; simp
theorem Good.there (G:Good cl B θ H) {i:Nat} (hi:i<B.n):H (B.m i)≠none:=by
  have:i < θ.length:=by rw [G.len]; exact hi
  exact (G.cel i _ (List.getElem?_eq_getElem this)).there
theorem Good.okNone (G:Good cl B θ H) {p:Addr} (h:H p=none):B.ok p:=
  ⟨fun i hi e=>G.there hi (by rw [e]; exact h),fun z=>G.Fs p z h,fun z=>G.oS p z h⟩
theorem Zak (G:Good cl B θ H) {p:Addr} (h:H p=none) (o:HO):ExtE B B H (upd H p o):=by
  have ne:∀a u,H a=some u→upd H p o a=some u:=fun a u e=>by rw [Zz (ZB e h)]; exact e
  exact ⟨⟨Nat.le_refl _,fun _ _=>rfl,fun i h h'=>absurd h' (Nat.not_lt.mpr h),fun a u e _ _=>ne a u e,fun a e=>by
    cases q:H a with
    | none=>exact absurd q e
    | some u=>rw [ne a u q]; simp,fun _ h=>.inl h,rfl,rfl⟩,rfl,fun a u _ _ e=>ne a u e⟩
theorem Zcq (G:Good cl B θ H) {p:Addr} (h:H p=none) (o:HO):Good cl B θ (upd H p o):=by
  have E:=Zak G h o
  exact ⟨G.len,G.inj,fun i c e=>(G.cel i c e).ext E.toExtS fun u q=>by rw [Zz (ZB q h)]; exact q,G.cF,fun a z=>E.sm a (G.Fs a z),fun a z=>E.sm a (G.oS a z),G.oF,G.kc⟩
theorem ZhN (G:Good cl B θ H) {p:Addr} (h:H p=none) {xs:List D} {vs:List V} (r:RepL B H xs vs):RepV B (upd H p (.lst vs)) (.lst xs) (.ref p):=
  ⟨p,vs,rfl,zp,G.okNone h,r.ext (Zak G h _).toExtS⟩
theorem ZhM (G:Good cl B θ H) {p:Addr} (h:H p=none) {xs:List D} {vs:List V} (r:RepL B H xs vs):RepV B (upd H p (.tup vs)) (.tup xs) (.ref p):=
  ⟨p,vs,rfl,zp,G.okNone h,r.ext (Zak G h _).toExtS⟩
def Bx.push (B:Bx) (p:Addr):Bx:={ B with n:=B.n+1,m:=fun i=>if i=B.n then p else B.m i }
theorem Zcs (G:Good cl B θ H) {p:Addr} (h:H p=none) (o:HO):ExtE B (B.push p) H (upd H p o):=by
  have E:=Zak G h o
  refine ⟨⟨Nat.le_succ _,fun i hi=>if_neg (Nat.ne_of_lt hi),fun i h1 h2=>?_,E.keep,E.sm,fun _ h=>.inl h,rfl,rfl⟩,rfl,E.ko⟩
  have e:i=B.n:=Nat.le_antisymm (Nat.le_of_lt_succ h2) h1
  show H (if i=B.n then p else B.m i)=none
  rw [if_pos e]; exact h
theorem Zf4 (G:Good cl B θ H) {p:Addr} (h:H p=none) {o:HO} {c:Zeo} (k:CellOk cl (B.push p) (upd H p o) p c):Good cl (B.push p) (θ++[c]) (upd H p o):=by
  have E:=Zcs G h o
  have hm:∀i,i<B.n→(B.push p).m i=B.m i:=fun i hi=>if_neg (Nat.ne_of_lt hi)
  have hn:(B.push p).m B.n=p:=if_pos rfl
  have cs:∀i,i<(B.push p).n→i<B.n∨i=B.n:=fun i hi=>Nat.lt_succ_iff_lt_or_eq.mp hi
  have ok:=G.okNone h
  refine ⟨by rw [List.length_append,G.len]; rfl,fun i j hi hj e=>?_,fun i c' e=>?_,fun i hi=>?_,fun a z=>E.sm a (G.Fs a z),fun a z=>E.sm a (G.oS a z),G.oF,G.kc⟩
  · rcases cs i hi with a | a<;>rcases cs j hj with b | b
    · rw [hm i a,hm j b] at e; exact G.inj i j a b e
    · rw [hm i a,b,hn] at e; exact absurd e (ok.1 i a)
    · rw [hm j b,a,hn] at e; exact absurd e.symm (ok.1 j b)
    · rw [a,b]
  · by_cases q:i < θ.length
    · rw [List.getElem?_append_left q] at e
      rw [hm i (by rw [←G.len]; exact q)]
      exact (G.cel i c' e).ext E.toExtS fun u z=>by rw [Zz (ZB z h)]; exact z
    · have q':=Nat.not_lt.mp q
      rw [List.getElem?_append_right q'] at e
      have:i - θ.length=0:=by
        cases z:i - θ.length with
        | zero=>rfl
        | succ k=>rw [z] at e; simp at e
      rw [this] at e
      simp at e
      subst e
      have:i=B.n:=by rw [←G.len]; omega
      rw [this,hn]; exact k
  · rcases cs i hi with a | a
    · rw [hm i a]; exact G.cF i a
    · rw [a,hn]; exact ⟨ok.2.1,ok.2.2⟩
end
inductive R (α:Type) where
  | ok (a:α) (θ:Sto) | ex (c:Str) (θ:Sto) | bad
def R.bind {α β:Type} (r:R α) (k:α→Sto→R β):R β:=match r with
  | .ok a θ=>k a θ
  | .ex c θ=>.ex c θ
  | .bad=>.bad
@[simp] theorem R.bind_ok {α β:Type} (a:α) (θ:Sto) (k:α→Sto→R β):(R.ok a θ).bind k=k a θ:=nr rfl
@[simp] theorem R.bind_bad {α β:Type} (k:α→Sto→R β):(R.bad:R α).bind k=.bad:=nr rfl
inductive Sl where
  | no | val (d:D) | own (xs:List D)
structure Frm (cl:Mo) (B:Bx) (θ:Sto) (ρ:List Sl) (σ:St) (H:Hp):Prop where
  good:Good cl B θ H
  len:ρ.length=σ.length
  val:∀(i:Nat) (d:D),ρ[i]?=some (Sl.val d)→∃v,σ[i]?=some (some v)∧RepV B H d v
  own:∀(i:Nat) (xs:List D),ρ[i]?=some (Sl.own xs)→∃a vs,σ[i]?=some (some (.ref a))∧a∈B.os∧H a=some (.lst vs)∧RepL B H xs vs
  ne:∀(i j:Nat) (xs ys:List D) (a:Addr),i≠j→ρ[i]?=some (Sl.own xs)→ρ[j]?=some (Sl.own ys)→σ[i]?=some (some (.ref a))→σ[j]?≠some (some (.ref a))
theorem Frm.ext {cl:Mo} {B B':Bx} {θ θ':Sto} {ρ:List Sl} {σ:St} {H H':Hp} (F:Frm cl B θ ρ σ H) (E:ExtE B B' H H') (G:Good cl B' θ' H'):Frm cl B' θ' ρ σ H' where
  good:=G
  len:=F.len
  val:=fun i d e=>let ⟨v,h1,h2⟩:=F.val i d e; ⟨v,h1,h2.ext E.toExtS⟩
  own:=fun i xs e=>by
    obtain ⟨a,vs,h1,h2,h3,h4⟩:=F.own i xs e
    exact ⟨a,vs,h1,by rw [E.osE]; exact h2,E.ko a _ h2 (fun i hi z=>(F.good.cF i hi).2 (by rw [z]; exact h2)) h3,h4.ext E.toExtS⟩
  ne:=F.ne
def ZcD (mg:Str→Option Value) (x:Str):Addr:=match mg x with
  | some (.ref a)=>a
  | _=>0
abbrev _root_.L2.Cx.cl (X:Cx):Mo:=⟨ZcD X.mg,X.K⟩
def XE (X:Cx) (σ:St) (B:Bx) (H:Hp) (c:Str) (θ':Sto):Prop:=False
theorem XE.trans {X:Cx} {σ:St} {B B':Bx} {H H':Hp} {c:Str} {θ':Sto} (h:XE X σ B H c θ') (E:ExtE B B' H H'):XE X σ B' H' c θ':=h
def wpR (X:Cx) (σ:St) {α β:Type} (Rel:Bx→Hp→α→β→Prop) (B:Bx) (H:Hp) (r:R α) (Q:β→Hp→Prop):Prop:=match r with
  | .ok a θ'=>∀B' H' b,ExtE B B' H H'→Good X.cl B' θ' H'→Rel B' H' a b→Q b H'
  | .ex c θ'=>XE X σ B H c θ'
  | .bad=>False
section
variable {X:Cx} {σ:St} {α β γ δ:Type} {Rel:Bx→Hp→α→β→Prop} {Rel':Bx→Hp→γ→δ→Prop} {B B':Bx} {H H':Hp}
theorem wpR.mono {r:R α} {Q Q':β→Hp→Prop} (h:wpR X σ Rel B H r Q) (hQ:∀b H',Q b H'→Q' b H'):wpR X σ Rel B H r Q':=by
  cases r with
  | ok a θ'=>exact fun B' H' b e g q=>hQ _ _ (h B' H' b e g q)
  | ex c θ'=>exact h
  | bad=>exact h
theorem wpR.trans {r:R α} {Q:β→Hp→Prop} (h:wpR X σ Rel B H r Q) (E:ExtE B B' H H'):wpR X σ Rel B' H' r Q:=by
  cases r with
  | ok a θ'=>exact fun B2 H2 b e g q=>h B2 H2 b (E.trans e) g q
  | ex c θ'=>exact XE.trans (c:=c) (θ':=θ') (σ:=σ) (X:=X) h E
  | bad=>exact h
theorem wpR.bind {r:R α} {k:α→Sto→R γ} {Q:δ→Hp→Prop} (h:wpR X σ Rel' B H (r.bind k) Q) :
    wpR X σ Rel B H r (fun b H1=>∃B1 θ1 a,ExtE B B1 H H1∧Good X.cl B1 θ1 H1∧Rel B1 H1 a b∧wpR X σ Rel' B1 H1 (k a θ1) Q):=by
  cases r with
  | ok a θ'=>exact fun B1 H1 b E g q=>⟨B1,θ',a,E,g,q,wpR.trans h E⟩
  | ex c θ'=>exact h
  | bad=>exact h
end
abbrev EM:=List Sl→Sto→R D
abbrev TMr:=List Sl→Sto→R Bool
abbrev AM:=List Sl→Sto→R (List D)
def EqB (_:Bx) (_:Hp) (a b:Bool):Prop:=a=b
def tM (X:Cx) (f:EM):TE:=fun σ H Q=>∃B θ ρ,Frm X.cl B θ ρ σ H∧wpR X σ RepV B H (f ρ θ) Q
def tMT (X:Cx) (f:TMr):TT:=fun σ H Q=>∃B θ ρ,Frm X.cl B θ ρ σ H∧wpR X σ EqB B H (f ρ θ) Q
def tMA (X:Cx) (f:AM):TA:=fun σ H Q=>∃B θ ρ,Frm X.cl B θ ρ σ H∧wpR X σ RepL B H (f ρ θ) Q
def ME (X:Cx) (e:Expr) (f:EM):Prop:=PE X e (tM X f)
def MT (X:Cx) (e:Expr) (f:TMr):Prop:=PT X e (tMT X f)
def MW (X:Cx) (e:Expr) (f:TMr):Prop:=PW X e (tMT X f)
def MA (X:Cx) (es:List Expr) (f:AM):Prop:=PA X es (tMA X f)
section
variable {X:Cx} {σ:St} {H:Hp} {γ δ:Type} {Rel':Bx→Hp→γ→δ→Prop}
theorem ZJ {f:EM} {Q Q':VK} (h:tM X f σ H Q) (hQ:∀v H',Q v H'→Q' v H'):tM X f σ H Q':=let ⟨B,θ,ρ,F,w⟩:=h; ⟨B,θ,ρ,F,w.mono hQ⟩
theorem z0 {f:TMr} {Q Q':Bool→Hp→Prop} (h:tMT X f σ H Q) (hQ:∀v H',Q v H'→Q' v H'):tMT X f σ H Q':=let ⟨B,θ,ρ,F,w⟩:=h; ⟨B,θ,ρ,F,w.mono hQ⟩
theorem zQ {f:AM} {Q Q':List V→Hp→Prop} (h:tMA X f σ H Q) (hQ:∀v H',Q v H'→Q' v H'):tMA X f σ H Q':=let ⟨B,θ,ρ,F,w⟩:=h; ⟨B,θ,ρ,F,w.mono hQ⟩
variable {B:Bx} {θ:Sto} {ρ:List Sl}
theorem step {f:EM} {k:D→Sto→R γ} {Q:δ→Hp→Prop} (F:Frm X.cl B θ ρ σ H) (h:wpR X σ Rel' B H ((f ρ θ).bind k) Q) :
    tM X f σ H (fun v H1=>∃B1 θ1 d,ExtE B B1 H H1∧Frm X.cl B1 θ1 ρ σ H1∧RepV B1 H1 d v∧wpR X σ Rel' B1 H1 (k d θ1) Q):=
  ⟨B,θ,ρ,F,(wpR.bind (Rel:=RepV) h).mono fun v H1 ⟨B1,θ1,d,E,G,r,w⟩=>⟨B1,θ1,d,E,F.ext E G,r,w⟩⟩
theorem Ze2 {f:TMr} {k:Bool→Sto→R γ} {Q:δ→Hp→Prop} (F:Frm X.cl B θ ρ σ H) (h:wpR X σ Rel' B H ((f ρ θ).bind k) Q) :
    tMT X f σ H (fun c H1=>∃B1 θ1,ExtE B B1 H H1∧Frm X.cl B1 θ1 ρ σ H1∧wpR X σ Rel' B1 H1 (k c θ1) Q):=
  ⟨B,θ,ρ,F,(wpR.bind (Rel:=EqB) h).mono fun v H1 ⟨B1,θ1,d,E,G,r,w⟩=>by cases (show d=v from r); exact ⟨B1,θ1,E,F.ext E G,w⟩⟩
theorem ZcL {f:AM} {k:List D→Sto→R γ} {Q:δ→Hp→Prop} (F:Frm X.cl B θ ρ σ H) (h:wpR X σ Rel' B H ((f ρ θ).bind k) Q) :
    tMA X f σ H (fun v H1=>∃B1 θ1 d,ExtE B B1 H H1∧Frm X.cl B1 θ1 ρ σ H1∧RepL B1 H1 d v∧wpR X σ Rel' B1 H1 (k d θ1) Q):=
  ⟨B,θ,ρ,F,(wpR.bind (Rel:=RepL) h).mono fun v H1 ⟨B1,θ1,d,E,G,r,w⟩=>⟨B1,θ1,d,E,F.ext E G,r,w⟩⟩
theorem Zs {α β:Type} {Rel:Bx→Hp→α→β→Prop} {a:α} {b:β} {Q:β→Hp→Prop} (G:Good X.cl B θ H) (r:Rel B H a b) (h:wpR X σ Rel B H (.ok a θ) Q):Q b H:=h B H b (ExtE.refl B H) G r
end
theorem PE.imp {X:Cx} {e:Expr} {t t':TE} (h:PE X e t) (hi:∀σ H Q,t' σ H Q→t σ H Q):PE X e t':=fun pins s σ H Q I q=>h pins s σ H Q I (hi σ H Q q)
theorem PT.imp {X:Cx} {e:Expr} {t t':TT} (h:PT X e t) (hi:∀σ H Q,t' σ H Q→t σ H Q):PT X e t':=fun pins s σ H Q I q=>h pins s σ H Q I (hi σ H Q q)
theorem PW.imp {X:Cx} {e:Expr} {t t':TT} (h:PW X e t) (hi:∀σ H Q,t' σ H Q→t σ H Q):PW X e t':=fun wh pins s σ H Q I q=>h wh pins s σ H Q I (hi σ H Q q)
theorem PA.imp {X:Cx} {es:List Expr} {t t':TA} (h:PA X es t) (hi:∀σ H Q,t' σ H Q→t σ H Q):PA X es t':=fun pos pins s σ H Q I q=>h pos pins s σ H Q I (hi σ H Q q)
theorem OpR.imp {X:Cx} {f:Value→Value→Sem Value} {r r':R2} (h:OpR X f r) (hi:∀x y H Q,r' x y H Q→r x y H Q):OpR X f r':=fun pins s σ H x y v u Q I rx ry q=>h pins s σ H x y v u Q I rx ry (hi x y H Q q)
theorem IxR.imp {X:Cx} {r r':R2} (h:IxR X r) (hi:∀x y H Q,r' x y H Q→r x y H Q):IxR X r':=fun pins s σ H x y v u Q v1 s1 I rx ry q=>h pins s σ H x y v u Q v1 s1 I rx ry (hi _ _ _ _ q)
theorem CallR.imp {X:Cx} {f:Value} {r r':List V→Hp→VK→Prop} (h:CallR X f r) (hi:∀xs H Q,r' xs H Q→r xs H Q):CallR X f r':=fun pins s σ H xs us Q I r q=>h pins s σ H xs us Q I r (hi _ _ _ q)
end L2.MM
namespace L2.MM
open PySem PySem.Spec PyProof.Rows
noncomputable section
variable {X:Cx}
def ZY (θ:Sto):D→Option (List D)
  | .lst xs=>some xs
  | .ref l=>match θ[l]? with
    | some (.lst xs)=>some xs
    | _=>none
  | _=>none
def seqOf (θ:Sto):D→Option (List D)
  | .tup xs=>some xs
  | .scr ns=>some (ns.map D.int)
  | d=>ZY θ d
theorem ZN {cl:Mo} {B:Bx} {θ:Sto} {H:Hp} (G:Good cl B θ H) {d:D} {v:V} {xs:List D} (r:RepV B H d v) (h:ZY θ d=some xs):∃a vs,v=.ref a∧H a=some (.lst vs)∧RepL B H xs vs:=by
  cases d with
  | lst ys=>
    obtain ⟨a,vs,e,h1,_,h2⟩:=r
    cases h
    exact ⟨a,vs,e,h1,h2⟩
  | ref l=>
    obtain ⟨hl,rfl⟩:=r
    simp only [ZY] at h
    split at h
    · rename_i ys e
      cases h
      obtain ⟨vs,q1,q2⟩:=G.cel l _ e
      exact ⟨_,vs,rfl,q1,q2⟩
    · cases h
  | _=>cases h
theorem zR {cl:Mo} {B:Bx} {θ:Sto} {H:Hp} (G:Good cl B θ H) {d:D} {v:V} {xs:List D} (r:RepV B H d v) (h:seqOf θ d=some xs) :
    ∃a vs,v=.ref a∧(SqL cl.K H a vs∨SqT cl.K H a vs)∧RepL B H xs vs:=by
  cases d with
  | tup ys=>
    obtain ⟨a,vs,e,h1,_,h2⟩:=r
    cases h
    exact ⟨a,vs,e,.inr (SqT.of h1),h2⟩
  | scr ns=>
    obtain ⟨a,e,h1⟩:=r
    cases h
    refine ⟨a,ns.map V.int,e,.inl ?_,RepL.map (f:=D.int) (g:=V.int) (fun _=>rfl) ns⟩
    rcases h1 with ⟨o,h1,_⟩ | h1
    · exact .inl (.inr ⟨o,h1⟩)
    · exact .inr (G.kc a ns h1)
  | lst ys=>
    obtain ⟨a,vs,e,h1,h2⟩:=ZN G r (show ZY θ (.lst ys)=some xs from h)
    exact ⟨a,vs,e,.inl (SqL.of h1),h2⟩
  | ref l=>
    obtain ⟨a,vs,e,h1,h2⟩:=ZN G r (show ZY θ (.ref l)=some xs from h)
    exact ⟨a,vs,e,.inl (SqL.of h1),h2⟩
  | _=>cases h
abbrev BIG:Nat:=100000
theorem Z3 {n:Nat} (h:n≤BIG):n≤sizeLine:=Nat.le_trans h (by rw [sizeLine_eq]; decide)
def Ze (i:Nat):EM:=fun ρ θ=>match ρ[i]? with
  | some (Sl.val d)=>.ok d θ
  | _=>.bad
def mC (d:D):EM:=fun _ θ=>.ok d θ
section
variable {a b c e:Expr} {pos:Pos} {fa fb fc:EM} {ft fu:TMr}
theorem Zd (i:Nat) {x:Str} {pos:Pos} (hN:X.N[i]?=some x:=by rfl) (hv:Vis X.env.scope x:=by first | exact Or.inl rfl | exact Or.inr (Or.inl rfl) | exact Or.inr (Or.inr rfl))
    (hd:(x == ("__debug__":Str))=false:=by decide) (hcd:(x == ("__classdict__":Str))=false:=by decide):ME X (.Name x pos) (Ze i):=by
  refine PE.imp (ZaZ hN hv hd hcd) fun σ H Q h=>?_
  obtain ⟨B,θ,ρ,F,w⟩:=h
  unfold Ze at w
  split at w
  · rename_i d e
    obtain ⟨v,h1,h2⟩:=F.val i d e
    exact ⟨v,h1,Zs F.good h2 w⟩
  · exact w.elim
theorem Zg3 {d:D} {v:V} (h:PE X e (tC v)) (r:∀B H,RepV B H d v):ME X e (mC d):=by
  refine PE.imp h fun σ H Q h=>?_
  obtain ⟨B,θ,ρ,F,w⟩:=h
  exact Zs F.good (r B H) w
theorem Zc {i j pos}:ME X (.Constant (.int i) j pos) (mC (.int i)):=Zg3 Zjd fun _ _=>rfl
theorem Zg4 {i j pos}:ME X (.Constant (.bool i) j pos) (mC (.bl i)):=Zg3 Zkl fun _ _=>rfl
theorem Zai {j pos}:ME X (.Constant .none j pos) (mC .non):=Zg3 Zjc fun _ _=>rfl
theorem zj {x:Str} {i:Int} (h:∃t,X.mg x=some (.int i t)) (hg:Gl X x:=by rfl) (hd:(x == ("__debug__":Str))=false:=by decide):ME X (.Name x pos) (mC (.int i)):=Zg3 (ZhY h hg hd) fun _ _=>rfl
theorem Zfi {x:Str} {n:String} {pos:Pos} (hm:X.mg x=none) (hv:bootBuiltins x=some (.type n)) (hg:Gl X x:=by rfl) (hn:x≠"__name__":=by decide) (hd:(x == ("__debug__":Str))=false:=by decide):ME X (.Name x pos) (mC (.ty n)):=
  Zg3 (Zkg hm hv hg hn hd) fun _ _=>rfl
abbrev OM:=D→D→Sto→R D
def mOp (g:OM) (fa fb:EM):EM:=fun ρ θ=>(fa ρ θ).bind fun x θ=>(fb ρ θ).bind fun y θ=>g x y θ
def rM (X:Cx) (g:OM):R2:=fun x y H Q=>∃σ B θ d e,Good X.cl B θ H∧RepV B H d x∧RepV B H e y∧wpR X σ RepV B H (g d e θ) Q
theorem Ze0 {g:OM} (σ:St) (H:Hp) (Q:VK) (h:tM X (mOp g fa fb) σ H Q):tOp (rM X g) (tM X fa) (tM X fb) σ H Q:=by
  obtain ⟨B,θ,ρ,F,w⟩:=h
  refine ZJ (step F w) ?_
  rintro x' H1 ⟨B1,θ1,x,E1,F1,rx,w1⟩
  refine ZJ (step F1 w1) ?_
  rintro y' H2 ⟨B2,θ2,y,E2,F2,ry,w2⟩
  exact ⟨σ,B2,θ2,x,y,F2.good,rx.ext E2.toExtS,ry,w2⟩
theorem Zg {op:Operator} {g:OM} (ho:OpR X (binaryOp op) (rM X g)) (ha:ME X a fa) (hb:ME X b fb):ME X (.BinOp a op b pos) (mOp g fa fb):=PE.imp (Zki ho ha hb) Ze0
theorem zo {op:CmpOp} {g:OM} (ho:OpR X (compareOp op) (rM X g)) (ha:ME X a fa) (hb:ME X b fb) (hm:behindInMarks op b=false:=by first | exact ZgU _ | rfl):ME X (.Compare a [op] [b] pos) (mOp g fa fb):=PE.imp (ZhZ ho ha hb hm) Ze0
theorem Zp {g:OM} (hr:IxR X (rM X g)) (ha:ME X a fa) (hb:ME X b fb) (hs:ZdG b:=by intro _ _; rfl):ME X (.Subscript a b pos) (mOp g fa fb):=PE.imp (ZiB hr ha hb hs) Ze0
def Zw (f:EM):TMr:=fun ρ θ=>(f ρ θ).bind fun x θ=>match x with
  | .bl k=>.ok k θ
  | _=>.bad
theorem ZdR {f:EM} (σ:St) (H:Hp) (Q:Bool→Hp→Prop) (h:tMT X (Zw f) σ H Q):tM X f σ H (fun v H1=>∃k,v=.bl k∧Q k H1):=by
  obtain ⟨B,θ,ρ,F,w⟩:=h
  refine ZJ (step F w) ?_
  rintro v H1 ⟨B1,θ1,x,E1,F1,rx,w1⟩
  cases x with
  | bl k=>exact ⟨k,rx,Zs (Rel:=EqB) F1.good rfl w1⟩
  | _=>exact w1.elim
theorem ZA {op:CmpOp} {g:OM} (ho:OpR X (compareOp op) (rM X g)) (ha:ME X a fa) (hb:ME X b fb) (hm:behindInMarks op b=false:=by first | exact ZgU _ | rfl):MT X (.Compare a [op] [b] pos) (Zw (mOp g fa fb)):=by
  refine PT.imp (ZhS ho ha hb hm) fun σ H Q h=>?_
  have q:=ZdR σ H Q h
  exact Ze0 σ H _ q
def Za3 (g g':OM) (fa fb fc:EM):EM:=fun ρ θ=>(fa ρ θ).bind fun x θ=>(fb ρ θ).bind fun y θ=>(g x y θ).bind fun z θ=>match z with
  | .bl true=>(fc ρ θ).bind fun w θ=>g' y w θ
  | .bl false=>.ok (.bl false) θ
  | _=>.bad
theorem ZdQ {g g':OM} (σ:St) (H:Hp) (Q:VK) (h:tM X (Za3 g g' fa fb fc) σ H Q):ZeA (rM X g) (rM X g') (tM X fa) (tM X fb) (tM X fc) σ H Q:=by
  obtain ⟨B,θ,ρ,F,w⟩:=h
  refine ZJ (step F w) ?_
  rintro x' H1 ⟨B1,θ1,x,E1,F1,rx,w1⟩
  refine ZJ (step F1 w1) ?_
  rintro y' H2 ⟨B2,θ2,y,E2,F2,ry,w2⟩
  refine ⟨σ,B2,θ2,x,y,F2.good,rx.ext E2.toExtS,ry,(wpR.bind (Rel:=RepV) w2).mono ?_⟩
  rintro z' H3 ⟨B3,θ3,z,E3,G3,rz,w3⟩
  have F3:=F2.ext E3 G3
  cases z with
  | bl k=>
    refine ⟨k,rz,?_⟩
    cases k with
    | true=>
      rw [if_pos rfl]
      refine ZJ (step F3 w3) ?_
      rintro w' H4 ⟨B4,θ4,u,E4,F4,ru,w4⟩
      exact ⟨σ,B4,θ4,y,u,F4.good,ry.ext (E3.trans E4).toExtS,ru,w4⟩
    | false=>
      rw [if_neg Bool.false_ne_true]
      exact Zs G3 (show RepV B3 H3 (.bl false) (.bl false) from rfl) w3
  | _=>exact w3.elim
theorem Zd4 {op op':CmpOp} {g g':OM} (ho:OpR X (compareOp op) (rM X g)) (ho':OpR X (compareOp op') (rM X g')) (ha:ME X a fa) (hb:ME X b fb) (hc:ME X c fc)
    (hm:lastMarks [op,op'] [b,c]=false:=by with_unfolding_all rfl):ME X (.Compare a [op,op'] [b,c] pos) (Za3 g g' fa fb fc):=PE.imp (ZgL ho ho' ha hb hc hm) ZdQ
theorem ZgY {op op':CmpOp} {g g':OM} (ho:OpR X (compareOp op) (rM X g)) (ho':OpR X (compareOp op') (rM X g')) (ha:ME X a fa) (hb:ME X b fb) (hc:ME X c fc)
    (hm:lastMarks [op,op'] [b,c]=false:=by with_unfolding_all rfl):MT X (.Compare a [op,op'] [b,c] pos) (Zw (Za3 g g' fa fb fc)):=by
  refine PT.imp (ZgA ho ho' ha hb hc hm) fun σ H Q h=>?_
  have q:=ZdR σ H Q h
  exact ZdQ σ H _ q
def ZbX (θ:Sto):D→Option Bool
  | .non=>some false
  | .bl b=>some b
  | .int i=>some (i != 0)
  | .str x=>if x.length≤BIG then some ((x.length:Int) != 0) else none
  | d=>(seqOf θ d).map fun xs=>!xs.isEmpty
def Zd5 (f:EM):TMr:=fun ρ θ=>(f ρ θ).bind fun x θ=>match ZbX θ x with
  | some k=>.ok k θ
  | none=>.bad
theorem RepL.emp {B:Bx} {H:Hp} {xs:List D} {vs:List V} (r:RepL B H xs vs):vs.isEmpty=xs.isEmpty:=by
  cases xs with
  | nil=>cases (show vs=[] from r); rfl
  | cons _ _=>obtain ⟨v,q,rfl,_,_⟩:=r; rfl
theorem ZeY {cl:Mo} {B:Bx} {θ:Sto} {H:Hp} (G:Good cl B θ H) {d:D} {v:V} {k:Bool} (r:RepV B H d v) (h:ZbX θ d=some k):TruV cl.K v H k:=by
  have sq:∀xs,seqOf θ d=some xs→((seqOf θ d).map fun xs=>!xs.isEmpty)=some k→TruV cl.K v H k:=fun xs e q=>by
    rw [e] at q
    cases q
    obtain ⟨a,vs,rfl,h1,h2⟩:=zR G r e
    show TruV cl.K (V.ref a) H (!xs.isEmpty)
    rw [←h2.emp]
    rcases h1 with h1 | h1
    · exact .inl ⟨vs,h1,rfl⟩
    · exact .inr (.inl ⟨vs,h1,rfl⟩)
  cases d with
  | non=>cases (show v=.non from r); cases h; rfl
  | bl b=>cases (show v=.bl b from r); cases h; rfl
  | int i=>cases (show v=.int i from r); cases h; rfl
  | str x=>
    cases (show v=.str x from r)
    simp only [ZbX] at h
    split at h
    · rename_i hz; cases h; exact ⟨Z3 hz,rfl⟩
    · cases h
  | ty n=>simp [ZbX,seqOf,ZY] at h
  | scr ns=>exact sq _ rfl h
  | tup xs=>exact sq _ rfl h
  | lst xs=>exact sq _ rfl h
  | ref l=>
    cases e:seqOf θ (.ref l) with
    | none=>simp only [ZbX,e] at h; cases h
    | some xs=>exact sq xs e h
theorem Zav (ha:ME X a fa) (he:∀whole,isTrue a X.env whole=(do let v ←whole; standAt a.pos; holding [v] (truthy v)):=by intro _; rfl):MT X a (Zd5 fa):=by
  refine PT.imp (Zgz ha he) fun σ H Q h=>?_
  obtain ⟨B,θ,ρ,F,w⟩:=h
  refine ZJ (step F w) ?_
  rintro v H1 ⟨B1,θ1,x,E1,F1,rx,w1⟩
  cases e:ZbX θ1 x with
  | none=>rw [e] at w1; exact w1.elim
  | some k=>rw [e] at w1; exact ⟨k,ZeY F1.good rx e,Zs (Rel:=EqB) F1.good rfl w1⟩
def ZfY (f g:TMr):TMr:=fun ρ θ=>(f ρ θ).bind fun k θ=>if k=true then g ρ θ else .ok false θ
def mOr (f g:TMr):TMr:=fun ρ θ=>(f ρ θ).bind fun k θ=>if k=true then .ok true θ else g ρ θ
def Zd6 (f:TMr):TMr:=fun ρ θ=>(f ρ θ).bind fun k θ=>.ok (!k) θ
theorem Za1 (ha:MT X a ft):MW X (.BoolOp .And [a] pos) ft:=ZhQ ha
theorem zN (ha:MT X a ft):MW X (.BoolOp .Or [a] pos) ft:=Zi1 ha
theorem ZeH {rest:List Expr} (ha:MT X a ft) (hb:MW X (.BoolOp .And (b::rest) pos) fu):MW X (.BoolOp .And (a::b::rest) pos) (ZfY ft fu):=by
  refine PW.imp (Zi2 ha hb) fun σ H Q h=>?_
  obtain ⟨B,θ,ρ,F,w⟩:=h
  refine z0 (Ze2 F w) ?_
  rintro k H1 ⟨B1,θ1,E1,F1,w1⟩
  cases k with
  | true=>rw [if_pos rfl] at w1 ⊢; exact ⟨B1,θ1,ρ,F1,w1⟩
  | false=>rw [if_neg Bool.false_ne_true] at w1 ⊢; exact Zs (Rel:=EqB) F1.good rfl w1
theorem Zbi {rest:List Expr} (ha:MT X a ft) (hb:MW X (.BoolOp .Or (b::rest) pos) fu):MW X (.BoolOp .Or (a::b::rest) pos) (mOr ft fu):=by
  refine PW.imp (Zkd ha hb) fun σ H Q h=>?_
  obtain ⟨B,θ,ρ,F,w⟩:=h
  refine z0 (Ze2 F w) ?_
  rintro k H1 ⟨B1,θ1,E1,F1,w1⟩
  cases k with
  | true=>rw [if_pos rfl] at w1 ⊢; exact Zs (Rel:=EqB) F1.good rfl w1
  | false=>rw [if_neg Bool.false_ne_true] at w1 ⊢; exact ⟨B1,θ1,ρ,F1,w1⟩
theorem MW.mt {e:Expr} {f:TMr} (h:MW X e f):MT X e f:=PW.pt h
theorem Zch (ha:MT X a ft):MT X (.UnaryOp .Not a pos) (Zd6 ft):=by
  refine PT.imp (Zi4 ha) fun σ H Q h=>?_
  obtain ⟨B,θ,ρ,F,w⟩:=h
  refine z0 (Ze2 F w) ?_
  rintro k H1 ⟨B1,θ1,E1,F1,w1⟩
  exact Zs (Rel:=EqB) F1.good rfl w1
def zU (f g:EM):EM:=fun ρ θ=>(f ρ θ).bind fun x θ=>match x with
  | .bl true=>g ρ θ
  | .bl false=>.ok (.bl false) θ
  | _=>.bad
def Zjq (f g:EM):EM:=fun ρ θ=>(f ρ θ).bind fun x θ=>match x with
  | .bl true=>.ok (.bl true) θ
  | .bl false=>g ρ θ
  | _=>.bad
def Zg5 (f:EM):EM:=fun ρ θ=>(f ρ θ).bind fun x θ=>match ZbX θ x with
  | some k=>.ok (.bl (!k)) θ
  | none=>.bad
theorem Zci {op} (h:ME X a fa):ME X (.BoolOp op [a] pos) fa:=ZgI h
theorem zG {rest:List Expr} (ha:ME X a fa) (hb:ME X (.BoolOp .And (b::rest) pos) fb):ME X (.BoolOp .And (a::b::rest) pos) (zU fa fb):=by
  refine PE.imp (ZgN ha hb) fun σ H Q h=>?_
  obtain ⟨B,θ,ρ,F,w⟩:=h
  refine ZJ (step F w) ?_
  rintro v H1 ⟨B1,θ1,x,E1,F1,rx,w1⟩
  cases x with
  | bl k=>
    refine ⟨k,rx,?_⟩
    cases k with
    | true=>rw [if_pos rfl]; exact ⟨B1,θ1,ρ,F1,w1⟩
    | false=>rw [if_neg Bool.false_ne_true]; exact Zs F1.good (show RepV B1 H1 (.bl false) (.bl false) from rfl) w1
  | _=>exact w1.elim
theorem Zkt {rest:List Expr} (ha:ME X a fa) (hb:ME X (.BoolOp .Or (b::rest) pos) fb):ME X (.BoolOp .Or (a::b::rest) pos) (Zjq fa fb):=by
  refine PE.imp (Zkh ha hb) fun σ H Q h=>?_
  obtain ⟨B,θ,ρ,F,w⟩:=h
  refine ZJ (step F w) ?_
  rintro v H1 ⟨B1,θ1,x,E1,F1,rx,w1⟩
  cases x with
  | bl k=>
    refine ⟨k,rx,?_⟩
    cases k with
    | true=>rw [if_pos rfl]; exact Zs F1.good (show RepV B1 H1 (.bl true) (.bl true) from rfl) w1
    | false=>rw [if_neg Bool.false_ne_true]; exact ⟨B1,θ1,ρ,F1,w1⟩
  | _=>exact w1.elim
theorem Zjp (ha:ME X a fa):ME X (.UnaryOp .Not a pos) (Zg5 fa):=by
  intro pins s σ H Q I h
  obtain ⟨B,θ,ρ,F,w⟩:=h
  refine UnaryOp_ (thn (ha pins s σ H _ I (step F w)) fun v s1 ⟨x,H1,I1,r1,q1⟩=>?_)
  obtain ⟨B1,θ1,d,E1,F1,rx,w1⟩:=q1
  cases e:ZbX θ1 d with
  | none=>rw [e] at w1; exact w1.elim
  | some k=>
    rw [e] at w1
    refine not_of (thn (Zgp pins s1 σ H1 x v (fun k' H'=>Q (.bl (!k')) H') I1 r1 ⟨k,ZeY F1.good rx e,Zs F1.good (show RepV B1 H1 (.bl (!k)) (.bl (!k)) from rfl) w1⟩) fun b s2 ⟨H2,I2,q2⟩=>?_)
    exact ⟨.bl (!b),H2,I2,rfl,q2⟩
def Zg6 (t:TMr) (f g:EM):EM:=fun ρ θ=>(t ρ θ).bind fun k θ=>if k=true then f ρ θ else g ρ θ
theorem Zg2 {c:Expr} (hc:MT X c ft) (ha:ME X a fa) (hb:ME X b fb):ME X (.IfExp c a b pos) (Zg6 ft fa fb):=by
  refine PE.imp (ZgK hc ha hb) fun σ H Q h=>?_
  obtain ⟨B,θ,ρ,F,w⟩:=h
  refine z0 (Ze2 F w) ?_
  rintro k H1 ⟨B1,θ1,E1,F1,w1⟩
  cases k with
  | true=>rw [if_pos rfl] at w1 ⊢; exact ⟨B1,θ1,ρ,F1,w1⟩
  | false=>rw [if_neg Bool.false_ne_true] at w1 ⊢; exact ⟨B1,θ1,ρ,F1,w1⟩
def Zi:AM:=fun _ θ=>.ok [] θ
def Za (f:EM) (g:AM):AM:=fun ρ θ=>(f ρ θ).bind fun x θ=>(g ρ θ).bind fun xs θ=>.ok (x::xs) θ
theorem Zf:MA X [] Zi:=PA.imp ZbE fun σ H Q h=>by
  obtain ⟨B,θ,ρ,F,w⟩:=h
  exact Zs (Rel:=RepL) F.good (show RepL B H [] [] from rfl) w
theorem Zb {es:List Expr} {fs:AM} (ha:ME X e fa) (hr:MA X es fs) (hs:starEach (e::es) X.env=(false,eval e X.env)::starEach es X.env:=by rfl):MA X (e::es) (Za fa fs):=by
  refine PA.imp (zY ha hr hs) fun σ H Q h=>?_
  obtain ⟨B,θ,ρ,F,w⟩:=h
  refine ZJ (step F w) ?_
  rintro x' H1 ⟨B1,θ1,x,E1,F1,rx,w1⟩
  refine zQ (ZcL F1 w1) ?_
  rintro xs' H2 ⟨B2,θ2,xs,E2,F2,rxs,w2⟩
  exact Zs (Rel:=RepL) F2.good (show RepL B2 H2 (x::xs) (x'::xs') from ⟨x',xs',rfl,rx.ext E2.toExtS,rxs⟩) w2
def ZZ (f:AM):EM:=fun ρ θ=>(f ρ θ).bind fun xs θ=>if xs.length≤BIG then .ok (.tup xs) θ else .bad
def zK (f:AM):EM:=fun ρ θ=>(f ρ θ).bind fun xs θ=>if xs.length≤BIG then .ok (.lst xs) θ else .bad
theorem Zb9 {σ:St} {B:Bx} {θ:Sto} {H:Hp} {xs:List D} {vs:List V} {Q:VK} (G:Good X.cl B θ H) (r:RepL B H xs vs) (w:wpR X σ RepV B H (.ok (.tup xs) θ) Q):∀p,H p=none→Q (.ref p) (upd H p (.tup vs)):=
  fun p hp=>w B _ _ (Zak G hp _) (Zcq G hp _) (ZhM G hp r)
theorem ZaW {σ:St} {B:Bx} {θ:Sto} {H:Hp} {xs:List D} {vs:List V} {Q:VK} (G:Good X.cl B θ H) (r:RepL B H xs vs) (w:wpR X σ RepV B H (.ok (.lst xs) θ) Q):∀p,H p=none→Q (.ref p) (upd H p (.lst vs)):=
  fun p hp=>w B _ _ (Zak G hp _) (Zcq G hp _) (ZhN G hp r)
theorem ZhF {σ:St} {B:Bx} {θ:Sto} {H:Hp} {xs:List D} {vs:List V} {Q:VK} (G:Good X.cl B θ H) (r:RepL B H xs vs) (w:wpR X σ RepV B H (.ok (.ref θ.length) (θ++[.lst xs])) Q):∀p,H p=none→Q (.ref p) (upd H p (.lst vs)):=
  fun p hp=>w (B.push p) _ _ (Zcs G hp _) (Zf4 G hp ⟨vs,zp,r.ext (Zcs G hp _).toExtS⟩) ⟨by rw [G.len]; exact Nat.lt_succ_self _,by rw [G.len]; show V.ref p=V.ref (if B.n=B.n then p else B.m B.n); rw [if_pos rfl]⟩
theorem zF {es:List Expr} {fs:AM} {x1} (h:MA X es fs):ME X (.Tuple es x1 pos) (ZZ fs):=by
  refine PE.imp (Zja h) fun σ H Q h=>?_
  obtain ⟨B,θ,ρ,F,w⟩:=h
  refine zQ (ZcL F w) ?_
  rintro xs' H2 ⟨B2,θ2,xs,E2,F2,rxs,w2⟩
  split at w2
  · rename_i hz
    exact ⟨by rw [rxs.len]; exact Z3 hz,Zb9 F2.good rxs w2⟩
  · exact w2.elim
theorem zn {es:List Expr} {fs:AM} (h:MA X es fs):ME X (.List es pos) (zK fs):=by
  refine PE.imp (ZgJ h) fun σ H Q h=>?_
  obtain ⟨B,θ,ρ,F,w⟩:=h
  refine zQ (ZcL F w) ?_
  rintro xs' H2 ⟨B2,θ2,xs,E2,F2,rxs,w2⟩
  split at w2
  · rename_i hz
    exact ⟨by rw [rxs.len]; exact Z3 hz,ZaW F2.good rxs w2⟩
  · exact w2.elim
abbrev GM:=List D→Sto→R D
def mCB (g:GM) (f:AM):EM:=fun ρ θ=>(f ρ θ).bind fun xs θ=>g xs θ
def rC (X:Cx) (g:GM):List V→Hp→VK→Prop:=fun xs H Q=>∃σ B θ ds,Good X.cl B θ H∧RepL B H ds xs∧wpR X σ RepV B H (g ds θ) Q
theorem Ziw {g:GM} {fs:AM} (σ:St) (H:Hp) (Q:VK) (h:tM X (mCB g fs) σ H Q):tCB (rC X g) (tMA X fs) σ H Q:=by
  obtain ⟨B,θ,ρ,F,w⟩:=h
  refine zQ (ZcL F w) ?_
  rintro xs' H2 ⟨B2,θ2,xs,E2,F2,rxs,w2⟩
  exact ⟨σ,B2,θ2,xs,F2.good,rxs,w2⟩
theorem Z6 {x:Str} {id:String} {p:Pos} {es:List Expr} {fs:AM} {g:GM} (hc:CallR X (.builtin id) (rC X g)) (hm:X.mg x=none) (hv:bootBuiltins x=some (.builtin id)) (ha:MA X (e::es) fs) (hg:Gl X x:=by rfl) (hn:x≠"__name__":=by decide) (hdb:(x == ("__debug__":Str))=false:=by decide)
    (he:starEach (e::es) X.env=(false,eval e X.env)::starEach es X.env:=by rfl) (hpl:(backTo pos (starEach es X.env)).any (·.1)=false:=by rfl):ME X (.Call (.Name x p) (e::es) [] pos) (mCB g fs):=
  PE.imp (Zbe hc hg hm hv ha hn hdb he hpl) Ziw
theorem zw {x:Str} {T:String} {p:Pos} {es:List Expr} {fs:AM} {g:GM} (hc:CallR X (.type T) (rC X g)) (hm:X.mg x=none) (hv:bootBuiltins x=some (.type T)) (ha:MA X (e::es) fs) (hg:Gl X x:=by rfl) (hn:x≠"__name__":=by decide) (hdb:(x == ("__debug__":Str))=false:=by decide)
    (he:starEach (e::es) X.env=(false,eval e X.env)::starEach es X.env:=by rfl) (hpl:(backTo pos (starEach es X.env)).any (·.1)=false:=by rfl):ME X (.Call (.Name x p) (e::es) [] pos) (mCB g fs):=
  PE.imp (ZfP hc hg hm hv ha hn hdb he hpl) Ziw
end
end
end L2.MM
namespace L2.MM
open PySem PySem.Spec PyProof.Rows PySem.SeqAt
noncomputable section
variable {X:Cx}
section
open Classical in
def opI (C:Int→Int→Prop) (g:Int→Int→D):OM:=fun x y θ=>match x,y with
  | .int i,.int j=>if C i j then .ok (g i j) θ else .bad
  | _,_=>.bad
open Classical in
@[simp] theorem Zdj (C:Int→Int→Prop) (g:Int→Int→D) (i j:Int) (θ:Sto):opI C g (.int i) (.int j) θ=if C i j then .ok (g i j) θ else .bad:=nr rfl
open Classical in
theorem Zau {f:Value→Value→Sem Value} {C:Int→Int→Prop} {g:Int→Int→D} {gV:Int→Int→V} (h:OpR X f (rI C gV)) (r:∀B H i j,RepV B H (g i j) (gV i j)):OpR X f (rM X (opI C g)):=by
  refine OpR.imp h fun x y H Q q=>?_
  obtain ⟨σ,B,θ,d,e,G,rd,re,w⟩:=q
  unfold opI at w
  split at w
  · rename_i i j
    split at w
    · rename_i hc
      exact ⟨i,j,rd,re,hc,Zs G (r B H i j) w⟩
    · exact w.elim
  · exact w.elim
theorem ZcO {f:Value→Value→Sem Value} {g:Int→Int→V} (h:OpR X f (rI0 g)):OpR X f (rI (fun _ _=>True) g):=OpR.imp h fun x y H Q ⟨i,j,a,b,_,q⟩=>⟨i,j,a,b,q⟩
abbrev ZdS:OM:=opI (fun _ _=>True) fun i j=>.int (i-j)
abbrev ZaC:OM:=opI (fun _ j=>0<j∧j<18446744073709551616) fun i j=>.int (i/j)
abbrev ZX:OM:=opI (fun _ j=>0<j) fun i j=>.int (i % j)
abbrev ZkM:OM:=opI (fun _ _=>True) fun i j=>.int (Builtin.bitAnd i j)
abbrev ltM:OM:=opI (fun _ _=>True) fun i j=>.bl (decide (i<j))
abbrev leM:OM:=opI (fun _ _=>True) fun i j=>.bl (decide (i≤j))
abbrev gtM:OM:=opI (fun _ _=>True) fun i j=>.bl (decide (j<i))
abbrev geM:OM:=opI (fun _ _=>True) fun i j=>.bl (decide (j≤i))
theorem Zfd:OpR X (binaryOp .Sub) (rM X ZdS):=Zau (ZcO Zjf) fun _ _ _ _=>rfl
theorem z7:OpR X (binaryOp .FloorDiv) (rM X ZaC):=Zau (OpR.imp ZgQ fun x y H Q ⟨i,j,a,b,c,q⟩=>⟨i,j,a,b,⟨c.1,by
  have h:j.natAbs<2 ^ 64:=by have:=c.1; have:=c.2; omega
  have h0:j.natAbs≠0:=by have:=c.1; omega
  have:=(Nat.log2_lt h0).mpr h
  omega⟩,q⟩) fun _ _ _ _=>rfl
theorem ZM:OpR X (binaryOp .Mod) (rM X ZX):=Zau Zji fun _ _ _ _=>rfl
theorem Zks:OpR X (binaryOp .BitAnd) (rM X ZkM):=Zau (ZcO Zjl) fun _ _ _ _=>rfl
theorem Zjo:OpR X (compareOp .Lt) (rM X ltM):=Zau (ZcO Zkn) fun _ _ i j=>by show _=V.bl _; congr
theorem ZeF:OpR X (compareOp .LtE) (rM X leM):=Zau (ZcO Zko) fun _ _ i j=>by show _=V.bl _; congr
theorem Zdk:OpR X (compareOp .Gt) (rM X gtM):=Zau (ZcO Zkp) fun _ _ i j=>by show _=V.bl _; congr
theorem Zkr:OpR X (compareOp .GtE) (rM X geM):=Zau (ZcO Zkq) fun _ _ i j=>by show _=V.bl _; congr
def Zo:OM:=fun x y θ=>match x,y with
  | .int i,.int j=>.ok (.int (i+j)) θ
  | .str i,.str j=>if i.length+j.length≤BIG then .ok (.str (i++j)) θ else .bad
  | .tup xs,.tup ys=>if xs.isEmpty=false∧xs.length+ys.length≤BIG then .ok (.tup (xs++ys)) θ else .bad
  | x,y=>match ZY θ x,ZY θ y with
    | some xs,some ys=>if xs.length+ys.length≤BIG then .ok (.lst (xs++ys)) θ else .bad
    | _,_=>.bad
@[simp] theorem Zhz (i j:Int) (θ:Sto):Zo (.int i) (.int j) θ=.ok (.int (i+j)) θ:=nr rfl
@[simp] theorem Zhy (xs ys:List D) (θ:Sto):Zo (.lst xs) (.lst ys) θ=if xs.length+ys.length≤BIG then .ok (.lst (xs++ys)) θ else .bad:=nr rfl
@[simp] theorem ZkN (xs ys:List D) (θ:Sto):Zo (.tup xs) (.tup ys) θ=if xs.isEmpty=false∧xs.length+ys.length≤BIG then .ok (.tup (xs++ys)) θ else .bad:=nr rfl
theorem Zn:OpR X (binaryOp .Add) (rM X Zo):=by
  refine OpR.imp (op_add.or (op_add_str.or (op_catT.or ZgR))) fun x y H Q q=>?_
  obtain ⟨σ,B,θ,d,e,G,rd,re,w⟩:=q
  unfold Zo at w
  split at w
  · exact .inl ⟨_,_,rd,re,Zs G (show RepV B H (.int _) (.int _) from rfl) w⟩
  · split at w
    · rename_i hz
      exact .inr (.inl ⟨_,_,rd,re,Z3 hz,Zs G (show RepV B H (.str _) (.str _) from rfl) w⟩)
    · exact w.elim
  · split at w
    · rename_i xs ys hz
      obtain ⟨a,vs,rfl,h1,k1,l1⟩:=rd
      obtain ⟨b,us,rfl,h2,k2,l2⟩:=re
      refine .inr (.inr (.inl ⟨a,b,vs,us,rfl,rfl,SqT.of h1,SqT.of h2,?_,?_,fun z=>?_,fun _=>Zb9 G (l1.app l2) w⟩))
      · intro z
        have:=l1.emp
        rw [z,hz.1] at this
        simp at this
      · rw [l1.len,l2.len]; exact Z3 hz.2
      · have e0:ys=[]:=by
          have:=l2.emp
          rw [z] at this
          cases ys with
          | nil=>rfl
          | cons _ _=>simp at this
        subst e0
        rw [List.append_nil] at w
        exact Zs G (show RepV B H (.tup xs) (.ref a) from ⟨a,vs,rfl,h1,k1,l1⟩) w
    · exact w.elim
  · split at w
    · rename_i xs ys e1 e2
      split at w
      · rename_i hz
        obtain ⟨a,vs,rfl,h1,l1⟩:=ZN G rd e1
        obtain ⟨b,us,rfl,h2,l2⟩:=ZN G re e2
        exact .inr (.inr (.inr ⟨a,b,vs,us,rfl,rfl,h1,h2,by rw [l1.len,l2.len]; exact Z3 hz,ZaW G (l1.app l2) w⟩))
      · exact w.elim
    · exact w.elim
def Zbb (i j:Int):Prop:=(-18446744073709551616<i∧i<18446744073709551616)∨(-18446744073709551616<j∧j<18446744073709551616)
instance {i j:Int}:Decidable (Zbb i j):=by unfold Zbb; infer_instance
def zE:OM:=fun x y θ=>match x,y with
  | .int i,.int j=>if Zbb i j then .ok (.int (i*j)) θ else .bad
  | .tup xs,.int k=>if xs.isEmpty=false∧0≤k∧k<1000∧(xs.length:Int)*k≤1000 then .ok (.tup (List.replicate k.toNat xs).flatten) θ else .bad
  | x,.int k=>match ZY θ x with
    | some xs=>if -1000000≤k∧k≤1000000∧xs.length*k.toNat≤BIG then .ok (.lst (List.replicate k.toNat xs).flatten) θ else .bad
    | _=>.bad
  | _,_=>.bad
@[simp] theorem ZgX (i j:Int) (θ:Sto):zE (.int i) (.int j) θ=if Zbb i j then .ok (.int (i*j)) θ else .bad:=nr rfl
@[simp] theorem ZgW (xs:List D) (k:Int) (θ:Sto):zE (.tup xs) (.int k) θ=if xs.isEmpty=false∧0≤k∧k<1000∧(xs.length:Int)*k≤1000 then .ok (.tup (List.replicate k.toNat xs).flatten) θ else .bad:=nr rfl
theorem RepL.rep {B:Bx} {H:Hp} {xs:List D} {vs:List V} (r:RepL B H xs vs):∀k:Nat,RepL B H (List.replicate k xs).flatten (List.replicate k vs).flatten
  | 0=>rfl
  | k+1=>by
    rw [List.replicate_succ,List.replicate_succ,List.flatten_cons,List.flatten_cons]
    exact r.app (RepL.rep r k)
theorem zH:OpR X (binaryOp .Mult) (rM X zE):=by
  refine OpR.imp (op_mul.or (op_repT.or Zjg)) fun x y H Q q=>?_
  obtain ⟨σ,B,θ,d,e,G,rd,re,w⟩:=q
  unfold zE at w
  split at w
  · split at w
    · rename_i hc
      exact .inl ⟨_,_,rd,re,hc.imp (fun h=>⟨by have:=h.1; omega,by have:=h.2; omega⟩) (fun h=>⟨by have:=h.1; omega,by have:=h.2; omega⟩),Zs G (show RepV B H (.int _) (.int _) from rfl) w⟩
    · exact w.elim
  · split at w
    · rename_i xs k hz
      obtain ⟨a,vs,rfl,h1,k1,l1⟩:=rd
      obtain ⟨z1,z2,z3,z4⟩:=hz
      refine .inr (.inl ⟨a,k,vs,rfl,re,SqT.of h1,?_,z2,z3,by rw [l1.len]; exact z4,fun z=>?_,fun _=>Zb9 G (l1.rep _) w⟩)
      · intro z
        have:=l1.emp
        rw [z,z1] at this
        simp at this
      · subst z
        have e0:(List.replicate (1:Int).toNat xs).flatten=xs:=by simp
        rw [e0] at w
        exact Zs G (show RepV B H (.tup xs) (.ref a) from ⟨a,vs,rfl,h1,k1,l1⟩) w
    · exact w.elim
  · split at w
    · rename_i xs e1
      split at w
      · rename_i hz
        obtain ⟨a,vs,rfl,h1,l1⟩:=ZN G rd e1
        exact .inr (.inr ⟨a,_,vs,rfl,re,h1,by have:=hz.1; omega,by have:=hz.2.1; omega,by rw [l1.len]; exact Z3 hz.2.2,ZaW G (l1.rep _) w⟩)
      · exact w.elim
    · exact w.elim
  · exact w.elim
def ZlA (f:EM):EM:=fun ρ θ=>(f ρ θ).bind fun x θ=>match x with
  | .int i=>.ok (.int (-i)) θ
  | _=>.bad
mutual
def dat:D→PyData
  | .bl b=>.bool b
  | .int i=>.int i
  | .str x=>.str x
  | .tup xs=>.tuple (ZaD xs)
  | .lst xs=>.list (ZaD xs)
  | _=>.none
def ZaD:List D→List PyData
  | []=>[]
  | d::r=>dat d::ZaD r
end
mutual
def zC:D→Bool
  | .non=>true
  | .bl _=>true
  | .int _=>true
  | .str _=>true
  | .tup xs=>zx xs
  | .lst xs=>zx xs
  | _=>false
def zx:List D→Bool
  | []=>true
  | d::r=>zC d && zx r
end
mutual
theorem rdv {B:Bx} {H:Hp} {K:PySem.W.Frag}:∀{d:D} {v:V},zC d=true→RepV B H d v→RdV K H v (dat d)
  | .non,_,_,r=>by cases (show _=V.non from r); exact .non
  | .bl b,_,_,r=>by cases (show _=V.bl b from r); exact .bl b
  | .int i,_,_,r=>by cases (show _=V.int i from r); exact .int i
  | .str x,_,_,r=>by cases (show _=V.str x from r); exact .str x
  | .tup xs,_,p,r=>by
    obtain ⟨a,vs,rfl,h,_,l⟩:=r
    exact .tup (SqT.of h) (ZhO p l)
  | .lst xs,_,p,r=>by
    obtain ⟨a,vs,rfl,h,_,l⟩:=r
    exact .lst (SqL.of h) (ZhO p l)
  | .ty _,_,p,_=>nomatch p
  | .scr _,_,p,_=>nomatch p
  | .ref _,_,p,_=>nomatch p
theorem ZhO {B:Bx} {H:Hp} {K:PySem.W.Frag}:∀{ds:List D} {vs:List V},zx ds=true→RepL B H ds vs→RdVs K H vs (ZaD ds)
  | [],_,_,r=>by cases (show _=[] from r); exact .nil
  | d::ds,_,p,r=>by
    obtain ⟨v,q,rfl,hv,hq⟩:=r
    have p':zC d=true∧zx ds=true:=by simpa [zx] using p
    exact .cons (rdv p'.1 hv) (ZhO p'.2 hq)
end
mutual
theorem ZdV:∀{d e:D},zC d=true→zC e=true→(same (dat d) (dat e)=true↔d=e):=fun {d e} p q=>by
  cases d with
  | ty _=>exact nomatch p
  | scr _=>exact nomatch p
  | ref _=>exact nomatch p
  | non=>cases e<;>simp_all [zC,dat,same]
  | bl _=>cases e<;>simp_all [zC,dat,same]
  | int _=>cases e<;>simp_all [zC,dat,same]
  | str _=>cases e<;>simp_all [zC,dat,same]
  | tup xs=>
    cases e with
    | tup ys=>
      simp only [dat,same,D.tup.injEq]
      exact ZbC p q
    | ty _=>exact nomatch q
    | scr _=>exact nomatch q
    | ref _=>exact nomatch q
    | _=>simp [dat,same]
  | lst xs=>
    cases e with
    | lst ys=>
      simp only [dat,same,D.lst.injEq]
      exact ZbC p q
    | ty _=>exact nomatch q
    | scr _=>exact nomatch q
    | ref _=>exact nomatch q
    | _=>simp [dat,same]
theorem ZbC:∀{ds es:List D},zx ds=true→zx es=true→(sameAll (ZaD ds) (ZaD es)=true↔ds=es)
  | [],[],_,_=>by simp [ZaD,sameAll]
  | [],_::_,_,_=>by simp [ZaD,sameAll]
  | _::_,[],_,_=>by simp [ZaD,sameAll]
  | d::ds,e::es,p,q=>by
    have p':zC d=true∧zx ds=true:=by simpa [zx] using p
    have q':zC e=true∧zx es=true:=by simpa [zx] using q
    simp only [ZaD,sameAll,Bool.and_eq_true,List.cons.injEq]
    rw [ZdV p'.1 q'.1,ZbC p'.2 q'.2]
end
def look (θ:Sto) (d:D):D:=match d with
  | .ref l=>match θ[l]? with
    | some (.lst xs)=>.lst xs
    | _=>.ref l
  | d=>d
theorem Zbj {B:Bx} {θ:Sto} {H:Hp} {K:PySem.W.Frag} (G:Good X.cl B θ H) {d:D} {v:V} (r:RepV B H d v) (p:zC (look θ d)=true):RdV K H v (dat (look θ d)):=by
  cases d with
  | ref l=>
    unfold look at p ⊢
    simp only at p ⊢
    split at p
    · rename_i xs e
      obtain ⟨hl,rfl⟩:=r
      obtain ⟨vs,h1,h2⟩:=G.cel l _ e
      exact .lst (SqL.of h1) (ZhO p h2)
    · exact nomatch p
  | _=>exact rdv p r
structure Zc5 (x y:D):Prop where
  px:zC x=true
  py:zC y=true
  sx:shaped (dat x)=true
  sy:shaped (dat y)=true
  nm:noMix (dat x) (dat y)=true
open Classical in
def eqM:OM:=fun x y θ=>if Zc5 (look θ x) (look θ y) then .ok (.bl (decide (look θ x=look θ y))) θ else .bad
open Classical in
def neM:OM:=fun x y θ=>if Zc5 (look θ x) (look θ y) then .ok (.bl (!decide (look θ x=look θ y))) θ else .bad
open Classical in
theorem ZdW {d e:D} (p:zC d=true) (q:zC e=true):same (dat d) (dat e)=decide (d=e):=by
  rw [Bool.eq_iff_iff,ZdV p q,decide_eq_true_iff]
open Classical in
theorem zT (hu:X.A.units+64<cLine):OpR X (compareOp .Eq) (rM X eqM):=by
  refine OpR.imp (Zjk hu) fun x y H Q q=>?_
  obtain ⟨σ,B,θ,d,e,G,rd,re,w⟩:=q
  unfold eqM at w
  split at w
  · rename_i c
    refine ⟨_,_,Zbj G rd c.px,Zbj G re c.py,c.sx,c.sy,c.nm,?_⟩
    rw [ZdW c.px c.py]
    exact Zs G (show RepV B H (.bl _) (.bl _) from rfl) w
  · exact w.elim
open Classical in
theorem ZgS (hu:X.A.units+64<cLine):OpR X (compareOp .NotEq) (rM X neM):=by
  refine OpR.imp (Zjh hu) fun x y H Q q=>?_
  obtain ⟨σ,B,θ,d,e,G,rd,re,w⟩:=q
  unfold neM at w
  split at w
  · rename_i c
    refine ⟨_,_,Zbj G rd c.px,Zbj G re c.py,c.sx,c.sy,c.nm,?_⟩
    rw [ZdW c.px c.py]
    exact Zs G (show RepV B H (.bl _) (.bl _) from rfl) w
  · exact w.elim
def ZdE:List D→Bool
  | []=>true
  | .int _::r=>ZdE r
  | _=>false
def ZdD:List D→Bool
  | []=>true
  | .str _::r=>ZdD r
  | _=>false
def memI (i:Int):List D→Bool
  | .int j::r=>decide (j=i) || memI i r
  | _=>false
def memS (x:Str):List D→Bool
  | .str y::r=>decide (y=x) || memS x r
  | _=>false
def inD (θ:Sto) (x y:D):Option Bool:=match seqOf θ y with
  | none=>none
  | some ys=>match x with
    | .int i=>if ZdE ys=true then some (memI i ys) else none
    | .str z=>if ZdD ys=true then some (memS z ys) else none
    | _=>none
def inM:OM:=fun x y θ=>match inD θ x y with
  | some k=>.ok (.bl k) θ
  | none=>.bad
def Zcf:OM:=fun x y θ=>match inD θ x y with
  | some k=>.ok (.bl (!k)) θ
  | none=>.bad
theorem ZbV {B:Bx} {H:Hp}:∀{ys:List D} {vs:List V},ZdE ys=true→RepL B H ys vs→vs.all zZ=true∧∀i:Int,inV (.int i) vs=memI i ys
  | [],_,_,r=>by cases (show _=[] from r); exact ⟨rfl,fun _=>rfl⟩
  | d::ys,_,h,r=>by
    cases d with
    | int j=>
      obtain ⟨v,q,rfl,hv,hq⟩:=r
      cases (show v=V.int j from hv)
      obtain ⟨h1,h2⟩:=ZbV (show ZdE ys=true from h) hq
      refine ⟨by simp [zZ] at h1 ⊢; exact h1,fun i=>?_⟩
      have:=h2 i
      unfold inV at this ⊢
      rw [List.any_cons,this]
      show (j == i || memI i ys)=(decide (j=i) || memI i ys)
      rw [Bool.beq_eq_decide_eq]
    | _=>exact nomatch h
theorem ZbU {B:Bx} {H:Hp}:∀{ys:List D} {vs:List V},ZdD ys=true→RepL B H ys vs→vs.all zZ=true∧∀i:Str,inV (.str i) vs=memS i ys
  | [],_,_,r=>by cases (show _=[] from r); exact ⟨rfl,fun _=>rfl⟩
  | d::ys,_,h,r=>by
    cases d with
    | str j=>
      obtain ⟨v,q,rfl,hv,hq⟩:=r
      cases (show v=V.str j from hv)
      obtain ⟨h1,h2⟩:=ZbU (show ZdD ys=true from h) hq
      refine ⟨by simp [zZ] at h1 ⊢; exact h1,fun i=>?_⟩
      have:=h2 i
      unfold inV at this ⊢
      rw [List.any_cons,this]
      show (j == i || memS i ys)=(decide (j=i) || memS i ys)
      rw [Bool.beq_eq_decide_eq]
    | _=>exact nomatch h
theorem Zhe {cl:Mo} {B:Bx} {θ:Sto} {H:Hp} (G:Good cl B θ H) {d e:D} {x y:V} {k:Bool} (rd:RepV B H d x) (re:RepV B H e y) (h:inD θ d e=some k) :
    ∃p xs,y=.ref p∧(SqL cl.K H p xs∨SqT cl.K H p xs)∧zZ x=true∧xs.all zZ=true∧inV x xs=k:=by
  unfold inD at h
  split at h
  · cases h
  · rename_i ys e1
    obtain ⟨a,vs,rfl,h1,h2⟩:=zR G re e1
    split at h
    · split at h
      · rename_i i hz
        cases h
        cases (show x=V.int i from rd)
        obtain ⟨q1,q2⟩:=ZbV hz h2
        exact ⟨a,vs,rfl,h1,rfl,q1,q2 i⟩
      · cases h
    · split at h
      · rename_i i hz
        cases h
        cases (show x=V.str i from rd)
        obtain ⟨q1,q2⟩:=ZbU hz h2
        exact ⟨a,vs,rfl,h1,rfl,q1,q2 i⟩
      · cases h
    · cases h
theorem Zlx:OpR X (compareOp .In) (rM X inM):=by
  refine OpR.imp ZfQ fun x y H Q q=>?_
  obtain ⟨σ,B,θ,d,e,G,rd,re,w⟩:=q
  unfold inM at w
  split at w
  · rename_i k e1
    obtain ⟨p,xs,h1,h2,h3,h4,h5⟩:=Zhe G rd re e1
    exact ⟨p,xs,h1,h2,h3,h4,by rw [h5]; exact Zs G (show RepV B H (.bl _) (.bl _) from rfl) w⟩
  · exact w.elim
theorem Zh4:OpR X (compareOp .NotIn) (rM X Zcf):=by
  refine OpR.imp Zdi fun x y H Q q=>?_
  obtain ⟨σ,B,θ,d,e,G,rd,re,w⟩:=q
  unfold Zcf at w
  split at w
  · rename_i k e1
    obtain ⟨p,xs,h1,h2,h3,h4,h5⟩:=Zhe G rd re e1
    exact ⟨p,xs,h1,h2,h3,h4,by rw [h5]; exact Zs G (show RepV B H (.bl _) (.bl _) from rfl) w⟩
  · exact w.elim
def zJ:D→Bool
  | .non=>true
  | _=>false
theorem Zd9 {B:Bx} {H:Hp} {d:D} {v:V} (r:RepV B H d v):zJ d=decide (v=.non):=by
  cases d with
  | non=>cases (show v=.non from r); simp [zJ]
  | bl b=>cases (show v=.bl b from r); simp [zJ]
  | int i=>cases (show v=.int i from r); simp [zJ]
  | str x=>cases (show v=.str x from r); simp [zJ]
  | ty n=>cases (show v=.ty n from r); simp [zJ]
  | scr ns=>obtain ⟨a,rfl,_⟩:=r; simp [zJ]
  | tup xs=>obtain ⟨a,o,rfl,_⟩:=r; simp [zJ]
  | lst xs=>obtain ⟨a,o,rfl,_⟩:=r; simp [zJ]
  | ref l=>obtain ⟨_,rfl⟩:=r; simp [zJ]
def isM:OM:=fun x y θ=>match y with
  | .non=>.ok (.bl (zJ x)) θ
  | .bl c=>match x with
    | .bl b=>.ok (.bl (b == c)) θ
    | _=>.bad
  | _=>.bad
def Zcm:OM:=fun x y θ=>match y with
  | .non=>.ok (.bl (!zJ x)) θ
  | .bl c=>match x with
    | .bl b=>.ok (.bl (!(b == c))) θ
    | _=>.bad
  | _=>.bad
theorem Zjj:OpR X (compareOp .Is) (fun x y H Q=>∃b c:Bool,x=.bl b∧y=.bl c∧Q (.bl (b == c)) H):=by
  intro pins s σ H x y v u Q I rx ry h
  obtain ⟨b,c,rfl,rfl,q⟩:=h
  cases rx
  cases ry
  have e:(Value.bool b == Value.bool c)=(b == c):=by cases b<;>cases c<;>rfl
  exact wpAny_is_plain rfl ⟨.bl _,H,I,rfl,by rw [e]; exact q⟩
theorem Zlw:OpR X (compareOp .Is) (rM X isM):=by
  refine OpR.imp (op_isN.or Zjj) fun x y H Q q=>?_
  obtain ⟨σ,B,θ,d,e,G,rd,re,w⟩:=q
  unfold isM at w
  split at w
  · refine .inl ⟨re,?_⟩
    have q:=Zs G (show RepV B H (.bl _) (.bl _) from rfl) w
    rw [Zd9 rd] at q
    exact q
  · split at w
    · exact .inr ⟨_,_,rd,re,Zs G (show RepV B H (.bl _) (.bl _) from rfl) w⟩
    · exact w.elim
  · exact w.elim
theorem Zfe:OpR X (compareOp .IsNot) (rM X Zcm):=by
  refine OpR.imp (op_notN.or Zh1) fun x y H Q q=>?_
  obtain ⟨σ,B,θ,d,e,G,rd,re,w⟩:=q
  unfold Zcm at w
  split at w
  · refine .inl ⟨re,?_⟩
    have q:=Zs G (show RepV B H (.bl _) (.bl _) from rfl) w
    rw [Zd9 rd] at q
    exact q
  · split at w
    · exact .inr ⟨_,_,rd,re,Zs G (show RepV B H (.bl _) (.bl _) from rfl) w⟩
    · exact w.elim
  · exact w.elim
end
end
end L2.MM
namespace L2.MM
open PySem PySem.Spec PyProof.Rows PySem.SeqAt
noncomputable section
variable {X:Cx}
section
def ixD (θ:Sto) (x:D) (i:Int):Option D:=match x with
  | .str z=>if z.length≤BIG then (atI z.cps.toList i).map fun c=>.str ⟨#[c]⟩ else none
  | x=>(seqOf θ x).bind (atI · i)
def ixM:OM:=fun x y θ=>match y with
  | .int i=>match ixD θ x i with
    | some d=>.ok d θ
    | none=>.bad
  | _=>.bad
theorem RepL.atI {B:Bx} {H:Hp} {xs:List D} {vs:List V} {i:Int} {d:D} (r:RepL B H xs vs) (h:atI xs i=some d):∃v,atI vs i=some v∧RepV B H d v:=by
  unfold L2.atI at h ⊢
  rw [r.len]
  cases e:ixN xs.length i with
  | none=>rw [e] at h; cases h
  | some j=>
    rw [e] at h
    exact r.get h
theorem Zr:IxR X (rM X ixM):=by
  refine IxR.imp Zg9 fun x y H Q q=>?_
  obtain ⟨σ,B,θ,d,e,G,rd,re,w⟩:=q
  unfold ixM at w
  split at w
  · rename_i i
    split at w
    · rename_i r e1
      have sq:(seqOf θ d).bind (L2.atI · i)=some r→rIx X.K x y H Q:=fun h=>by
        cases e2:seqOf θ d with
        | none=>rw [e2] at h; cases h
        | some xs=>
          rw [e2] at h
          obtain ⟨a,vs,rfl,h1,h2⟩:=zR G rd e2
          obtain ⟨v,h3,h4⟩:=h2.atI h
          have q:=Zs G h4 w
          rcases h1 with h1 | h1
          · exact .inl ⟨a,vs,i,v,rfl,re,h1,h3,q⟩
          · exact .inr (.inl ⟨a,vs,i,v,rfl,re,h1,h3,q⟩)
      cases d with
      | str z=>
        simp only [ixD] at e1
        split at e1
        · rename_i hz
          cases e2:L2.atI z.cps.toList i with
          | none=>rw [e2] at e1; cases e1
          | some c=>
            rw [e2] at e1
            cases e1
            exact .inr (.inr ⟨z,i,c,rd,re,Z3 hz,e2,Zs G (show RepV B H (.str _) (.str _) from rfl) w⟩)
        · cases e1
      | non=>exact sq e1
      | bl _=>exact sq e1
      | int _=>exact sq e1
      | ty _=>exact sq e1
      | scr _=>exact sq e1
      | tup _=>exact sq e1
      | lst _=>exact sq e1
      | ref _=>exact sq e1
    · exact w.elim
  · exact w.elim
abbrev PM:=List Sl→Sto→R (Option Int)
def EqO (_:Bx) (_:Hp) (a b:Option Int):Prop:=a=b
def tMO (X:Cx) (f:PM):TO:=fun σ H Q=>∃B θ ρ,Frm X.cl B θ ρ σ H∧wpR X σ EqO B H (f ρ θ) Q
def MO (X:Cx) (e:Option Expr) (f:PM):Prop:=PO X e (tMO X f)
theorem Zaq {f:PM} {σ:St} {H:Hp} {Q Q':Option Int→Hp→Prop} (h:tMO X f σ H Q) (hQ:∀v H',Q v H'→Q' v H'):tMO X f σ H Q':=let ⟨B,θ,ρ,F,w⟩:=h; ⟨B,θ,ρ,F,w.mono hQ⟩
theorem ZdT {σ:St} {H:Hp} {γ δ:Type} {Rel':Bx→Hp→γ→δ→Prop} {B:Bx} {θ:Sto} {ρ:List Sl} {f:PM} {k:Option Int→Sto→R γ} {Q:δ→Hp→Prop} (F:Frm X.cl B θ ρ σ H) (h:wpR X σ Rel' B H ((f ρ θ).bind k) Q) :
    tMO X f σ H (fun c H1=>∃B1 θ1,ExtE B B1 H H1∧Frm X.cl B1 θ1 ρ σ H1∧wpR X σ Rel' B1 H1 (k c θ1) Q):=
  ⟨B,θ,ρ,F,(wpR.bind (Rel:=EqO) h).mono fun v H1 ⟨B1,θ1,d,E,G,r,w⟩=>by cases (show d=v from r); exact ⟨B1,θ1,E,F.ext E G,w⟩⟩
def Zx:PM:=fun _ θ=>.ok none θ
def ZR (f:EM):PM:=fun ρ θ=>(f ρ θ).bind fun x θ=>match x with
  | .int i=>.ok (some i) θ
  | _=>.bad
theorem PO.imp {e:Option Expr} {t t':TO} (h:PO X e t) (hi:∀σ H Q,t' σ H Q→t σ H Q):PO X e t':=fun pins s σ H Q I q=>h pins s σ H Q I (hi σ H Q q)
theorem zc:MO X none Zx:=PO.imp ZhW fun σ H Q h=>by
  obtain ⟨B,θ,ρ,F,w⟩:=h
  exact Zs (Rel:=EqO) F.good rfl w
theorem ZO {e:Expr} {f:EM} (h:ME X e f):MO X (some e) (ZR f):=PO.imp (ZhV h) fun σ H Q h=>by
  obtain ⟨B,θ,ρ,F,w⟩:=h
  refine ZJ (step F w) ?_
  rintro v H1 ⟨B1,θ1,x,E1,F1,rx,w1⟩
  cases x with
  | int i=>exact ⟨i,rx,Zs (Rel:=EqO) F1.good rfl w1⟩
  | _=>exact w1.elim
def zz {α:Type} (xs:List α) (lo hi:Option Int):List α:=(xs.drop (HT.sIx xs.length 0 lo)).take (HT.sIx xs.length xs.length hi-HT.sIx xs.length 0 lo)
theorem RepL.cut {B:Bx} {H:Hp} {xs:List D} {vs:List V} (r:RepL B H xs vs) (lo hi:Option Int):RepL B H (zz xs lo hi) (Zee vs lo hi):=by
  unfold zz Zee
  rw [r.len]
  exact (r.drop _).take _
def ZbA (θ:Sto) (x:D) (lo hi:Option Int):Option D:=match x with
  | .tup xs=>if HT.sIx xs.length 0 lo=0∧HT.sIx xs.length xs.length hi=xs.length then none else some (.tup (zz xs lo hi))
  | x=>(ZY θ x).map fun xs=>.lst (zz xs lo hi)
def mSl (f:EM) (lo hi:PM):EM:=fun ρ θ=>(f ρ θ).bind fun x θ=>(lo ρ θ).bind fun l θ=>(hi ρ θ).bind fun h θ=>match ZbA θ x l h with
  | some d=>.ok d θ
  | none=>.bad
theorem Z0 {e:Expr} {lo hi:Option Expr} {f:EM} {fl fh:PM} {pos p2:Pos} (he:ME X e f) (hl:MO X lo fl) (hh:MO X hi fh):ME X (.Subscript e (.Slice lo hi none p2) pos) (mSl f fl fh):=by
  refine PE.imp (ZgH (sl_list.or ZiY) he hl hh) fun σ H Q h=>?_
  obtain ⟨B,θ,ρ,F,w⟩:=h
  refine ZJ (step F w) ?_
  rintro v H1 ⟨B1,θ1,x,E1,F1,rx,w1⟩
  refine Zaq (ZdT F1 w1) ?_
  rintro l H2 ⟨B2,θ2,E2,F2,w2⟩
  refine Zaq (ZdT F2 w2) ?_
  rintro u H3 ⟨B3,θ3,E3,F3,w3⟩
  have rx3:=rx.ext (E2.trans E3).toExtS
  have lst:∀d,(ZY θ3 x).map (fun xs=>D.lst (zz xs l u))=some d→wpR X σ RepV B3 H3 (R.ok d θ3) Q→Zj7 X.K v l u H3 Q:=fun d h w=>by
    cases e2:ZY θ3 x with
    | none=>rw [e2] at h; cases h
    | some xs=>
      rw [e2] at h
      cases h
      obtain ⟨a,vs,rfl,h1,h2⟩:=ZN F3.good rx3 e2
      exact ⟨a,vs,rfl,SqL.of h1,ZaW F3.good (h2.cut l u) w⟩
  split at w3
  · rename_i d e1
    cases x with
    | tup xs=>
      simp only [ZbA] at e1
      split at e1
      · cases e1
      · rename_i hw
        cases e1
        obtain ⟨a,vs,rfl,h1,k1,l1⟩:=rx3
        exact .inr ⟨a,vs,rfl,SqT.of h1,by rw [l1.len]; exact hw,Zb9 F3.good (l1.cut l u) w3⟩
    | non=>exact .inl (lst d e1 w3)
    | bl _=>exact .inl (lst d e1 w3)
    | int _=>exact .inl (lst d e1 w3)
    | str _=>exact .inl (lst d e1 w3)
    | ty _=>exact .inl (lst d e1 w3)
    | scr _=>exact .inl (lst d e1 w3)
    | lst _=>exact .inl (lst d e1 w3)
    | ref _=>exact .inl (lst d e1 w3)
  · exact w3.elim
def z6 {α:Type} (xs:List α) (lo hi st:Option Int):List α:=(sliceRange (sliceBounds lo hi st xs.length).1 (sliceBounds lo hi st xs.length).2.1 (sliceBounds lo hi st xs.length).2.2).filterMap (xs[·]?)
theorem RepL.none_of:∀{B:Bx} {H:Hp} {xs:List D} {vs:List V} {i:Nat},RepL B H xs vs→xs[i]?=none→vs[i]?=none:=fun {B H xs vs i} r e=>by
  have h1:=r.len
  have h2:xs.length≤i:=List.getElem?_eq_none_iff.mp e
  exact List.getElem?_eq_none_iff.mpr (by omega)
theorem RepL.pick {B:Bx} {H:Hp} {xs:List D} {vs:List V} (r:RepL B H xs vs):∀ks:List Nat,RepL B H (ks.filterMap (xs[·]?)) (ks.filterMap (vs[·]?))
  | []=>rfl
  | k::ks=>by
    cases e:xs[k]? with
    | none=>rw [List.filterMap_cons_none e,List.filterMap_cons_none (r.none_of e)]; exact r.pick ks
    | some x=>
      obtain ⟨u,e',q⟩:=r.get e
      rw [List.filterMap_cons_some e,List.filterMap_cons_some e']
      exact ⟨_,_,rfl,q,r.pick ks⟩
def Zh9 (f:EM) (lo hi st:PM):EM:=fun ρ θ=>(f ρ θ).bind fun x θ=>(lo ρ θ).bind fun l θ=>(hi ρ θ).bind fun h θ=>(st ρ θ).bind fun s θ=>match ZY θ x with
  | some xs=>if s≠some 0∧(z6 xs l h s).length≤BIG then .ok (.lst (z6 xs l h s)) θ else .bad
  | none=>.bad
theorem ZcQ {e sp:Expr} {lo hi:Option Expr} {f:EM} {fl fh fs:PM} {pos p2:Pos} (he:ME X e f) (hl:MO X lo fl) (hh:MO X hi fh) (hs:MO X (some sp) fs):ME X (.Subscript e (.Slice lo hi (some sp) p2) pos) (Zh9 f fl fh fs):=by
  refine PE.imp (ZfO he hl hh hs) fun σ H Q h=>?_
  obtain ⟨B,θ,ρ,F,w⟩:=h
  refine ZJ (step F w) ?_
  rintro v H1 ⟨B1,θ1,x,E1,F1,rx,w1⟩
  refine Zaq (ZdT F1 w1) ?_
  rintro l H2 ⟨B2,θ2,E2,F2,w2⟩
  refine Zaq (ZdT F2 w2) ?_
  rintro u H3 ⟨B3,θ3,E3,F3,w3⟩
  refine Zaq (ZdT F3 w3) ?_
  rintro s H4 ⟨B4,θ4,E4,F4,w4⟩
  split at w4
  · rename_i xs e1
    split at w4
    · rename_i hz
      obtain ⟨a,vs,rfl,h1,h2⟩:=ZN F4.good (rx.ext ((E2.trans E3).trans E4).toExtS) e1
      have p:RepL B4 H4 (z6 xs l u s) (Zas vs l u s):=by
        unfold z6 Zas
        rw [h2.len]
        exact h2.pick _
      exact ⟨a,vs,rfl,SqL.of h1,hz.1,by rw [p.len]; exact Z3 hz.2,ZaW F4.good p w4⟩
    · exact w4.elim
  · exact w4.elim
def Zcl:GM:=fun ds θ=>match ds with
  | [.str z]=>if z.length≤BIG then .ok (.int z.length) θ else .bad
  | [d]=>match seqOf θ d with
    | some xs=>.ok (.int xs.length) θ
    | none=>.bad
  | _=>.bad
theorem RepL.one {B:Bx} {H:Hp} {d:D} {vs:List V} (r:RepL B H [d] vs):∃v,vs=[v]∧RepV B H d v:=by
  obtain ⟨v,q,rfl,hv,hq⟩:=r
  cases (show q=[] from hq)
  exact ⟨v,rfl,hv⟩
theorem RepL.two {B:Bx} {H:Hp} {d e:D} {vs:List V} (r:RepL B H [d,e] vs):∃v u,vs=[v,u]∧RepV B H d v∧RepV B H e u:=by
  obtain ⟨v,q,rfl,hv,hq⟩:=r
  obtain ⟨u,rfl,hu⟩:=hq.one
  exact ⟨v,u,rfl,hv,hu⟩
theorem ZcZ:CallR X (.builtin "len") (rC X Zcl):=by
  refine CallR.imp (call_len_str.or Zbq) fun vs H Q q=>?_
  obtain ⟨σ,B,θ,ds,G,r,w⟩:=q
  unfold Zcl at w
  split at w
  · split at w
    · rename_i z hz
      obtain ⟨v,rfl,rv⟩:=r.one
      cases (show v=V.str z from rv)
      exact .inl ⟨z,rfl,Z3 hz,Zs G (show RepV B H (.int _) (.int _) from rfl) w⟩
    · exact w.elim
  · split at w
    · rename_i xs e1
      obtain ⟨v,rfl,rv⟩:=r.one
      obtain ⟨a,us,rfl,h1,h2⟩:=zR G rv e1
      exact .inr ⟨a,us,rfl,h1,by rw [h2.len]; exact Zs G (show RepV B H (.int _) (.int _) from rfl) w⟩
    · exact w.elim
  · exact w.elim
def Zbl:List D→Option (List Int)
  | []=>some []
  | .int i::r=>(Zbl r).map (i::·)
  | _=>none
@[simp] theorem Zhc (ns:List Int):Zbl (ns.map D.int)=some ns:=by
  induction ns with
  | nil=>rfl
  | cons n r ih=>simp [Zbl,ih]
theorem Zfn:∀{ds:List D} {ns:List Int},Zbl ds=some ns→ds=ns.map D.int
  | [],_,h=>by cases h; rfl
  | d::r,ns,h=>by
    cases d with
    | int i=>
      simp only [Zbl] at h
      cases e:Zbl r with
      | none=>rw [e] at h; cases h
      | some ms=>rw [e] at h; cases h; rw [Zfn e]; rfl
    | _=>cases h
theorem Zea {B:Bx} {H:Hp}:∀{ns:List Int} {vs:List V},RepL B H (ns.map D.int) vs→vs=ns.map V.int
  | [],_,r=>r
  | n::ns,_,r=>by
    obtain ⟨v,q,rfl,hv,hq⟩:=r
    cases (show v=V.int n from hv)
    rw [Zea hq]; rfl
def ZdB:List D→Option (List Bool)
  | []=>some []
  | .bl i::r=>(ZdB r).map (i::·)
  | _=>none
theorem Zhw:∀{ds:List D} {ns:List Bool},ZdB ds=some ns→ds=ns.map D.bl
  | [],_,h=>by cases h; rfl
  | d::r,ns,h=>by
    cases d with
    | bl i=>
      simp only [ZdB] at h
      cases e:ZdB r with
      | none=>rw [e] at h; cases h
      | some ms=>rw [e] at h; cases h; rw [Zhw e]; rfl
    | _=>cases h
theorem Zft {B:Bx} {H:Hp}:∀{ns:List Bool} {vs:List V},RepL B H (ns.map D.bl) vs→vs=ns.map V.bl
  | [],_,r=>r
  | n::ns,_,r=>by
    obtain ⟨v,q,rfl,hv,hq⟩:=r
    cases (show v=V.bl n from hv)
    rw [Zft hq]; rfl
def ZfE:GM:=fun ds θ=>match ds with
  | [d]=>match (ZY θ d).bind Zbl with
    | some ns=>.ok (.int ns.sum) θ
    | none=>.bad
  | _=>.bad
theorem ZiJ (hc:X.calm=true:=by rfl):CallR X (.builtin "sum") (rC X ZfE):=by
  refine CallR.imp (Zht hc) fun vs H Q q=>?_
  obtain ⟨σ,B,θ,ds,G,r,w⟩:=q
  unfold ZfE at w
  split at w
  · rename_i d
    split at w
    · rename_i ns e1
      obtain ⟨v,rfl,rv⟩:=r.one
      cases e2:ZY θ d with
      | none=>rw [e2] at e1; cases e1
      | some xs=>
        rw [e2] at e1
        obtain ⟨a,us,rfl,h1,h2⟩:=ZN G rv e2
        rw [Zfn (show Zbl xs=some ns from e1)] at h2
        rw [Zea h2] at h1
        exact ⟨a,ns,rfl,SqL.of h1,Zs G (show RepV B H (.int _) (.int _) from rfl) w⟩
    · exact w.elim
  · exact w.elim
def Zga:GM:=fun ds θ=>match ds with
  | [d]=>match (ZY θ d).bind ZdB with
    | some ns=>.ok (.bl (ns.all id)) θ
    | none=>.bad
  | _=>.bad
theorem ZkK (hc:X.calm=true:=by rfl):CallR X (.builtin "all") (rC X Zga):=by
  refine CallR.imp (Zhu hc) fun vs H Q q=>?_
  obtain ⟨σ,B,θ,ds,G,r,w⟩:=q
  unfold Zga at w
  split at w
  · rename_i d
    split at w
    · rename_i ns e1
      obtain ⟨v,rfl,rv⟩:=r.one
      cases e2:ZY θ d with
      | none=>rw [e2] at e1; cases e1
      | some xs=>
        rw [e2] at e1
        obtain ⟨a,us,rfl,h1,h2⟩:=ZN G rv e2
        rw [Zhw (show ZdB xs=some ns from e1)] at h2
        rw [Zft h2] at h1
        exact ⟨a,ns,rfl,SqL.of h1,Zs G (show RepV B H (.bl _) (.bl _) from rfl) w⟩
    · exact w.elim
  · exact w.elim
def Zhd:GM:=fun ds θ=>match ds with
  | [.int i]=>.ok (.int i) θ
  | [.bl k]=>.ok (.int (if k then 1 else 0)) θ
  | _=>.bad
theorem ZiK:CallR X (.type "int") (rC X Zhd):=by
  refine CallR.imp Zf7 fun vs H Q q=>?_
  obtain ⟨σ,B,θ,ds,G,r,w⟩:=q
  unfold Zhd at w
  split at w
  · rename_i i
    obtain ⟨v,rfl,rv⟩:=r.one
    cases (show v=V.int i from rv)
    exact .inl ⟨i,rfl,Zs G (show RepV B H (.int _) (.int _) from rfl) w⟩
  · rename_i k
    obtain ⟨v,rfl,rv⟩:=r.one
    cases (show v=V.bl k from rv)
    exact .inr ⟨k,rfl,Zs G (show RepV B H (.int _) (.int _) from rfl) w⟩
  · exact w.elim
def ZbP:GM:=fun ds θ=>match ds with
  | [d]=>match seqOf θ d with
    | some xs=>.ok (.lst xs) θ
    | none=>.bad
  | _=>.bad
theorem ZeP:CallR X (.type "list") (rC X ZbP):=by
  refine CallR.imp Zdy fun vs H Q q=>?_
  obtain ⟨σ,B,θ,ds,G,r,w⟩:=q
  unfold ZbP at w
  split at w
  · split at w
    · rename_i xs e1
      obtain ⟨v,rfl,rv⟩:=r.one
      obtain ⟨a,us,rfl,h1,h2⟩:=zR G rv e1
      exact ⟨a,us,rfl,h1,ZaW G h2 w⟩
    · exact w.elim
  · exact w.elim
def ZaX:GM:=fun ds θ=>match ds with
  | [.tup xs]=>.ok (.tup xs) θ
  | [d]=>match ZY θ d with
    | some xs=>.ok (.tup xs) θ
    | none=>.bad
  | _=>.bad
theorem Zdz:CallR X (.type "tuple") (rC X ZaX):=by
  refine CallR.imp ZcE fun vs H Q q=>?_
  obtain ⟨σ,B,θ,ds,G,r,w⟩:=q
  unfold ZaX at w
  split at w
  · rename_i xs
    obtain ⟨v,rfl,rv⟩:=r.one
    obtain ⟨a,us,rfl,h1,k1,l1⟩:=id rv
    exact ⟨a,us,rfl,.inr ⟨SqT.of h1,Zs G rv w⟩⟩
  · split at w
    · rename_i xs e1
      obtain ⟨v,rfl,rv⟩:=r.one
      obtain ⟨a,us,rfl,h1,h2⟩:=ZN G rv e1
      exact ⟨a,us,rfl,.inl ⟨SqL.of h1,Zb9 G h2 w⟩⟩
    · exact w.elim
  · exact w.elim
inductive Ty | non | bl | int | str | lst | tup
def Ty.nm:Ty→String
  | .non=>"NoneType" | .bl=>"bool" | .int=>"int" | .str=>"str" | .lst=>"list" | .tup=>"tuple"
def tyD (θ:Sto):D→Option Ty
  | .non=>some .non
  | .bl _=>some .bl
  | .int _=>some .int
  | .str _=>some .str
  | .tup _=>some .tup
  | .scr _=>none
  | d=>(ZY θ d).map fun _=>.lst
def isT:Ty→String→Option Bool
  | .non,"int"=>some false | .non,"bool"=>some false | .non,"list"=>some false | .non,"tuple"=>some false | .non,"str"=>some false
  | .bl,"int"=>some true | .bl,"bool"=>some true | .bl,"list"=>some false | .bl,"tuple"=>some false | .bl,"str"=>some false
  | .int,"int"=>some true | .int,"bool"=>some false | .int,"list"=>some false | .int,"tuple"=>some false | .int,"str"=>some false
  | .str,"int"=>some false | .str,"bool"=>some false | .str,"list"=>some false | .str,"tuple"=>some false | .str,"str"=>some true
  | .lst,"int"=>some false | .lst,"bool"=>some false | .lst,"list"=>some true | .lst,"tuple"=>some false | .lst,"str"=>some false
  | .tup,"int"=>some false | .tup,"bool"=>some false | .tup,"list"=>some false | .tup,"tuple"=>some true | .tup,"str"=>some false
  | _,_=>none
theorem Zjx {K:PySem.W.Frag} {t:Ty} {n:String} {b:Bool} (h:isT t n=some b):PySem.W.kitOne K (.type t.nm) (.type n)=some b:=by
  unfold isT at h
  split at h<;>first | (cases h; with_unfolding_all rfl) | cases h
def ZaV:GM:=fun ds θ=>match ds with
  | [d,.ty n]=>match (tyD θ d).bind (isT · n) with
    | some b=>.ok (.bl b) θ
    | none=>.bad
  | _=>.bad
theorem ZiS {B:Bx} {θ:Sto} {H:Hp} {K:PySem.W.Frag} (G:Good X.cl B θ H) {d:D} {v:V} {t:Ty} (r:RepV B H d v) (h:tyD θ d=some t):Zbx K H v (.type t.nm):=by
  cases d with
  | non=>cases (show v=.non from r); cases h; exact .non
  | bl b=>cases (show v=.bl b from r); cases h; exact .bl b
  | int b=>cases (show v=.int b from r); cases h; exact .int b
  | str b=>cases (show v=.str b from r); cases h; exact .str b
  | tup xs=>obtain ⟨a,vs,rfl,h1,_⟩:=r; cases h; exact .tup h1
  | scr xs=>cases h
  | lst xs=>obtain ⟨a,vs,rfl,h1,_⟩:=r; cases h; exact .lst h1
  | ref l=>
    cases e:ZY θ (.ref l) with
    | none=>simp only [tyD,e] at h; cases h
    | some xs=>
      simp only [tyD,e] at h
      cases h
      obtain ⟨a,us,rfl,h1,h2⟩:=ZN G r e
      exact .lst h1
  | ty n=>cases h
theorem ZdA:CallR X (.builtin "isinstance") (rC X ZaV):=by
  refine CallR.imp Zeh fun vs H Q q=>?_
  obtain ⟨σ,B,θ,ds,G,r,w⟩:=q
  unfold ZaV at w
  split at w
  · rename_i d n
    split at w
    · rename_i b e1
      obtain ⟨v,u,rfl,rv,ru⟩:=r.two
      cases (show u=V.ty n from ru)
      cases e2:tyD θ d with
      | none=>rw [e2] at e1; cases e1
      | some t=>
        rw [e2] at e1
        exact ⟨v,n,_,b,rfl,ZiS G rv e2,Zjx e1,Zs G (show RepV B H (.bl _) (.bl _) from rfl) w⟩
    · exact w.elim
  · exact w.elim
end
end
end L2.MM
namespace L2.MM
open PySem PySem.Spec PyProof.Rows PySem.SeqAt
noncomputable section
variable {X:Cx}
inductive Src where
  | seq (d:D) | rng (lo:Int) (n:Nat)
def Src.items (θ:Sto):Src→Option (List D)
  | .seq d=>seqOf θ d
  | .rng lo n=>some ((List.range n).map fun (i:Nat)=>D.int (lo+(i:Int)))
def SrcRep (K:PySem.W.Frag) (B:Bx) (H:Hp):Src→It→Prop
  | .seq d,J=>∃a,RepV B H d (.ref a)∧J=(match d with | .tup _=>Itt K a | _=>Itl K a)
  | .rng lo n,J=>J=Itr lo n
abbrev IM:=List Sl→Sto→R Src
section
def tMI (X:Cx) (f:IM):TI:=fun σ H Q=>∃B θ ρ,Frm X.cl B θ ρ σ H∧wpR X σ (SrcRep X.K) B H (f ρ θ) Q
def MI (X:Cx) (tg iter:Expr) (f:IM):Prop:=PI X tg iter (tMI X f)
theorem PI.imp {tg iter:Expr} {t t':TI} (h:PI X tg iter t) (hi:∀σ H Q,t' σ H Q→t σ H Q):PI X tg iter t':=fun pins s σ H Q I q=>h pins s σ H Q I (hi σ H Q q)
theorem SrcRep.ext {K:PySem.W.Frag} {B B':Bx} {H H':Hp} {S:Src} {J:It} (r:SrcRep K B H S J) (E:ExtS B B' H H'):SrcRep K B' H' S J:=by
  cases S with
  | seq d=>obtain ⟨a,h,e⟩:=r; exact ⟨a,h.ext E,e⟩
  | rng lo n=>exact r
theorem Zc9 {cl:Mo} {B:Bx} {θ:Sto} {H:Hp} {S:Src} {J:It} {xs:List D} (G:Good cl B θ H) (r:SrcRep cl.K B H S J) (h:S.items θ=some xs) :
    (∀i d,xs[i]?=some d→J.go i H∧∀x H',J.yld i H x H'→H'=H∧RepV B H d x)∧J.stop xs.length H:=by
  cases S with
  | rng lo n=>
    cases (show J=Itr lo n from r)
    cases h
    refine ⟨fun i d e=>?_,by show n≤_; simp⟩
    rw [List.getElem?_map] at e
    by_cases hi:i<n
    · rw [List.getElem?_range hi] at e
      cases e
      exact ⟨hi,fun x H' y=>⟨y.1,y.2⟩⟩
    · rw [List.getElem?_eq_none (by simpa using hi)] at e
      cases e
  | seq d=>
    obtain ⟨a,rv,e⟩:=r
    cases d with
    | tup ys=>
      obtain ⟨a',vs,e1,h1,_,h2⟩:=rv
      cases e1
      cases h
      simp only at e
      subst e
      refine ⟨fun i d e=>?_,⟨vs,SqT.of h1,by rw [h2.len]; exact Nat.le_refl _⟩⟩
      obtain ⟨v,q1,q2⟩:=h2.get e
      refine ⟨⟨vs,v,SqT.of h1,q1⟩,fun x H' y=>⟨y.1,?_⟩⟩
      have:=y.2 vs (SqT.of h1)
      rw [q1] at this
      cases this
      exact q2
    | scr ns=>
      cases h
      obtain ⟨a',vs',e1,h1,_⟩:=zR G rv (show seqOf θ (.scr ns)=some (ns.map D.int) from rfl)
      cases e1
      simp only at e
      subst e
      have hS:SqL cl.K H a (ns.map V.int):=by
        obtain ⟨a',e1,h1⟩:=rv
        cases e1
        rcases h1 with ⟨o,h1,_⟩ | h1
        · exact .inl (.inr ⟨o,h1⟩)
        · exact .inr (G.kc a ns h1)
      have h2:RepL B H (ns.map D.int) (ns.map V.int):=RepL.map (f:=D.int) (g:=V.int) (fun _=>rfl) ns
      refine ⟨fun i d e=>?_,⟨ns.map V.int,hS,by simp⟩⟩
      obtain ⟨v,q1,q2⟩:=h2.get e
      refine ⟨⟨_,v,hS,q1⟩,fun x H' y=>⟨y.1,?_⟩⟩
      have:=y.2 _ hS
      rw [q1] at this
      cases this
      exact q2
    | lst ys=>
      obtain ⟨a',vs,e1,h1,h2⟩:=ZN G rv (show ZY θ (.lst ys)=some xs from h)
      cases e1
      simp only at e
      subst e
      refine ⟨fun i d e=>?_,⟨vs,SqL.of h1,by rw [h2.len]; exact Nat.le_refl _⟩⟩
      obtain ⟨v,q1,q2⟩:=h2.get e
      refine ⟨⟨vs,v,SqL.of h1,q1⟩,fun x H' y=>⟨y.1,?_⟩⟩
      have:=y.2 vs (SqL.of h1)
      rw [q1] at this
      cases this
      exact q2
    | ref l=>
      obtain ⟨a',vs,e1,h1,h2⟩:=ZN G rv (show ZY θ (.ref l)=some xs from h)
      cases e1
      simp only at e
      subst e
      refine ⟨fun i d e=>?_,⟨vs,SqL.of h1,by rw [h2.len]; exact Nat.le_refl _⟩⟩
      obtain ⟨v,q1,q2⟩:=h2.get e
      refine ⟨⟨vs,v,SqL.of h1,q1⟩,fun x H' y=>⟨y.1,?_⟩⟩
      have:=y.2 vs (SqL.of h1)
      rw [q1] at this
      cases this
      exact q2
    | non=>cases h
    | bl _=>cases h
    | int _=>cases h
    | str _=>cases h
    | ty _=>cases h
def ZlH (K:PySem.W.Frag) (tl:TE):TI:=fun σ H R=>tl σ H fun x H1=>∃a,x=.ref a∧(((∃xs,SqL K H1 a xs)∧R (Itl K a) H1)∨((∃xs,SqT K H1 a xs)∧R (Itt K a) H1))
theorem Zi9 {tg l:Expr} {tl:TE} (hl:PE X l tl):PI X tg l (ZlH X.K tl):=by
  intro pins s σ H R I h
  refine thn (hl pins s σ H _ I h) fun v s1 ⟨x,H1,I1,r1,q1⟩=>?_
  obtain ⟨a,e,q1⟩:=q1
  subst e
  cases r1
  rcases q1 with ⟨⟨xs,hq⟩,q⟩ | ⟨⟨xs,hq⟩,q⟩
  · obtain ⟨its,rv,p,hz⟩:=I1.list hq
    refine wpAny_pyIter_list p.isList ?_
    refine ⟨s1.heap.objs.size,[s1.heap.objs.size],_,_,H1,rfl,I1.kept (t':=s1.toks) fun b o e=>Heap.get?_push_of_some _ e,ZfB a _,⟨_,Heap.get?_push_size _ rfl,rfl,rfl⟩,fun b hb=>?_,q⟩
    have e:b=s1.heap.objs.size:=by simpa using hb
    subst e
    exact I1.fpOk (Nat.le_refl _) (I1.hok.fresh (Nat.le_refl _))
  · obtain ⟨its,rv,p,hz⟩:=I1.tuple hq
    refine wpAny_pyIter_tuple (show s1.heap.IsTuple a its.toArray from p) ?_
    refine ⟨s1.heap.objs.size,[s1.heap.objs.size],_,_,H1,rfl,I1.kept (t':=s1.toks) fun b o e=>Heap.get?_push_of_some _ e,Zer a _,⟨_,Heap.get?_push_size _ rfl,rfl,rfl⟩,fun b hb=>?_,q⟩
    have e:b=s1.heap.objs.size:=by simpa using hb
    subst e
    exact I1.fpOk (Nat.le_refl _) (I1.hok.fresh (Nat.le_refl _))
def mIn (f:EM):IM:=fun ρ θ=>(f ρ θ).bind fun d θ=>match seqOf θ d with
  | some _=>.ok (.seq d) θ
  | none=>.bad
theorem ZeI {tg l:Expr} {f:EM} (h:ME X l f):MI X tg l (mIn f):=by
  refine PI.imp (Zi9 h) fun σ H R q=>?_
  obtain ⟨B,θ,ρ,F,w⟩:=q
  refine ZJ (step F w) ?_
  rintro v H1 ⟨B1,θ1,d,E1,F1,rd,w1⟩
  split at w1
  · rename_i xs e
    obtain ⟨a,vs,rfl,h1,h2⟩:=zR F1.good rd e
    refine ⟨a,rfl,?_⟩
    have fin:=fun J (hJ:SrcRep X.K B1 H1 (.seq d) J)=>Zs (Rel:=SrcRep X.K) F1.good hJ w1
    cases d with
    | tup ys=>
      obtain ⟨a',us,e1,g1,_,_⟩:=id rd
      cases e1
      exact .inr ⟨⟨us,SqT.of g1⟩,fin _ ⟨a,rd,rfl⟩⟩
    | scr ns=>
      have hS:SqL X.K H1 a (ns.map V.int):=by
        obtain ⟨a',e1,g1⟩:=id rd
        cases e1
        rcases g1 with ⟨o,g1,_⟩ | g1
        · exact .inl (.inr ⟨o,g1⟩)
        · exact .inr (F1.good.kc a ns g1)
      exact .inl ⟨⟨_,hS⟩,fin _ ⟨a,rd,rfl⟩⟩
    | lst ys=>
      obtain ⟨a',us,e1,g1,_⟩:=ZN F1.good rd (show ZY θ1 (.lst ys)=some xs from e)
      cases e1
      exact .inl ⟨⟨us,SqL.of g1⟩,fin _ ⟨a,rd,rfl⟩⟩
    | ref l=>
      obtain ⟨a',us,e1,g1,_⟩:=ZN F1.good rd (show ZY θ1 (.ref l)=some xs from e)
      cases e1
      exact .inl ⟨⟨us,SqL.of g1⟩,fin _ ⟨a,rd,rfl⟩⟩
    | non=>cases e
    | bl _=>cases e
    | int _=>cases e
    | str _=>cases e
    | ty _=>cases e
  · exact w1.elim
def z9 (f:AM):IM:=fun ρ θ=>(f ρ θ).bind fun ds θ=>match ds with
  | [.int j]=>if -1000000≤j∧j≤1000000 then .ok (.rng 0 j.toNat) θ else .bad
  | _=>.bad
theorem z8 {tg a:Expr} {f:AM} {p pos:Pos} (hm:X.mg "range"=none) (ha:MA X [a] f) (hg:Gl X "range":=by rfl) (hs:starEach [a] X.env=[(false,eval a X.env)]:=by rfl):MI X tg (.Call (.Name "range" p) [a] [] pos) (z9 f):=by
  refine PI.imp (ZfN hg hm ha hs) fun σ H R q=>?_
  obtain ⟨B,θ,ρ,F,w⟩:=q
  refine zQ (ZcL F w) ?_
  rintro vs H1 ⟨B1,θ1,ds,E1,F1,rd,w1⟩
  split at w1
  · rename_i j
    split at w1
    · rename_i hj
      obtain ⟨v,rfl,rv⟩:=rd.one
      cases (show v=V.int j from rv)
      exact ⟨j,rfl,by have:=hj.1; omega,by have:=hj.2; omega,Zs (Rel:=SrcRep X.K) F1.good (show SrcRep X.K B1 H1 (.rng 0 j.toNat) _ from rfl) w1⟩
    · exact w1.elim
  · exact w1.elim
def ZaA (src:List Nat) (ρ:List Sl) (x:D):List Sl:=Sl.val x::src.map fun (j:Nat)=>match ρ[j]? with
  | some (Sl.val d)=>Sl.val d
  | _=>Sl.no
theorem Frm.inner {B:Bx} {θ:Sto} {ρ:List Sl} {σ:St} {H:Hp} (F:Frm X.cl B θ ρ σ H) (src:List Nat) {x:D} {v:V} (r:RepV B H x v):Frm X.cl B θ (ZaA src ρ x) (L2.inner src σ (some v)) H:=by
  have key:∀(i:Nat) (s:Sl),(ZaA src ρ x)[i]?=some s→s=.no∨∃d,s=.val d∧∃v',(L2.inner src σ (some v))[i]?=some (some v')∧RepV B H d v':=fun i s e=>by
    cases i with
    | zero=>simp [ZaA] at e; subst e; exact .inr ⟨x,rfl,v,by simp [L2.inner],r⟩
    | succ i=>
      simp only [ZaA,List.getElem?_cons_succ,List.getElem?_map] at e
      simp only [L2.inner,List.getElem?_cons_succ,List.getElem?_map]
      cases q:src[i]? with
      | none=>rw [q] at e; cases e
      | some j=>
        rw [q] at e
        simp only [Option.map_some,Option.some.injEq] at e
        split at e
        · rename_i d ed
          subst e
          obtain ⟨v',h1,h2⟩:=F.val j d ed
          exact .inr ⟨d,rfl,v',by simp [h1],h2⟩
        · exact .inl e.symm
  refine ⟨F.good,by simp [ZaA,L2.inner],fun i d e=>?_,fun i xs e=>?_,fun i j xs ys a _ e _=>?_⟩
  · rcases key i _ e with z | ⟨d',z,v',h1,h2⟩
    · cases z
    · cases z; exact ⟨v',h1,h2⟩
  · rcases key i _ e with z | ⟨d',z,_⟩<;>cases z
  · rcases key i _ e with z | ⟨d',z,_⟩<;>cases z
open Classical in
def ZbR (S:Src) (all:List D) (elt:D→Sto→R D):List D→List D→Sto→R D
  | [],acc,θ=>if S.items θ=some all∧acc.length≤BIG then .ok (.lst acc) θ else .bad
  | x::r,acc,θ=>if S.items θ=some all then (elt x θ).bind fun y θ=>ZbR S all elt r (acc++[y]) θ else .bad
def Zaa (fi:IM) (src:List Nat) (elt:EM):EM:=fun ρ θ=>(fi ρ θ).bind fun S θ=>match S.items θ with
  | some xs=>if xs.length≤BIG then ZbR S xs (fun x θ=>elt (ZaA src ρ x) θ) xs [] θ else .bad
  | none=>.bad
open Classical in
theorem Ze1 {fi:IM} {src:List Nat} {elt:EM} (σ:St) (H:Hp) (Q:VK) (h:tM X (Zaa fi src elt) σ H Q):tLc (tMI X fi) src (tM X elt) σ H Q:=by
  obtain ⟨B,θ,ρ,F,w⟩:=h
  refine ⟨B,θ,ρ,F,(wpR.bind (Rel:=SrcRep X.K) w).mono ?_⟩
  rintro J H1 ⟨B1,θ1,S,E1,G1,rJ,w1⟩
  split at w1
  · rename_i xs e1
    split at w1
    · rename_i hz
      refine ⟨xs.length,fun i ys H'=>∃B' θ' acc,ExtE B1 B' H1 H'∧Good X.cl B' θ' H'∧RepL B' H' acc ys∧wpR X σ RepV B' H' (ZbR S xs (fun x θ=>elt (ZaA src ρ x) θ) (xs.drop i) acc θ') Q,Z3 hz,?_,?_,?_⟩
      · exact ⟨B1,θ1,[],ExtE.refl _ _,G1,rfl,w1⟩
      · rintro i ys H' hi ⟨B2,θ2,acc,E2,G2,racc,w2⟩
        rw [List.drop_eq_getElem_cons hi] at w2
        unfold ZbR at w2
        split at w2
        · rename_i e2
          obtain ⟨g1,g2⟩:=(Zc9 G2 (rJ.ext E2.toExtS) e2).1 i xs[i] (List.getElem?_eq_getElem hi)
          refine ⟨g1,fun y H3 hy=>?_⟩
          obtain ⟨rfl,ry⟩:=g2 y H3 hy
          have F2:=(F.ext (E1.trans E2) G2).inner src ry
          refine ⟨B2,θ2,_,F2,(wpR.bind (Rel:=RepV) w2).mono ?_⟩
          rintro z H4 ⟨B4,θ4,d,E4,G4,rd,w4⟩
          exact ⟨B4,θ4,acc++[d],E2.trans E4,G4,(racc.ext E4.toExtS).app ⟨z,[],rfl,rd,rfl⟩,w4⟩
        · exact w2.elim
      · rintro ys H' ⟨B2,θ2,acc,E2,G2,racc,w2⟩
        rw [List.drop_length] at w2
        unfold ZbR at w2
        split at w2
        · rename_i e2
          exact ⟨(Zc9 G2 (rJ.ext E2.toExtS) e2.1).2,ZaW G2 racc w2⟩
        · exact w2.elim
    · exact w1.elim
  · exact w1.elim
theorem Zg1 {x:Str} {px pos:Pos} {iter elt:Expr} {scope:Scope} {N':List Str} {src:List Nat} {sc:Scope} {N:List Str} {fi:IM} {fe:EM} (S:za scope sc x N N' src) (hsc:X.env.scope=sc) (hN:X.N=N) (hi:MI X (.Name x px) iter fi)
    (helt:∀(cl:List (Str×Addr)) (C:Addr) (s₀:Shared) (H₀:Hp) (fp:List Addr),ME (X.comp scope N' cl C s₀ H₀ fp) elt fe) (hcm:X.calm=true:=by rfl) (hs:∀v,foldedSetIterable iter X.env v=pure v:=by intro _; rfl) :
    ME X (.ListComp elt [⟨.Name x px,iter,[],0⟩] scope pos) (Zaa fi src fe):=
  PE.imp (Zkj (te:=tM X fe) S hsc hN hi (fun cl C s₀ H₀ fp=>helt cl C s₀ H₀ fp) hcm hs) Ze1
inductive Fl where
  | nx | rt (d:D) | bk | ct
abbrev SM:=List Sl→Sto→R (Fl×List Sl)
def ZiI (Dn:ZaG) (B:Bx) (σ:St) (H:Hp):Fl→Prop
  | .nx=>Dn.nx σ H
  | .bk=>Dn.bk σ H
  | .ct=>Dn.ct σ H
  | .rt d=>∀v,RepV B H d v→Dn.rt v H
def wpS (X:Cx) (σ:St) (B:Bx) (H:Hp) (r:R (Fl×List Sl)) (Dn:ZaG):Prop:=match r with
  | .ok (fl,ρ') θ'=>∀B' H' σ',ExtS B B' H H'→Frm X.cl B' θ' ρ' σ' H'→ZiI Dn B' σ' H' fl
  | .ex c θ'=>XE X σ B H c θ'
  | .bad=>False
def tMS (X:Cx) (f:SM):TS:=fun Dn σ H=>∃B θ ρ,Frm X.cl B θ ρ σ H∧wpS X σ B H (f ρ θ) Dn
def MS (X:Cx) (st:Stmt) (f:SM):Prop:=PS X st (tMS X f)
def MSs (X:Cx) (sts:List Stmt) (f:SM):Prop:=PSs X sts (tMS X f)
theorem PS.imp {st:Stmt} {t t':TS} (h:PS X st t) (hi:∀D σ H,t' D σ H→t D σ H):PS X st t':=fun pins s σ H D I q=>h pins s σ H D I (hi D σ H q)
theorem PSs.imp {st:List Stmt} {t t':TS} (h:PSs X st t) (hi:∀D σ H,t' D σ H→t D σ H):PSs X st t':=fun pins s σ H D I q=>h pins s σ H D I (hi D σ H q)
theorem wpS.trans {σ σ':St} {B B':Bx} {H H':Hp} {r:R (Fl×List Sl)} {Dn:ZaG} (h:wpS X σ B H r Dn) (E:ExtS B B' H H'):wpS X σ' B' H' r Dn:=by
  cases r with
  | ok a θ'=>exact fun B2 H2 σ2 e g=>h B2 H2 σ2 (E.trans e) g
  | ex c θ'=>exact h
  | bad=>exact h
theorem wpS.bind {α β:Type} {Rel:Bx→Hp→α→β→Prop} {σ:St} {B:Bx} {H:Hp} {r:R α} {k:α→Sto→R (Fl×List Sl)} {Dn:ZaG} (h:wpS X σ B H (r.bind k) Dn) :
    wpR X σ Rel B H r (fun b H1=>∃B1 θ1 a,ExtE B B1 H H1∧Good X.cl B1 θ1 H1∧Rel B1 H1 a b∧wpS X σ B1 H1 (k a θ1) Dn):=by
  cases r with
  | ok a θ'=>exact fun B1 H1 b E g q=>⟨B1,θ',a,E,g,q,wpS.trans h E.toExtS⟩
  | ex c θ'=>exact h
  | bad=>exact h
theorem ZcK {σ:St} {H:Hp} {B:Bx} {θ:Sto} {ρ:List Sl} {f:EM} {k:D→Sto→R (Fl×List Sl)} {Dn:ZaG} (F:Frm X.cl B θ ρ σ H) (h:wpS X σ B H ((f ρ θ).bind k) Dn) :
    tM X f σ H (fun v H1=>∃B1 θ1 d,ExtE B B1 H H1∧Frm X.cl B1 θ1 ρ σ H1∧RepV B1 H1 d v∧wpS X σ B1 H1 (k d θ1) Dn):=
  ⟨B,θ,ρ,F,(wpS.bind (Rel:=RepV) h).mono fun v H1 ⟨B1,θ1,d,E,G,r,w⟩=>⟨B1,θ1,d,E,F.ext E G,r,w⟩⟩
theorem Zgu {σ:St} {H:Hp} {B:Bx} {θ:Sto} {ρ:List Sl} {f:TMr} {k:Bool→Sto→R (Fl×List Sl)} {Dn:ZaG} (F:Frm X.cl B θ ρ σ H) (h:wpS X σ B H ((f ρ θ).bind k) Dn) :
    tMT X f σ H (fun c H1=>∃B1 θ1,ExtE B B1 H H1∧Frm X.cl B1 θ1 ρ σ H1∧wpS X σ B1 H1 (k c θ1) Dn):=
  ⟨B,θ,ρ,F,(wpS.bind (Rel:=EqB) h).mono fun v H1 ⟨B1,θ1,d,E,G,r,w⟩=>by cases (show d=v from r); exact ⟨B1,θ1,E,F.ext E G,w⟩⟩
theorem ZbZ {σ:St} {B:Bx} {H:Hp} {θ:Sto} {ρ:List Sl} {fl:Fl} {Dn:ZaG} (F:Frm X.cl B θ ρ σ H) (h:wpS X σ B H (.ok (fl,ρ) θ) Dn):ZiI Dn B σ H fl:=h B H σ (ExtS.refl B H) F
def zm:SM:=fun ρ θ=>.ok (.nx,ρ) θ
def ZbN (r:R (Fl×List Sl)) (k:SM):R (Fl×List Sl):=r.bind fun p θ=>match p with
  | (.nx,ρ)=>k ρ θ
  | p=>.ok p θ
def Zq (f g:SM):SM:=fun ρ θ=>ZbN (f ρ θ) g
theorem ZU:MSs X [] zm:=PSs.imp Ze7 fun D σ H h=>by
  obtain ⟨B,θ,ρ,F,w⟩:=h
  exact ZbZ F w
theorem wpS.seq {σ:St} {B:Bx} {H:Hp} {r:R (Fl×List Sl)} {g:SM} {Dn:ZaG} (w:wpS X σ B H (ZbN r g) Dn):wpS X σ B H r { Dn with nx:=tMS X g Dn }:=by
  cases r with
  | ex c θ'=>exact w
  | bad=>exact w
  | ok p θ'=>
    obtain ⟨fl,ρ'⟩:=p
    intro B' H' σ' E F
    cases fl with
    | nx=>exact ⟨B',θ',ρ',F,wpS.trans w E⟩
    | bk=>exact w B' H' σ' E F
    | ct=>exact w B' H' σ' E F
    | rt d=>exact w B' H' σ' E F
theorem Zh {st:Stmt} {rest:List Stmt} {f g:SM} (h1:MS X st f) (h2:MSs X rest g):MSs X (st::rest) (Zq f g):=PSs.imp (ZdY h1 h2) fun D σ H h=>by
  obtain ⟨B,θ,ρ,F,w⟩:=h
  exact ⟨B,θ,ρ,F,wpS.seq w⟩
theorem Zl {st:Stmt} {f:SM} (h1:MS X st f):MSs X [st] f:=Zde h1
def Zjr:SM:=fun _ _=>.bad
def zr (f:EM):SM:=fun ρ θ=>(f ρ θ).bind fun d θ=>.ok (.rt d,ρ) θ
theorem ZH {e:Expr} {f:EM} {pos:Pos} (he:ME X e f):MS X (.Return (some e) pos) (zr f):=PS.imp (Zi5 he) fun D σ H h=>by
  obtain ⟨B,θ,ρ,F,w⟩:=h
  refine ZJ (ZcK F w) ?_
  rintro v H1 ⟨B1,θ1,d,E1,F1,rd,w1⟩
  exact ZbZ F1 w1 v rd
def mIf (t:TMr) (f g:SM):SM:=fun ρ θ=>(t ρ θ).bind fun k θ=>if k=true then f ρ θ else g ρ θ
theorem zq {c:Expr} {a b:List Stmt} {t:TMr} {f g:SM} {pos:Pos} (hc:MT X c t) (ha:MSs X a f) (hb:MSs X b g):MS X (.If c a b pos) (mIf t f g):=PS.imp (Ziz hc ha hb) fun D σ H h=>by
  obtain ⟨B,θ,ρ,F,w⟩:=h
  refine z0 (Zgu F w) ?_
  rintro k H1 ⟨B1,θ1,E1,F1,w1⟩
  cases k with
  | true=>rw [if_pos rfl] at w1 ⊢; exact ⟨B1,θ1,ρ,F1,w1⟩
  | false=>rw [if_neg Bool.false_ne_true] at w1 ⊢; exact ⟨B1,θ1,ρ,F1,w1⟩
theorem Frm.set {B:Bx} {θ:Sto} {ρ:List Sl} {σ:St} {H:Hp} (F:Frm X.cl B θ ρ σ H) (i:Nat) {d:D} {v:V} (r:RepV B H d v):Frm X.cl B θ (ρ.set i (.val d)) (σ.set i (some v)) H:=by
  have oth:∀(j:Nat) (s:Sl),(ρ.set i (Sl.val d))[j]?=some s→(j=i∧s=.val d∧j < σ.length)∨(j≠i∧ρ[j]?=some s):=fun j s e=>by
    by_cases q:j=i
    · subst q
      have hl:j < ρ.length:=by
        have:=(List.getElem?_eq_some_iff.mp e).1
        simpa using this
      rw [List.getElem?_set_self hl] at e
      cases e
      exact .inl ⟨rfl,rfl,by rw [←F.len]; exact hl⟩
    · rw [List.getElem?_set_ne (Ne.symm q)] at e
      exact .inr ⟨q,e⟩
  refine ⟨F.good,by simp [F.len],fun j e h=>?_,fun j xs h=>?_,fun j k xs ys a hne h1 h2 h3=>?_⟩
  · rcases oth j _ h with ⟨rfl,z,hl⟩ | ⟨q,z⟩
    · cases z; exact ⟨v,by rw [List.getElem?_set_self hl],r⟩
    · rw [List.getElem?_set_ne (Ne.symm q)]; exact F.val j e z
  · rcases oth j _ h with ⟨rfl,z,hl⟩ | ⟨q,z⟩
    · cases z
    · rw [List.getElem?_set_ne (Ne.symm q)]; exact F.own j xs z
  · rcases oth j _ h1 with ⟨_,z,_⟩ | ⟨q1,z1⟩
    · cases z
    · rcases oth k _ h2 with ⟨_,z,_⟩ | ⟨q2,z2⟩
      · cases z
      · rw [List.getElem?_set_ne (Ne.symm q1)] at h3
        rw [List.getElem?_set_ne (Ne.symm q2)]
        exact F.ne j k xs ys a hne z1 z2 h3
def Zu (i:Nat) (f:EM):SM:=fun ρ θ=>(f ρ θ).bind fun d θ=>.ok (.nx,ρ.set i (.val d)) θ
theorem Zm (i:Nat) {x:Str} {e:Expr} {f:EM} {pos pos':Pos} (hN:X.N.Nodup) (he:ME X e f) (hi:X.N[i]?=some x:=by rfl) (hx:Loc X.env.scope x:=by first | exact Or.inl rfl | exact Or.inr rfl)
    (hs:swapsWith e (some (.Name x pos')) pos.line X.env=pure false:=by rfl) (hf:X.fn x=true∨X.env.scope.names.lookup x=some .local:=by first | exact .inl rfl | exact .inr rfl):MS X (.Assign [.Name x pos'] e pos) (Zu i f):=
  PS.imp (Zdf hN hi hx he hs hf) fun D σ H h=>by
  obtain ⟨B,θ,ρ,F,w⟩:=h
  refine ZJ (ZcK F w) ?_
  rintro v H1 ⟨B1,θ1,d,E1,F1,rd,w1⟩
  exact w1 B1 H1 _ (ExtS.refl _ _) (F1.set i rd)
theorem ZgZ (i:Nat) {x y:Str} {px py pos spos:Pos} {iter elt:Expr} {scope:Scope} {N':List Str} {src:List Nat} {sc:Scope} {N:List Str} {fi:IM} {fe:EM} (hnd:X.N.Nodup) (S:za scope sc x N N' src) (hsc:X.env.scope=sc) (hN:X.N=N) (hi:MI X (.Name x px) iter fi)
    (helt:∀(cl:List (Str×Addr)) (C:Addr) (s₀:Shared) (H₀:Hp) (fp:List Addr),ME (X.comp scope N' cl C s₀ H₀ fp) elt fe) (hi':X.N[i]?=some y:=by rfl)
    (hsw:swapsWith (.ListComp elt [⟨.Name x px,iter,[],0⟩] scope pos) (some (.Name y py)) spos.line X.env=pure true:=by rfl)
    (hy:X.env.scope.names.lookup y=some .local:=by rfl) (hcm:X.calm=true:=by rfl) (hs:∀v,foldedSetIterable iter X.env v=pure v:=by intro _; rfl) :
    MS X (.Assign [.Name y py] (.ListComp elt [⟨.Name x px,iter,[],0⟩] scope pos) spos) (Zu i (Zaa fi src fe)):=
  PS.imp (Zke (te:=tM X fe) hnd hi' S hsc hN hi (fun cl C s₀ H₀ fp=>helt cl C s₀ H₀ fp) hsw hy hcm hs) fun D σ H h=>by
  obtain ⟨B,θ,ρ,F,w⟩:=h
  refine Ze1 σ H _ (ZJ (ZcK F w) ?_)
  rintro v H1 ⟨B1,θ1,d,E1,F1,rd,w1⟩
  exact w1 B1 H1 _ (ExtS.refl _ _) (F1.set i rd)
end
end
end L2.MM
namespace L2.MM
open PySem PySem.Spec PyProof.Rows PySem.SeqAt
noncomputable section
variable {X:Cx}
def Zd8 (k:SM):Fl×List Sl→Sto→R (Fl×List Sl)
  | (.nx,ρ),θ=>k ρ θ
  | (.ct,ρ),θ=>k ρ θ
  | (.bk,ρ),θ=>.ok (.nx,ρ) θ
  | (.rt d,ρ),θ=>.ok (.rt d,ρ) θ
theorem wpS.loop {σ:St} {B:Bx} {H:Hp} {r:R (Fl×List Sl)} {k:SM} {Dn:ZaG} (w:wpS X σ B H (r.bind (Zd8 k)) Dn) :
    wpS X σ B H r { Dn with nx:=fun σ' H'=>∃B' θ' ρ',ExtS B B' H H'∧Frm X.cl B' θ' ρ' σ' H'∧wpS X σ' B' H' (k ρ' θ') Dn,ct:=fun σ' H'=>∃B' θ' ρ',ExtS B B' H H'∧Frm X.cl B' θ' ρ' σ' H'∧wpS X σ' B' H' (k ρ' θ') Dn,bk:=Dn.nx }:=by
  cases r with
  | ex c θ'=>exact w
  | bad=>exact w
  | ok p θ'=>
    obtain ⟨fl,ρ'⟩:=p
    intro B' H' σ' E F
    cases fl with
    | nx=>exact ⟨B',θ',ρ',E,F,wpS.trans w E⟩
    | ct=>exact ⟨B',θ',ρ',E,F,wpS.trans w E⟩
    | bk=>exact w B' H' σ' E F
    | rt d=>exact w B' H' σ' E F
abbrev TgM:=D→List Sl→Option (List Sl)
def tMG (X:Cx) (g:TgM):TG:=fun v σ H Q=>∃B θ ρ d ρ',Frm X.cl B θ ρ σ H∧RepV B H d v∧g d ρ=some ρ'∧∀σ',Frm X.cl B θ ρ' σ' H→Q σ' H
def MG (X:Cx) (tg:Expr) (g:TgM):Prop:=PG X tg (tMG X g)
theorem PG.imp {tg:Expr} {t t':TG} (h:PG X tg t) (hi:∀v σ H Q,t' v σ H Q→t v σ H Q):PG X tg t':=fun pins s σ H v u Q I r q=>h pins s σ H v u Q I r (hi v σ H Q q)
def gNm (i:Nat):TgM:=fun d ρ=>some (ρ.set i (.val d))
theorem Zb0 (i:Nat) {x:Str} {pos:Pos} (hN:X.N.Nodup) (hi:X.N[i]?=some x:=by rfl) (hx:Loc X.env.scope x:=by first | exact Or.inl rfl | exact Or.inr rfl) (hf:X.fn x=true∨X.env.scope.names.lookup x=some .local:=by first | exact .inl rfl | exact .inr rfl):MG X (.Name x pos) (gNm i):=
  PG.imp (Zdh hN hi hx hf) fun v σ H Q h=>by
  obtain ⟨B,θ,ρ,d,ρ',F,r,e,q⟩:=h
  cases e
  exact q _ (F.set i r)
open Classical in
def ZbI (S:Src) (all:List D) (tg:TgM) (body:SM):List D→SM
  | []=>fun ρ θ=>if S.items θ=some all then .ok (.nx,ρ) θ else .bad
  | x::r=>fun ρ θ=>if S.items θ=some all then (match tg x ρ with
    | none=>.bad
    | some ρ1=>(body ρ1 θ).bind (Zd8 (ZbI S all tg body r))) else .bad
def Zdq (fi:IM) (tg:TgM) (body:SM):SM:=fun ρ θ=>(fi ρ θ).bind fun S θ=>match S.items θ with
  | some xs=>ZbI S xs tg body xs ρ θ
  | none=>.bad
open Classical in
theorem Zdl {tg iter:Expr} {body:List Stmt} {fi:IM} {g:TgM} {fb:SM} {pos:Pos} (hp:PassesOwn (model X.prog X.w) X.A X.env X.xe) (hi:MI X tg iter fi) (hg:MG X tg g) (hb:MSs X body fb) (hc:X.calm=true:=by rfl)
    (hs:∀x,foldedSetIterable iter X.env x=pure x:=by intro _; rfl):MS X (.For tg iter body [] pos) (Zdq fi g fb):=
  PS.imp (Zi6 hp hc hi hg hb hs) fun Dn σ H h=>by
  obtain ⟨B,θ,ρ,F,w⟩:=h
  refine ⟨B,θ,ρ,F,(wpS.bind (Rel:=SrcRep X.K) w).mono ?_⟩
  rintro J H1 ⟨B1,θ1,S,E1,G1,rJ,w1⟩
  split at w1
  · rename_i xs e1
    refine ⟨fun i m σ H=>∃B θ ρ,Frm X.cl B θ ρ σ H∧SrcRep X.K B H S J∧m=xs.length-i∧i≤xs.length∧wpS X σ B H (ZbI S xs g fb (xs.drop i) ρ θ) Dn,⟨xs.length,B1,θ1,ρ,F.ext E1 G1,rJ,rfl,Nat.zero_le _,w1⟩,?_⟩
    rintro i m σ2 H2 ⟨B2,θ2,ρ2,F2,rJ2,rfl,hi2,w2⟩
    by_cases hlt:i<xs.length
    · rw [List.drop_eq_getElem_cons hlt] at w2
      unfold ZbI at w2
      split at w2
      · rename_i e2
        obtain ⟨g1,g2⟩:=(Zc9 F2.good rJ2 e2).1 i xs[i] (List.getElem?_eq_getElem hlt)
        split at w2
        · exact w2.elim
        · rename_i ρ3 e3
          refine .inr ⟨g1,fun σ' H'=>∃B' θ' ρ',ExtS B2 B' H2 H'∧Frm X.cl B' θ' ρ' σ' H'∧wpS X σ' B' H' (ZbI S xs g fb (xs.drop (i+1)) ρ' θ') Dn,?_,fun x H' hy=>?_⟩
          · rintro σ' H' ⟨B',θ',ρ',E',F',w'⟩
            exact ⟨xs.length-(i+1),by omega,B',θ',ρ',F',rJ2.ext E',rfl,hlt,w'⟩
          · obtain ⟨rfl,rx⟩:=g2 x H' hy
            refine ⟨B2,θ2,ρ2,xs[i],ρ3,F2,rx,e3,fun σ' F'=>⟨B2,θ2,ρ3,F',?_⟩⟩
            have w3:=wpS.loop w2
            exact wpS.trans w3 (ExtS.refl _ _)
      · exact w2.elim
    · have e:i=xs.length:=by omega
      subst e
      rw [List.drop_length] at w2
      unfold ZbI at w2
      split at w2
      · rename_i e2
        exact .inl ⟨(Zc9 F2.good rJ2 e2).2,ZbZ F2 w2⟩
      · exact w2.elim
  · exact w1.elim
def Zae (t:TMr) (body:SM):Nat→SM
  | 0=>Zjr
  | n+1=>fun ρ θ=>(t ρ θ).bind fun k θ=>if k=true then (body ρ θ).bind (Zd8 (Zae t body n)) else .ok (.nx,ρ) θ
theorem Zd2 (n:Nat) {c:Expr} {body:List Stmt} {t:TMr} {fb:SM} {pos:Pos} (hp:PassesOwn (model X.prog X.w) X.A X.env X.xe) (hc:MT X c t) (hb:MSs X body fb):MS X (.While c body [] pos) (Zae t fb n):=
  PS.imp (ZgB hp hc hb) fun Dn σ H h=>by
  obtain ⟨B,θ,ρ,F,w⟩:=h
  refine ⟨fun m σ H=>∃B θ ρ,Frm X.cl B θ ρ σ H∧wpS X σ B H (Zae t fb m ρ θ) Dn,⟨n,B,θ,ρ,F,w⟩,?_⟩
  rintro m σ2 H2 ⟨B2,θ2,ρ2,F2,w2⟩
  cases m with
  | zero=>exact w2.elim
  | succ m=>
    refine z0 (Zgu F2 w2) ?_
    rintro k H3 ⟨B3,θ3,E3,F3,w3⟩
    cases k with
    | true=>
      rw [if_pos rfl] at w3 ⊢
      refine ⟨_,?_,⟨B3,θ3,ρ2,F3,wpS.loop w3⟩⟩
      rintro σ' H' ⟨B',θ',ρ',E',F',w'⟩
      exact ⟨m,Nat.lt_succ_self _,B',θ',ρ',F',w'⟩
    | false=>
      rw [if_neg Bool.false_ne_true] at w3 ⊢
      exact ZbZ F3 w3
theorem Frm.setOwn {cl:Mo} {B:Bx} {θ:Sto} {ρ:List Sl} {σ:St} {H:Hp} (F:Frm cl B θ ρ σ H) (i:Nat) {p:Addr} (hp:H p=none) {xs:List D} {vs:List V} (r:RepL B H xs vs) :
    ExtS B { B with os:=p::B.os } H (upd H p (.lst vs))∧Frm cl { B with os:=p::B.os } θ (ρ.set i (.own xs)) (σ.set i (some (.ref p))) (upd H p (.lst vs)):=by
  have E0:=Zak F.good hp (.lst vs)
  have G0:=Zcq F.good hp (.lst vs)
  have ok:=F.good.okNone hp
  have E:ExtS B { B with os:=p::B.os } H (upd H p (.lst vs)):=⟨E0.n,E0.m,E0.fr,E0.keep,E0.sm,fun a h=>by
    rcases List.mem_cons.mp h with rfl | h
    · exact .inr hp
    · exact .inl h,rfl,rfl⟩
  refine ⟨E,?_⟩
  have E1:ExtS B { B with os:=p::B.os } H (upd H p (.lst vs)):=E
  have G:Good cl { B with os:=p::B.os } θ (upd H p (.lst vs)):=⟨G0.len,G0.inj,fun j c e=>(F.good.cel j c e).ext E fun u q=>by rw [Zz (ZB q hp)]; exact q,fun j hj=>⟨(G0.cF j hj).1,fun z=>by
      rcases List.mem_cons.mp z with z | z
      · exact ok.1 j hj z
      · exact (G0.cF j hj).2 z⟩,G0.Fs,fun a z=>by
      rcases List.mem_cons.mp z with rfl | z
      · rw [zp]; simp
      · exact G0.oS a z,fun a z=>by
      rcases List.mem_cons.mp z with rfl | z
      · exact ok.2.1
      · exact G0.oF a z,G0.kc⟩
  have oth:∀(j:Nat) (s:Sl),(ρ.set i (Sl.own xs))[j]?=some s→(j=i∧s=.own xs∧j < σ.length)∨(j≠i∧ρ[j]?=some s):=fun j s e=>by
    by_cases q:j=i
    · subst q
      have hl:j < ρ.length:=by
        have:=(List.getElem?_eq_some_iff.mp e).1
        simpa using this
      rw [List.getElem?_set_self hl] at e
      cases e
      exact .inl ⟨rfl,rfl,by rw [←F.len]; exact hl⟩
    · rw [List.getElem?_set_ne (Ne.symm q)] at e
      exact .inr ⟨q,e⟩
  have old:∀j ys,ρ[j]?=some (Sl.own ys)→∀a,σ[j]?=some (some (V.ref a))→a≠p:=fun j ys h a e z=>by
    obtain ⟨a',us,q1,q2,q3,q4⟩:=F.own j ys h
    rw [e] at q1
    cases q1
    rw [z,hp] at q3
    cases q3
  refine ⟨G,by simp [F.len],fun j d h=>?_,fun j ys h=>?_,fun j k ys zs a hne h1 h2 h3=>?_⟩
  · rcases oth j _ h with ⟨_,z,_⟩ | ⟨q,z⟩
    · cases z
    · rw [List.getElem?_set_ne (Ne.symm q)]
      obtain ⟨v,q1,q2⟩:=F.val j d z
      exact ⟨v,q1,q2.ext E⟩
  · rcases oth j _ h with ⟨rfl,z,hl⟩ | ⟨q,z⟩
    · cases z
      exact ⟨p,vs,by rw [List.getElem?_set_self hl],List.mem_cons_self,zp,r.ext E⟩
    · rw [List.getElem?_set_ne (Ne.symm q)]
      obtain ⟨a,us,q1,q2,q3,q4⟩:=F.own j ys z
      exact ⟨a,us,q1,List.mem_cons_of_mem _ q2,by rw [Zz (ZB q3 hp)]; exact q3,q4.ext E⟩
  · rcases oth j _ h1 with ⟨rfl,z1,hl⟩ | ⟨q1,z1⟩
    · rcases oth k _ h2 with ⟨rfl,z2,_⟩ | ⟨q2,z2⟩
      · exact absurd rfl hne
      · rw [List.getElem?_set_self hl] at h3
        cases h3
        rw [List.getElem?_set_ne (Ne.symm q2)]
        exact fun z=>old k zs z2 _ z rfl
    · rw [List.getElem?_set_ne (Ne.symm q1)] at h3
      rcases oth k _ h2 with ⟨rfl,z2,hl⟩ | ⟨q2,z2⟩
      · rw [List.getElem?_set_self hl]
        intro z
        cases z
        exact old j ys z1 _ h3 rfl
      · rw [List.getElem?_set_ne (Ne.symm q2)]
        exact F.ne j k ys zs a hne z1 z2 h3
def Zdo (i:Nat) (f:AM):SM:=fun ρ θ=>(f ρ θ).bind fun xs θ=>if xs.length≤BIG then .ok (.nx,ρ.set i (.own xs)) θ else .bad
theorem ZiX {σ:St} {H:Hp} {B:Bx} {θ:Sto} {ρ:List Sl} {f:AM} {k:List D→Sto→R (Fl×List Sl)} {Dn:ZaG} (F:Frm X.cl B θ ρ σ H) (h:wpS X σ B H ((f ρ θ).bind k) Dn) :
    tMA X f σ H (fun v H1=>∃B1 θ1 d,ExtE B B1 H H1∧Frm X.cl B1 θ1 ρ σ H1∧RepL B1 H1 d v∧wpS X σ B1 H1 (k d θ1) Dn):=
  ⟨B,θ,ρ,F,(wpS.bind (Rel:=RepL) h).mono fun v H1 ⟨B1,θ1,d,E,G,r,w⟩=>⟨B1,θ1,d,E,F.ext E G,r,w⟩⟩
theorem ZfV (i:Nat) {x:Str} {es:List Expr} {f:AM} {pos pos' lpos:Pos} (hN:X.N.Nodup) (he:MA X es f) (hi:X.N[i]?=some x:=by rfl) (hx:Loc X.env.scope x:=by first | exact Or.inl rfl | exact Or.inr rfl)
    (hs:swapsWith (.List es lpos) (some (.Name x pos')) pos.line X.env=pure false:=by rfl) (hf:X.fn x=true∨X.env.scope.names.lookup x=some .local:=by first | exact .inl rfl | exact .inr rfl):MS X (.Assign [.Name x pos'] (.List es lpos) pos) (Zdo i f):=
  PS.imp (Zdf hN hi hx (ZgJ he) hs hf) fun D σ H h=>by
  obtain ⟨B,θ,ρ,F,w⟩:=h
  refine zQ (ZiX F w) ?_
  rintro vs H1 ⟨B1,θ1,xs,E1,F1,rd,w1⟩
  split at w1
  · rename_i hz
    refine ⟨by rw [rd.len]; exact Z3 hz,fun p hp=>?_⟩
    obtain ⟨E2,F2⟩:=F1.setOwn i hp rd
    exact w1 _ _ _ E2 F2
  · exact w1.elim
theorem Frm.updOwn {cl:Mo} {B:Bx} {θ:Sto} {ρ:List Sl} {σ:St} {H:Hp} (F:Frm cl B θ ρ σ H) {i:Nat} {xs ys:List D} {us:List V} {a:Addr} (h:ρ[i]?=some (Sl.own xs)) (ha:σ[i]?=some (some (.ref a))) (r:RepL B H ys us) :
    ExtS B B H (upd H a (.lst us))∧Frm cl B θ (ρ.set i (.own ys)) σ (upd H a (.lst us)):=by
  obtain ⟨a',vs,q1,q2,q3,q4⟩:=F.own i xs h
  rw [ha] at q1
  cases q1
  have hc:∀j,j<B.n→B.m j≠a:=fun j hj z=>(F.good.cF j hj).2 (by rw [z]; exact q2)
  have E:ExtS B B H (upd H a (.lst us)):=⟨Nat.le_refl _,fun _ _=>rfl,fun i h h'=>absurd h' (Nat.not_lt.mpr h),fun b o e _ hb=>by rw [Zz (fun z=>hb (by rw [z]; exact q2))]; exact e,fun b e=>by
    by_cases q:b=a
    · rw [q,zp]; simp
    · rw [Zz q]; exact e,fun _ h=>.inl h,rfl,rfl⟩
  have hl:i < ρ.length:=(List.getElem?_eq_some_iff.mp h).1
  have oth:∀(j:Nat) (s:Sl),(ρ.set i (Sl.own ys))[j]?=some s→(j=i∧s=.own ys)∨(j≠i∧ρ[j]?=some s):=fun j s e=>by
    by_cases q:j=i
    · subst q
      rw [List.getElem?_set_self hl] at e
      cases e
      exact .inl ⟨rfl,rfl⟩
    · rw [List.getElem?_set_ne (Ne.symm q)] at e
      exact .inr ⟨q,e⟩
  refine ⟨E,⟨⟨F.good.len,F.good.inj,fun j c e=>(F.good.cel j c e).ext E fun u q=>by
      have hj:j<B.n:=by rw [←F.good.len]; exact (List.getElem?_eq_some_iff.mp e).1
      rw [Zz (hc j hj)]; exact q,F.good.cF,fun b z=>E.sm b (F.good.Fs b z),fun b z=>E.sm b (F.good.oS b z),F.good.oF,F.good.kc⟩,by simp [F.len],fun j d e=>?_,fun j zs e=>?_,fun j k zs ws b hne h1 h2 h3=>?_⟩⟩
  · rcases oth j _ e with ⟨_,z⟩ | ⟨_,z⟩
    · cases z
    · obtain ⟨v,p1,p2⟩:=F.val j d z
      exact ⟨v,p1,p2.ext E⟩
  · rcases oth j _ e with ⟨rfl,z⟩ | ⟨q,z⟩
    · cases z
      exact ⟨a,us,ha,q2,zp,r.ext E⟩
    · obtain ⟨b,ws,p1,p2,p3,p4⟩:=F.own j zs z
      refine ⟨b,ws,p1,p2,?_,p4.ext E⟩
      rw [Zz (fun z'=>F.ne i j xs zs a (Ne.symm q) h z ha (by rw [←z']; exact p1))]
      exact p3
  · have o1:∃zs',ρ[j]?=some (Sl.own zs'):=by
      rcases oth j _ h1 with ⟨rfl,_⟩ | ⟨_,z⟩
      · exact ⟨xs,h⟩
      · exact ⟨_,z⟩
    have o2:∃ws',ρ[k]?=some (Sl.own ws'):=by
      rcases oth k _ h2 with ⟨rfl,_⟩ | ⟨_,z⟩
      · exact ⟨xs,h⟩
      · exact ⟨_,z⟩
    obtain ⟨zs',o1⟩:=o1
    obtain ⟨ws',o2⟩:=o2
    exact F.ne j k zs' ws' b hne o1 o2 h3
def Zb1 (i:Nat) (f:EM):SM:=fun ρ θ=>(f ρ θ).bind fun d θ=>match ρ[i]? with
  | some (Sl.own xs)=>if xs.length<BIG then .ok (.nx,ρ.set i (.own (xs++[d]))) θ else .bad
  | _=>.bad
theorem ZfW (i:Nat) {x:Str} {e:Expr} {f:EM} {p apos pos pos':Pos} (he:ME X e f) (hN:X.N[i]?=some x:=by rfl) (hv:Vis X.env.scope x:=by first | exact Or.inl rfl | exact Or.inr (Or.inl rfl) | exact Or.inr (Or.inr rfl))
    (hd:(x == ("__debug__":Str))=false:=by decide) (hcd:(x == ("__classdict__":Str))=false:=by decide)
    (hpe:∀{to:TE},PE X (.Name x p) to→PE X (.Call (.Attribute (.Name x p) "append" apos) [e] [] pos) (tBM X.K "list" Ze5 to (Zgt (tM X f) ZiW)))
    (hs:swapsWith (.Call (.Attribute (.Name x p) "append" apos) [e] [] pos) none pos'.line X.env=pure false:=by rfl):MS X (.Expr (.Call (.Attribute (.Name x p) "append" apos) [e] [] pos) pos') (Zb1 i f):=
  PS.imp (ZhT (hpe (ZaZ hN hv hd hcd)) hs) fun D σ H h=>by
  obtain ⟨B,θ,ρ,F,w⟩:=h
  have own:∃xs,ρ[i]?=some (Sl.own xs):=by
    unfold Zb1 at w
    cases q:f ρ θ with
    | bad=>rw [q] at w; exact w.elim
    | ex c θ'=>rw [q] at w; exact False.elim w
    | ok d θ'=>
      rw [q] at w
      simp only [R.bind_ok] at w
      split at w
      · rename_i xs e; exact ⟨xs,e⟩
      · exact w.elim
  obtain ⟨xs,hx⟩:=own
  obtain ⟨a,vs,q1,q2,q3,q4⟩:=F.own i xs hx
  refine ⟨.ref a,q1,.inl ⟨rfl,vs,SqL.of q3⟩,?_⟩
  refine ZJ (ZcK F w) ?_
  rintro y H1 ⟨B1,θ1,d,E1,F1,rd,w1⟩
  rw [hx] at w1
  simp only at w1
  split at w1
  · rename_i hz
    obtain ⟨a',us,p1,p2,p3,p4⟩:=F1.own i xs hx
    rw [q1] at p1
    cases p1
    refine ⟨a,us,y,rfl,rfl,p3,by rw [p4.len]; exact Nat.lt_of_lt_of_le hz (Z3 (Nat.le_refl _)),?_⟩
    obtain ⟨E2,F2⟩:=F1.updOwn hx q1 (p4.app (show RepL B1 H1 [d] [y] from ⟨y,[],rfl,rd,rfl⟩))
    exact w1 _ _ _ E2 F2
  · exact w1.elim
def ZV (i:Nat) (f:SM):SM:=fun ρ θ=>match ρ[i]? with
  | some (Sl.own xs)=>f (ρ.set i (.val (.lst xs))) θ
  | _=>f ρ θ
theorem Zez {i:Nat} {f:SM} {D:ZaG} {σ:St} {H:Hp} (h:tMS X (ZV i f) D σ H):tMS X f D σ H:=by
  obtain ⟨B,θ,ρ,F,w⟩:=h
  unfold ZV at w
  split at w
  · rename_i xs hx
    obtain ⟨a,vs,q1,q2,q3,q4⟩:=F.own i xs hx
    let B':Bx:={ B with os:=B.os.filter fun b=>decide (b≠a) }
    have sub:∀b,b∈B'.os→b∈B.os∧b≠a:=fun b hb=>by
      have:=List.mem_filter.mp hb
      exact ⟨this.1,of_decide_eq_true this.2⟩
    have E:ExtS B B' H H:=⟨Nat.le_refl _,fun _ _=>rfl,fun i h h'=>absurd h' (Nat.not_lt.mpr h),fun _ _ e _ _=>e,fun _ e=>e,fun b hb=>.inl (sub b hb).1,rfl,rfl⟩
    have hc:∀j,j<B.n→B.m j≠a:=fun j hj z=>(F.good.cF j hj).2 (by rw [z]; exact q2)
    have G:Good X.cl B' θ H:=⟨F.good.len,F.good.inj,fun j c e=>(F.good.cel j c e).ext E fun _ q=>q,fun j hj=>⟨(F.good.cF j hj).1,fun z=>(F.good.cF j hj).2 (sub _ z).1⟩,F.good.Fs,fun b z=>F.good.oS b (sub b z).1,fun b z=>F.good.oF b (sub b z).1,F.good.kc⟩
    have rv:RepV B' H (.lst xs) (.ref a):=⟨a,vs,rfl,q3,⟨hc,F.good.oF a q2,fun z=>(sub a z).2 rfl⟩,q4.ext E⟩
    have hl:i < ρ.length:=(List.getElem?_eq_some_iff.mp hx).1
    have oth:∀(j:Nat) (s:Sl),(ρ.set i (Sl.val (.lst xs)))[j]?=some s→(j=i∧s=.val (.lst xs))∨(j≠i∧ρ[j]?=some s):=fun j s e=>by
      by_cases q:j=i
      · subst q
        rw [List.getElem?_set_self hl] at e
        cases e
        exact .inl ⟨rfl,rfl⟩
      · rw [List.getElem?_set_ne (Ne.symm q)] at e
        exact .inr ⟨q,e⟩
    refine ⟨B',θ,_,⟨G,by simp [F.len],fun j d e=>?_,fun j ys e=>?_,fun j k ys zs b hne h1 h2 h3=>?_⟩,wpS.trans w E⟩
    · rcases oth j _ e with ⟨rfl,z⟩ | ⟨_,z⟩
      · cases z; exact ⟨_,q1,rv⟩
      · obtain ⟨v,p1,p2⟩:=F.val j d z
        exact ⟨v,p1,p2.ext E⟩
    · rcases oth j _ e with ⟨_,z⟩ | ⟨q,z⟩
      · cases z
      · obtain ⟨b,ws,p1,p2,p3,p4⟩:=F.own j ys z
        refine ⟨b,ws,p1,List.mem_filter.mpr ⟨p2,decide_eq_true fun z'=>?_⟩,p3,p4.ext E⟩
        subst z'
        exact F.ne i j xs ys b (Ne.symm q) hx z q1 p1
    · rcases oth j _ h1 with ⟨_,z⟩ | ⟨_,z1⟩
      · cases z
      · rcases oth k _ h2 with ⟨_,z⟩ | ⟨_,z2⟩
        · cases z
        · exact F.ne j k ys zs b hne z1 z2 h3
  · exact ⟨B,θ,ρ,F,w⟩
theorem zv (i:Nat) {st:Stmt} {f:SM} (h:MS X st f):MS X st (ZV i f):=PS.imp h fun _ _ _ q=>Zez q
def ZP (n:Nat) (ds:List D):List Sl:=ds.map Sl.val++List.replicate (n-ds.length) Sl.no
def zL (np nn:Nat) (fb:SM):GM:=fun ds θ=>if ds.length=np then (fb (ZP nn ds) θ).bind fun p θ=>match p.1 with
  | .nx=>.ok .non θ
  | .rt d=>.ok d θ
  | _=>.bad
  else .bad
def spM (X:Mo) (f:GM):Sp:=fun vs H Q E=>∃B θ ds,B.os=[]∧Good X B θ H∧RepL B H ds vs∧(match f ds θ with
  | .ok d θ'=>∀B' H' v,ExtE B B' H H'→Good X B' θ' H'→RepV B' H' d v→Q v H'
  | .ex c θ'=>False
  | .bad=>False)
def ZW (P:Program) (w:World) (K:PySem.W.Frag) (mg:Str→Option Value) (base:Heap) (k:Nat) (x:Str) (f:GM):Prop:=∃ps,Def P w K mg base k x ps (spM ⟨ZcD mg,K⟩ f)
theorem Zbz {cl:Mo} {B:Bx} {θ:Sto} {H:Hp} {ds:List D} {vs:List V} {N:List Str} {nn:Nat} (G:Good cl B θ H) (r:RepL B H ds vs) (hn:N.length=nn):Frm cl B θ (ZP nn ds) (Zao N vs) H:=by
  subst hn
  have hl:=r.len
  have key:∀(i:Nat) (s:Sl),(ZP N.length ds)[i]?=some s→s=.no∨∃d,s=.val d∧∃v,(Zao N vs)[i]?=some (some v)∧RepV B H d v:=fun i s e=>by
    unfold ZP at e
    by_cases q:i<ds.length
    · rw [List.getElem?_append_left (by simpa using q),List.getElem?_map,List.getElem?_eq_getElem q] at e
      cases e
      obtain ⟨v,h1,h2⟩:=r.get (List.getElem?_eq_getElem q)
      refine .inr ⟨_,rfl,v,?_,h2⟩
      unfold Zao
      rw [List.getElem?_append_left (by simpa [hl] using q),List.getElem?_map,h1]
      rfl
    · rw [List.getElem?_append_right (by simpa using q)] at e
      exact .inl (List.eq_of_mem_replicate (List.mem_of_getElem? e))
  refine ⟨G,by simp [ZP,Zao,hl],fun i d e=>?_,fun i xs e=>?_,fun i j xs ys a _ e _=>?_⟩
  · rcases key i _ e with z | ⟨d',z,v',h1,h2⟩
    · cases z
    · cases z; exact ⟨v',h1,h2⟩
  · rcases key i _ e with z | ⟨d',z,_⟩<;>cases z
  · rcases key i _ e with z | ⟨d',z,_⟩<;>cases z
theorem mfn {P:Program} {w:World} {K:PySem.W.Frag} {mg:Str→Option Value} {base:Heap} {x qual:Str} {st:Stmt} {N ps:List Str} {k:Nat} {fb:SM} {f:Addr} {fd:FuncData} (F:Fun K x qual st f fd) (S:ZC N ps (Zj st)) (np nn:Nat) (hp:ps.length=np) (hn:N.length=nn)
    (hbody:∀(cdv:Value) (A:Around) (outer:List Env) (s:Shared) (H:Hp) (E:XK),Room k (A.deeper (envOfC qual (Zj st) s.heap.objs.size f cdv))→MSs (ZaT CX0 P w K mg base N qual (Zj st) f cdv A outer s H E).nox (Zy st) fb) :
    FnOk P w K mg base CX0 (k+1) f fd ps (spM ⟨ZcD mg,K⟩ (zL np nn fb)):=by
  refine F.ok S ?_ ?_
  · rintro vs H Q E ⟨B,θ,ds,_,_,r,q⟩
    unfold zL at q
    split at q
    · rename_i h
      split at h
      · rename_i hl; rw [r.len,hl,hp]
      · cases h
    · exact q.elim
    · exact q.elim
  · intro cdv A outer s H vs Q E hr h
    obtain ⟨B,θ,ds,hos,G,r,q⟩:=h
    refine ⟨tMS (ZaT CX0 P w K mg base N qual (Zj st) f cdv A outer s H E).nox fb,hbody cdv A outer s H E hr,B,θ,ZP nn ds,Zbz G r hn,?_⟩
    unfold zL at q
    by_cases hl:ds.length=np
    · rw [if_pos hl] at q
      cases e:fb (ZP nn ds) θ with
      | bad=>rw [e] at q; exact q.elim
      | ex c θ'=>rw [e] at q; exact q.elim
      | ok p θ'=>
        rw [e] at q
        obtain ⟨fl,ρ'⟩:=p
        intro B' H' σ' E' F'
        have hos':∀a,a∈B.os→False:=fun a ha=>by rw [hos] at ha; cases ha
        let B2:Bx:={ B' with os:=[] }
        have E2:ExtE B B2 H H':=⟨⟨E'.n,E'.m,E'.fr,E'.keep,E'.sm,fun a ha=>(nomatch ha),E'.F,E'.ks⟩,hos.symm,fun a o ha=>(hos' a ha).elim⟩
        have E3:ExtS B' B2 H' H':=⟨Nat.le_refl _,fun _ _=>rfl,fun i h h'=>absurd h' (Nat.not_lt.mpr h),fun _ _ e _ _=>e,fun _ e=>e,fun b hb=>(nomatch hb),rfl,rfl⟩
        have G2:Good ⟨ZcD mg,K⟩ B2 θ' H':=⟨F'.good.len,F'.good.inj,fun j c e=>(F'.good.cel j c e).ext E3 fun _ q=>q,fun j hj=>⟨(F'.good.cF j hj).1,fun z=>nomatch z⟩,F'.good.Fs,fun b z=>(nomatch z),fun b z=>(nomatch z),F'.good.kc⟩
        cases fl with
        | nx=>exact q B2 H' .non E2 G2 rfl
        | rt d=>exact fun v rv=>q B2 H' v E2 G2 (rv.ext E3)
        | bk=>exact q.elim
        | ct=>exact q.elim
    · rw [if_neg hl] at q
      exact q.elim
theorem Zay {P:Program} {w:World} {K:PySem.W.Frag} {mg:Str→Option Value} {base:Heap} {x:Str} {st:Stmt} {N ps:List Str} {k:Nat} {fb:SM} (D0:ZK K mg x st ps) (S:ZC N ps (Zj st)) (np nn:Nat) (hp:ps.length=np) (hn:N.length=nn)
    (hbody:∀(f:Addr) (cdv:Value) (A:Around) (outer:List Env) (s:Shared) (H:Hp) (E:XK),Room k (A.deeper (envOfC x (Zj st) s.heap.objs.size f cdv))→MSs (ZaT CX0 P w K mg base N x (Zj st) f cdv A outer s H E).nox (Zy st) fb):ZW P w K mg base (k+1) x (zL np nn fb):=by
  obtain ⟨f,fd,F,b,m⟩:=D0
  exact ⟨ps,f,fd,mfn F S np nn hp hn (hbody f),b,F.kp,m⟩
def Bx.inC (B:Bx):Bx:={ B with F:=fun a=>B.F a∨a∈B.os,os:=[] }
theorem inC_ok {B:Bx} {a:Addr}:B.inC.ok a↔B.ok a:=by
  constructor
  · rintro ⟨h1,h2,h3⟩
    exact ⟨h1,fun z=>h2 (.inl z),fun z=>h2 (.inr z)⟩
  · rintro ⟨h1,h2,h3⟩
    exact ⟨h1,fun z=>z.elim h2 h3,fun z=>nomatch z⟩
mutual
theorem RepV.same {B B':Bx} {H:Hp} (hn:B'.n=B.n) (hm:B'.m=B.m) (hk:B'.ks=B.ks) (ho:∀a,B.ok a→B'.ok a):∀{d:D} {v:V},RepV B H d v→RepV B' H d v
  | .non,_,h=>h
  | .bl _,_,h=>h
  | .int _,_,h=>h
  | .str _,_,h=>h
  | .ty _,_,h=>h
  | .scr _,_,h=>by
    obtain ⟨a,e,h⟩:=h
    refine ⟨a,e,?_⟩
    rcases h with ⟨o,h,k⟩ | h
    · exact .inl ⟨o,h,ho a k⟩
    · exact .inr (by rw [hk]; exact h)
  | .tup _,_,h=>by obtain ⟨a,vs,e,h,k,l⟩:=h; exact ⟨a,vs,e,h,ho a k,RepL.same hn hm hk ho l⟩
  | .lst _,_,h=>by obtain ⟨a,vs,e,h,k,l⟩:=h; exact ⟨a,vs,e,h,ho a k,RepL.same hn hm hk ho l⟩
  | .ref l,_,h=>⟨by rw [hn]; exact h.1,by rw [hm]; exact h.2⟩
theorem RepL.same {B B':Bx} {H:Hp} (hn:B'.n=B.n) (hm:B'.m=B.m) (hk:B'.ks=B.ks) (ho:∀a,B.ok a→B'.ok a):∀{ds:List D} {vs:List V},RepL B H ds vs→RepL B' H ds vs
  | [],_,h=>h
  | _::_,_,h=>by obtain ⟨v,r,e,hv,hr⟩:=h; exact ⟨v,r,e,RepV.same hn hm hk ho hv,RepL.same hn hm hk ho hr⟩
end
theorem RepKV.same {κ:Type} {B B':Bx} {H:Hp} (hn:B'.n=B.n) (hm:B'.m=B.m) (hk:B'.ks=B.ks) (ho:∀a,B.ok a→B'.ok a):∀{ks:List (κ×D)} {vs:List (κ×V)},RepKV B H ks vs→RepKV B' H ks vs
  | _,_,.nil=>.nil
  | _,_,.cons h t=>.cons ⟨h.1,RepV.same hn hm hk ho h.2⟩ (RepKV.same hn hm hk ho t)
theorem CellOk.same {cl:Mo} {B B':Bx} {H:Hp} {a:Addr} {c:Zeo} (hn:B'.n=B.n) (hm:B'.m=B.m) (hk:B'.ks=B.ks) (ho:∀a,B.ok a→B'.ok a) (k:CellOk cl B H a c):CellOk cl B' H a c:=by
  cases c with
  | lst xs=>obtain ⟨vs,e,r⟩:=k; exact ⟨vs,e,r.same hn hm hk ho⟩
  | dK kvs=>obtain ⟨vs,e,r⟩:=k; exact ⟨vs,e,r.same hn hm hk ho⟩
  | dT kvs=>obtain ⟨vs,e,r⟩:=k; exact ⟨vs,e,r.same hn hm hk ho⟩
  | ins C fs=>obtain ⟨dx,vs,e,r⟩:=k; exact ⟨dx,vs,e,r.same hn hm hk ho⟩
theorem Zec {cl:Mo} {B:Bx} {θ:Sto} {H:Hp} (G:Good cl B θ H):Good cl B.inC θ H:=
  ⟨G.len,G.inj,fun i c e=>CellOk.same (B:=B) (B':=B.inC) rfl rfl rfl (fun a=>inC_ok.mpr) (G.cel i c e),fun i hi=>⟨fun z=>z.elim (G.cF i hi).1 (G.cF i hi).2,fun z=>nomatch z⟩,fun a z=>z.elim (G.Fs a) (G.oS a),fun a z=>(nomatch z),fun a z=>(nomatch z),G.kc⟩
theorem ZgP {cl:Mo} {B B':Bx} {θ θ':Sto} {H H':Hp} (G:Good cl B θ H) (E:ExtE B.inC B' H H') (G':Good cl B' θ' H') :
    ExtE B { B' with F:=B.F,os:=B.os } H H'∧Good cl { B' with F:=B.F,os:=B.os } θ' H'∧∀d v,RepV B' H' d v→RepV { B' with F:=B.F,os:=B.os } H' d v:=by
  have hF:B'.F=fun a=>B.F a∨a∈B.os:=E.F
  have ho:∀a,B'.ok a→Bx.ok { B' with F:=B.F,os:=B.os } a:=fun a ⟨h1,h2,h3⟩=>by
    rw [hF] at h2
    exact ⟨h1,fun z=>h2 (.inl z),fun z=>h2 (.inr z)⟩
  have keep:∀a o,H a=some o→(∀i,i<B.n→B.m i≠a)→H' a=some o:=fun a o h k=>E.keep a o h k (fun z=>nomatch z)
  refine ⟨⟨⟨E.n,E.m,E.fr,fun a o h k _=>keep a o h k,E.sm,fun a h=>.inl h,rfl,E.ks⟩,rfl,fun a o _ k h=>keep a o h k⟩,⟨G'.len,G'.inj,fun i c e=>CellOk.same (B:=B') (B':={ B' with F:=B.F,os:=B.os }) rfl rfl rfl ho (G'.cel i c e),fun i hi=>?_,fun a z=>E.sm a (G.Fs a z),fun a z=>E.sm a (G.oS a z),G.oF,G'.kc⟩,fun d v r=>RepV.same (B:=B') (B':={ B' with F:=B.F,os:=B.os }) rfl rfl rfl ho r⟩
  have:=(G'.cF i hi).1
  rw [hF] at this
  exact ⟨fun z=>this (.inl z),fun z=>this (.inr z)⟩
theorem Zii {f:GM} {σ:St} {B:Bx} {θ:Sto} {H:Hp} {ds:List D} {vs:List V} {Q:VK} {E:XK} (G:Good X.cl B θ H) (r:RepL B H ds vs) (w:wpR X σ RepV B H (f ds θ) Q):spM X.cl f vs H Q E:=by
  refine ⟨B.inC,θ,ds,rfl,Zec G,RepL.same (B:=B) (B':=B.inC) rfl rfl rfl (fun a=>inC_ok.mpr) r,?_⟩
  cases e:f ds θ with
  | bad=>rw [e] at w; exact w
  | ex c θ'=>rw [e] at w; exact w
  | ok d θ'=>
    rw [e] at w
    intro B' H' v E' G' rv
    obtain ⟨h1,h2,h3⟩:=ZgP G E' G'
    exact w _ H' v h1 h2 (h3 d v rv)
theorem Zk {k j:Nat} {x:Str} {f:GM} {p pos:Pos} {e:Expr} {es:List Expr} {fs:AM} (D0:ZW X.prog X.w X.K X.mg X.base k x f) (hr:Room j X.A) (hj:k≤j) (ha:MA X (e::es) fs) (hg:Gl X x:=by rfl) (hdb:(x == ("__debug__":Str))=false:=by decide)
    (he:starEach (e::es) X.env=(false,eval e X.env)::starEach es X.env:=by rfl) (hpl:(backTo pos (starEach es X.env)).any (·.1)=false:=by rfl):ME X (.Call (.Name x p) (e::es) [] pos) (mCB f fs):=by
  obtain ⟨ps,D0⟩:=D0
  refine PE.imp (ZgM D0 hr hj ha hg hdb he hpl) fun σ H Q h=>?_
  obtain ⟨B,θ,ρ,F,w⟩:=h
  refine zQ (ZcL F w) ?_
  rintro vs H1 ⟨B1,θ1,ds,E1,F1,rd,w1⟩
  rw [List.append_nil]
  exact Zii F1.good rd w1
end
end L2.MM
namespace L2.MM
open PySem PySem.Spec PyProof.Rows PySem.SeqAt
noncomputable section
def Ze3 (K:PySem.W.Frag):Sp:=fun vs H Q _=>∃(a:Addr) (ns:List Int),vs=[.ref a]∧Zio H∧SqL K H a (ns.map V.int)∧ns.length≤63∧∀H',Q (.bl true) H'
theorem Zic {P:Program} {w:World} {K:PySem.W.Frag} {mg:Str→Option Value} {base:Heap} {k:Nat} {f:Addr} {fd:FuncData} {ps:List Str} {g:GM} (h:∀ns:List Int,ns.length≤63→∃θ',g [.scr ns] []=.ok (.bl true) θ')
    (F:FnOk P w K mg base CX0 k f fd ps (spM ⟨ZcD mg,K⟩ g)):FnOk P w K mg base CX0 k f fd ps (Ze3 K):=by
  refine F.imp ?_
  rintro vs H Q E ⟨a,ns,rfl,hO,hS,hl,q⟩
  obtain ⟨θ',e⟩:=h ns hl
  refine ⟨⟨0,fun _=>0,fun _=>False,[],KL K⟩,[],[.scr ns],rfl,⟨rfl,fun i j hi=>absurd hi (Nat.not_lt_zero _),fun i c h=>by simp at h,fun i hi=>absurd hi (Nat.not_lt_zero _),fun a h=>h.elim,fun a h=>(nomatch h),fun a h=>(nomatch h),fun a ns h=>h⟩,?_,?_⟩
  · refine ⟨.ref a,[],rfl,⟨a,rfl,?_⟩,rfl⟩
    rcases hS with (h1 | ⟨o,h1⟩) | h1
    · rcases hO a with z | ⟨o,xs,z⟩
      · rw [z] at h1; cases h1
      · rw [z] at h1; cases h1
    · exact .inl ⟨o,h1,fun i hi=>absurd hi (Nat.not_lt_zero _),fun z=>z,fun z=>(nomatch z)⟩
    · exact .inr h1
  · rw [e]
    intro B' H' v _ _ rv
    cases (show v=V.bl true from rv)
    exact q H'
end
end L2.MM
namespace L2.MM
open PySem PySem.Spec PyProof.Rows PySem.SeqAt
noncomputable section
section
variable {i j k:Nat} {ρ:List Sl} {θ:Sto} {f g h:EM} {fs:AM} {t u:TMr}
@[simp] theorem ZeT:Ze i ρ θ=match ρ[i]? with | some (Sl.val d)=>.ok d θ | _=>.bad:=nr rfl
@[simp] theorem x_c {d:D}:mC d ρ θ=.ok d θ:=nr rfl
@[simp] theorem Zgk {o:OM}:mOp o f g ρ θ=(f ρ θ).bind fun x θ=>(g ρ θ).bind fun y θ=>o x y θ:=nr rfl
@[simp] theorem Zk8:Zw f ρ θ=(f ρ θ).bind fun x θ=>match x with | .bl k=>.ok k θ | _=>.bad:=nr rfl
@[simp] theorem ZlP:Zd5 f ρ θ=(f ρ θ).bind fun x θ=>match ZbX θ x with | some k=>.ok k θ | none=>.bad:=nr rfl
@[simp] theorem ZlX:ZfY t u ρ θ=(t ρ θ).bind fun k θ=>if k=true then u ρ θ else .ok false θ:=nr rfl
@[simp] theorem Zl7:mOr t u ρ θ=(t ρ θ).bind fun k θ=>if k=true then .ok true θ else u ρ θ:=nr rfl
@[simp] theorem ZlS:Zd6 t ρ θ=(t ρ θ).bind fun k θ=>.ok (!k) θ:=nr rfl
def ZjG (g:Sto→R D):D→Sto→R D
  | .bl true,θ=>g θ
  | .bl false,θ=>.ok (.bl false) θ
  | _,_=>.bad
def orK (g:Sto→R D):D→Sto→R D
  | .bl true,θ=>.ok (.bl true) θ
  | .bl false,θ=>g θ
  | _,_=>.bad
@[simp] theorem ZkX {g:Sto→R D} {k:Bool}:ZjG g (.bl k) θ=if k=true then g θ else .ok (.bl false) θ:=by cases k<;>rfl
@[simp] theorem Zlv {g:Sto→R D} {k:Bool}:orK g (.bl k) θ=if k=true then .ok (.bl true) θ else g θ:=by cases k<;>rfl
@[simp] theorem Zle:zU f g ρ θ=(f ρ θ).bind (ZjG (g ρ)):=by
  show (f ρ θ).bind _=_
  congr 1
  funext x θ
  cases x<;>first | rfl | (rename_i b; cases b<;>rfl)
@[simp] theorem ZlR:Zjq f g ρ θ=(f ρ θ).bind (orK (g ρ)):=by
  show (f ρ θ).bind _=_
  congr 1
  funext x θ
  cases x<;>first | rfl | (rename_i b; cases b<;>rfl)
@[simp] theorem Zkv {p:Prop} [Decidable p] {m:Bool}:(if p then R.ok (D.bl m) θ else R.ok (D.bl false) θ)=R.ok (D.bl (decide p && m)) θ:=by by_cases h:p<;>simp [h]
@[simp] theorem ZjP {p:Prop} [Decidable p] {m:Bool}:(if p then R.ok m θ else R.ok false θ)=R.ok (decide p && m) θ:=by by_cases h:p<;>simp [h]
@[simp] theorem Zku {p:Prop} [Decidable p] {m:Bool}:(if p then R.ok true θ else R.ok m θ)=R.ok (decide p || m) θ:=by by_cases h:p<;>simp [h]
@[simp] theorem Zlc:Zg5 f ρ θ=(f ρ θ).bind fun x θ=>match ZbX θ x with | some k=>.ok (.bl (!k)) θ | none=>.bad:=nr rfl
@[simp] theorem ZlT:ZlA f ρ θ=(f ρ θ).bind fun x θ=>match x with | .int i=>.ok (.int (-i)) θ | _=>.bad:=nr rfl
@[simp] theorem ZlU:Zg6 t f g ρ θ=(t ρ θ).bind fun k θ=>if k=true then f ρ θ else g ρ θ:=nr rfl
@[simp] theorem ZkU {o o':OM}:Za3 o o' f g h ρ θ=(f ρ θ).bind fun x θ=>(g ρ θ).bind fun y θ=>(o x y θ).bind (ZjG fun θ=>(h ρ θ).bind fun w θ=>o' y w θ):=by
  show (f ρ θ).bind _=_
  congr 1
  funext x θ
  congr 1
  funext y θ
  congr 1
  funext z θ
  cases z<;>first | rfl | (rename_i b; cases b<;>rfl)
@[simp] theorem Zgl:Zi ρ θ=.ok [] θ:=nr rfl
@[simp] theorem Zeq:Za f fs ρ θ=(f ρ θ).bind fun x θ=>(fs ρ θ).bind fun xs θ=>.ok (x::xs) θ:=nr rfl
@[simp] theorem ZlO:ZZ fs ρ θ=(fs ρ θ).bind fun xs θ=>if xs.length≤BIG then .ok (.tup xs) θ else .bad:=nr rfl
@[simp] theorem ZjU:zK fs ρ θ=(fs ρ θ).bind fun xs θ=>if xs.length≤BIG then .ok (.lst xs) θ else .bad:=nr rfl
@[simp] theorem ZjY {o:GM}:mCB o fs ρ θ=(fs ρ θ).bind fun xs θ=>o xs θ:=nr rfl
@[simp] theorem Zb5:Zx ρ θ=.ok none θ:=nr rfl
@[simp] theorem Zep:ZR f ρ θ=(f ρ θ).bind fun x θ=>match x with | .int i=>.ok (some i) θ | _=>.bad:=nr rfl
@[simp] theorem ZiN {lo hi:PM}:mSl f lo hi ρ θ=(f ρ θ).bind fun x θ=>(lo ρ θ).bind fun l θ=>(hi ρ θ).bind fun h θ=>match ZbA θ x l h with
  | some d=>.ok d θ
  | none=>.bad:=nr rfl
@[simp] theorem ZlQ {lo hi st:PM}:Zh9 f lo hi st ρ θ=(f ρ θ).bind fun x θ=>(lo ρ θ).bind fun l θ=>(hi ρ θ).bind fun h θ=>(st ρ θ).bind fun s θ=>match ZY θ x with
  | some xs=>if s≠some 0∧(z6 xs l h s).length≤BIG then .ok (.lst (z6 xs l h s)) θ else .bad
  | none=>.bad:=nr rfl
@[simp] theorem Zl9:mIn f ρ θ=(f ρ θ).bind fun d θ=>match seqOf θ d with | some _=>.ok (.seq d) θ | none=>.bad:=nr rfl
@[simp] theorem Zlb:z9 fs ρ θ=(fs ρ θ).bind fun ds θ=>match ds with
  | [.int j]=>if -1000000≤j∧j≤1000000 then .ok (.rng 0 j.toNat) θ else .bad
  | _=>.bad:=by
  unfold z9; exact nr rfl
variable {a b:SM} {Fl':Fl×List Sl}
@[simp] theorem Zk9:zm ρ θ=.ok (.nx,ρ) θ:=nr rfl
@[simp] theorem ZlW:Zjr ρ θ=.bad:=nr rfl
@[simp] theorem zM {ρ':List Sl}:ZbN (.ok (.nx,ρ') θ) a=a ρ' θ:=nr rfl
@[simp] theorem ZjK {ρ':List Sl} {d:D}:ZbN (.ok (.rt d,ρ') θ) a=.ok (.rt d,ρ') θ:=nr rfl
@[simp] theorem Zb4:Zq a b ρ θ=ZbN (a ρ θ) b:=nr rfl
@[simp] theorem Zgj:zr f ρ θ=(f ρ θ).bind fun d θ=>.ok (.rt d,ρ) θ:=nr rfl
@[simp] theorem ZhE:mIf t a b ρ θ=(t ρ θ).bind fun k θ=>if k=true then a ρ θ else b ρ θ:=nr rfl
@[simp] theorem ZeU:Zu i f ρ θ=(f ρ θ).bind fun d θ=>.ok (.nx,ρ.set i (.val d)) θ:=nr rfl
@[simp] theorem ZjS:Zdo i fs ρ θ=(fs ρ θ).bind fun xs θ=>if xs.length≤BIG then .ok (.nx,ρ.set i (.own xs)) θ else .bad:=nr rfl
@[simp] theorem ZjX:Zb1 i f ρ θ=(f ρ θ).bind fun d θ=>match ρ[i]? with
  | some (Sl.own xs)=>if xs.length<BIG then .ok (.nx,ρ.set i (.own (xs++[d]))) θ else .bad
  | _=>.bad:=nr rfl
@[simp] theorem Zb6:ZV i a ρ θ=match ρ[i]? with | some (Sl.own xs)=>a (ρ.set i (.val (.lst xs))) θ | _=>a ρ θ:=nr rfl
@[simp] theorem Zby {ρ':List Sl}:Zd8 a (.nx,ρ') θ=a ρ' θ:=nr rfl
@[simp] theorem ZlV {d:D}:gNm i d ρ=some (ρ.set i (.val d)):=nr rfl
@[simp] theorem Zis {np nn:Nat} {ds:List D}:zL np nn a ds θ=if ds.length=np then (a (ZP nn ds) θ).bind fun p θ=>match p.1 with | .nx=>.ok .non θ | .rt d=>.ok d θ | _=>.bad else .bad:=nr rfl
@[simp] theorem ZkQ {n:Nat} {ds:List D}:ZP n ds=ds.map Sl.val++List.replicate (n-ds.length) Sl.no:=nr rfl
@[simp] theorem Zir {xs:List D}:seqOf θ (.tup xs)=some xs:=nr rfl
@[simp] theorem ZjJ {b:Bool}:ZbX θ (.bl b)=some b:=nr rfl
@[simp] theorem ZiM {ns:List Int}:ZbX θ (.scr ns)=some (!(ns.map D.int).isEmpty):=nr rfl
@[simp] theorem ZiP {xs:List D}:look θ (.lst xs)=.lst xs:=nr rfl
@[simp] theorem ZiQ {n:Int}:look θ (.int n)=.int n:=nr rfl
@[simp] theorem ZjL {n:Bool}:look θ (.bl n)=.bl n:=nr rfl
@[simp] theorem ZiO:look θ .non=.non:=nr rfl
@[simp] theorem Zgm {xs:List D} {n:Int}:ixM (.lst xs) (.int n) θ=match atI xs n with | some d=>.ok d θ | none=>.bad:=nr rfl
@[simp] theorem ZdL {xs:List D} {n:Int}:ixM (.tup xs) (.int n) θ=match atI xs n with | some d=>.ok d θ | none=>.bad:=nr rfl
@[simp] theorem ZjW {xs:List Int} {n:Int}:ixM (.scr xs) (.int n) θ=match atI (xs.map D.int) n with | some d=>.ok d θ | none=>.bad:=nr rfl
@[simp] theorem ZjV {xs:List D}:Zcl [.lst xs] θ=.ok (.int xs.length) θ:=nr rfl
@[simp] theorem ZjM {xs:List Int}:Zcl [.scr xs] θ=.ok (.int (xs.map D.int).length) θ:=nr rfl
@[simp] theorem ZjR {xs:List D}:ZfE [.lst xs] θ=match Zbl xs with | some ns=>.ok (.int ns.sum) θ | none=>.bad:=nr rfl
@[simp] theorem Zit {xs:List D}:Zga [.lst xs] θ=match ZdB xs with | some ns=>.ok (.bl (ns.all id)) θ | none=>.bad:=nr rfl
@[simp] theorem Zld {k:Bool}:Zhd [.bl k] θ=.ok (.int (if k then 1 else 0)) θ:=nr rfl
@[simp] theorem ZkT {m:Bool} {n:String}:ZaV [.bl m,.ty n] θ=match isT .bl n with | some b=>.ok (.bl b) θ | none=>.bad:=nr rfl
@[simp] theorem Zgi {xs:List D} {lo hi:Option Int}:ZbA θ (.lst xs) lo hi=some (.lst (zz xs lo hi)):=nr rfl
@[simp] theorem Zl8 {x:D}:isM x .non θ=.ok (.bl (zJ x)) θ:=nr rfl
@[simp] theorem ZkS {x:D}:Zcm x .non θ=.ok (.bl (!zJ x)) θ:=nr rfl
end
mutual
def pl:Nat→D→Bool
  | _,.non=>true
  | _,.bl _=>true
  | _,.int _=>true
  | _,.str x=>PyData.strOk x
  | k+1,.tup xs=>pls k xs
  | k+1,.lst xs=>pls k xs
  | _,_=>false
def pls:Nat→List D→Bool
  | _,[]=>true
  | k,d::r=>pl k d && pls k r
end
mutual
def noB:D→Bool
  | .bl _=>false
  | .tup xs=>Za0 xs
  | .lst xs=>Za0 xs
  | _=>true
def Za0:List D→Bool
  | []=>true
  | d::r=>noB d && Za0 r
end
mutual
theorem Ze8:∀(k:Nat) (d:D),pl k d=true→zC d=true∧(dat d).canLay0=true∧(dat d).depth≤k
  | _,.non,_=>⟨rfl,rfl,Nat.zero_le _⟩
  | _,.bl _,_=>⟨rfl,rfl,Nat.zero_le _⟩
  | _,.int _,_=>⟨rfl,rfl,Nat.zero_le _⟩
  | k,.str x,h=>⟨rfl,by cases k<;>simpa [pl,dat,PyData.canLay0] using h,Nat.zero_le _⟩
  | k+1,.tup xs,h=>by
    obtain ⟨a,b,c⟩:=ZeB k xs (by simpa [pl] using h)
    exact ⟨a,b,by simp only [dat,PyData.depth]; omega⟩
  | k+1,.lst xs,h=>by
    obtain ⟨a,b,c⟩:=ZeB k xs (by simpa [pl] using h)
    exact ⟨a,b,by simp only [dat,PyData.depth]; omega⟩
  | 0,.tup xs,h=>by simp [pl] at h
  | 0,.lst xs,h=>by simp [pl] at h
  | 0,.ty _,h=>by simp [pl] at h
  | 0,.scr _,h=>by simp [pl] at h
  | 0,.ref _,h=>by simp [pl] at h
  | _+1,.ty _,h=>by simp [pl] at h
  | _+1,.scr _,h=>by simp [pl] at h
  | _+1,.ref _,h=>by simp [pl] at h
theorem ZeB:∀(k:Nat) (ds:List D),pls k ds=true→zx ds=true∧PyData.canLayAll0 (ZaD ds)=true∧PyData.depthAll (ZaD ds)≤k
  | _,[],_=>⟨rfl,rfl,Nat.zero_le _⟩
  | k,d::r,h=>by
    have h':pl k d=true∧pls k r=true:=by simpa [pls] using h
    obtain ⟨a,b,c⟩:=Ze8 k d h'.1
    obtain ⟨a',b',c'⟩:=ZeB k r h'.2
    exact ⟨by simp [zx,a,a'],by simp [ZaD,PyData.canLayAll0,b,b'],by simp only [ZaD,PyData.depthAll]; omega⟩
end
mutual
theorem Zff:∀(d e:D),noB d=true→noB e=true→noMix (dat d) (dat e)=true:=fun d e p q=>by
  cases d with
  | bl _=>simp [noB] at p
  | tup xs=>
    cases e with
    | bl _=>simp [noB] at q
    | tup ys=>simp only [dat,noMix]; exact Zcg xs ys p q
    | _=>simp [dat,noMix]
  | lst xs=>
    cases e with
    | bl _=>simp [noB] at q
    | lst ys=>simp only [dat,noMix]; exact Zcg xs ys p q
    | _=>simp [dat,noMix]
  | _=>cases e<;>simp_all [noB,dat,noMix]
theorem Zcg:∀(ds es:List D),Za0 ds=true→Za0 es=true→noMixAll (ZaD ds) (ZaD es)=true
  | [],[],_,_=>rfl
  | [],_::_,_,_=>rfl
  | _::_,[],_,_=>rfl
  | d::ds,e::es,p,q=>by
    have p':noB d=true∧Za0 ds=true:=by simpa [Za0] using p
    have q':noB e=true∧Za0 es=true:=by simpa [Za0] using q
    simp only [ZaD,noMixAll,Bool.and_eq_true]
    exact ⟨Zff d e p'.1 q'.1,Zcg ds es p'.2 q'.2⟩
end
theorem ZcM {k:Nat} {d:D} (h:pl k d=true) (hk:k≤64):shaped (dat d)=true:=by
  obtain ⟨_,b,c⟩:=Ze8 k d h
  unfold shaped
  rw [b,decide_eq_true (by omega)]
  rfl
theorem Zdx {x y:D} (h1:pl 9 x=true) (h2:pl 9 y=true) (h3:noB x=true) (h4:noB y=true):Zc5 x y:=
  ⟨(Ze8 _ _ h1).1,(Ze8 _ _ h2).1,ZcM h1 (by decide),ZcM h2 (by decide),Zff x y h3 h4⟩
theorem Zhq {a b:Bool}:Zc5 (.bl a) (.bl b):=⟨rfl,rfl,rfl,rfl,rfl⟩
section
open Classical
theorem Zdv {x y:D} {θ:Sto} (h:Zc5 (look θ x) (look θ y)):eqM x y θ=.ok (.bl (decide (look θ x=look θ y))) θ:=if_pos h
theorem ZeG {x y:D} {θ:Sto} (h:Zc5 (look θ x) (look θ y)):neM x y θ=.ok (.bl (!decide (look θ x=look θ y))) θ:=if_pos h
end
@[simp] theorem Zkf (k:Nat) (ns:List Int):pls k (ns.map D.int)=true:=by
  induction ns with
  | nil=>rfl
  | cons n r ih=>simp only [List.map_cons,pls,ih,Bool.and_true]; cases k<;>rfl
@[simp] theorem ZjN (ns:List Int):Za0 (ns.map D.int)=true:=by
  induction ns with
  | nil=>rfl
  | cons n r ih=>simp only [List.map_cons,Za0,ih,Bool.and_true]; rfl
@[simp] theorem ZiC (ns ms:List Int):(ns.map D.int=ms.map D.int)↔ns=ms:=by
  constructor
  · intro h
    have:∀(ns ms:List Int),ns.map D.int=ms.map D.int→ns=ms:=fun ns=>by
      induction ns with
      | nil=>intro ms h; cases ms with
        | nil=>rfl
        | cons _ _=>cases h
      | cons n r ih=>intro ms h; cases ms with
        | nil=>cases h
        | cons m s=>simp at h; rw [h.1,ih s h.2]
    exact this ns ms h
  · intro h; rw [h]
@[simp] theorem ZlI (a b:Int) (θ:Sto):eqM (.int a) (.int b) θ=.ok (.bl (decide (a=b))) θ:=by
  rw [Zdv (Zdx rfl rfl rfl rfl)]
  simp
@[simp] theorem Zly (a b:Int) (θ:Sto):neM (.int a) (.int b) θ=.ok (.bl (!decide (a=b))) θ:=by
  rw [ZeG (Zdx rfl rfl rfl rfl)]
  simp
@[simp] theorem Zl6 (a b:Bool) (θ:Sto):eqM (.bl a) (.bl b) θ=.ok (.bl (decide (a=b))) θ:=by
  rw [Zdv (x:=.bl a) (y:=.bl b) Zhq]
  simp
@[simp] theorem Zl0 (a b:Bool) (θ:Sto):neM (.bl a) (.bl b) θ=.ok (.bl (!decide (a=b))) θ:=by
  rw [ZeG (x:=.bl a) (y:=.bl b) Zhq]
  simp
@[simp] theorem Zh6 (a b:List Int) (θ:Sto):neM (.lst (a.map D.int)) (.lst (b.map D.int)) θ=.ok (.bl (!decide (a=b))) θ:=by
  rw [ZeG (Zdx (by simp [pl]) (by simp [pl]) (by simp [noB]) (by simp [noB]))]
  simp
end
end L2.MM
namespace L2.MM
open PySem PySem.Spec PyProof.Rows PySem.SeqAt My
noncomputable section
@[simp] theorem ZhC:BIG=100000:=nr rfl
def il (ns:List Int):D:=.lst (ns.map D.int)
def itp (ns:List Int):D:=.tup (ns.map D.int)
section
variable {θ:Sto} {a b ns ms:List Int} {i j:Int}
@[simp] theorem ZkH:D.lst (ns.map D.int)=il ns:=nr rfl
@[simp] theorem ZkG (x y:Int):D.lst [.int x,.int y]=il [x,y]:=nr rfl
@[simp] theorem Zl5 (x y z w:Int):D.lst [.int x,.int y,.int z,.int w]=il [x,y,z,w]:=nr rfl
@[simp] theorem Zl4 (x y z w v:Int):D.lst [.int x,.int y,.int z,.int w,.int v]=il [x,y,z,w,v]:=nr rfl
@[simp] theorem Zl3 (x y z w v u:Int):D.lst [.int x,.int y,.int z,.int w,.int v,.int u]=il [x,y,z,w,v,u]:=nr rfl
@[simp] theorem Zl2 (x y z w v u t:Int):D.lst [.int x,.int y,.int z,.int w,.int v,.int u,.int t]=il [x,y,z,w,v,u,t]:=nr rfl
@[simp] theorem ZkA:ZY θ (il a)=some (a.map D.int):=nr rfl
@[simp] theorem Zkz:seqOf θ (il a)=some (a.map D.int):=nr rfl
@[simp] theorem Zjy:Zo (il a) (il b) θ=if a.length+b.length≤BIG then .ok (il (a++b)) θ else .bad:=by
  unfold il
  rw [Zhy]
  simp [il]
theorem Zbm (h:a.length+b.length≤100000):Zo (il a) (il b) θ=.ok (il (a++b)) θ:=by
  rw [Zjy,if_pos h]
@[simp] theorem ZlE:Zcl [il a] θ=.ok (.int a.length) θ:=by
  unfold il; rw [ZjV]; simp
theorem Zfz {α β:Type} (f:α→β) (xs:List α) (n:Int):atI (xs.map f) n=(atI xs n).map f:=by
  unfold L2.atI
  rw [List.length_map]
  cases ixN xs.length n with
  | none=>rfl
  | some k=>simp
theorem ZkB:ixM (il a) (.int i) θ=match atI a i with | some z=>.ok (.int z) θ | none=>.bad:=by
  unfold il
  rw [Zgm,Zfz]
  cases atI a i<;>rfl
theorem ZjE {α:Type} {xs:List α} {n:Nat} {x:α} (h:xs[n]?=some x):atI xs (n:Int)=some x:=Zbv h
theorem Zhx {xs:List Int} {i:Int} (h0:0≤i) (h:i<xs.length):atI xs i=some (xs.getD i.toNat 0):=by
  have c:i=((i.toNat:Nat):Int):=by omega
  rw [c]
  refine Zbv ?_
  have d:i.toNat<xs.length:=by omega
  rw [List.getD_eq_getElem?_getD,Int.toNat_natCast,List.getElem?_eq_getElem d]
  rfl
def gt (a:List Int) (i:Nat):Int:=a.getD i 0
theorem zi (h0:0≤i) (h:i<a.length):ixM (il a) (.int i) θ=.ok (.int (gt a i.toNat)) θ:=by rw [ZkB,Zhx h0 h]; rfl
@[simp] theorem ZlG {x:Int} {r:List Int}:ixM (il (x::r)) (.int 0) θ=.ok (.int x) θ:=zi (a:=x::r) (i:=0) (by decide) (by rw [List.length_cons]; omega)
@[simp] theorem ZlF {x y:Int} {r:List Int}:ixM (il (x::y::r)) (.int 1) θ=.ok (.int y) θ:=zi (a:=x::y::r) (i:=1) (by decide) (by rw [List.length_cons,List.length_cons]; omega)
@[simp high] theorem Zmb {x:D} {r:List D}:ixM (.tup (x::r)) (.int 0) θ=.ok x θ:=by
  rw [ZdL,show (0:Int)=((0:Nat):Int) from rfl,Zbv (j:=0) (v:=x) rfl]
@[simp high] theorem Zma {x y:D} {r:List D}:ixM (.tup (x::y::r)) (.int 1) θ=.ok y θ:=by
  rw [ZdL,show (1:Int)=((1:Nat):Int) from rfl,Zbv (j:=1) (v:=y) rfl]
theorem Zho {α β:Type} (f:α→β) (xs:List α) (lo hi:Option Int):zz (xs.map f) lo hi=(zz xs lo hi).map f:=by
  unfold zz
  rw [List.length_map,List.map_take,List.map_drop]
@[simp] theorem Zhf {lo hi:Option Int}:ZbA θ (il a) lo hi=some (il (zz a lo hi)):=by
  unfold il; rw [Zgi,Zho]
@[simp] theorem ZkW:ZbP [il a] θ=.ok (il a) θ:=nr rfl
@[simp] theorem ZkV:ZbP [itp a] θ=.ok (il a) θ:=nr rfl
@[simp] theorem Zky:ZaX [il a] θ=.ok (itp a) θ:=nr rfl
@[simp] theorem ZlD:ZfE [il a] θ=.ok (.int a.sum) θ:=by unfold il; rw [ZjR,Zhc]
@[simp] theorem Zl1 {n:String}:ZaV [il a,.ty n] θ=match isT .lst n with | some b=>.ok (.bl b) θ | none=>.bad:=nr rfl
@[simp] theorem ZiE:neM (il a) (il b) θ=.ok (.bl (!decide (a=b))) θ:=Zh6 a b θ
@[simp] theorem ZlC {k:Int}:zE (itp a) (.int k) θ=if a.isEmpty=false∧0≤k∧k<1000∧(a.length:Int)*k≤1000 then .ok (itp (List.replicate k.toNat a).flatten) θ else .bad:=by
  unfold itp
  rw [ZgW,List.length_map]
  have:(List.replicate k.toNat (a.map D.int)).flatten=(List.replicate k.toNat a).flatten.map D.int:=by
    rw [List.map_flatten,List.map_replicate]
  rw [this]
  simp
theorem ZbD {α β:Type} (f:α→β) (xs:List α) (lo hi st:Option Int):z6 (xs.map f) lo hi st=(z6 xs lo hi st).map f:=by
  unfold z6
  rw [List.length_map,List.map_filterMap]
  congr
  funext k
  simp
theorem Zcj:∀{ns ms:List Int},ns.map V.int=ms.map V.int→ns=ms
  | [],[],_=>rfl
  | [],_::_,h=>by cases h
  | _::_,[],h=>by cases h
  | _::_,_::_,h=>by simp at h; rw [h.1,Zcj h.2]
@[simp] theorem ZiA (ns:List Int):z6 ns none none (some 2)=Zap ns:=Zcj (by
  have:=Zf6 ns
  rw [show Zas (ns.map V.int) none none (some 2)=z6 (ns.map V.int) none none (some 2) from rfl,ZbD] at this
  exact this)
@[simp] theorem Zi8 (ns:List Int):z6 ns (some 1) none (some 2)=Zce ns:=Zcj (by
  have:=Zhn ns
  rw [show Zas (ns.map V.int) (some 1) none (some 2)=z6 (ns.map V.int) (some 1) none (some 2) from rfl,ZbD] at this
  exact this)
end
theorem Zdc {n d:Nat} {k:Int} (h:0≤k):HT.sIx n d (some k)=min k.toNat n:=by
  have c:k=((k.toNat:Nat):Int):=by omega
  rw [c]
  exact HT.sIx_nat n d k.toNat
theorem Zdw {α:Type} (xs:List α) {k:Int} (h:0≤k):zz xs none (some k)=xs.take k.toNat:=by
  unfold zz
  rw [HT.sIx_none,Zdc h,List.drop_zero,Nat.sub_zero,←List.take_take,List.take_length]
theorem ZaE {α:Type} (xs:List α) {k:Int} (h:0≤k):zz xs (some k) none=xs.drop k.toNat:=by
  unfold zz
  rw [HT.sIx_none,Zdc h]
  by_cases q:k.toNat≤xs.length
  · rw [Nat.min_eq_left q,List.take_of_length_le]
    rw [List.length_drop]
    exact Nat.le_refl _
  · rw [Nat.min_eq_right (by omega),List.drop_length,List.drop_eq_nil_of_le (by omega)]
    simp
theorem Zfq {α:Type} (xs:List α) {k l:Int} (h:0≤k) (h':0≤l):zz xs (some k) (some l)=(xs.drop k.toNat).take (l.toNat-k.toNat):=by
  unfold zz
  rw [Zdc h,Zdc h']
  by_cases q:k.toNat≤xs.length
  · rw [Nat.min_eq_left q]
    by_cases r:l.toNat≤xs.length
    · rw [Nat.min_eq_left r]
    · rw [Nat.min_eq_right (by omega),List.take_of_length_le (by rw [List.length_drop]; exact Nat.le_refl _),List.take_of_length_le (by rw [List.length_drop]; omega)]
  · rw [Nat.min_eq_right (a:=k.toNat) (by omega),List.drop_length,List.drop_eq_nil_of_le (i:=k.toNat) (by omega)]
    simp
section
variable {θ:Sto} {ρ:List Sl}
@[simp] theorem ZcN {lo:Int} {n:Nat}:(Src.rng lo n).items θ=some ((List.range n).map fun (i:Nat)=>D.int (lo+(i:Int))):=nr rfl
@[simp] theorem ZfH {d:D}:(Src.seq d).items θ=seqOf θ d:=nr rfl
open Classical in
theorem ZbK {S:Src} {all:List D} {elt:D→Sto→R D} {θ:Sto} (f:D→D) (hS:S.items θ=some all):∀(xs acc:List D),(∀x∈xs,elt x θ=.ok (f x) θ)→(acc.length+xs.length≤BIG)→ZbR S all elt xs acc θ=.ok (.lst (acc++xs.map f)) θ
  | [],acc,_,hl=>by
    unfold ZbR
    rw [if_pos ⟨hS,by simpa using hl⟩]
    simp
  | x::r,acc,h,hl=>by
    unfold ZbR
    rw [if_pos hS,h x List.mem_cons_self]
    rw [R.bind_ok,ZbK f hS r (acc++[f x]) (fun y hy=>h y (List.mem_cons_of_mem _ hy)) (by simp at hl ⊢; omega)]
    simp
theorem ZbG {fi:IM} {src:List Nat} {elt:EM} {lo:Int} {n:Nat} {θ':Sto} (f:Int→D) (hi:fi ρ θ=.ok (.rng lo n) θ') (hn:n≤BIG) (he:∀i:Nat,i<n→elt (ZaA src ρ (.int (lo+i))) θ'=.ok (f (lo+i)) θ') :
    Zaa fi src elt ρ θ=.ok (.lst ((List.range n).map fun (i:Nat)=>f (lo+i))) θ':=by
  unfold Zaa
  rw [hi,R.bind_ok]
  simp only [ZcN]
  rw [if_pos (by simpa using hn),ZbK (fun d=>match d with | .int k=>f k | d=>d) rfl]
  · simp
  · intro x hx
    obtain ⟨i,hi,rfl⟩:=List.mem_map.mp hx
    exact he i (List.mem_range.mp hi)
  · simpa using hn
theorem ZcU {fi:IM} {src:List Nat} {elt:EM} {d:D} {xs:List D} {θ':Sto} (f:D→D) (hi:fi ρ θ=.ok (.seq d) θ') (hd:seqOf θ' d=some xs) (hn:xs.length≤BIG) (he:∀x∈xs,elt (ZaA src ρ x) θ'=.ok (f x) θ') :
    Zaa fi src elt ρ θ=.ok (.lst (xs.map f)) θ':=by
  unfold Zaa
  rw [hi,R.bind_ok]
  simp only [ZfH,hd]
  rw [if_pos hn,ZbK (S:=.seq d) f hd xs [] he (by simpa using hn)]
  simp
@[simp] theorem Zkx {src:List Nat} {x:D}:ZaA src ρ x=Sl.val x::src.map fun (j:Nat)=>match ρ[j]? with | some (Sl.val d)=>Sl.val d | _=>Sl.no:=nr rfl
open Classical in
theorem Zif {lo:Int} {n:Nat} {all:List D} {tg:TgM} {body:SM} (st:Nat→List Sl) (hs:∀i ρ1,i<n→tg (.int (lo+i)) (st i)=some ρ1→body ρ1 θ=.ok (.nx,st (i+1)) θ) (ht:∀i,i<n→∃ρ1,tg (.int (lo+i)) (st i)=some ρ1) (hall:all=(List.range n).map fun (i:Nat)=>D.int (lo+(i:Int))) :
    ZbI (.rng lo n) all tg body all (st 0) θ=.ok (.nx,st n) θ:=by
  subst hall
  have key:∀m,m≤n→ZbI (.rng lo n) ((List.range n).map fun (i:Nat)=>D.int (lo+(i:Int))) tg body (((List.range n).map fun (i:Nat)=>D.int (lo+(i:Int))).drop (n-m)) (st (n-m)) θ=.ok (.nx,st n) θ:=fun m=>by
    induction m with
    | zero=>
      intro _
      rw [Nat.sub_zero,List.drop_eq_nil_of_le (by simp)]
      simp [ZbI]
    | succ m ih=>
      intro hm
      have hlt:n-(m+1)<n:=by omega
      rw [List.drop_eq_getElem_cons (by simpa using hlt)]
      obtain ⟨ρ1,h1⟩:=ht (n-(m+1)) hlt
      have h2:=hs (n-(m+1)) ρ1 hlt h1
      have e:n-(m+1)+1=n-m:=by omega
      simp only [List.getElem_map,List.getElem_range,ZbI,ZcN,if_true,h1]
      rw [h2,R.bind_ok,Zby,e]
      exact ih (by omega)
  have:=key n (Nat.le_refl _)
  rw [Nat.sub_self,List.drop_zero] at this
  exact this
end
end
end L2.MM
namespace My
open PySem L2 L2.MM
noncomputable section
def Zbs:SM:=(Zae (Zw (mOp gtM (Ze 1) (mC (.int 65535)))) (Zu 1 (mOp Zo (mOp ZX (Ze 1) (mC (.int 65536))) (mOp ZaC (Ze 1) (mC (.int 65536))))) 200)
def Zcv:SM:=(Zq (Zu 1 (mOp Zo (mOp zE (mC (.int 256)) (mCB ZfE (Za (Zh9 (Ze 0) Zx Zx (ZR (mC (.int 2)))) Zi))) (mCB ZfE (Za (Zh9 (Ze 0) (ZR (mC (.int 1))) Zx (ZR (mC (.int 2)))) Zi))))
  (Zq Zbs
  (zr (Ze 1))))
def Zat:GM:=zL 1 2 Zcv
def Zfv:SM:=(zr (Zg6 (Zw (mOp neM (mOp ZkM (Ze 0) (Ze 1)) (mC (.int 0)))) (mC (.int 1)) (mC (.int 0))))
def ZdZ:GM:=zL 2 2 Zfv
def Zab:SM:=(zr (mOp zE (mC (.int 16)) (mOp ZaC (Ze 0) (mC (.int 4)))))
def Z5:GM:=zL 1 1 Zab
def ZbS:SM:=(zr (mOp zE (mOp ZaC (mOp ixM (Ze 0) (mC (.int 12))) (mC (.int 16))) (mC (.int 4))))
def Z9:GM:=zL 1 1 ZbS
def Zcu:SM:=(zr (mOp Zo (mOp zE (mC (.int 256)) (mOp ixM (Ze 0) (Ze 1))) (mOp ixM (Ze 0) (mOp Zo (Ze 1) (mC (.int 1))))))
def ZD:GM:=zL 2 2 Zcu
def zy:SM:=(zr (zU (mOp eqM (mCB ZdZ (Za (mOp ixM (Ze 0) (mC (.int 13))) (Za (mC (.int 2)) Zi))) (mC (.int 1))) (zU (mOp eqM (mOp ixM (Ze 0) (mC (.int 20))) (mC (.int 2))) (zU (mOp eqM (mOp ixM (Ze 0) (mC (.int 21))) (mC (.int 4))) (mOp geM (mCB ZD (Za (Ze 0) (Za (mC (.int 22)) Zi))) (mC (.int 4)))))))
def ZL:GM:=zL 1 1 zy
def zk:SM:=(zr (zU (mOp geM (mCB Zcl (Za (Ze 0) Zi)) (mC (.int 20))) (zU (mOp inM (mOp ixM (Ze 0) (mC (.int 12))) (ZZ (Za (mCB Z5 (Za (mC (.int 20)) Zi)) (Za (mCB Z5 (Za (mC (.int 24)) Zi)) Zi)))) (zU (mOp leM (mOp ixM (Ze 0) (mC (.int 13))) (mC (.int 31))) (zU (Za3 leM leM (mC (.int 0)) (mOp ZdS (mCB Zcl (Za (Ze 0) Zi)) (mCB Z9 (Za (Ze 0) Zi))) (mC (.int 16))) (zU (mOp eqM (mCB ZD (Za (Ze 0) (Za (mC (.int 18)) Zi))) (mC (.int 0))) (zU (Zjq (mOp eqM (mCB Z9 (Za (Ze 0) Zi)) (mC (.int 20))) (mCB ZL (Za (Ze 0) Zi))) (mOp eqM (mCB Zat (Za (Ze 0) Zi)) (mC (.int 65535))))))))))
def ZG:GM:=zL 1 1 zk
def ZbT:SM:=(zr (mOp Zo (mOp zE (mC (.int 65536)) (mCB ZD (Za (Ze 0) (Za (Ze 1) Zi)))) (mCB ZD (Za (Ze 0) (Za (mOp Zo (Ze 1) (mC (.int 2))) Zi)))))
def zu:GM:=zL 2 2 ZbT
def zO:SM:=(mIf (Zd6 (Zd5 (mCB ZG (Za (Ze 0) Zi)))) Zjr zm)
def Zb2:SM:=(Zq zO
  (Zq (Zu 1 (mCB Z9 (Za (Ze 0) Zi)))
  (Zq (Zu 2 (Zg6 (Zw (mOp eqM (Ze 1) (mC (.int 24)))) (mCB ZD (Za (Ze 0) (Za (mC (.int 22)) Zi))) (mC (.int 0))))
  (Zq (Zu 3 (ZZ (Za (mCB ZD (Za (Ze 0) (Za (mC (.int 0)) Zi))) (Za (mCB ZD (Za (Ze 0) (Za (mC (.int 2)) Zi))) Zi))))
  (Zq (Zu 4 (ZZ (Za (mCB zu (Za (Ze 0) (Za (mC (.int 4)) Zi))) (Za (mCB zu (Za (Ze 0) (Za (mC (.int 8)) Zi))) Zi))))
  (zr (mOp Zo (mOp Zo (Ze 3) (Ze 4)) (ZZ (Za (mOp ixM (Ze 0) (mC (.int 13))) (Za (mCB ZD (Za (Ze 0) (Za (mC (.int 14)) Zi))) (Za (Ze 2) (Za (mCB ZaX (Za (mSl (Ze 0) (ZR (Ze 1)) Zx) Zi)) Zi))))))))))))
def Zfb:GM:=zL 1 5 Zb2
def Za9:SM:=(mIf (Zd5 (Ze 0)) (zr (mOp ixM (Ze 0) (mOp ZX (Ze 1) (mCB Zcl (Za (Ze 0) Zi))))) zm)
def Zcx:SM:=(Zq Za9
  (zr (mC (.int 0))))
def ZbH:GM:=zL 2 2 Zcx
def Zfx:SM:=(Zq (Zu 2 (mOp ZX (mOp Zo (mCB ZbH (Za (Ze 0) (Za (Ze 1) Zi))) (mOp zE (mC (.int 104729)) (mOp Zo (Ze 1) (mC (.int 1))))) (mC (.int 4294967291))))
  (Zq (Zu 2 (mOp ZX (mOp zE (Ze 2) (mC (.int 48271))) (mC (.int 4294967279))))
  (zr (mOp ZX (mOp Zo (mOp zE (mOp ZaC (Ze 2) (mC (.int 64))) (mC (.int 69621))) (Ze 2)) (mC (.int 4294967231))))))
def ZS:GM:=zL 2 3 Zfx
def Zfw:SM:=(zr (zK (Za (mOp ZaC (Ze 0) (mC (.int 256))) (Za (mOp ZX (Ze 0) (mC (.int 256))) Zi))))
def zd:GM:=zL 1 1 Zfw
def Zbu:SM:=(Zdq (z9 (Za (mCB Zcl (Za (Ze 0) Zi)) Zi)) (gNm 2) (Zu 1 (mOp Zo (Ze 1) (mOp zE (mOp ixM (Ze 0) (Ze 2)) (mOp ixM (zK (Za (mC (.int 256)) (Za (mC (.int 1)) Zi))) (mOp ZX (Ze 2) (mC (.int 2))))))))
def Zbt:SM:=(Zae (Zw (mOp gtM (Ze 1) (mC (.int 65535)))) (Zu 1 (mOp Zo (mOp ZX (Ze 1) (mC (.int 65536))) (mOp ZaC (Ze 1) (mC (.int 65536))))) 200)
def Zcw:SM:=(Zq (Zu 1 (mC (.int 0)))
  (Zq Zbu
  (Zq Zbt
  (zr (Ze 1)))))
def Z1:GM:=zL 1 3 Zcw
def Zel:SM:=(Zdq (mIn (mSl (Ze 0) (ZR (mC (.int 2))) (ZR (mC (.int 4))))) (gNm 2) (Zu 1 (mOp Zo (mOp Zo (Ze 1) (mCB zd (Za (mOp ZaC (Ze 2) (mC (.int 65536))) Zi))) (mCB zd (Za (mOp ZX (Ze 2) (mC (.int 65536))) Zi)))))
def Zek:SM:=(mIf (Zw (mOp gtM (mOp ixM (Ze 0) (mC (.int 6))) (mC (.int 0)))) (Zu 1 (mOp Zo (mOp Zo (Ze 1) (zK (Za (mC (.int 2)) (Za (mC (.int 4)) Zi)))) (mCB zd (Za (mOp ixM (Ze 0) (mC (.int 6))) Zi)))) zm)
def Zf8:SM:=(Zq (Zu 1 (mOp Zo (mCB zd (Za (mOp ixM (Ze 0) (mC (.int 0))) Zi)) (mCB zd (Za (mOp ixM (Ze 0) (mC (.int 1))) Zi))))
  (Zq Zel
  (Zq (Zu 1 (mOp Zo (mOp Zo (mOp Zo (Ze 1) (zK (Za (mOp ixM (zK (Za (mC (.int 80)) (Za (mC (.int 96)) Zi))) (mCB Zhd (Za (mOp gtM (mOp ixM (Ze 0) (mC (.int 6))) (mC (.int 0))) Zi))) (Za (mOp ixM (Ze 0) (mC (.int 4))) Zi)))) (mCB zd (Za (mOp ixM (Ze 0) (mC (.int 5))) Zi))) (zK (Za (mC (.int 0)) (Za (mC (.int 0)) (Za (mC (.int 0)) (Za (mC (.int 0)) Zi)))))))
  (Zq Zek
  (Zq (Zu 1 (mOp Zo (Ze 1) (mCB ZbP (Za (mOp ixM (Ze 0) (mC (.int 7))) Zi))))
  (zr (mOp Zo (mOp Zo (mSl (Ze 1) Zx (ZR (mC (.int 16)))) (mCB zd (Za (mOp ZdS (mC (.int 65535)) (mCB Z1 (Za (Ze 1) Zi))) Zi))) (mSl (Ze 1) (ZR (mC (.int 18))) Zx))))))))
def Zfl:GM:=zL 1 3 Zf8
def Zad:SM:=(mIf (Zw (mOp eqM (Ze 3) (mC (.int 0)))) (Zu 3 (mOp Zo (mC (.int 4)) (mOp ZX (mCB ZS (Za (Ze 0) (Za (mOp Zo (Ze 1) (mC (.int 2))) Zi))) (mC (.int 65532))))) zm)
def zP:SM:=(mIf (ZfY (Zw (mOp eqM (mOp ZX (mOp ZaC (Ze 2) (mC (.int 2))) (mC (.int 2))) (mC (.int 1)))) (Zw (mOp gtM (mOp ZX (mCB ZS (Za (Ze 0) (Za (mOp Zo (Ze 1) (mC (.int 1))) Zi))) (mC (.int 3))) (mC (.int 0))))) (Zq (Zu 3 (mOp ixM (zK (Za (mC (.int 4)) (Za (mC (.int 5)) (Za (mC (.int 16)) (Za (mC (.int 536)) (Za (mC (.int 65535)) (Za (mC (.int 0)) Zi))))))) (mOp ZX (mCB ZS (Za (Ze 0) (Za (mOp Zo (Ze 1) (mC (.int 3))) Zi))) (mC (.int 6)))))
    Zad) zm)
def ZaS:SM:=(mIf (Zw (mOp eqM (mOp ZX (Ze 6) (mC (.int 3))) (mC (.int 0)))) (Zu 6 (mOp ixM (zK (Za (mC (.int 0)) (Za (mC (.int 1)) (Za (mC (.int 4294967295)) (Za (mC (.int 4294967294)) (Za (mC (.int 2147483648)) (Za (mC (.int 65535)) (Za (mC (.int 65536)) Zi)))))))) (mOp ZX (mOp ZaC (Ze 6) (mC (.int 3))) (mC (.int 7))))) zm)
def ZbL:SM:=(Zdq (z9 (Za (mC (.int 2)) Zi)) (gNm 5) (Zq (Zu 6 (mCB ZS (Za (Ze 0) (Za (mOp Zo (mOp Zo (Ze 1) (mC (.int 4))) (Ze 5)) Zi))))
    (Zq ZaS
    (Zb1 4 (Ze 6)))))
def ZaR:SM:=(mIf (Zw (mOp eqM (Ze 8) (mC (.int 7)))) (Zu 8 (mOp ZX (mCB ZS (Za (Ze 0) (Za (mOp Zo (Ze 1) (mC (.int 8))) Zi))) (mC (.int 17)))) zm)
def ZaQ:SM:=(mIf (Zw (mOp eqM (mOp ZX (mCB ZS (Za (Ze 0) (Za (mOp Zo (Ze 1) (mC (.int 27))) Zi))) (mC (.int 5))) (mC (.int 0)))) (Zu 9 (mOp zE (ZZ (Za (mC (.int 255)) Zi)) (Ze 8))) zm)
def Zfy:SM:=(Zq (Zu 2 (mOp ZX (mCB ZS (Za (Ze 0) (Za (Ze 1) Zi))) (mC (.int 32))))
  (Zq (Zu 3 (mC (.int 0)))
  (Zq zP
  (Zq (Zdo 4 Zi)
  (Zq ZbL
  (Zq (Zu 7 (ZZ (Za (mOp ZX (mCB ZS (Za (Ze 0) (Za (mOp Zo (Ze 1) (mC (.int 6))) Zi))) (mC (.int 65536))) Zi)))
  (Zq (Zu 7 (mOp Zo (Ze 7) (ZZ (Za (mOp ZX (mCB ZS (Za (Ze 0) (Za (mOp Zo (Ze 1) (mC (.int 7))) Zi))) (mC (.int 65536))) Zi))))
  (Zq (Zu 8 (mOp ixM (zK (Za (mC (.int 0)) (Za (mC (.int 1)) (Za (mC (.int 15)) (Za (mC (.int 16)) (Za (mC (.int 7)) Zi)))))) (mOp ZX (mCB ZS (Za (Ze 0) (Za (mOp Zo (Ze 1) (mC (.int 9))) Zi))) (mC (.int 5)))))
  (Zq ZaR
  (Zq (Zu 9 (mCB ZaX (Za (Zaa (z9 (Za (Ze 8) Zi)) [0,1] (mOp ZX (mOp ZaC (mCB ZS (Za (Ze 1) (Za (mOp Zo (mOp Zo (Ze 2) (mC (.int 10))) (Ze 0)) Zi))) (mC (.int 7))) (mC (.int 256)))) Zi)))
  (Zq ZaQ
  (Zq (Zu 10 (mOp ZX (mCB ZS (Za (Ze 0) (Za (mOp Zo (Ze 1) (mC (.int 28))) Zi))) (mC (.int 65536))))
  (ZV 4 (zr (mOp Zo (Ze 7) (ZZ (Za (mOp ixM (Ze 4) (mC (.int 0))) (Za (mOp ixM (Ze 4) (mC (.int 1))) (Za (Ze 2) (Za (Ze 10) (Za (Ze 3) (Za (Ze 9) Zi))))))))))))))))))))))
def ZcW:GM:=zL 2 11 Zfy
end
end My
namespace My
open PySem L2 L2.MM
noncomputable section
def cell (ns:List Int) (k:Int):Int:=if ns.length=0 then 0 else ns.getD (k % (ns.length:Int)).toNat 0
def mix (ns:List Int) (k:Int):Int:=
  ((cell ns k+104729*(k+1)) % 4294967291*48271 % 4294967279/64*69621+(cell ns k+104729*(k+1)) % 4294967291*48271 % 4294967279) % 4294967231
theorem Zg0 (ns:List Int) (k:Int):0≤mix ns k∧mix ns k<4294967231:=by
  unfold mix; omega
theorem Zim {ns:List Int} {k:Int} (h:0<ns.length):atI (ns.map D.int) (k % (ns.length:Int))=some (.int (cell ns k)):=by
  have a:=Int.emod_nonneg k (show (ns.length:Int)≠0 by omega)
  have b:=Int.emod_lt_of_pos k (show (0:Int)<ns.length by omega)
  have c:(k % (ns.length:Int))=(((k % (ns.length:Int)).toNat:Nat):Int):=by omega
  rw [c]
  refine Zbv ?_
  have d:(k % (ns.length:Int)).toNat<ns.length:=by omega
  rw [List.getElem?_map,List.getElem?_eq_getElem d]
  unfold cell
  rw [if_neg (by omega),List.getD_eq_getElem?_getD,List.getElem?_eq_getElem d]
  rfl
@[simp] theorem Zlg (ns:List Int) (k:Int) (θ:Sto):ZbH [.scr ns,.int k] θ=.ok (.int (cell ns k)) θ:=by
  by_cases h:ns.length=0
  · have:ns=[]:=List.eq_nil_of_length_eq_zero h
    subst this
    simp [ZbH,Zcx,Za9,cell]
  · have h1:ns.isEmpty=false:=by cases ns with
      | nil=>exact absurd rfl h
      | cons _ _=>rfl
    have h2:0<ns.length:=by omega
    simp [ZbH,Zcx,Za9,h1,h2,Zim (k:=k) h2]
@[simp] theorem ZlY (ns:List Int) (k:Int) (θ:Sto):ZS [.scr ns,.int k] θ=.ok (.int (mix ns k)) θ:=by
  simp [ZS,Zfx,Zbb,mix]
@[simp] theorem Ziu (k:Int) (θ:Sto):zd [.int k] θ=.ok (il [k/256,k % 256]) θ:=by
  simp [zd,Zfw]
theorem Zc8 {t:TMr} {body:SM} {n:Nat} {ρ:List Sl} {θ:Sto}:Zae t body (n+1) ρ θ=(t ρ θ).bind fun k θ=>if k=true then (body ρ θ).bind (Zd8 (Zae t body n)) else .ok (.nx,ρ) θ:=rfl
abbrev ZiF:TMr:=Zw (mOp gtM (Ze 1) (mC (.int 65535)))
abbrev ZiG:SM:=Zu 1 (mOp Zo (mOp ZX (Ze 1) (mC (.int 65536))) (mOp ZaC (Ze 1) (mC (.int 65536))))
theorem ZeN (t:Int) (x:Sl) (r:List Sl) (θ:Sto):ZiF (x::.val (.int t)::r) θ=.ok (decide (65535<t)) θ:=by simp
theorem Zhk (t:Int) (x:Sl) (r:List Sl) (θ:Sto):ZiG (x::.val (.int t)::r) θ=.ok (.nx,x::.val (.int (t % 65536+t/65536))::r) θ:=by simp
theorem ZhI {t:Int} (n:Nat) (h0:0≤t) (h1:t<4294967296) (x:Sl) (r:List Sl) (θ:Sto):Zae ZiF ZiG (n+3) (x::.val (.int t)::r) θ=.ok (.nx,x::.val (.int (ZI t))::r) θ:=by
  rw [Zc8,ZeN,R.bind_ok]
  by_cases c1:65535<t
  · have s1:=ZcX c1
    rw [if_pos (by simpa using c1),Zhk,R.bind_ok,Zby]
    have hu:t % 65536+t/65536≤131070:=by omega
    generalize t % 65536+t/65536=u at s1 hu
    rw [Zc8,ZeN,R.bind_ok]
    by_cases c2:65535<u
    · have s2:=ZcX c2
      rw [if_pos (by simpa using c2),Zhk,R.bind_ok,Zby]
      have hv:u % 65536+u/65536≤65535:=by omega
      generalize u % 65536+u/65536=v at s2 hv
      rw [Zc8,ZeN,R.bind_ok,if_neg (by simp; omega),←s1.1,←s2.1,Za6 s2.2.1 hv]
    · rw [if_neg (by simpa using c2),←s1.1,Za6 s1.2.1 (by omega)]
  · rw [if_neg (by simpa using c1),Za6 h0 (by omega)]
theorem ZcJ {t:Int} (h0:0≤t) (h1:t<4294967296) (x:Sl) (r:List Sl) (θ:Sto):Zae (Zw (mOp gtM (Ze 1) (mC (.int 65535)))) (Zu 1 (mOp Zo (mOp ZX (Ze 1) (mC (.int 65536))) (mOp ZaC (Ze 1) (mC (.int 65536))))) 200 (x::.val (.int t)::r) θ=.ok (.nx,x::.val (.int (ZI t))::r) θ:=ZhI 197 h0 h1 x r θ
def Byt (ns:List Int):Prop:=(∀z∈ns,0≤z∧z≤255)∧ns.length≤1000
theorem ZeW:∀{ns:List Int} {m:Nat},(∀z∈ns,0≤z∧z≤255)→ns.length≤2*m→Zt ns≤65535*m
  | [],m,_,_=>by simp [Zt]; omega
  | [a],m,h,hl=>by
    have:=h a (by simp)
    simp [Zt] at hl ⊢
    omega
  | a::b::r,m,h,hl=>by
    have h1:=h a (by simp)
    have h2:=h b (by simp)
    obtain ⟨m,rfl⟩:∃k,m=k+1:=⟨m-1,by simp at hl; omega⟩
    have:=ZeW (ns:=r) (m:=m) (fun z hz=>h z (by simp [hz])) (by simp at hl; omega)
    simp [Zt]
    omega
theorem Byt.sum {ns:List Int} (h:Byt ns):0≤Zt ns∧Zt ns<4294967296:=by
  refine ⟨ZeV fun z hz=>(h.1 z hz).1,?_⟩
  have:=ZeW (m:=500) h.1 (by have:=h.2; omega)
  omega
theorem Zgr {ns:List Int} (h:Byt ns) (θ:Sto):Zat [il ns] θ=.ok (.int (ZI (Zt ns))) θ:=by
  have l1:=ZcY ns
  have l2:=Zd1 ns
  have l3:=h.2
  have hs:=h.sum
  have e:=ZeX ns
  simp [Zat,Zcv,Zbs,ZbD,Zbb,show (Zap ns).length≤100000 by omega,show (Zce ns).length≤100000 by omega,e]
  rw [ZcJ hs.1 hs.2]
  simp
theorem ZaH {ns:List Int} (h:Byt ns) (θ:Sto):Z1 [il ns] θ=.ok (.int (ZI (Zt ns))) θ:=by
  have hs:=h.sum
  have l3:=h.2
  let st:Nat→List Sl:=fun i=>[.val (il ns),.val (.int (wpre ns i)),if i=0 then .no else .val (.int ((i:Int)-1))]
  have loop:=Zif (θ:=θ) (lo:=0) (n:=ns.length) (tg:=gNm 2) (body:=Zu 1 (mOp Zo (Ze 1) (mOp zE (mOp ixM (Ze 0) (Ze 2)) (mOp ixM (zK (Za (mC (.int 256)) (Za (mC (.int 1)) Zi))) (mOp ZX (Ze 2) (mC (.int 2))))))) st ?_ (fun i hi=>⟨_,rfl⟩) rfl
  · have b1:(ns.length:Int)≤1000000:=by omega
    have b2 : -1000000≤(ns.length:Int):=by omega
    have b3:ns.length≤1000000:=by omega
    have l0:st 0=[.val (il ns),.val (.int 0),.no]:=rfl
    rw [l0] at loop
    simp [Z1,Zcw,Zbu,Zbt,Zdq,b1,b2,b3]
    simp at loop
    rw [loop]
    simp [st]
    rw [ZdO,ZcJ hs.1 hs.2]
    simp
  · intro i ρ1 hi e
    have e':ρ1=[.val (il ns),.val (.int (wpre ns i)),.val (.int (0+(i:Int)))]:=by
      simp [st] at e
      simp [←e]
    subst e'
    have g1:ixM (il ns) (.int (0+(i:Int))) θ=.ok (.int (ns.getD i 0)) θ:=by
      rw [zi (by omega) (by omega)]
      simp [gt]
    have g2:ixM (il [256,1]) (.int ((0+(i:Int)) % 2)) θ=.ok (.int (if i % 2=0 then 256 else 1)) θ:=by
      rw [zi (by omega) (by simp; omega)]
      by_cases q:i % 2=0
      · rw [show ((0+(i:Int)) % 2).toNat=0 by omega,if_pos q]; rfl
      · rw [show ((0+(i:Int)) % 2).toNat=1 by omega,if_neg q]; rfl
    have cm:Zbb (ns.getD i 0) (if i % 2=0 then 256 else 1):=.inr (by split<;>decide)
    simp only [ZeU,Zgk,ZeT,ZjU,Zeq,x_c,Zgl,List.getElem?_cons_succ,List.getElem?_cons_zero,R.bind_ok,g1]
    simp only [List.length_cons,List.length_nil,ZkG,ZhC,Zdj,if_pos (show (0:Int)<2 by decide),R.bind_ok,g2,ZgX,if_pos cm,Zhz,if_pos (show 0+1+1≤100000 by decide)]
    simp [st,wpre]
end
end My
namespace My
open PySem L2 L2.MM
noncomputable section
structure Seg where
  src:Int
  goal:Int
  num:Int
  ans:Int
  flags:Int
  win:Int
  most:Int
  data:List Int
def Seg.d (s:Seg):D:=.tup [.int s.src,.int s.goal,.int s.num,.int s.ans,.int s.flags,.int s.win,.int s.most,itp s.data]
structure Seg.Ok (s:Seg):Prop where
  src:0≤s.src∧s.src≤65535
  goal:0≤s.goal∧s.goal≤65535
  num:0≤s.num∧s.num≤4294967295
  ans:0≤s.ans∧s.ans≤4294967295
  flags:0≤s.flags∧s.flags≤31
  win:0≤s.win∧s.win≤65535
  most:s.most=0∨(4≤s.most∧s.most≤65535∧s.flags/2 % 2=1)
  data:(∀z∈s.data,0≤z∧z≤255)∧s.data.length≤16
section
variable {s:Seg} {θ:Sto}
@[simp] theorem d0:ixM s.d (.int 0) θ=.ok (.int s.src) θ:=nr rfl
@[simp] theorem d1:ixM s.d (.int 1) θ=.ok (.int s.goal) θ:=nr rfl
@[simp] theorem d2:ixM s.d (.int 2) θ=.ok (.int s.num) θ:=nr rfl
@[simp] theorem d3:ixM s.d (.int 3) θ=.ok (.int s.ans) θ:=nr rfl
@[simp] theorem d4:ixM s.d (.int 4) θ=.ok (.int s.flags) θ:=nr rfl
@[simp] theorem d5:ixM s.d (.int 5) θ=.ok (.int s.win) θ:=nr rfl
@[simp] theorem d6:ixM s.d (.int 6) θ=.ok (.int s.most) θ:=nr rfl
@[simp] theorem d7:ixM s.d (.int 7) θ=.ok (itp s.data) θ:=nr rfl
end
def two (k:Int):List Int:=[k/256 % 256,k % 256]
def Zf5 (k:Int):List Int:=two (k/65536)++two k
def hd (s:Seg):Int:=if s.most=0 then 80 else 96
def zh (s:Seg):List Int:=two s.src++two s.goal++(Zf5 s.num++Zf5 s.ans)++[hd s,s.flags]++two s.win
def Zaw (m:Int):List Int:=if m=0 then [] else [2,4]++two m
def ZQ (s:Seg):List Int:=[0,0]++Zaw s.most++s.data
def putL (s:Seg):List Int:=zh s++two (65535-ZI (Zt (zh s++[0,0]++ZQ s)))++ZQ s
@[simp] theorem two_len (k:Int):(two k).length=2:=rfl
@[simp] theorem ZkF (k:Int):(Zf5 k).length=4:=rfl
@[simp] theorem ZjQ (s:Seg):(zh s).length=16:=rfl
@[simp] theorem Zgs (k:Int) (θ:Sto):Z5 [.int k] θ=.ok (.int (16*(k/4))) θ:=by
  simp [Z5,Zab,Zbb]
theorem ZfX (m:Int):(Zaw m).length≤4:=by unfold Zaw; split<;>simp
theorem Zal (k:Int):∀z∈two k,0≤z∧z≤255:=by
  intro z hz
  simp [two] at hz
  rcases hz with rfl | rfl<;>omega
theorem Zej (k:Int):∀z∈Zf5 k,0≤z∧z≤255:=by
  intro z hz
  rcases List.mem_append.mp hz with h | h
  · exact Zal _ z h
  · exact Zal _ z h
theorem Z8 {a b:List Int} (h1:∀z∈a,0≤z∧z≤255) (h2:∀z∈b,0≤z∧z≤255):∀z∈a++b,0≤z∧z≤255:=fun z hz=>(List.mem_append.mp hz).elim (h1 z) (h2 z)
theorem Zc0 {s:Seg} (h:0≤s.flags∧s.flags≤255):∀z∈zh s,0≤z∧z≤255:=by
  refine Z8 (Z8 (Z8 (Z8 (Zal _) (Zal _)) (Z8 (Zej _) (Zej _))) ?_) (Zal _)
  intro z hz
  simp at hz
  rcases hz with rfl | rfl
  · unfold hd; split<;>omega
  · exact h
theorem Zhv (m:Int):∀z∈Zaw m,0≤z∧z≤255:=by
  unfold Zaw
  split
  · intro z hz; simp at hz
  · refine Z8 ?_ (Zal _)
    intro z hz
    simp at hz
    omega
theorem Zct {s:Seg} (h:∀z∈s.data,0≤z∧z≤255):∀z∈ZQ s,0≤z∧z≤255:=by
  refine Z8 (Z8 ?_ (Zhv _)) h
  intro z hz
  simp at hz
  omega
theorem Za8 (s:Seg):(ZQ s).length≤6+s.data.length:=by
  have:=ZfX s.most
  simp [ZQ]
  omega
structure Seg.Put (s:Seg):Prop where
  flags:0≤s.flags∧s.flags≤255
  data:(∀z∈s.data,0≤z∧z≤255)∧s.data.length≤100
theorem Seg.Ok.put {s:Seg} (h:s.Ok):s.Put:=⟨⟨h.flags.1,by have:=h.flags.2; omega⟩,h.data.1,by have:=h.data.2; omega⟩
theorem Seg.Put.byt {s:Seg} (h:s.Put):Byt (zh s++[0,0]++ZQ s):=by
  refine ⟨Z8 (Z8 (Zc0 h.flags) ?_) (Zct h.data.1),?_⟩
  · intro z hz
    simp at hz
    omega
  · have:=Za8 s
    have:=h.data.2
    simp
    omega
theorem Zb7 {a b c:List Int} (ha:a.length % 2=0) (hb:b.length % 2=0):Zt (a++b++c)=Zt a+Zt b+Zt c:=by
  rw [Zb8 (by rw [List.length_append]; omega),Zb8 ha]
theorem ZdX {s:Seg} (h:s.Put):ZI (Zt (putL s))=65535:=by
  have b:=h.byt
  have w0:=b.sum
  have e1:Zt (putL s)=Zt (zh s)+Zt (two (65535-ZI (Zt (zh s++[0,0]++ZQ s))))+Zt (ZQ s):=Zb7 (by simp) (by simp)
  have e2:Zt (zh s++[0,0]++ZQ s)=Zt (zh s)+Zt [0,0]+Zt (ZQ s):=Zb7 (by simp) (by simp)
  have e3:Zt [0,0]=0:=by simp [Zt]
  have f:=Zbo w0.1
  have e4:Zt (two (65535-ZI (Zt (zh s++[0,0]++ZQ s))))=256*((65535-ZI (Zt (zh s++[0,0]++ZQ s)))/256)+(65535-ZI (Zt (zh s++[0,0]++ZQ s))) % 256:=by
    have:=f.2.1
    have:=f.1
    simp only [Zt,two]
    omega
  have c:=ZeM w0.1
  rw [e1,e4]
  rw [e3] at e2
  have:Zt (zh s)+(256*((65535-ZI (Zt (zh s++[0,0]++ZQ s)))/256)+(65535-ZI (Zt (zh s++[0,0]++ZQ s))) % 256)+Zt (ZQ s)=Zt (zh s++[0,0]++ZQ s)+(256*((65535-ZI (Zt (zh s++[0,0]++ZQ s)))/256)+(65535-ZI (Zt (zh s++[0,0]++ZQ s))) % 256):=by omega
  rw [this]
  exact c
theorem ZhR {s:Seg} (h:s.Put):Byt (putL s):=by
  refine ⟨Z8 (Z8 (Zc0 h.flags) (Zal _)) (Zct h.data.1),?_⟩
  have:=Za8 s
  have:=h.data.2
  simp [putL]
  omega
theorem Ze6 {s:Seg}:(putL s).length=(if s.most=0 then 20 else 24)+s.data.length:=by
  unfold putL ZQ Zaw
  by_cases h:s.most=0<;>simp [h]<;>omega
theorem Zgy (s:Seg):∃x y,putL s=[s.src/256 % 256,s.src % 256,s.goal/256 % 256,s.goal % 256,s.num/65536/256 % 256,s.num/65536 % 256,s.num/256 % 256,s.num % 256,
    s.ans/65536/256 % 256,s.ans/65536 % 256,s.ans/256 % 256,s.ans % 256,hd s,s.flags,s.win/256 % 256,s.win % 256,x,y,0,0]++(Zaw s.most++s.data):=⟨_,_,rfl⟩
@[simp] theorem zA {a:List Int} {i:Int} (h0:0≤i) (h:i+1<a.length) (θ:Sto):ZD [il a,.int i] θ=.ok (.int (256*gt a i.toNat+gt a (i+1).toNat)) θ:=by
  simp [ZD,Zcu,zi (θ:=θ) h0 (show i<a.length by omega),zi (θ:=θ) (show 0≤i+1 by omega) h,Zbb]
@[simp] theorem ZcI {a:List Int} {i:Int} (h0:0≤i) (h:i+3<a.length) (θ:Sto):zu [il a,.int i] θ=.ok (.int (65536*(256*gt a i.toNat+gt a (i+1).toNat)+(256*gt a (i+2).toNat+gt a (i+2+1).toNat))) θ:=by
  simp [zu,ZbT,zA (θ:=θ) h0 (show i+1<a.length by omega),zA (θ:=θ) (show 0≤i+2 by omega) (show i+2+1<a.length by omega),Zbb]
@[simp] theorem ZcH {a:List Int} (h:12<a.length) (θ:Sto):Z9 [il a] θ=.ok (.int (gt a 12/16*4)) θ:=by
  have:=zi (a:=a) (θ:=θ) (i:=12) (by decide) (by omega)
  simp [Z9,ZbS,this,Zbb]
def bit (f k:Int):Int:=if Builtin.bitAnd f k=0 then 0 else 1
@[simp] theorem ZlZ (f k:Int) (θ:Sto):ZdZ [.int f,.int k] θ=.ok (.int (bit f k)) θ:=by
  by_cases h:Builtin.bitAnd f k=0<;>simp [ZdZ,Zfv,bit,h]
theorem Zil:∀n:Fin 32,bit (n.val:Int) 1=(n.val:Int) % 2∧bit (n.val:Int) 2=(n.val:Int)/2 % 2∧bit (n.val:Int) 4=(n.val:Int)/4 % 2∧bit (n.val:Int) 8=(n.val:Int)/8 % 2∧bit (n.val:Int) 16=(n.val:Int)/16 % 2:=by decide
theorem ZkL {f:Int} (h:0≤f∧f≤31):bit f 1=f % 2∧bit f 2=f/2 % 2∧bit f 4=f/4 % 2∧bit f 8=f/8 % 2∧bit f 16=f/16 % 2:=by
  have:=Zil ⟨f.toNat,by omega⟩
  simp only at this
  rw [show ((f.toNat:Nat):Int)=f by omega] at this
  exact this
def at2 (a:List Int) (i:Nat):Int:=256*gt a i+gt a (i+1)
def at4 (a:List Int) (i:Nat):Int:=65536*at2 a i+at2 a (i+2)
def longOk (a:List Int):Bool:=decide (bit (gt a 13) 2=1) && (decide (gt a 20=2) && (decide (gt a 21=4) && decide (4≤at2 a 22)))
def ze (a:List Int):Int:=gt a 12/16*4
def ZE (a:List Int):Bool:=decide (20≤a.length) && (decide (gt a 12=80∨gt a 12=96) && (decide (gt a 13≤31) && (decide (0≤(a.length:Int)-ze a∧(a.length:Int)-ze a≤16) &&
  (decide (at2 a 18=0) && ((decide (ze a=20) || longOk a) && decide (ZI (Zt a)=65535))))))
theorem ZiT {a:List Int} (h:24≤a.length) (θ:Sto):ZL [il a] θ=.ok (.bl (longOk a)) θ:=by
  have g:=fun (i:Int) (h0:0≤i) (h1:i<a.length)=>zi (a:=a) (θ:=θ) (i:=i) h0 h1
  have g13:=g 13 (by decide) (by omega)
  have g20:=g 20 (by decide) (by omega)
  have g21:=g 21 (by decide) (by omega)
  have g22:=zA (a:=a) (i:=22) (by decide) (by omega) θ
  simp only [show (13:Int).toNat=13 from rfl,show (20:Int).toNat=20 from rfl,show (21:Int).toNat=21 from rfl,show (22:Int).toNat=22 from rfl,show (22+1:Int).toNat=23 from rfl] at g13 g20 g21 g22
  unfold longOk at2
  simp [ZL,zy,g13,g20,g21,g22]
theorem Zie (x y z:Int) (θ:Sto):inM (.int x) (.tup [.int y,.int z]) θ=.ok (.bl (decide (x=y∨x=z))) θ:=by
  have e:inD θ (.int x) (.tup [.int y,.int z])=some (decide (y=x) || (decide (z=x) || false)):=rfl
  have e2:(decide (y=x) || (decide (z=x) || false))=decide (x=y∨x=z):=by
    rw [Bool.eq_iff_iff]
    simp only [Bool.or_eq_true,decide_eq_true_eq,Bool.false_eq_true,or_false]
    constructor
    · rintro (h | h)
      · exact .inl h.symm
      · exact .inr h.symm
    · rintro (h | h)
      · exact .inl h.symm
      · exact .inr h.symm
  unfold inM
  rw [e,e2]
theorem ZaY {a:List Int} (h:Byt a) (θ:Sto):ZG [il a] θ=.ok (.bl (ZE a)) θ:=by
  by_cases c1:20≤a.length
  · have g:=fun (i:Int) (h0:0≤i) (h1:i<a.length)=>zi (a:=a) (θ:=θ) (i:=i) h0 h1
    have g12:=g 12 (by decide) (by omega)
    have g13:=g 13 (by decide) (by omega)
    have g18:=zA (a:=a) (i:=18) (by decide) (by omega) θ
    have gh:=ZcH (a:=a) (by omega) θ
    have gf:=Zgr h θ
    have c1':(20:Int)≤a.length:=by omega
    simp only [show (12:Int).toNat=12 from rfl,show (13:Int).toNat=13 from rfl,show (18:Int).toNat=18 from rfl,show (18+1:Int).toNat=19 from rfl] at g12 g13 g18
    by_cases c2:gt a 12=80
    · rw [c2] at g12 gh
      simp [ZG,zk,ZE,ze,at2,c1,c1',g12,g13,g18,gh,gf,Zie,c2]<;>rfl
    · by_cases c3:gt a 12=96
      · rw [c3] at g12 gh
        by_cases c4:24≤a.length
        · have gl:=ZiT c4 θ
          simp [ZG,zk,ZE,ze,at2,c1,c1',g12,g13,g18,gh,gf,Zie,c3,gl]<;>rfl
        · have c5:¬(24:Int)≤(a.length:Int):=by omega
          simp [ZG,zk,ZE,ze,at2,c1,c1',g12,g13,g18,gh,gf,Zie,c3,c5]<;>rfl
      · simp [ZG,zk,ZE,ze,at2,c1,c1',g12,g13,g18,gh,gf,Zie,c2,c3]
  · have c1':¬(20:Int)≤a.length:=by omega
    simp [ZG,zk,ZE,c1,c1']
def ZaB (a:List Int):Seg:=⟨at2 a 0,at2 a 2,at4 a 4,at4 a 8,gt a 13,at2 a 14,if ze a=24 then at2 a 22 else 0,a.drop (ze a).toNat⟩
theorem Zaz {a:List Int} (h:ZE a=true):20≤a.length∧((ze a=20)∨(ze a=24∧24≤a.length∧longOk a=true))∧(a.length:Int)-ze a≤16∧gt a 13≤31:=by
  unfold ZE at h
  simp only [Bool.and_eq_true,decide_eq_true_eq,Bool.or_eq_true] at h
  obtain ⟨h1,h2,h3,h4,h5,h6,h7⟩:=h
  refine ⟨h1,?_,h4.2,h3⟩
  rcases h2 with h2 | h2
  · left; unfold ze; rw [h2]; rfl
  · right
    have e:ze a=24:=by unfold ze; rw [h2]; rfl
    refine ⟨e,by have:=h4.1; rw [e] at this; omega,?_⟩
    rcases h6 with h6 | h6
    · rw [e] at h6; cases h6
    · exact h6
theorem Zj1 {a:List Int} (h:Byt a) (hr:ZE a=true) (θ:Sto):Zfb [il a] θ=.ok (ZaB a).d θ:=by
  obtain ⟨l1,l2,l3,l4⟩:=Zaz hr
  have ir:=ZaY h θ
  rw [hr] at ir
  have gh:=ZcH (a:=a) (by omega) θ
  have g13:=zi (a:=a) (θ:=θ) (i:=13) (by decide) (by omega)
  have q0:=zA (a:=a) (i:=0) (by decide) (by omega) θ
  have q2:=zA (a:=a) (i:=2) (by decide) (by omega) θ
  have q14:=zA (a:=a) (i:=14) (by decide) (by omega) θ
  have q4:=ZcI (a:=a) (i:=4) (by decide) (by omega) θ
  have q8:=ZcI (a:=a) (i:=8) (by decide) (by omega) θ
  simp only [show (13:Int).toNat=13 from rfl,show (0:Int).toNat=0 from rfl,show (0+1:Int).toNat=1 from rfl,show (2:Int).toNat=2 from rfl,show (2+1:Int).toNat=3 from rfl,show (14:Int).toNat=14 from rfl,show (14+1:Int).toNat=15 from rfl,
    show (4:Int).toNat=4 from rfl,show (4+1:Int).toNat=5 from rfl,show (4+2:Int).toNat=6 from rfl,show (4+2+1:Int).toNat=7 from rfl,show (8:Int).toNat=8 from rfl,show (8+1:Int).toNat=9 from rfl,show (8+2:Int).toNat=10 from rfl,show (8+2+1:Int).toNat=11 from rfl] at g13 q0 q2 q14 q4 q8
  have gh':Z9 [il a] θ=.ok (.int (ze a)) θ:=gh
  have ps:∀x:Int,0≤x→zz a (some x) none=a.drop x.toNat:=fun x hx=>ZaE a hx
  rcases l2 with e | ⟨e,l5,_⟩
  · simp [Zfb,Zb2,zO,ir,gh',e,g13,q0,q2,q4,q8,q14,ps,ZaB,Seg.d,at2,at4]
  · have q22:=zA (a:=a) (i:=22) (by decide) (by omega) θ
    simp only [show (22:Int).toNat=22 from rfl,show (22+1:Int).toNat=23 from rfl] at q22
    simp [Zfb,Zb2,zO,ir,gh',e,g13,q0,q2,q4,q8,q14,q22,ps,ZaB,Seg.d,at2,at4]
end
end My
namespace My
open PySem L2 L2.MM
noncomputable section
theorem Zi3 (s:Seg):gt (putL s) 12=hd s∧gt (putL s) 13=s.flags∧at2 (putL s) 18=0∧at2 (putL s) 0=256*(s.src/256 % 256)+s.src % 256∧at2 (putL s) 2=256*(s.goal/256 % 256)+s.goal % 256∧
    at4 (putL s) 4=65536*(256*(s.num/65536/256 % 256)+s.num/65536 % 256)+(256*(s.num/256 % 256)+s.num % 256)∧at4 (putL s) 8=65536*(256*(s.ans/65536/256 % 256)+s.ans/65536 % 256)+(256*(s.ans/256 % 256)+s.ans % 256)∧
    at2 (putL s) 14=256*(s.win/256 % 256)+s.win % 256:=by
  obtain ⟨x,y,e⟩:=Zgy s
  rw [e]
  unfold at4 at2
  refine ⟨rfl,rfl,?_,rfl,rfl,rfl,rfl,rfl⟩
  show 256*(0:Int)+0=0
  rfl
theorem Zgx (s:Seg) (h:s.most≠0):gt (putL s) 20=2∧gt (putL s) 21=4∧at2 (putL s) 22=256*(s.most/256 % 256)+s.most % 256:=by
  obtain ⟨x,y,e⟩:=Zgy s
  have e2:Zaw s.most=[2,4,s.most/256 % 256,s.most % 256]:=by unfold Zaw; rw [if_neg h]; rfl
  rw [e,e2]
  unfold at2
  exact ⟨rfl,rfl,rfl⟩
theorem ZfL {s:Seg} (h:s.Ok):ZE (putL s)=true:=by
  obtain ⟨g12,g13,g18,_⟩:=Zi3 s
  have hl:=Ze6 (s:=s)
  have hd':=h.data.2
  have hf:=ZdX h.put
  have hw:=h.flags
  unfold ZE longOk ze
  simp only [Bool.and_eq_true,decide_eq_true_eq,Bool.or_eq_true]
  rw [g12,g13,g18,hf,hl]
  by_cases m:s.most=0
  · have e:hd s=80:=if_pos m
    rw [e,if_pos m]
    simp
    omega
  · have e:hd s=96:=if_neg m
    obtain ⟨p1,p2,p3⟩:=Zgx s m
    have hm:4≤s.most∧s.most≤65535∧s.flags/2 % 2=1:=h.most.resolve_left m
    have hb:=(ZkL h.flags).2.1
    rw [e,if_neg m,p1,p2,p3,hb]
    simp
    omega
@[simp] theorem ZlJ {s:Seg} {θ:Sto}:ZbA θ s.d (some 2) (some 4)=some (.tup [.int s.num,.int s.ans]):=nr rfl
theorem two_small {k:Int} (h0:0≤k) (h:k≤65535):[k/256,k % 256]=two k:=by
  unfold two
  rw [show k/256 % 256=k/256 by omega]
theorem Zcr {k:Int} (h0:0≤k) (h:k≤4294967295):[k/65536/256,k/65536 % 256,k % 65536/256,k % 256]=Zf5 k:=by
  unfold Zf5 two
  rw [show k/65536/256 % 256=k/65536/256 by omega,show k % 65536/256=k/256 % 256 by omega]
  rfl
def zB (s:Seg):List Int:=[s.src/256,s.src % 256,s.goal/256,s.goal % 256,s.num/65536/256,s.num/65536 % 256,s.num % 65536/256,s.num % 256,s.ans/65536/256,s.ans/65536 % 256,s.ans % 65536/256,s.ans % 256,
  hd s,s.flags,s.win/256,s.win % 256,0,0,0,0]++((if s.most=0 then [] else [2,4,s.most/256,s.most % 256])++s.data)
theorem ZgE {s:Seg} (h:s.Ok):zB s=zh s++[0,0]++ZQ s:=by
  obtain ⟨⟨a1,a2⟩,⟨b1,b2⟩,⟨c1,c2⟩,⟨d1,d2⟩,⟨f1,f2⟩,⟨w1,w2⟩,hm,hd1,hd2⟩:=id h
  have e1:=two_small a1 a2
  have e2:=two_small b1 b2
  have e3:=Zcr c1 c2
  have e4:=Zcr d1 d2
  have e5:=two_small w1 w2
  have e6:(if s.most=0 then [] else [2,4,s.most/256,s.most % 256])=Zaw s.most:=by
    unfold Zaw
    by_cases m:s.most=0
    · rw [if_pos m,if_pos m]
    · rw [if_neg m,if_neg m]
      have:=hm.resolve_left m
      rw [←two_small (k:=s.most) (by omega) (by omega)]
      rfl
  unfold zB zh ZQ
  rw [e6,←e1,←e2,←e3,←e4,←e5]
  rfl
theorem ZhU {s:Seg} (h:s.Ok):(zB s).take 16++two (65535-ZI (Zt (zB s)))++(zB s).drop 18=putL s:=by
  rw [ZgE h]
  have e1:(zh s++[0,0]++ZQ s).take 16=zh s:=by
    rw [List.append_assoc,List.take_append_of_le_length (by simp),List.take_of_length_le (by simp)]
  have e2:(zh s++[0,0]++ZQ s).drop 18=ZQ s:=by
    have:(zh s++[0,0]).length=18:=by simp
    rw [←this,List.drop_left]
  rw [e1,e2]
  rfl
def Za2 (ns:List Int) (b:Int):Int:=if mix ns b % 32/2 % 2=1∧0<mix ns (b+1) % 3 then (if gt [4,5,16,536,65535,0] (mix ns (b+3) % 6).toNat=0 then 4+mix ns (b+2) % 65532 else gt [4,5,16,536,65535,0] (mix ns (b+3) % 6).toNat) else 0
def ZaU (n:Int):Int:=if n % 3=0 then gt [0,1,4294967295,4294967294,2147483648,65535,65536] (n/3 % 7).toNat else n
def Z4 (ns:List Int) (b:Int):Int:=if gt [0,1,15,16,7] (mix ns (b+9) % 5).toNat=7 then mix ns (b+8) % 17 else gt [0,1,15,16,7] (mix ns (b+9) % 5).toNat
def Za7 (ns:List Int) (b:Int):List Int:=if mix ns (b+27) % 5=0 then List.replicate (Z4 ns b).toNat 255 else (List.range (Z4 ns b).toNat).map fun (k:Nat)=>mix ns (b+10+(k:Int))/7 % 256
def ZaF (ns:List Int) (b:Int):Seg:=⟨mix ns (b+6) % 65536,mix ns (b+7) % 65536,ZaU (mix ns (b+4)),ZaU (mix ns (b+5)),mix ns b % 32,mix ns (b+28) % 65536,Za2 ns b,Za7 ns b⟩
theorem ZfZ {P:Nat→Prop} {n:Nat} (h:n<5) (h0:P 0) (h1:P 1) (h2:P 2) (h3:P 3) (h4:P 4):P n:=by
  match n,h with
  | 0,_=>exact h0
  | 1,_=>exact h1
  | 2,_=>exact h2
  | 3,_=>exact h3
  | 4,_=>exact h4
theorem ZcV {P:Nat→Prop} {n:Nat} (h:n<7) (h0:P 0) (h1:P 1) (h2:P 2) (h3:P 3) (h4:P 4) (h5:P 5) (h6:P 6):P n:=by
  match n,h with
  | 0,_=>exact h0
  | 1,_=>exact h1
  | 2,_=>exact h2
  | 3,_=>exact h3
  | 4,_=>exact h4
  | 5,_=>exact h5
  | 6,_=>exact h6
theorem Zdb (ns:List Int) (b:Int):0≤Z4 ns b∧Z4 ns b≤16:=by
  unfold Z4
  have h:(mix ns (b+9) % 5).toNat<5:=by omega
  have:0≤gt [0,1,15,16,7] (mix ns (b+9) % 5).toNat∧gt [0,1,15,16,7] (mix ns (b+9) % 5).toNat≤16:=ZfZ (P:=fun n=>0≤gt [0,1,15,16,7] n∧gt [0,1,15,16,7] n≤16) h (by decide) (by decide) (by decide) (by decide) (by decide)
  split
  · omega
  · exact this
theorem ZjF (ns:List Int) (b:Int):(ZaF ns b).Ok:=by
  have nm:∀n,0≤n∧n<4294967231→0≤ZaU n∧ZaU n≤4294967295:=fun n hn=>by
    unfold ZaU
    split
    · have h:(n/3 % 7).toNat<7:=by omega
      exact ZcV (P:=fun n=>0≤gt [0,1,4294967295,4294967294,2147483648,65535,65536] n∧gt [0,1,4294967295,4294967294,2147483648,65535,65536] n≤4294967295) h (by decide) (by decide) (by decide) (by decide) (by decide) (by decide) (by decide)
    · omega
  have sz:=Zdb ns b
  refine ⟨by simp only [ZaF]; omega,by simp only [ZaF]; omega,nm _ (Zg0 _ _),nm _ (Zg0 _ _),by simp only [ZaF]; omega,by simp only [ZaF]; omega,?_,?_,?_⟩
  · show Za2 ns b=0∨(4≤Za2 ns b∧Za2 ns b≤65535∧mix ns b % 32/2 % 2=1)
    unfold Za2
    split
    · rename_i c
      right
      have h:(mix ns (b+3) % 6).toNat<7:=by omega
      have:gt [4,5,16,536,65535,0] (mix ns (b+3) % 6).toNat=0∨(4≤gt [4,5,16,536,65535,0] (mix ns (b+3) % 6).toNat∧gt [4,5,16,536,65535,0] (mix ns (b+3) % 6).toNat≤65535):=
        ZcV (P:=fun n=>gt [4,5,16,536,65535,0] n=0∨(4≤gt [4,5,16,536,65535,0] n∧gt [4,5,16,536,65535,0] n≤65535)) h (by decide) (by decide) (by decide) (by decide) (by decide) (by decide) (by decide)
      split
      · exact ⟨by omega,by omega,c.1⟩
      · rename_i c2
        have:=this.resolve_left c2
        exact ⟨this.1,this.2,c.1⟩
    · exact .inl rfl
  · show ∀z∈Za7 ns b,0≤z∧z≤255
    unfold Za7
    split
    · intro z hz
      have:=List.eq_of_mem_replicate hz
      omega
    · intro z hz
      obtain ⟨k,_,rfl⟩:=List.mem_map.mp hz
      omega
  · show (Za7 ns b).length≤16
    unfold Za7
    split<;>simp<;>omega
theorem Zex (ns:List Int) (b:Int) (r:List Sl) (θ:Sto):zP (.val (.scr ns)::.val (.int b)::.val (.int (mix ns b % 32))::.val (.int 0)::r) θ=.ok (.nx,.val (.scr ns)::.val (.int b)::.val (.int (mix ns b % 32))::.val (.int (Za2 ns b))::r) θ:=by
  have g:=zi (a:=[4,5,16,536,65535,0]) (i:=mix ns (b+3) % 6) (θ:=θ) (by omega) (by simp; omega)
  unfold Za2
  generalize gt [4,5,16,536,65535,0] (mix ns (b+3) % 6).toNat=m at *
  by_cases c1:mix ns b % 32/2 % 2=1
  · by_cases c2:0<mix ns (b+1) % 3
    · by_cases c3:m=0
      · simp [zP,Zad,c1,c2,c3,g]
      · simp [zP,Zad,c1,c2,c3,g]
    · simp [zP,Zad,c1,c2]
  · simp [zP,Zad,c1]
theorem ZfD (n:Int) (a0 a1 a2 a3 a4 a5:Sl) (r:List Sl) (θ:Sto):ZaS (a0::a1::a2::a3::a4::a5::.val (.int n)::r) θ=.ok (.nx,a0::a1::a2::a3::a4::a5::.val (.int (ZaU n))::r) θ:=by
  have g:=zi (a:=[0,1,4294967295,4294967294,2147483648,65535,65536]) (i:=n/3 % 7) (θ:=θ) (by omega) (by simp; omega)
  unfold ZaU
  generalize gt [0,1,4294967295,4294967294,2147483648,65535,65536] (n/3 % 7).toNat=m at *
  by_cases c:n % 3=0
  · simp [ZaS,c,g]
  · simp [ZaS,c]
theorem Zew (ns:List Int) (b:Int) (a2 a3:Sl) (r:List Sl) (θ:Sto):ZbL (.val (.scr ns)::.val (.int b)::a2::a3::.own []::.no::.no::r) θ =
    .ok (.nx,.val (.scr ns)::.val (.int b)::a2::a3::.own [.int (ZaU (mix ns (b+4))),.int (ZaU (mix ns (b+5)))]::.val (.int 1)::.val (.int (ZaU (mix ns (b+5))))::r) θ:=by
  simp [ZbL,Zdq,ZbI,ZfD,List.range_succ,show b+4+1=b+5 by omega]
theorem Zev (ns:List Int) (b:Int) (a2 a3 a4 a5 a6 a7:Sl) (r:List Sl) (θ:Sto):ZaR (.val (.scr ns)::.val (.int b)::a2::a3::a4::a5::a6::a7::.val (.int (gt [0,1,15,16,7] (mix ns (b+9) % 5).toNat))::r) θ =
    .ok (.nx,.val (.scr ns)::.val (.int b)::a2::a3::a4::a5::a6::a7::.val (.int (Z4 ns b))::r) θ:=by
  unfold Z4
  generalize gt [0,1,15,16,7] (mix ns (b+9) % 5).toNat=m at *
  by_cases c:m=7
  · simp [ZaR,c]
  · simp [ZaR,c]
theorem Zgv (n:Nat) (x:Int):(List.replicate n [x]).flatten=List.replicate n x:=by
  induction n with
  | zero=>rfl
  | succ n ih=>rw [List.replicate_succ,List.flatten_cons,ih]; rfl
theorem Zey (ns:List Int) (b:Int) (a2 a3 a4 a5 a6 a7:Sl) (r:List Sl) (θ:Sto):ZaQ (.val (.scr ns)::.val (.int b)::a2::a3::a4::a5::a6::a7::.val (.int (Z4 ns b))::.val (itp ((List.range (Z4 ns b).toNat).map fun (k:Nat)=>mix ns (b+10+(k:Int))/7 % 256))::r) θ =
    .ok (.nx,.val (.scr ns)::.val (.int b)::a2::a3::a4::a5::a6::a7::.val (.int (Z4 ns b))::.val (itp (Za7 ns b))::r) θ:=by
  have sz:=Zdb ns b
  have f1:D.tup [.int 255]=itp [255]:=rfl
  unfold Za7
  by_cases c:mix ns (b+27) % 5=0
  · simp [ZaQ,c,f1,Zgv,show Z4 ns b<1000 by omega,show Z4 ns b≤1000 by omega,sz.1]
  · simp [ZaQ,c]
theorem Zj2 (ns:List Int) (b:Int) (θ:Sto):ZcW [.scr ns,.int b] θ=.ok (ZaF ns b).d θ:=by
  have sz:=Zdb ns b
  have g:=zi (a:=[0,1,15,16,7]) (i:=mix ns (b+9) % 5) (θ:=θ) (by omega) (by simp; omega)
  have cp:=fun ρ (h0:ρ[0]?=some (Sl.val (D.scr ns))) (h1:ρ[1]?=some (Sl.val (D.int b))) (h2:ρ[8]?=some (Sl.val (D.int (Z4 ns b))))=>ZbG (ρ:=ρ) (θ:=θ) (fi:=z9 (Za (Ze 8) Zi)) (src:=[0,1])
    (elt:=mOp ZX (mOp ZaC (mCB ZS (Za (Ze 1) (Za (mOp Zo (mOp Zo (Ze 2) (mC (.int 10))) (Ze 0)) Zi))) (mC (.int 7))) (mC (.int 256))) (lo:=0) (n:=(Z4 ns b).toNat) (θ':=θ) (fun k=>.int (mix ns (b+10+k)/7 % 256))
    (by simp [h2]; omega) (by simp; omega) (by intro i hi; simp [h0,h1])
  have e:(fun (i:Nat)=>D.int (mix ns (b+10+(0+(i:Int)))/7 % 256))=D.int∘fun (i:Nat)=>mix ns (b+10+(i:Int))/7 % 256:=by
    funext i
    simp
  simp [ZcW,Zfy,Zex,Zew,g,Zev]
  rw [cp _ rfl rfl rfl]
  rw [show (List.range (Z4 ns b).toNat).map (fun (i:Nat)=>D.int (mix ns (b+10+(0+(i:Int)))/7 % 256))=((List.range (Z4 ns b).toNat).map fun (i:Nat)=>mix ns (b+10+(i:Int))/7 % 256).map D.int by rw [e,List.map_map]]
  simp only [ZkH]
  simp [Zey,ZaF,Seg.d]
end
end My
namespace My
open PySem L2 L2.MM
noncomputable section
def Zem:SM:=(zr (zU (mCB ZaV (Za (Ze 0) (Za (mC (.ty "int")) Zi))) (zU (Zg5 (mCB ZaV (Za (Ze 0) (Za (mC (.ty "bool")) Zi)))) (Za3 leM leM (mC (.int 0)) (Ze 0) (mC (.int 255))))))
def Za5:GM:=zL 1 1 Zem
def b_l_read_1:SM:=(mIf (mOr (Zd6 (Zd5 (mCB ZaV (Za (Ze 0) (Za (mC (.ty "list")) Zi))))) (Zw (mOp ltM (mCB Zcl (Za (Ze 0) Zi)) (mC (.int 20))))) (zr (mC .non)) zm)
def b_l_read_2:SM:=(mIf (Zd6 (Zd5 (mCB Zga (Za (Zaa (mIn (Ze 0)) [] (mCB Za5 (Za (Ze 0) Zi))) Zi)))) (zr (mC .non)) zm)
def b_l_read_3:SM:=(mIf (mOr (Zw (mOp Zcf (mOp ixM (Ze 0) (mC (.int 12))) (ZZ (Za (mC (.int 80)) (Za (mC (.int 96)) Zi))))) (mOr (Zw (mOp gtM (mOp ixM (Ze 0) (mC (.int 13))) (mC (.int 31)))) (Zw (mOp gtM (mOp Zo (mOp ixM (Ze 0) (mC (.int 18))) (mOp ixM (Ze 0) (mC (.int 19)))) (mC (.int 0)))))) (zr (mC .non)) zm)
def b_l_read_4:SM:=(mIf (mOr (Zd6 (Zw (Za3 leM leM (Ze 1) (mCB Zcl (Za (Ze 0) Zi)) (mOp Zo (Ze 1) (mC (.int 16)))))) (Zw (mOp neM (mCB Z1 (Za (Ze 0) Zi)) (mC (.int 65535))))) (zr (mC .non)) zm)
def zX:SM:=(mIf (mOr (Zw (mOp eqM (mOp ZX (mOp ZaC (mOp ixM (Ze 0) (mC (.int 13))) (mC (.int 2))) (mC (.int 2))) (mC (.int 0)))) (mOr (Zw (mOp neM (mSl (Ze 0) (ZR (mC (.int 20))) (ZR (mC (.int 22)))) (zK (Za (mC (.int 2)) (Za (mC (.int 4)) Zi))))) (Zw (mOp ltM (Ze 2) (mC (.int 4)))))) (zr (mC .non)) zm)
def b_l_read_6:SM:=(mIf (Zw (mOp eqM (Ze 1) (mC (.int 24)))) (Zq (Zu 2 (mOp Zo (mOp zE (mOp ixM (Ze 0) (mC (.int 22))) (mC (.int 256))) (mOp ixM (Ze 0) (mC (.int 23)))))
    zX) zm)
def Zac:SM:=(Zq b_l_read_1
  (Zq b_l_read_2
  (Zq (Zu 1 (mOp ZaC (mOp ixM (Ze 0) (mC (.int 12))) (mC (.int 4))))
  (Zq b_l_read_3
  (Zq b_l_read_4
  (Zq (Zu 2 (mC (.int 0)))
  (Zq b_l_read_6
  (Zq (Zu 3 (Zaa (z9 (Za (mC (.int 8)) Zi)) [0] (mOp Zo (mOp zE (mC (.int 256)) (mOp ixM (Ze 1) (mOp zE (mC (.int 2)) (Ze 0)))) (mOp ixM (Ze 1) (mOp Zo (mOp zE (mC (.int 2)) (Ze 0)) (mC (.int 1)))))))
  (Zq (Zu 4 (ZZ (Za (mOp ixM (Ze 3) (mC (.int 0))) (Za (mOp ixM (Ze 3) (mC (.int 1))) (Za (mOp Zo (mOp zE (mOp ixM (Ze 3) (mC (.int 2))) (mC (.int 65536))) (mOp ixM (Ze 3) (mC (.int 3)))) (Za (mOp Zo (mOp zE (mOp ixM (Ze 3) (mC (.int 4))) (mC (.int 65536))) (mOp ixM (Ze 3) (mC (.int 5)))) Zi))))))
  (zr (mOp Zo (Ze 4) (ZZ (Za (mOp ixM (Ze 0) (mC (.int 13))) (Za (mOp ixM (Ze 3) (mC (.int 7))) (Za (Ze 2) (Za (mCB ZaX (Za (mSl (Ze 0) (ZR (Ze 1)) Zx) Zi)) Zi))))))))))))))))
def zW:GM:=zL 1 5 Zac
end
end My
namespace My
open PySem L2 L2.MM
noncomputable section
@[simp] theorem ZiL {f:Int} (h0:0≤f) (h1:f≤31):bit f 2=f/2 % 2:=(ZkL ⟨h0,h1⟩).2.1
end
end My
namespace My
open PySem L2 L2.MM
noncomputable section
theorem Zbg (x y z:Int) (θ:Sto):Zcf (.int x) (.tup [.int y,.int z]) θ=.ok (.bl (!decide (x=y∨x=z))) θ:=by
  have e:inD θ (.int x) (.tup [.int y,.int z])=some (decide (y=x) || (decide (z=x) || false)):=rfl
  have e2:(decide (y=x) || (decide (z=x) || false))=decide (x=y∨x=z):=by
    rw [Bool.eq_iff_iff]
    simp only [Bool.or_eq_true,decide_eq_true_eq,Bool.false_eq_true,or_false]
    constructor
    · rintro (h | h)
      · exact .inl h.symm
      · exact .inr h.symm
    · rintro (h | h)
      · exact .inl h.symm
      · exact .inr h.symm
  unfold Zcf
  rw [e,e2]
theorem ZeZ {z:Int} (h:0≤z∧z≤255) (θ:Sto):Za5 [.int z] θ=.ok (.bl true) θ:=by
  have h1:ZaV [.int z,.ty "int"] θ=.ok (.bl true) θ:=rfl
  have h2:ZaV [.int z,.ty "bool"] θ=.ok (.bl false) θ:=rfl
  simp [Za5,Zem,h1,h2,h.1,h.2]
theorem Zfu {α:Type} (xs:List α):ZdB (xs.map fun _=>D.bl true)=some (List.replicate xs.length true):=by
  induction xs with
  | nil=>rfl
  | cons x xs ih=>rw [List.map_cons,ZdB,ih]; rfl
theorem Zen (n:Nat):(List.replicate n true).all id=true:=by
  induction n with
  | zero=>rfl
  | succ n ih=>rw [List.replicate_succ,List.all_cons,ih]; rfl
theorem ZhH {a:List Int} (h:Byt a) (hr:ZE a=true) (θ:Sto):zW [il a] θ=.ok (ZaB a).d θ:=by
  obtain ⟨l1,l2,l3,l4⟩:=Zaz hr
  have hr':=hr
  unfold ZE at hr'
  simp only [Bool.and_eq_true,decide_eq_true_eq,Bool.or_eq_true] at hr'
  obtain ⟨r1,r2,r3,r4,r5,r6,r7⟩:=hr'
  have gg:∀i:Nat,i<a.length→0≤gt a i∧gt a i≤255:=fun i hi=>by
    unfold gt
    have:=h.1 a[i] (List.getElem_mem hi)
    rw [List.getD_eq_getElem?_getD,List.getElem?_eq_getElem hi]
    exact this
  have b13:=gg 13 (by omega)
  have b18:=gg 18 (by omega)
  have b19:=gg 19 (by omega)
  have ix:∀i:Nat,i<a.length→ixM (il a) (.int (i:Int)) θ=.ok (.int (gt a i)) θ:=fun i hi=>zi (a:=a) (θ:=θ) (i:=(i:Int)) (by omega) (by omega)
  have i12:ixM (il a) (.int 12) θ=.ok (.int (gt a 12)) θ:=ix 12 (by omega)
  have i13:ixM (il a) (.int 13) θ=.ok (.int (gt a 13)) θ:=ix 13 (by omega)
  have i18:ixM (il a) (.int 18) θ=.ok (.int (gt a 18)) θ:=ix 18 (by omega)
  have i19:ixM (il a) (.int 19) θ=.ok (.int (gt a 19)) θ:=ix 19 (by omega)
  have z5:gt a 18+gt a 19=0:=by unfold at2 at r5; simp only [Nat.reduceAdd] at r5; omega
  have len20:¬(a.length:Int)<20:=by omega
  have R1:∀r,b_l_read_1 (.val (il a)::r) θ=.ok (.nx,.val (il a)::r) θ:=by
    intro r
    simp [b_l_read_1,isT,len20]
  have R2:∀r,b_l_read_2 (.val (il a)::r) θ=.ok (.nx,.val (il a)::r) θ:=by
    intro r
    have cp:=ZcU (ρ:=.val (il a)::r) (θ:=θ) (fi:=mIn (Ze 0)) (src:=[]) (elt:=mCB Za5 (Za (Ze 0) Zi)) (d:=il a) (xs:=a.map D.int) (θ':=θ) (fun _=>.bl true) (by simp) rfl (by have:=h.2; simp [BIG]; omega) (by
      intro x hx
      obtain ⟨z,hz,rfl⟩:=List.mem_map.mp hx
      simp [ZeZ (h.1 z hz)])
    have al:Zga [D.lst ((a.map D.int).map fun _=>D.bl true)] θ=.ok (.bl true) θ:=by
      rw [Zit,Zfu]
      simp only [Zen]
    obtain ⟨q,hq⟩:∃x,x=D.lst ((a.map D.int).map fun _=>D.bl true):=⟨_,rfl⟩
    rw [←hq] at cp al
    simp [b_l_read_2,cp,al]
  have hb:ze a=gt a 12/4:=by unfold ze; rcases r2 with e | e<;>rw [e]<;>rfl
  have q4:gt a 12/4≤a.length∧(a.length:Int)≤gt a 12/4+16:=by rw [←hb]; omega
  have R3:∀r,b_l_read_3 (.val (il a)::r) θ=.ok (.nx,.val (il a)::r) θ:=by
    intro r
    simp [b_l_read_3,i12,i13,i18,i19,Zbg,r2,z5,show ¬(31:Int)<gt a 13 by omega]
  have fo:=ZaH h θ
  rw [r7] at fo
  have R4:∀r,b_l_read_4 (.val (il a)::.val (.int (gt a 12/4))::r) θ=.ok (.nx,.val (il a)::.val (.int (gt a 12/4))::r) θ:=by
    intro r
    simp [b_l_read_4,fo,q4.1,q4.2]
  obtain ⟨hd,hhd⟩:∃x,x=gt a 12/4:=⟨_,rfl⟩
  rw [←hhd] at R4 hb q4
  have R6:∀x y,b_l_read_6 [.val (il a),.val (.int hd),.val (.int 0),x,y] θ=.ok (.nx,[.val (il a),.val (.int hd),.val (.int (if ze a=24 then at2 a 22 else 0)),x,y]) θ:=by
    intro x y
    by_cases c:hd=24
    · have lo:=(l2.resolve_left (by rw [hb,c]; decide)).2
      have i20:gt a 20=2∧gt a 21=4∧gt a 13/2 % 2=1∧4≤at2 a 22:=by
        have:=lo.2
        unfold longOk at this
        simp only [Bool.and_eq_true,decide_eq_true_eq] at this
        obtain ⟨t1,t2,t3,t4⟩:=this
        rw [ZiL (by omega) (by omega)] at t1
        exact ⟨t2,t3,t1,t4⟩
      obtain ⟨e20,e21,e13,e22⟩:=i20
      have i22:ixM (il a) (.int 22) θ=.ok (.int (gt a 22)) θ:=ix 22 (by omega)
      have i23:ixM (il a) (.int 23) θ=.ok (.int (gt a 23)) θ:=ix 23 (by omega)
      have cu:zz a (some 20) (some 22)=[2,4]:=by
        have:zz a (some 20) (some 22)=[gt a 20,gt a 21]:=by
          rw [Zfq _ (by decide) (by decide),show (20:Int).toNat=20 from rfl,show (22:Int).toNat-20=2 from rfl,List.drop_eq_getElem_cons (show 20<a.length by omega),List.drop_eq_getElem_cons (show 21<a.length by omega)]
          rw [List.take_succ_cons,List.take_succ_cons,List.take_zero]
          unfold gt
          rw [List.getD_eq_getElem?_getD,List.getD_eq_getElem?_getD,List.getElem?_eq_getElem (show 20<a.length by omega),List.getElem?_eq_getElem (show 21<a.length by omega)]
          rfl
        rw [this,e20,e21]
      have m22:gt a 22*256+gt a 23=at2 a 22:=by unfold at2; simp only [Nat.reduceAdd]; omega
      have mb:Zbb (gt a 22) 256:=.inr (by omega)
      rw [hb,if_pos c]
      simp [b_l_read_6,zX,c,i22,i23,i13,e13,cu,m22,mb,show ¬at2 a 22<4 by omega]
    · rw [hb,if_neg c]
      simp [b_l_read_6,c]
  have cp:=fun y z=>ZbG (ρ:=[.val (il a),.val (.int hd),.val (.int (if ze a=24 then at2 a 22 else 0)),y,z]) (θ:=θ) (fi:=z9 (Za (mC (.int 8)) Zi)) (src:=[0])
    (elt:=mOp Zo (mOp zE (mC (.int 256)) (mOp ixM (Ze 1) (mOp zE (mC (.int 2)) (Ze 0)))) (mOp ixM (Ze 1) (mOp Zo (mOp zE (mC (.int 2)) (Ze 0)) (mC (.int 1))))) (lo:=0) (n:=8) (θ':=θ) (fun k=>.int (256*gt a (2*k).toNat+gt a (2*k+1).toNat))
    (by simp) (by simp [BIG]) (by
      intro i hi
      have j1:=zi (a:=a) (θ:=θ) (i:=2*(i:Int)) (by omega) (by omega)
      have j2:=zi (a:=a) (θ:=θ) (i:=2*(i:Int)+1) (by omega) (by omega)
      simp [Zbb,j1,j2])
  have wl:(List.range 8).map (fun (i:Nat)=>D.int (256*gt a (2*((0:Int)+(i:Int))).toNat+gt a (2*((0:Int)+(i:Int))+1).toNat))=[.int (at2 a 0),.int (at2 a 2),.int (at2 a 4),.int (at2 a 6),.int (at2 a 8),.int (at2 a 10),.int (at2 a 12),.int (at2 a 14)]:=rfl
  have dr:zz a (some hd) none=a.drop hd.toNat:=ZaE a (by omega)
  have c4:at2 a 4*65536+at2 a 6=at4 a 4:=by unfold at4; simp only [Nat.reduceAdd]; omega
  have c8:at2 a 8*65536+at2 a 10=at4 a 8:=by unfold at4; simp only [Nat.reduceAdd]; omega
  obtain ⟨most,hmo⟩:∃x,x=if ze a=24 then at2 a 22 else 0:=⟨_,rfl⟩
  rw [←hmo] at R6 cp
  unfold ZaB
  rw [←hmo,hb]
  obtain ⟨W,hW⟩:∃x,x=(List.range 8).map (fun (i:Nat)=>D.int (256*gt a (2*((0:Int)+(i:Int))).toNat+gt a (2*((0:Int)+(i:Int))+1).toNat)):=⟨_,rfl⟩
  rw [←hW] at wl
  simp only [←hW] at cp
  have w0:ixM (.lst W) (.int 0) θ=.ok (.int (at2 a 0)) θ:=by rw [wl]; rfl
  have w1:ixM (.lst W) (.int 1) θ=.ok (.int (at2 a 2)) θ:=by rw [wl]; rfl
  have w2:ixM (.lst W) (.int 2) θ=.ok (.int (at2 a 4)) θ:=by rw [wl]; rfl
  have w3:ixM (.lst W) (.int 3) θ=.ok (.int (at2 a 6)) θ:=by rw [wl]; rfl
  have w4:ixM (.lst W) (.int 4) θ=.ok (.int (at2 a 8)) θ:=by rw [wl]; rfl
  have w5:ixM (.lst W) (.int 5) θ=.ok (.int (at2 a 10)) θ:=by rw [wl]; rfl
  have w7:ixM (.lst W) (.int 7) θ=.ok (.int (at2 a 14)) θ:=by rw [wl]; rfl
  obtain ⟨wd,hwd⟩:∃x,x=D.lst W:=⟨_,rfl⟩
  rw [←hwd] at w0 w1 w2 w3 w4 w5 w7
  simp only [←hwd] at cp
  have mb:∀x:Int,Zbb x 65536:=fun x=>.inr (by omega)
  simp [zW,Zac,R1,R2,i12,R3,←hhd,R4,R6,cp,w0,w1,w2,w3,w4,w5,w7,mb,i13,dr,c4,c8,Seg.d]
end
end My
namespace My
open PySem L2 L2.MM
noncomputable section
theorem Zhp {nE:EM} {src:List Nat} {elt:EM} {ρ:List Sl} {θ:Sto} {j:Int} (F:Nat→Int) (hn:nE ρ θ=.ok (.int j) θ) (h0:0≤j) (h1:j≤1000) (he:∀i:Nat,i<j.toNat→elt (ZaA src ρ (.int (i:Int))) θ=.ok (.int (F i)) θ) :
    Zaa (z9 (Za nE Zi)) src elt ρ θ=.ok (il ((List.range j.toNat).map F)) θ:=by
  have:=ZbG (ρ:=ρ) (θ:=θ) (fi:=z9 (Za nE Zi)) (src:=src) (elt:=elt) (lo:=0) (n:=j.toNat) (θ':=θ) (fun k=>.int (F k.toNat)) (by simp [hn]; omega) (by simp [BIG]; omega) (by
    intro i hi
    simpa using he i hi)
  rw [this]
  simp [il]
end
end My
namespace My
open PySem L2 L2.MM
noncomputable section
theorem ZhX (n:Nat) (xs:List Int):pls n (xs.map D.int)=true:=by
  induction xs with
  | nil=>simp [pls]
  | cons x r ih=>simp [pls,ih,pl]
theorem ZgV (xs:List Int):Za0 (xs.map D.int)=true:=by
  induction xs with
  | nil=>simp [Za0]
  | cons x r ih=>simp [Za0,ih,noB]
theorem Zi7 (n:Nat) (s:Seg):pl (n+2) s.d=true:=by
  unfold Seg.d
  simp only [pl,pls,pl,Bool.true_and,Bool.and_true]
  unfold itp
  simp only [pl]
  exact ZhX _ _
theorem Zh5 (s:Seg):noB s.d=true:=by
  unfold Seg.d
  simp only [noB,Za0,Bool.true_and,Bool.and_true]
  unfold itp
  simp only [noB]
  exact ZgV _
end
end My
namespace L2.MM
open PySem L2
structure BE (X:Cx) (e:Expr) (f:EM):Prop where
  h:ME X e f
structure BA (X:Cx) (es:List Expr) (f:AM):Prop where
  h:MA X es f
structure BS (X:Cx) (st:Stmt) (f:SM):Prop where
  h:MS X st f
section
variable {X:Cx} {e:Expr} {es:List Expr} {f:EM} {fs:AM} {pos:Pos}
theorem ZjD (h:BA X es fs):BE X (.List es pos) (zK fs):=⟨zn h.h⟩
theorem zt:BA X [] Zi:=⟨Zf⟩
theorem Zv {i j} (h:BA X es fs):BA X (.Constant (.int i) j pos::es) (Za (mC (.int i)) fs):=⟨Zb Zc h.h rfl⟩
theorem zg {c} {es':List Expr} {fs':AM} (h0:BA X es' fs') (h:BA X es fs):BA X (.Tuple es' c pos::es) (Za (ZZ fs') fs):=⟨Zb (zF h0.h) h.h rfl⟩
theorem ZfU {st:Stmt} {rest:List Stmt} {f g:SM} (h1:BS X st f) (h2:MSs X rest g):MSs X (st::rest) (Zq f g):=Zh h1.h h2
end
end L2.MM
namespace L2.MM
open PySem PySem.Spec PyProof.Rows
section
variable {X:Cx}
def ZdF:OM:=fun x y θ=>match ZY θ x,ZY θ y with
  | some xs,some ys=>if xs.length+ys.length≤BIG then .ok (.ref θ.length) (θ++[.lst (xs++ys)]) else .bad
  | _,_=>.bad
theorem ZgT:OpR X (binaryOp .Add) (rM X ZdF):=by
  refine OpR.imp ZgR fun x y H Q q=>?_
  obtain ⟨σ,B,θ,d,e,G,rd,re,w⟩:=q
  unfold ZdF at w
  split at w
  · rename_i xs ys e1 e2
    split at w
    · rename_i hz
      obtain ⟨a,vs,rfl,h1,l1⟩:=ZN G rd e1
      obtain ⟨b,us,rfl,h2,l2⟩:=ZN G re e2
      exact ⟨a,b,vs,us,rfl,rfl,h1,h2,by rw [l1.len,l2.len]; exact Z3 hz,ZhF G (l1.app l2) w⟩
    · exact w.elim
  · exact w.elim
end
end L2.MM
namespace L2.MM
open PySem PySem.Spec PyProof.Rows
mutual
def ZcC (n:Nat):D→Bool
  | .tup xs=>ZcB n xs
  | .lst xs=>ZcB n xs
  | .ref l=>decide (l<n)
  | _=>true
def ZcB (n:Nat):List D→Bool
  | []=>true
  | d::r=>ZcC n d && ZcB n r
end
def Zia (n:Nat):Zeo→Bool
  | .lst xs=>ZcB n xs
  | .dK kvs=>kvs.all fun p=>ZcC n p.2
  | .dT kvs=>kvs.all fun p=>ZcC n p.2
  | .ins _ fs=>fs.all fun p=>ZcC n p.2
def Bx.pop (B:Bx) (l:Nat):Bx:={ B with n:=l,os:=B.m l::B.os }
section
variable {B:Bx} {H:Hp} {l:Nat}
theorem ZeD (hn:B.n=l+1) {b:Addr} (h:B.ok b):(B.pop l).ok b:=
  ⟨fun i hi=>h.1 i (by show i<B.n; rw [hn]; exact Nat.lt_succ_of_lt hi),h.2.1,fun z=>by
    rcases List.mem_cons.mp z with z | z
    · exact h.1 l (by omega) z.symm
    · exact h.2.2 z⟩
mutual
theorem Ze4 (hn:B.n=l+1):∀(d:D) (v:V),ZcC l d=true→RepV B H d v→RepV (B.pop l) H d v
  | .non,v,_,r=>r
  | .bl _,v,_,r=>r
  | .int _,v,_,r=>r
  | .str _,v,_,r=>r
  | .ty _,v,_,r=>r
  | .scr ns,v,_,r=>by
    obtain ⟨a,e,h⟩:=r
    exact ⟨a,e,h.imp (fun ⟨o,h1,h2⟩=>⟨o,h1,ZeD hn h2⟩) id⟩
  | .tup xs,v,lo,r=>by
    obtain ⟨a,vs,e,h1,h2,h3⟩:=r
    exact ⟨a,vs,e,h1,ZeD hn h2,Zar hn xs vs (by simpa [ZcC] using lo) h3⟩
  | .lst xs,v,lo,r=>by
    obtain ⟨a,vs,e,h1,h2,h3⟩:=r
    exact ⟨a,vs,e,h1,ZeD hn h2,Zar hn xs vs (by simpa [ZcC] using lo) h3⟩
  | .ref k,v,lo,r=>⟨by have:=lo; simp only [ZcC,decide_eq_true_eq] at this; exact this,r.2⟩
theorem Zar (hn:B.n=l+1):∀(ds:List D) (vs:List V),ZcB l ds=true→RepL B H ds vs→RepL (B.pop l) H ds vs
  | [],vs,_,r=>r
  | d::ds,vs,lo,r=>by
    obtain ⟨v,us,e,h1,h2⟩:=r
    simp only [ZcB,Bool.and_eq_true] at lo
    exact ⟨v,us,e,Ze4 hn d v lo.1 h1,Zar hn ds us lo.2 h2⟩
end
theorem ZaI {κ:Type} (hn:B.n=l+1):∀{ks:List (κ×D)} {vs:List (κ×V)},(ks.all fun p=>ZcC l p.2)=true→RepKV B H ks vs→RepKV (B.pop l) H ks vs
  | _,_,_,.nil=>.nil
  | _,_,lo,.cons h t=>by
    simp only [List.all_cons,Bool.and_eq_true] at lo
    exact .cons ⟨h.1,Ze4 hn _ _ lo.1 h.2⟩ (ZaI hn lo.2 t)
theorem Zhr {cl:Mo} (hn:B.n=l+1) {a:Addr} {c:Zeo} (lo:Zia l c=true) (k:CellOk cl B H a c):CellOk cl (B.pop l) H a c:=by
  cases c with
  | lst xs=>obtain ⟨vs,e,r⟩:=k; exact ⟨vs,e,Zar hn _ _ lo r⟩
  | dK kvs=>obtain ⟨vs,e,r⟩:=k; exact ⟨vs,e,ZaI hn lo r⟩
  | dT kvs=>obtain ⟨vs,e,r⟩:=k; exact ⟨vs,e,ZaI hn lo r⟩
  | ins C fs=>obtain ⟨dx,vs,e,r⟩:=k; exact ⟨dx,vs,e,ZaI hn lo r⟩
theorem Zhi {cl:Mo} {θ:Sto} (G:Good cl B θ H) (hl:l+1=θ.length) (lo:θ.dropLast.all (Zia l)=true):Good cl (B.pop l) θ.dropLast H:=by
  have hn:B.n=l+1:=by rw [←G.len,hl]
  have lt:∀i,i<l→i<B.n:=fun i h=>by omega
  refine ⟨by rw [List.length_dropLast]; show θ.length-1=l; omega,fun i j hi hj=>G.inj i j (lt i hi) (lt j hj),fun i c e=>?_,fun i hi=>⟨(G.cF i (lt i hi)).1,fun z=>?_⟩,G.Fs,fun a z=>?_,fun a z=>?_,G.kc⟩
  · have hi:i < θ.dropLast.length:=(List.getElem?_eq_some_iff.mp e).1
    have e':θ[i]?=some c:=by
      rw [List.getElem?_dropLast] at e
      split at e
      · exact e
      · cases e
    exact Zhr hn (List.all_eq_true.mp lo c (List.mem_of_getElem? e)) (G.cel i c e')
  · rcases List.mem_cons.mp z with z | z
    · have:=G.inj i l (lt i hi) (by omega) z
      have hi':i<l:=hi
      omega
    · exact (G.cF i (lt i hi)).2 z
  · rcases List.mem_cons.mp z with rfl | z
    · exact G.there (by omega)
    · exact G.oS a z
  · rcases List.mem_cons.mp z with rfl | z
    · exact (G.cF l (by omega)).1
    · exact G.oF a z
end
section
variable {X:Cx}
def ZbO (i:Nat) (f:EM):SM:=fun ρ θ=>(f ρ θ).bind fun d θ1=>match d,θ1.getLast? with
  | .ref l,some (.lst xs)=>if l+1=θ1.length∧θ.length≤l∧ZcB l xs=true∧θ1.dropLast.all (Zia l)=true then .ok (.nx,ρ.set i (.own xs)) θ1.dropLast else .bad
  | _,_=>.bad
theorem Zfg (i:Nat) {x:Str} {e:Expr} {f:EM} {pos pos':Pos} (hN:X.N.Nodup) (he:ME X e f) (hi:X.N[i]?=some x:=by rfl) (hx:Loc X.env.scope x:=by first | exact Or.inl rfl | exact Or.inr rfl)
    (hs:swapsWith e (some (.Name x pos')) pos.line X.env=pure false:=by rfl) (hf:X.fn x=true∨X.env.scope.names.lookup x=some .local:=by first | exact .inl rfl | exact .inr rfl):MS X (.Assign [.Name x pos'] e pos) (ZbO i f):=
  PS.imp (Zdf hN hi hx he hs hf) fun D σ H h=>by
  obtain ⟨B,θ,ρ,F,w⟩:=h
  refine ⟨B,θ,ρ,F,?_⟩
  unfold ZbO at w
  cases hfv:f ρ θ with
  | bad=>rw [hfv] at w; exact w.elim
  | ex c θ'=>rw [hfv] at w; exact False.elim w
  | ok d θ1=>
    rw [hfv,R.bind_ok] at w
    intro B1 H1 v E1 G1 r
    split at w
    · rename_i l xs eL
      split at w
      · rename_i hc
        obtain ⟨c1,c2,c3,c4⟩:=hc
        have hn:B1.n=l+1:=by rw [←G1.len,c1]
        obtain ⟨_,rfl⟩:=r
        have eL':θ1[l]?=some (.lst xs):=by
          rw [List.getLast?_eq_getElem?] at eL
          rw [←eL]
          congr 1
          omega
        obtain ⟨vs,hv1,hv2⟩:=G1.cel l _ eL'
        have lB:B.n≤l:=by rw [←F.good.len]; exact c2
        have G2:=Zhi G1 c1 c4
        have hnone:H (B1.m l)=none:=E1.fr l lB (by omega)
        have E2:ExtS B (B1.pop l) H H1:=⟨lB,E1.m,fun j h1 h2=>E1.fr j h1 (by have:j<l:=h2; omega),E1.keep,E1.sm,fun a z=>by
          rcases List.mem_cons.mp z with rfl | z
          · exact .inr hnone
          · exact E1.os a z,E1.F,E1.ks⟩
        have oth:∀(j:Nat) (s:Sl),(ρ.set i (Sl.own xs))[j]?=some s→(j=i∧s=.own xs∧j < σ.length)∨(j≠i∧ρ[j]?=some s):=fun j s e=>by
          by_cases q:j=i
          · subst q
            have hl:j < ρ.length:=by
              have:=(List.getElem?_eq_some_iff.mp e).1
              simpa using this
            rw [List.getElem?_set_self hl] at e
            cases e
            exact .inl ⟨rfl,rfl,by rw [←F.len]; exact hl⟩
          · rw [List.getElem?_set_ne (Ne.symm q)] at e
            exact .inr ⟨q,e⟩
        have old:∀j ys,ρ[j]?=some (Sl.own ys)→∀a,σ[j]?=some (some (V.ref a))→a≠B1.m l:=fun j ys h a e z=>by
          obtain ⟨a',us,q1,q2,q3,q4⟩:=F.own j ys h
          rw [e] at q1
          cases q1
          rw [z,hnone] at q3
          cases q3
        have F2:Frm X.cl (B1.pop l) θ1.dropLast (ρ.set i (.own xs)) (σ.set i (some (.ref (B1.m l)))) H1:=by
          refine ⟨G2,by simp [F.len],fun j d h=>?_,fun j ys h=>?_,fun j k ys zs a hne h1 h2 h3=>?_⟩
          · rcases oth j _ h with ⟨_,z,_⟩ | ⟨q,z⟩
            · cases z
            · rw [List.getElem?_set_ne (Ne.symm q)]
              obtain ⟨v,q1,q2⟩:=F.val j d z
              exact ⟨v,q1,q2.ext E2⟩
          · rcases oth j _ h with ⟨rfl,z,hl⟩ | ⟨q,z⟩
            · cases z
              exact ⟨B1.m l,vs,by rw [List.getElem?_set_self hl],List.mem_cons_self,hv1,Zar hn _ _ c3 hv2⟩
            · rw [List.getElem?_set_ne (Ne.symm q)]
              obtain ⟨a,us,q1,q2,q3,q4⟩:=F.own j ys z
              exact ⟨a,us,q1,List.mem_cons_of_mem _ (by rw [E1.osE]; exact q2),E1.ko a _ q2 (fun i hi z=>(F.good.cF i hi).2 (by rw [z]; exact q2)) q3,q4.ext E2⟩
          · rcases oth j _ h1 with ⟨rfl,z1,hl⟩ | ⟨q1,z1⟩
            · rcases oth k _ h2 with ⟨rfl,z2,_⟩ | ⟨q2,z2⟩
              · exact absurd rfl hne
              · rw [List.getElem?_set_self hl] at h3
                cases h3
                rw [List.getElem?_set_ne (Ne.symm q2)]
                exact fun z=>old k zs z2 _ z rfl
            · rw [List.getElem?_set_ne (Ne.symm q1)] at h3
              rcases oth k _ h2 with ⟨rfl,z2,hl⟩ | ⟨q2,z2⟩
              · rw [List.getElem?_set_self hl]
                intro z
                cases z
                exact old j ys z1 _ h3 rfl
              · rw [List.getElem?_set_ne (Ne.symm q2)]
                exact F.ne j k ys zs a hne z1 z2 h3
        exact w _ _ _ E2 F2
      · exact w.elim
    · exact w.elim
def Zfj (i:Nat) (fi fv:EM):SM:=fun ρ θ=>(fv ρ θ).bind fun v θ=>(fi ρ θ).bind fun y θ=>match y,ρ[i]? with
  | .int n,some (Sl.own xs)=>match ixN xs.length n with
    | some k=>.ok (.nx,ρ.set i (.own (xs.set k v))) θ
    | none=>.bad
  | _,_=>.bad
theorem Zfh (i:Nat) {x:Str} {ie value:Expr} {fi fv:EM} {p pos pos':Pos} (hi:ME X ie fi) (hv:ME X value fv) (hN:X.N[i]?=some x:=by rfl) (hvi:Vis X.env.scope x:=by first | exact Or.inl rfl | exact Or.inr (Or.inl rfl) | exact Or.inr (Or.inr rfl))
    (hd:(x == ("__debug__":Str))=false:=by decide) (hcd:(x == ("__classdict__":Str))=false:=by decide)
    (hps:∀{to:TE},PE X (.Name x p) to→PS X (.Assign [.Subscript (.Name x p) ie pos'] value pos) (ZhK (tM X fv) (ZkE to (tM X fi) Ziy))):MS X (.Assign [.Subscript (.Name x p) ie pos'] value pos) (Zfj i fi fv):=
  PS.imp (hps (ZaZ hN hvi hd hcd)) fun D σ H h=>by
  obtain ⟨B,θ,ρ,F,w⟩:=h
  refine ZJ (ZcK F w) ?_
  rintro v H1 ⟨B1,θ1,dv,E1,F1,rv,w1⟩
  have own:∃xs,ρ[i]?=some (Sl.own xs):=by
    cases q:fi ρ θ1 with
    | bad=>rw [q] at w1; exact w1.elim
    | ex c θ'=>rw [q] at w1; exact False.elim w1
    | ok d θ'=>
      rw [q] at w1
      simp only [R.bind_ok] at w1
      split at w1
      · rename_i xs e; exact ⟨_,e⟩
      · exact w1.elim
  obtain ⟨xs,hx⟩:=own
  obtain ⟨a,vs,q1,q2,q3,q4⟩:=F1.own i xs hx
  refine ⟨.ref a,q1,?_⟩
  refine ZJ (ZcK F1 w1) ?_
  rintro y H2 ⟨B2,θ2,dy,E2,F2,ry,w2⟩
  rw [hx] at w2
  cases dy with
  | int n=>
    simp only at w2
    split at w2
    · rename_i k ek
      obtain ⟨a',us,p1,p2,p3,p4⟩:=F2.own i xs hx
      rw [q1] at p1
      cases p1
      obtain ⟨E3,F3⟩:=F2.updOwn hx q1 (p4.set (rv.ext E2.toExtS) k)
      exact ⟨a,us,n,k,rfl,ry,p3,by rw [p4.len]; exact ek,w2 _ _ _ E3 F3⟩
    · exact w2.elim
  | _=>exact w2.elim
def Zdp (i:Nat) (fe:EM):EM:=fun ρ θ=>(fe ρ θ).bind fun y θ=>match y,ρ[i]? with
  | .int n,some (Sl.own xs)=>match atI xs n with
    | some d=>.ok d θ
    | none=>.bad
  | _,_=>.bad
theorem Zd3 (i:Nat) {x:Str} {e:Expr} {fe:EM} {p pos:Pos} (he:ME X e fe) (hN:X.N[i]?=some x:=by rfl) (hvi:Vis X.env.scope x:=by first | exact Or.inl rfl | exact Or.inr (Or.inl rfl) | exact Or.inr (Or.inr rfl))
    (hd:(x == ("__debug__":Str))=false:=by decide) (hcd:(x == ("__classdict__":Str))=false:=by decide) (hs:ZdG e:=by intro _ _; rfl):ME X (.Subscript (.Name x p) e pos) (Zdp i fe):=
  PE.imp (ZiB Zg9 (ZaZ hN hvi hd hcd) he hs) fun σ H Q h=>by
  obtain ⟨B,θ,ρ,F,w⟩:=h
  have own:∃xs,ρ[i]?=some (Sl.own xs):=by
    unfold Zdp at w
    cases q:fe ρ θ with
    | bad=>rw [q] at w; exact w.elim
    | ex c θ'=>rw [q] at w; exact False.elim w
    | ok d θ'=>
      rw [q] at w
      simp only [R.bind_ok] at w
      split at w
      · rename_i xs e; exact ⟨_,e⟩
      · exact w.elim
  obtain ⟨xs,hx⟩:=own
  obtain ⟨a,vs,q1,q2,q3,q4⟩:=F.own i xs hx
  refine ⟨.ref a,q1,?_⟩
  refine ZJ (step F w) ?_
  rintro y H1 ⟨B1,θ1,dy,E1,F1,ry,w1⟩
  rw [hx] at w1
  obtain ⟨a',us,p1,p2,p3,p4⟩:=F1.own i xs hx
  rw [q1] at p1
  cases p1
  cases dy with
  | int n=>
    simp only at w1
    split at w1
    · rename_i d ed
      obtain ⟨v,h3,h4⟩:=p4.atI ed
      exact .inl ⟨a,us,n,v,rfl,ry,SqL.of p3,h3,Zs (Rel:=RepV) F1.good h4 w1⟩
    · exact w1.elim
  | _=>exact w1.elim
def ZaJ (i:Nat):EM:=fun ρ θ=>match ρ[i]? with
  | some (Sl.own xs)=>.ok (.int xs.length) θ
  | _=>.bad
theorem ZcR (i:Nat) {x f:Str} {p p' pos:Pos} (hm:X.mg f=none) (hv:bootBuiltins f=some (.builtin "len")) (hN:X.N[i]?=some x:=by rfl) (hvi:Vis X.env.scope x:=by first | exact Or.inl rfl | exact Or.inr (Or.inl rfl) | exact Or.inr (Or.inr rfl))
    (hd:(x == ("__debug__":Str))=false:=by decide) (hcd:(x == ("__classdict__":Str))=false:=by decide) (hg:Gl X f:=by rfl) (hn:f≠"__name__":=by decide) (hdb:(f == ("__debug__":Str))=false:=by decide):ME X (.Call (.Name f p') [.Name x p] [] pos) (ZaJ i):=
  PE.imp (Zbe Zbq hg hm hv (zY (ZaZ hN hvi hd hcd) ZbE) hn hdb) fun σ H Q h=>by
  obtain ⟨B,θ,ρ,F,w⟩:=h
  unfold ZaJ at w
  split at w
  · rename_i xs hx
    obtain ⟨a,vs,q1,q2,q3,q4⟩:=F.own i xs hx
    refine ⟨.ref a,q1,⟨a,vs,rfl,.inl (SqL.of q3),?_⟩⟩
    rw [q4.len]
    exact Zs (Rel:=RepV) F.good (show RepV B H (.int _) (.int _) from rfl) w
  · exact w.elim
end
section
variable {ρ:List Sl} {θ:Sto} {fe fi fv f:EM} {i:Nat}
@[simp] theorem ZkR:Zdp i fe ρ θ=(fe ρ θ).bind fun y θ=>match y,ρ[i]? with
  | .int n,some (Sl.own xs)=>match atI xs n with
    | some d=>.ok d θ
    | none=>.bad
  | _,_=>.bad:=nr rfl
@[simp] theorem ZjT:ZaJ i ρ θ=match ρ[i]? with
  | some (Sl.own xs)=>.ok (.int xs.length) θ
  | _=>.bad:=nr rfl
@[simp] theorem Zla:Zfj i fi fv ρ θ=(fv ρ θ).bind fun v θ=>(fi ρ θ).bind fun y θ=>match y,ρ[i]? with
  | .int n,some (Sl.own xs)=>match ixN xs.length n with
    | some k=>.ok (.nx,ρ.set i (.own (xs.set k v))) θ
    | none=>.bad
  | _,_=>.bad:=nr rfl
end
end L2.MM
namespace My
open PySem L2 L2.MM
noncomputable section
theorem Zeu {a:List Int} (h:Byt a) (hr:ZE a=false) (θ:Sto):zW [il a] θ=.ok .non θ:=by
  have gg:∀i:Nat,i<a.length→0≤gt a i∧gt a i≤255:=fun i hi=>by
    unfold gt
    have:=h.1 a[i] (List.getElem_mem hi)
    rw [List.getD_eq_getElem?_getD,List.getElem?_eq_getElem hi]
    exact this
  have ix:∀i:Nat,i<a.length→ixM (il a) (.int (i:Int)) θ=.ok (.int (gt a i)) θ:=fun i hi=>zi (a:=a) (θ:=θ) (i:=(i:Int)) (by omega) (by omega)
  by_cases c1:(a.length:Int)<20
  · simp [zW,Zac,b_l_read_1,isT,c1]
  · have R1:∀r,b_l_read_1 (.val (il a)::r) θ=.ok (.nx,.val (il a)::r) θ:=by
      intro r
      simp [b_l_read_1,isT,c1]
    have R2:∀r,b_l_read_2 (.val (il a)::r) θ=.ok (.nx,.val (il a)::r) θ:=by
      intro r
      have cp:=ZcU (ρ:=.val (il a)::r) (θ:=θ) (fi:=mIn (Ze 0)) (src:=[]) (elt:=mCB Za5 (Za (Ze 0) Zi)) (d:=il a) (xs:=a.map D.int) (θ':=θ) (fun _=>.bl true) (by simp) rfl (by have:=h.2; simp [BIG]; omega) (by
        intro x hx
        obtain ⟨z,hz,rfl⟩:=List.mem_map.mp hx
        simp [ZeZ (h.1 z hz)])
      have al:Zga [D.lst ((a.map D.int).map fun _=>D.bl true)] θ=.ok (.bl true) θ:=by
        rw [Zit,Zfu]
        simp only [Zen]
      obtain ⟨q,hq⟩:∃x,x=D.lst ((a.map D.int).map fun _=>D.bl true):=⟨_,rfl⟩
      rw [←hq] at cp al
      simp [b_l_read_2,cp,al]
    have i12:ixM (il a) (.int 12) θ=.ok (.int (gt a 12)) θ:=ix 12 (by omega)
    have i13:ixM (il a) (.int 13) θ=.ok (.int (gt a 13)) θ:=ix 13 (by omega)
    have i18:ixM (il a) (.int 18) θ=.ok (.int (gt a 18)) θ:=ix 18 (by omega)
    have i19:ixM (il a) (.int 19) θ=.ok (.int (gt a 19)) θ:=ix 19 (by omega)
    have b12:=gg 12 (by omega)
    have b13:=gg 13 (by omega)
    have b18:=gg 18 (by omega)
    have b19:=gg 19 (by omega)
    obtain ⟨hd,hhd⟩:∃x,x=gt a 12/4:=⟨_,rfl⟩
    by_cases c3:(gt a 12=80∨gt a 12=96)∧gt a 13≤31∧gt a 18+gt a 19≤0
    · obtain ⟨d1,d2,d3⟩:=c3
      have hb:ze a=hd:=by rw [hhd]; unfold ze; rcases d1 with e | e<;>rw [e]<;>rfl
      have hv:hd=20∨hd=24:=by rw [hhd]; omega
      have R3:∀r,b_l_read_3 (.val (il a)::r) θ=.ok (.nx,.val (il a)::r) θ:=by
        intro r
        have d1':(gt a 12=80∨gt a 12=96):=d1
        simp [b_l_read_3,i12,i13,i18,i19,Zbg,d1',show ¬(31:Int)<gt a 13 by omega,show ¬(0:Int)<gt a 18+gt a 19 by omega]
      have fo:=ZaH h θ
      by_cases c4:hd≤(a.length:Int)∧(a.length:Int)≤hd+16∧ZI (Zt a)=65535
      · obtain ⟨e1,e2,e3⟩:=c4
        have R4:∀r,b_l_read_4 (.val (il a)::.val (.int hd)::r) θ=.ok (.nx,.val (il a)::.val (.int hd)::r) θ:=by
          intro r
          simp [b_l_read_4,fo,e1,e2,e3]
        have z18:at2 a 18=0:=by unfold at2; simp only [Nat.reduceAdd]; omega
        have lng:hd=24∧longOk a=false:=by
          unfold ZE at hr
          rw [decide_eq_true (show 20≤a.length by omega),decide_eq_true d1,decide_eq_true d2,hb,decide_eq_true (show 0≤(a.length:Int)-hd∧(a.length:Int)-hd≤16 by omega),decide_eq_true z18,decide_eq_true e3] at hr
          simp only [Bool.true_and,Bool.and_true,Bool.or_eq_false_iff,decide_eq_false_iff_not] at hr
          exact ⟨hv.resolve_left hr.1,hr.2⟩
        have h24:24≤a.length:=by have:=lng.1; omega
        have i22:ixM (il a) (.int 22) θ=.ok (.int (gt a 22)) θ:=ix 22 (by omega)
        have i23:ixM (il a) (.int 23) θ=.ok (.int (gt a 23)) θ:=ix 23 (by omega)
        have b22:=gg 22 (by omega)
        have b23:=gg 23 (by omega)
        have m22:gt a 22*256+gt a 23=at2 a 22:=by unfold at2; simp only [Nat.reduceAdd]; omega
        have mb:Zbb (gt a 22) 256:=.inr (by omega)
        have cu:zz a (some 20) (some 22)=[gt a 20,gt a 21]:=by
          rw [Zfq _ (by decide) (by decide),show (20:Int).toNat=20 from rfl,show (22:Int).toNat-20=2 from rfl,List.drop_eq_getElem_cons (show 20<a.length by omega),List.drop_eq_getElem_cons (show 21<a.length by omega)]
          rw [List.take_succ_cons,List.take_succ_cons,List.take_zero]
          unfold gt
          rw [List.getD_eq_getElem?_getD,List.getD_eq_getElem?_getD,List.getElem?_eq_getElem (show 20<a.length by omega),List.getElem?_eq_getElem (show 21<a.length by omega)]
          rfl
        have lo:¬(gt a 13/2 % 2=1∧gt a 20=2∧gt a 21=4∧4≤at2 a 22):=by
          intro z
          have:=lng.2
          unfold longOk at this
          rw [ZiL (by omega) (by omega),decide_eq_true z.1,decide_eq_true z.2.1,decide_eq_true z.2.2.1,decide_eq_true z.2.2.2] at this
          cases this
        have R6:∀x y,∃ρ,b_l_read_6 [.val (il a),.val (.int hd),.val (.int 0),x,y] θ=.ok (.rt .non,ρ) θ:=by
          intro x y
          refine ⟨[.val (il a),.val (.int hd),.val (.int (at2 a 22)),x,y],?_⟩
          by_cases q1:gt a 13/2 % 2=0
          · simp [b_l_read_6,zX,lng.1,i22,i23,i13,q1,m22,mb]
          · by_cases q2:[gt a 20,gt a 21]=[2,4]
            · have q3:at2 a 22<4:=by
                simp only [List.cons.injEq,and_true] at q2
                by_cases q4:at2 a 22<4
                · exact q4
                · exact absurd ⟨by omega,q2.1,q2.2,by omega⟩ lo
              simp only [List.cons.injEq,and_true] at q2
              simp [b_l_read_6,zX,lng.1,i22,i23,i13,q1,cu,q2.1,q2.2,m22,mb,q3]
            · have ne:∀θ,neM (il [gt a 20,gt a 21]) (il [2,4]) θ=.ok (.bl true) θ:=fun θ=>by rw [ZiE,decide_eq_false q2]; rfl
              simp [b_l_read_6,zX,lng.1,i22,i23,i13,q1,cu,ne,m22,mb,-ZiE]
        obtain ⟨ρ,R6'⟩:=R6 .no .no
        simp [zW,Zac,R1,R2,i12,←hhd,R3,R4,R6']
      · have R4:∀r,b_l_read_4 (.val (il a)::.val (.int hd)::r) θ=.ok (.rt .non,.val (il a)::.val (.int hd)::r) θ:=by
          intro r
          by_cases q1:hd≤(a.length:Int)
          · by_cases q2:(a.length:Int)≤hd+16
            · have q3:¬ZI (Zt a)=65535:=fun z=>c4 ⟨q1,q2,z⟩
              simp [b_l_read_4,fo,q1,q2,q3]
            · simp [b_l_read_4,q1,q2]
          · simp [b_l_read_4,q1]
        simp [zW,Zac,R1,R2,i12,←hhd,R3,R4]
    · have R3:∀r,b_l_read_3 (.val (il a)::r) θ=.ok (.rt .non,.val (il a)::r) θ:=by
        intro r
        by_cases q1:gt a 12=80∨gt a 12=96
        · by_cases q2:gt a 13≤31
          · have q3:(0:Int)<gt a 18+gt a 19:=by
              by_cases q:gt a 18+gt a 19≤0
              · exact absurd ⟨q1,q2,q⟩ c3
              · omega
            simp [b_l_read_3,i12,i13,i18,i19,Zbg,q1,show ¬(31:Int)<gt a 13 by omega,q3]
          · simp [b_l_read_3,i12,i13,Zbg,q1,show (31:Int)<gt a 13 by omega]
        · simp [b_l_read_3,i12,Zbg,q1]
      simp [zW,Zac,R1,R2,i12,←hhd,R3]
theorem Zd7 (n:Nat):∀xs:List Int,ZcB n (xs.map D.int)=true
  | []=>by simp [ZcB]
  | x::r=>by simp [ZcB,ZcC,Zd7 n r]
end
end My
namespace L2.MM
open PySem PySem.Spec PyProof.Rows PySem.W
section
variable {P:Program} {w:World} {H H':Hp} {h h':Heap} {a:Addr} {o:HO}
theorem obj_there (x:ObjOk P w H h a o):∃u,h.get? a=some u:=by
  cases o with
  | lst xs=>obtain ⟨_,_,_,_,e⟩:=x; exact ⟨_,e⟩
  | tup xs=>obtain ⟨_,_,_,ob,e,_⟩:=x; exact ⟨_,e⟩
  | dK kvs=>obtain ⟨_,_,_,_,o,_,_,e,_⟩:=x; exact ⟨_,e⟩
  | dT kvs=>obtain ⟨_,_,_,_,o,_,_,e,_⟩:=x; exact ⟨_,e⟩
  | set S n=>obtain ⟨o,_,_,_,e,_⟩:=x; exact ⟨_,e⟩
  | ins C dx fs=>obtain ⟨_,_,_,e,_⟩:=x; exact ⟨_,e⟩
  | own y=>obtain ⟨_,e⟩:=x; exact ⟨_,e⟩
  | xd fs=>obtain ⟨_,⟨_,_,_,e,_⟩,_⟩:=x; exact ⟨_,e⟩
  | rng lo hi=>obtain ⟨_,_,_,e⟩:=x; exact ⟨_,e⟩
  | frz ob u=>obtain ⟨e,_⟩:=x; exact ⟨_,e⟩
  | tbl ps=>exact ⟨_,(show h.get? a=some _ from x)⟩
  | met f y=>exact ⟨_,(show h.get? a=some _ from x)⟩
  | ext φ=>obtain ⟨_,⟨_,e⟩,_⟩:=x; exact ⟨_,e⟩
theorem Zbn (x:HOk P w H h) (k:∀b u o,H b=some o→h.get? b=some u→h'.get? b=some u):HOk P w H h':=fun b o e=>
  (x b o e).stay (fun c u hc q=>hc.elim (fun z=>k c u o (by rw [z]; exact e) q) (fun z=>k c u _ z q)) (fun _ q=>q) fun _ _ q=>q
end
structure FlyT (base:Heap) (l:List Env) (x T:Addr) (C:Addr) (fl:Value) (h:Heap):Prop where
  bx:base.get? x=none
  bT:base.get? T=none
  st:base.StaysIn h
  fun_:h.FunFrames base l
  tr:∃oe vs oT ts a0,h.get? x=some oe∧oe.cls=.ref C∧vs[0]?=some a0∧oe.data=.fields vs∧vs[1]?=some (.ref T)∧T≠x∧h.get? T=some oT∧oT.data=.fields ts∧ts[3]?=some fl
structure FlyS (P:Program) (w:World) (base:Heap) (l:List Env) (H:Hp) (s:Heap) (x T C:Addr) (fl:Value) (H':Hp) (h:Heap):Prop where
  un:Un (frs l) [] H H' s h
  hok:HOk P w H' h
  nx:s.get? x=none
  nT:s.get? T=none
  ux:H' x=none
  uT:H' T=none
  fly:FlyT base l x T C fl h
section
variable {P:Program} {w:World} {base:Heap} {l:List Env} {H H':Hp} {s h h':Heap} {x T C:Addr} {fl fl':Value}
abbrev hid (h:Heap) (l:List Env) (x T:Addr):Heap:=hideAll h (frs l++[x,T])
theorem FlyT.nfr (f:FlyT base l x T C fl h):x∉frs l∧T∉frs l:=by
  obtain ⟨oe,vs,oT,ts,a0,h1,h2,h3,h4,h5,h6,h7,h8,h9⟩:=f.tr
  refine ⟨fun z=>?_,fun z=>?_⟩
  · obtain ⟨_,o,ho,hn⟩:=f.fun_.mem z
    rw [h1] at ho; cases ho
    exact hn vs h4
  · obtain ⟨_,o,ho,hn⟩:=f.fun_.mem z
    rw [h7] at ho; cases ho
    exact hn ts h8
theorem Zhg (f:FlyT base l x T C fl h):base.StaysIn (hid h l x T):=fun b o e=>by
  refine hideAll_get _ (f.st b o e) fun z=>?_
  rcases List.mem_append.mp z with z | z
  · have:=(f.fun_.mem z).1
    rw [e] at this; cases this
  · simp only [List.mem_cons,List.not_mem_nil,or_false] at z
    rcases z with rfl | rfl
    · rw [f.bx] at e; cases e
    · rw [f.bT] at e; cases e
theorem Zdt (f:FlyT base l x T C fl h):∃a0,(hid h l x T).StaysIn h∧(hid h l x T).get? x=none∧h.FunFrames (hid h l x T) l∧h.TracedAtW (hid h l x T) x (.ref C) a0 fl:=by
  obtain ⟨oe,vs,oT,ts,a0,h1,h2,h3,h4,h5,h6,h7,h8,h9⟩:=f.tr
  exact ⟨a0,fun b o e=>of_hideAll _ e,hideAll_none _ (by simp),funFrames_hide f.fun_ (fun env he b hb=>List.mem_append_left _ (List.mem_filterMap.mpr ⟨env,he,hb⟩)),oe,vs,T,oT,ts,h1,⟨h2,h3⟩,h4,h5,hideAll_none _ (by simp),h6,h7,h8,h9⟩
theorem FlyS.move {a0:Value} {l':List Env} (F:FlyS P w base l H s x T C fl H' h) (hfr:∀b∈frs l,H b=none) (hl:∀b∈frs l,b∈frs l'∨s.get? b=none) (k1:(hid h l x T).StaysIn h') (k2:h'.FunFrames (hid h l x T) l') (k3:h'.TracedAtW (hid h l x T) x (.ref C) a0 fl') (k4:h.UpToSlots h') (hsub:∀b∈frs l',b∈frs l) (ku:∀b∈frs l,s.get? b=none∨b∈frs l' ) (hh:∀b∈frs l,H' b=none) :
    ∃T',FlyS P w base l' H s x T' C fl' H' h':=by
  have hb:=Zhg F.fly
  have nf:=F.fly.nfr
  obtain ⟨oe,vs,T',oT,ts,h1,⟨h2,h3⟩,h4,h5,h6,h7,h8,h9,h10⟩:=k3
  have inB:∀b o,h.get? b=some o→b∉frs l→b≠x→b≠T→h'.get? b=some o:=fun b o e n1 n2 n3=>k1 b o (hideAll_get _ e (by simp [n1,n2,n3]))
  have nT':T'∉frs l':=fun z=>by
    obtain ⟨_,o,ho,hn⟩:=k2.mem z
    rw [h8] at ho; cases ho
    exact hn ts h9
  have frk:∀b o,b∈frs l→h.get? b=some o→∃sl,h'.get? b=some { o with slots:=sl }:=fun b o z e=>by
    obtain ⟨_,o',ho',hn⟩:=F.fly.fun_.mem z
    rw [e] at ho'; cases ho'
    exact k4 b o e hn
  have gone:T'=T∨h.get? T'=none∨(T'∈frs l):=by
    by_cases z:T'=T
    · exact .inl z
    · by_cases y:T'∈frs l
      · exact .inr (.inr y)
      · right; left
        cases e:h.get? T' with
        | none=>rfl
        | some o=>
          have:=hideAll_get (frs l++[x,T]) e (by simp [z,y,h7])
          rw [this] at h6; cases h6
  have nfl:T'∉frs l:=fun z=>by
    obtain ⟨_,o,ho,hn⟩:=F.fly.fun_.mem z
    obtain ⟨sl,q⟩:=frk T' o z ho
    rw [h8] at q; cases q
    exact hn ts h9
  refine ⟨T',⟨⟨fun b o e n hb' _=>?_,fun b o e n hb' _=>?_,fun b o e n _=>F.un.free b o e n (by simp),fun b o e _=>?_,F.un.tups,F.un.frzs,F.un.tbls⟩,?_,F.nx,?_,F.ux,?_,⟨F.fly.bx,?_,fun b o e=>k1 b o (hb b o e),funFrames_base hb k2,oe,vs,oT,ts,a0,h1,h2,h3,h4,h5,h7,h8,h9,h10⟩⟩⟩
  · have nb:b∉frs l:=fun z=>(hl b z).elim hb' (fun y=>by rw [e] at y; cases y)
    exact inB b o (F.un.keep b o e n nb (by simp)) nb (fun z=>by rw [z,F.nx] at e; cases e) (fun z=>by rw [z,F.nT] at e; cases e)
  · obtain ⟨sl,q⟩:=F.un.slot b o e n (hsub b hb') (by simp)
    obtain ⟨sl2,q2⟩:=frk b _ (hsub b hb') q
    exact ⟨sl2,q2⟩
  · obtain ⟨o',q⟩:=F.un.there b o e (by simp)
    by_cases z:b∈frs l
    · obtain ⟨sl,q2⟩:=frk b o' z q
      exact ⟨_,q2⟩
    · exact ⟨o',inB b o' q z (fun z=>by rw [z,F.nx] at e; cases e) (fun z=>by rw [z,F.nT] at e; cases e)⟩
  · refine Zbn F.hok fun b u o e q=>inB b u q (fun z=>by rw [hh b z] at e; cases e) (fun z=>by rw [z,F.ux] at e; cases e) (fun z=>by rw [z,F.uT] at e; cases e)
  · rcases gone with z | z | z
    · rw [z]; exact F.nT
    · cases e:s.get? T' with
      | none=>rfl
      | some o=>obtain ⟨o',q⟩:=F.un.there T' o e (by simp); rw [z] at q; cases q
    · exact absurd z nfl
  · rcases gone with z | z | z
    · rw [z]; exact F.uT
    · cases e:H' T' with
      | none=>rfl
      | some o=>obtain ⟨u,q⟩:=obj_there (F.hok T' o e); rw [z] at q; cases q
    · exact absurd z nfl
  · cases e:base.get? T' with
    | none=>rfl
    | some o=>have:=hb T' o e; rw [this] at h6; cases h6
end
end L2.MM
namespace L2.MM
open PySem PySem.Spec PyProof.Rows PySem.W
def CX1 (P:Program) (w:World) (base:Heap) (C:Addr):CXT:=fun outer H s E e s'=>∃x T H',e=.ref x∧s'.os=s.os∧AllBare s'.gens∧FlyS P w base outer H s.heap x T C .none H' s'.heap∧E (.ref C) none H'
section
variable {P:Program} {w:World} {K:PySem.W.Frag} {mg:Str→Option Value} {base:Heap} {N:List Str} {qual:Str} {scope:Scope} {f C:Addr} {cd:Value} {A:Around} {outer:List Env} {s:Shared} {H:Hp} {E:XK} {CX:CXT}
theorem ZeK {pins:List (Addr×Obj)} {σ:St} {H1:Hp} {s1:Shared} {e:Addr} {vs:List Value} {h':Heap} {M:Model} {E':Value→Shared→Prop} (I:Inv (ZaT CX P w K mg base N qual scope f cd A outer s H E) pins σ H1 s1) (hx:Heap.MadeExcOf s1.heap h' e (.ref C) vs) (hE:E (.ref C) none H1) :
    wpAny M (A.deeper (envOfC qual scope s.heap.objs.size f cd)) (leaving (envOfC qual scope s.heap.objs.size f cd) (.ref e)) (fun _ s''=>CX1 P w base C outer H s E (.ref e) s'') E' { s1 with heap:=h' }:=by
  obtain ⟨X,hX⟩:∃X,X=ZaT CX P w K mg base N qual scope f cd A outer s H E:=⟨_,rfl⟩
  rw [←hX] at I
  have eb:X.base=base:=by rw [hX]; rfl
  have es:X.stack=envOfC qual scope s.heap.objs.size f cd::outer:=by rw [hX]; rfl
  have ef:X.fs=frs outer:=by rw [hX]; rfl
  have e0:X.s₀=s:=by rw [hX]; rfl
  have eH:X.H₀=H:=by rw [hX]; rfl
  have eX:X.ex=[]:=by rw [hX]; rfl
  have eP:X.prog=P:=by rw [hX]; rfl
  have ew:X.w=w:=by rw [hX]; rfl
  have eL:X.env.locals=s.heap.objs.size:=by rw [hX]; rfl
  have hfr:(A.deeper (envOfC qual scope s.heap.objs.size f cd)).frames=some (envOfC qual scope s.heap.objs.size f cd::outer):=by
    have:=I.ok.frames
    rw [es] at this
    rw [hX] at this
    exact this
  have stk:=I.stack
  rw [es,eb] at stk
  obtain ⟨L,hL⟩:∃q,q=s.heap.objs.size:=⟨_,rfl⟩
  have fl:frs (envOfC qual scope s.heap.objs.size f cd::outer)=s.heap.objs.size::frs outer:=rfl
  obtain ⟨B,hB⟩:∃B,B=hideAll s1.heap (frs (envOfC qual scope s.heap.objs.size f cd::outer)):=⟨_,rfl⟩
  have bk:=I.bk
  rw [eb] at bk
  have stB:base.StaysIn B:=fun b o q=>by
    rw [hB]
    refine hideAll_get _ (bk b o q) fun hm=>?_
    have:=(stk.mem hm).1
    rw [q] at this; cases this
  have fnB:s1.heap.FunFrames B (envOfC qual scope s.heap.objs.size f cd::outer):=by
    rw [hB]
    exact funFrames_hide stk fun env he b hb=>List.mem_filterMap.mpr ⟨env,he,hb⟩
  refine wpAny_leaves_madeW (base:=B) (h:=s1.heap) hfr rfl (fun b o q=>by rw [hB] at q; exact of_hideAll _ q) fnB hx fun hh t x1 x2 x3 x4=>?_
  obtain ⟨k1,k2,k3,oe,vs',T,oT,ts,h1,⟨h2,h3⟩,h4,h5,h6,h7,h8,h9,h10⟩:=x1
  have inB:∀b o,s1.heap.get? b=some o→b∉s.heap.objs.size::frs outer→hh.get? b=some o:=fun b o q n=>k1 b o (by rw [hB,fl]; exact hideAll_get _ q n)
  have nfr:∀b,b∈s.heap.objs.size::frs outer→s1.heap.get? b=none→False:=fun b hb q=>by
    obtain ⟨_,o,ho,_⟩:=stk.mem (b:=b) hb
    rw [q] at ho; cases ho
  have u:Un (frs outer) [] H H1 s.heap s1.heap:=by
    have:=I.base
    rw [ef,eX,e0,eH] at this
    exact this
  have nT:s1.heap.get? T=none:=by
    cases q:s1.heap.get? T with
    | none=>rfl
    | some o=>
      by_cases z:T∈s.heap.objs.size::frs outer
      · obtain ⟨_,o',ho',hn⟩:=stk.mem (b:=T) z
        obtain ⟨sl,y⟩:=x4 T o' (hx.keeps T o' ho') hn
        rw [h8] at y; cases y
        exact absurd h9 (hn ts)
      · have:B.get? T=some o:=by rw [hB,fl]; exact hideAll_get _ q z
        rw [this] at h6; cases h6
  have hok:HOk P w H1 s1.heap:=by
    have:=I.hok
    rw [eP,ew] at this
    exact this
  have fre:∀b∈s.heap.objs.size::frs outer,H1 b=none:=fun b hb=>by
    have:=I.stkFree b
    rw [es] at this
    exact this hb
  have ltL:∀b o,s.heap.get? b=some o→b≠s.heap.objs.size:=fun b o q=>Nat.ne_of_lt (Heap.lt_size q)
  have sl4:∀b o,b∈frs outer→s1.heap.get? b=some o→∃sl,hh.get? b=some { o with slots:=sl }:=fun b o hb q=>by
    obtain ⟨_,o',ho',hn⟩:=stk.mem (b:=b) (List.mem_cons_of_mem _ hb)
    rw [q] at ho'; cases ho'
    exact x4 b o (hx.keeps b o q) hn
  refine ⟨e,T,H1,rfl,?_,?_,⟨⟨fun b o q n hb _=>?_,fun b o q n hb _=>?_,fun b o q n _=>u.free b o q n (by simp),fun b o q _=>?_,u.tups,u.frzs,u.tbls⟩,?_,?_,?_,?_,?_,⟨?_,?_,fun b o q=>k1 b o (stB b o q),funFrames_base stB k3,oe,vs',oT,ts,.ref t,h1,h2,h3,h4,h5,h7,h8,h9,h10⟩⟩,hE⟩
  · have:=I.os
    rw [e0] at this
    exact this
  · exact I.bare
  · exact inB b o (u.keep b o q n hb (by simp)) (fun z=>(List.mem_cons.mp z).elim (ltL b o q) hb)
  · obtain ⟨sl,y⟩:=u.slot b o q n hb (by simp)
    obtain ⟨sl2,y2⟩:=sl4 b _ hb y
    exact ⟨sl2,y2⟩
  · obtain ⟨o',y⟩:=u.there b o q (by simp)
    by_cases z:b∈frs outer
    · obtain ⟨sl,y2⟩:=sl4 b o' z y
      exact ⟨_,y2⟩
    · exact ⟨o',inB b o' y (fun z'=>(List.mem_cons.mp z').elim (ltL b o q) z)⟩
  · refine Zbn hok fun b v o q y=>inB b v y (fun z=>by rw [fre b z] at q; cases q)
  · cases q:s.heap.get? e with
    | none=>rfl
    | some o=>obtain ⟨o',y⟩:=u.there e o q (by simp); rw [hx.new] at y; cases y
  · cases q:s.heap.get? T with
    | none=>rfl
    | some o=>obtain ⟨o',y⟩:=u.there T o q (by simp); rw [nT] at y; cases y
  · cases q:H1 e with
    | none=>rfl
    | some o=>obtain ⟨o',y⟩:=obj_there (hok e o q); rw [hx.new] at y; cases y
  · cases q:H1 T with
    | none=>rfl
    | some o=>obtain ⟨o',y⟩:=obj_there (hok T o q); rw [nT] at y; cases y
  · cases q:base.get? e with
    | none=>rfl
    | some o=>have:=stB e o q; rw [k2] at this; cases this
  · cases q:base.get? T with
    | none=>rfl
    | some o=>have:=stB T o q; rw [h6] at this; cases this
theorem ZgC {x txt:Str} {j np cpos pos tpos} {B Bn newId nid initId inN:String} {bm bmN:List Value} (O:OwnCls x C bm newId mg base) (Fn:ExcBaseFacts Bn newId inN bmN) (hBn:bm.contains (.type Bn)=true) (FB:ExcBaseFacts B nid initId bm)
    (hg:Gl (ZaT (CX1 P w base C) P w K mg base N qual scope f cd A outer s H E) x:=by rfl) (hd:(x == ("__debug__":Str))=false:=by decide) :
    PS (ZaT (CX1 P w base C) P w K mg base N qual scope f cd A outer s H E) (.Raise (some (.Call (.Name x np) [.Constant (.str txt) j tpos] [] cpos)) none pos) (fun _ _ H1=>E (.ref C) none H1):=by
  intro pins s1 σ H1 D I hE
  obtain ⟨tl,Nn,nm,q,bs,hdct,sn,sub,ab,col,dd,k0,k1,k2,k3,k5,mN,hC,hN,hni,T⟩:=O.obj
  refine wpAny_Raise_call_subU (C:=C) (nm:=nm) (q:=q) (N:=Nn) (bs:=bs) (bm:=tl) (hdct:=hdct) (sn:=sn) (sub:=sub) (ab:=ab) (col:=col) (dd:=dd) (k0:=k0) (k1:=k1) (k2:=k2) (k3:=k3) (k5:=k5)
    Fn hBn FB (mN:=mN) (T.hasType FB.hasBase) (I.ok.hd rfl) rfl hni (Zbk I hg O.bound ⟨rfl,?_⟩ hd)
  have pa:PA (ZaT (CX1 P w base C) P w K mg base N qual scope f cd A outer s H E) [.Constant (.str txt) j tpos] (Zgt (tC (.str txt)) ZiW):=zY Zjb ZbE
  have h:=pa cpos pins s1 σ H1 (fun vs H2=>vs.length≤1∧E (.ref C) none H2) I (by exact ⟨by simp,hE⟩)
  refine Calls.evalArgs_plain (wpAny_mono h (fun vs s2 h2=>?_) fun _ _ y=>y)
  obtain ⟨ws,H2,I2,r,hl,hE2⟩:=h2
  have b2:=I2.bk
  refine ⟨rfl,?_,b2 _ _ hC,hN.keeps b2,T.keeps b2,fun h' e hx=>ZeK I2 hx hE2⟩
  have:=r.length
  show vs.length≤sizeLine
  have:vs.length≤1:=by omega
  refine Nat.le_trans this ?_
  decide
end
end L2.MM
namespace L2.MM
open PySem PySem.Spec PyProof.Rows PySem.W PySem.SeqAt
noncomputable section
def ZcT (c:Str) (np nn:Nat) (test:TMr) (fb:SM):GM:=fun ds θ=>if ds.length=np then (match test (ZP nn ds) θ with
  | .ok true θ=>.ex c θ
  | .ok false θ=>(match fb (ZP nn ds) θ with
    | .ok (.nx,_) θ=>.ok .non θ
    | .ok (.rt d,_) θ=>.ok d θ
    | _=>.bad)
  | _=>.bad)
  else .bad
def spX (X:Mo) (C:Addr) (f:GM):Sp:=fun vs H Q E=>∃B θ ds,B.os=[]∧Good X B θ H∧RepL B H ds vs∧(match f ds θ with
  | .ok d θ'=>∀B' H' v,ExtE B B' H H'→Good X B' θ' H'→RepV B' H' d v→Q v H'
  | .ex _ θ'=>∀B' H',ExtE B B' H H'→Good X B' θ' H'→E (.ref C) none H'
  | .bad=>False)
theorem Zlz {P:Program} {w:World} {K:PySem.W.Frag} {mg:Str→Option Value} {base:Heap} {x qual:Str} {st:Stmt} {N ps:List Str} {k:Nat} {test:TMr} {fb:SM} {f C:Addr} {fd:FuncData} {xc txt:Str} {j np' cp rp ip tp} {c:Expr} {rest:List Stmt} {Bb Bn newId nid initId inN:String} {bm bmN:List Value} (cn:Str)
    (F:Fun K x qual st f fd) (S:ZC N ps (Zj st)) (np nn:Nat) (hp:ps.length=np) (hn:N.length=nn)
    (hst:Zy st=.If c [.Raise (some (.Call (.Name xc np') [.Constant (.str txt) j tp] [] cp)) none rp] [] ip::rest)
    (O:OwnCls xc C bm newId mg base) (Fn:ExcBaseFacts Bn newId inN bmN) (hBn:bm.contains (.type Bn)=true) (FB:ExcBaseFacts Bb nid initId bm)
    (hg:(Zj st).names.lookup xc=some .globalImplicit) (hdb:(xc == ("__debug__":Str))=false)
    (hbody:∀(cdv:Value) (A:Around) (outer:List Env) (s:Shared) (H:Hp) (E:XK),Room k (A.deeper (envOfC qual (Zj st) s.heap.objs.size f cdv))→MT (ZaT (CX1 P w base C) P w K mg base N qual (Zj st) f cdv A outer s H E).nox c test∧MSs (ZaT (CX1 P w base C) P w K mg base N qual (Zj st) f cdv A outer s H E).nox rest fb) :
    FnOk P w K mg base (CX1 P w base C) (k+1) f fd ps (spX ⟨ZcD mg,K⟩ C (ZcT cn np nn test fb)):=by
  obtain ⟨oc,od,kV,doc,pm,an,cdv,ct,osl,rfl,lk,hcd⟩:=F.ex
  refine ZiH lk hcd S ?_ fun A outer s H vs Q E hr hsp=>?_
  · rintro vs H Q E ⟨B,θ,ds,_,_,r,q⟩
    unfold ZcT at q
    by_cases hl:ds.length=np
    · rw [r.len,hl,hp]
    · rw [if_neg hl] at q; exact q.elim
  · obtain ⟨B,θ,ds,hos,G,r,q⟩:=hsp
    obtain ⟨hT,hR⟩:=hbody cdv A outer s H E hr
    have pr:=ZgC (P:=P) (w:=w) (K:=K) (mg:=mg) (base:=base) (N:=N) (qual:=qual) (scope:=Zj st) (f:=f) (C:=C) (cd:=cdv) (A:=A) (outer:=outer) (s:=s) (H:=H) (E:=E) (x:=xc) (txt:=txt) (j:=j) (np:=np') (cpos:=cp) (pos:=rp) (tpos:=tp) O Fn hBn FB hg hdb
    refine ⟨_,by rw [hst]; exact ZdY (Ziz (PT.nox hT) (Zde pr) Ze7) (PSs.nox hR),?_⟩
    refine ⟨B,θ,ZP nn ds,Zbz G r hn,?_⟩
    unfold ZcT at q
    by_cases hl:ds.length=np
    · rw [if_pos hl] at q
      cases e:test (ZP nn ds) θ with
      | bad=>rw [e] at q; exact q.elim
      | ex c θ'=>rw [e] at q; exact q.elim
      | ok b θ1=>
        rw [e] at q
        intro B1 H1 b' E1 G1 rb
        cases (show b=b' from rb)
        cases b with
        | true=>exact q B1 H1 E1 G1
        | false=>
          dsimp only at q
          have F1:=(Zbz (N:=N) G r hn).ext E1 G1
          refine ⟨B1,θ1,ZP nn ds,F1,?_⟩
          cases e2:fb (ZP nn ds) θ1 with
          | bad=>rw [e2] at q; exact q.elim
          | ex c θ'=>rw [e2] at q; exact q.elim
          | ok p θ'=>
            rw [e2] at q
            obtain ⟨fl,ρ'⟩:=p
            intro B' H' σ' E' F'
            have hos1:B1.os=[]:=by rw [E1.osE]; exact hos
            have hos':∀a,a∈B.os→False:=fun a ha=>by rw [hos] at ha; cases ha
            have E0:ExtS B B' H H':=E1.toExtS.trans E'
            let B2:Bx:={ B' with os:=[] }
            have E2:ExtE B B2 H H':=⟨⟨E0.n,E0.m,E0.fr,E0.keep,E0.sm,fun a ha=>(nomatch ha),E0.F,E0.ks⟩,hos.symm,fun a o ha=>(hos' a ha).elim⟩
            have E3:ExtS B' B2 H' H':=⟨Nat.le_refl _,fun _ _=>rfl,fun i h h'=>absurd h' (Nat.not_lt.mpr h),fun _ _ e _ _=>e,fun _ e=>e,fun b hb=>(nomatch hb),rfl,rfl⟩
            have G2:Good ⟨ZcD mg,K⟩ B2 θ' H':=⟨F'.good.len,F'.good.inj,fun j c e=>(F'.good.cel j c e).ext E3 fun _ q=>q,fun j hj=>⟨(F'.good.cF j hj).1,fun z=>nomatch z⟩,F'.good.Fs,fun b z=>(nomatch z),fun b z=>(nomatch z),F'.good.kc⟩
            cases fl with
            | nx=>exact q B2 H' .non E2 G2 rfl
            | rt d=>exact fun v rv=>q B2 H' v E2 G2 (rv.ext E3)
            | bk=>exact q.elim
            | ct=>exact q.elim
    · rw [if_neg hl] at q
      exact q.elim
end
end L2.MM
namespace L2.MM
open PySem PySem.Spec PyProof.Rows PySem.W PySem.Calls
section
variable {prog:Program} {w:World} {A:Around} {E:Value→Shared→Prop} {h:Heap} {g:Array GenState} {d:Drawn} {tk:Nat} {os:OsState}
variable {nm q:Str} {C N:Addr} {bs bm:List Value} {hdct:Bool} {sn:List Str} {sub:List Value} {ab:Bool} {col:Option Bool} {dd:Option Addr} {k0 k1 k2 k3 k5:Option Value} {newId:String}
theorem Zhb {x:Addr} {oe:Obj} {Q:Value→Shared→Prop} (he:h.get? x=some oe) (hcls:oe.cls=.ref C) (hq:Q (.bool true) ⟨h,g,d,tk,os⟩) :
    wpAny (model prog w) A (call (.builtin "isinstance") [.ref x,.ref C]) Q E ⟨h,g,d,tk,os⟩:=by
  refine call_isinstance_of ?_ (by intro e; cases e)
  unfold Builtin.«isinstance.nested»
  have hb:(Value.ref C == Value.ref C)=true:=by simp
  repeat (first | (with_reducible refine wpAny_loadPart_at he ?_; rw [hcls]) | wp_step)
  exact hq
theorem Zha {x:Addr} {oe:Obj} {T:String} {Q:Value→Shared→Prop} (he:h.get? x=some oe) (hcls:oe.cls=.ref C) (hC:h.get? C=some (excClassObj nm q C N bs bm hdct sn sub ab col dd k0 k1 k2 k3 k5 newId)) (hty:typeOf (.type T)=pure (.type "type")) (hb:bm.contains (.type T)=true) (hq:Q (.bool true) ⟨h,g,d,tk,os⟩) :
    wpAny (model prog w) A (call (.builtin "isinstance") [.ref x,.type T]) Q E ⟨h,g,d,tk,os⟩:=by
  refine call_isinstance_of ?_ (by intro e; cases e)
  have hc:(Value.ref C::bm).contains (.type T)=true:=by rw [List.contains_cons,hb,Bool.or_true]
  have hne:(Value.ref C == Value.type T)=false:=by simp
  unfold Builtin.«isinstance.nested»
  repeat (first | (with_reducible refine wpAny_loadPart_at he ?_; rw [hcls]) | (with_reducible refine wpAny_isSubtype_exc hC ?_; rw [hc]) | (refine wpAny_bind (m:=typeOf (.type T)) (wpAny_of_eq hty ?_)) | wp_step)
  exact hq
variable {nm' q':Str} {W N':Addr} {bs' bm':List Value} {hdct':Bool} {sn':List Str} {sub':List Value} {ab':Bool} {col':Option Bool} {dd':Option Addr} {k0' k1' k2' k3' k5':Option Value} {newId':String}
theorem Zdn {e:Addr} {oe:Obj} {Q:Bool→Shared→Prop} (hC:h.get? C=some (excClassObj nm q C N bs bm hdct sn sub ab col dd k0 k1 k2 k3 k5 newId)) (hW:h.get? W=some (excClassObj nm' q' W N' bs' bm' hdct' sn' sub' ab' col' dd' k0' k1' k2' k3' k5' newId'))
    (he:h.get? e=some oe) (hcls:oe.cls=.ref C) (hbase:bm'.contains (.type "BaseException")=true) (hin:bm.contains (.ref W)=true) (hq:Q true ⟨h,g,d,tk,os⟩):wpAny (model prog w) A (excMatches (.ref e) (.ref W)) Q E ⟨h,g,d,tk,os⟩:=by
  have hcB:(Value.ref W::bm').contains (.type "BaseException")=true:=by rw [List.contains_cons,hbase,Bool.or_true]
  have hcC:(Value.ref C::bm).contains (.ref W)=true:=by rw [List.contains_cons,hin,Bool.or_true]
  have f:=tc_notTuple
  unfold excMatches
  repeat (first | (with_reducible refine wpAny_loadPart_at he ?_; rw [hcls]) | with_reducible refine wpAny_loadPart_at hW ?_ | (with_reducible refine wpAny_isSubtype_exc hW ?_; rw [hcB]) | (with_reducible refine wpAny_isSubtype_exc hC ?_; rw [hcC]) | wp_step)
  exact hq
variable {s:Shared} {env:Env}
theorem Zeb {e:Addr} {t:Expr} {n:Str} {b₀:Stmt} {suite:List Stmt} {pos:Pos} {rest:List ExceptHandler} {Q:Flow→Shared→Prop} (hbase:bm'.contains (.type "BaseException")=true) (hin:bm.contains (.ref W)=true)
    (h:wpAny (model prog w) (A.mark (some (.ref e))) (eval t env) (fun c s₁=>c=.ref W∧s₁.heap.get? C=some (excClassObj nm q C N bs bm hdct sn sub ab col dd k0 k1 k2 k3 k5 newId)∧s₁.heap.get? W=some (excClassObj nm' q' W N' bs' bm' hdct' sn' sub' ab' col' dd' k0' k1' k2' k3' k5' newId')∧(∃oe,s₁.heap.get? e=some oe∧oe.cls=.ref C)∧
      wpAny (model prog w) (A.mark (some (.ref e))) (setFlight (.ref e) none) (fun _ s₂=>
          wpAny (model prog w) (A.mark (some (.ref e))) (storeName env n (.ref e)) (fun _ s₃=>
            wpAny (model prog w) (A.mark (some (.ref e))) (execs (b₀::suite) env)
              (fun f s₄=>wpAny (model prog w) A (do bindName env n .none; unbindBehindTheSuite env n pos) (fun _ s₅=>Q f s₅) E s₄)
              (AsSuiteRaised (model prog w) (A.mark (some (.ref e))) env n pos (notedBy (model prog w) (A.mark (some (.ref e))) env (cameBackBy (model prog w) A env E))) s₃) (notedBy (model prog w) (A.mark (some (.ref e))) env (cameBackBy (model prog w) A env E)) s₂) (notedBy (model prog w) (A.mark (some (.ref e))) env (cameBackBy (model prog w) A env E)) s₁) (notedBy (model prog w) (A.mark (some (.ref e))) env (cameBackBy (model prog w) A env E)) s) :
    wpAny (model prog w) A (handleBy (.ref e) env (.ExceptHandler (some t) (some n) (b₀::suite) pos::rest)) Q E s:=by
  refine wpAny_handleBy_cons (codeAny_handlers_test (wpAny_mono h (fun c s₁ h₁=>?_) fun _ _ y=>y)) (by intro q; cases q)
  obtain ⟨rfl,hC,hW,⟨oe,he,hcls⟩,hk⟩:=h₁
  obtain ⟨hh,g,d,tk,os⟩:=s₁
  exact Zdn hC hW he hcls hbase hin (codeAny_handlers_suite_as hk)
end
end L2.MM
namespace L2.MM
open PySem PySem.Spec PyProof.Rows PySem.W PySem.Calls
section
variable {X:Cx} {pins:List (Addr×Obj)} {σ:St} {H:Hp} {s:Shared}
theorem Zgo {M:Model} {A:Around} {E:Value→Shared→Prop} {i:Nat} {x:Str} {pos:Pos} {Q:Unit→Shared→Prop} (I:Inv X pins σ H s) (hN:X.N.Nodup) (hi:X.N[i]?=some x) (hk:X.env.scope.names.lookup x=some .local)
    (h:∀s',Inv X pins (σ.set i none) H s'→Q () s'):wpAny M A (do bindName X.env x .none; unbindBehindTheSuite X.env x pos) Q E s:=by
  obtain ⟨m,hn,hl⟩:=id I.loc
  have hcls:(X.env.scope.kind == .class || (X.env.scope.kind == .module && X.env.locals != X.env.globals))=false:=by rw [I.ok.kind]; rfl
  have hiσ:i < σ.length:=by rw [I.len]; exact (List.getElem?_eq_some_iff.mp hi).1
  have cne:=I.cne
  refine wpAny_nameGoes_keeps hk hn hcls fun h' v hn' hs=>?_
  obtain ⟨oL,_,_,hoL,_⟩:=id hn
  have ltb:∀b o,X.s₀.heap.get? b=some o→b≠X.env.locals:=fun b o e=>Nat.ne_of_lt (Nat.lt_of_lt_of_le (Heap.lt_size e) I.ok.above)
  refine h _ ⟨I.ok,I.os,I.bare,⟨fun b o e n hb hx=>(hs.2 b (ltb b o e)).trans (I.base.keep b o e n hb hx),fun b o e n hb hx=>?_,I.base.free,fun b o e hx=>?_,I.base.tups,I.base.frzs,I.base.tbls⟩,⟨_,hn',fun j y v' e1 e2 e3=>?_⟩,fun y c e=>?_,I.free,I.freeC,fun p hp=>?_,?_,by simpa using I.len⟩
  · obtain ⟨sl,e1⟩:=I.base.slot b o e n hb hx
    exact ⟨sl,(hs.2 b (ltb b o e)).trans e1⟩
  · obtain ⟨o',e1⟩:=I.base.there b o e hx
    exact ⟨o',(hs.2 b (ltb b o e)).trans e1⟩
  · by_cases hj:j=i
    · subst hj
      rw [List.getElem?_set_self hiσ] at e2
      cases e2
    · rw [List.getElem?_set_ne (Ne.symm hj)] at e2
      obtain ⟨u',r',q⟩:=hl j y v' e1 e2 e3
      refine ⟨u',r',?_⟩
      rcases q with ⟨k,e⟩ | ⟨k,c,e,z⟩
      · refine .inl ⟨k,?_⟩
        have:y≠x:=fun e=>hj (Zbh hN e1 (e ▸ hi))
        simp [this,e]
      · exact .inr ⟨k,c,e,z.sameBut hs (cne y c e)⟩
  · obtain ⟨w',z⟩:=I.cell y c e
    exact ⟨w',z.sameBut hs (cne y c e)⟩
  · obtain ⟨e,n,ne,nf,d⟩:=I.pin p hp
    exact ⟨(hs.2 p.1 ne).trans e,n,ne,nf,d⟩
  · exact Zbn I.hok fun b u o e q=>(hs.2 b (fun z=>by rw [z,I.free] at e; cases e)).trans q
theorem ZhL {M:Model} {A:Around} {E:Value→Shared→Prop} {i:Nat} {x:Str} {v:V} {u:Value} {Q:Unit→Shared→Prop} (I:Inv X pins σ H s) (hN:X.N.Nodup) (hi:X.N[i]?=some x) (hk:X.env.scope.names.lookup x=some .local) (r:RelV v u)
    (h:∀s',Inv X pins (σ.set i (some v)) H s'→Heap.SameBut X.env.locals s.heap s'.heap→Q () s'):wpAny M A (storeName X.env x u) Q E s:=by
  obtain ⟨m,hn,hl⟩:=id I.loc
  have hcls:(X.env.scope.kind == .class || (X.env.scope.kind == .module && X.env.locals != X.env.globals))=false:=by rw [I.ok.kind]; rfl
  have hiσ:i < σ.length:=by rw [I.len]; exact (List.getElem?_eq_some_iff.mp hi).1
  have cne:=I.cne
  refine wpAny_storeName_local hk hn (fun h' hn' hs=>?_) hcls
  have ltb:∀b o,X.s₀.heap.get? b=some o→b≠X.env.locals:=fun b o e=>Nat.ne_of_lt (Nat.lt_of_lt_of_le (Heap.lt_size e) I.ok.above)
  refine h _ ⟨I.ok,I.os,I.bare,⟨fun b o e n hb hx=>(hs.2 b (ltb b o e)).trans (I.base.keep b o e n hb hx),fun b o e n hb hx=>?_,I.base.free,fun b o e hx=>?_,I.base.tups,I.base.frzs,I.base.tbls⟩,⟨_,hn',fun j y v' e1 e2 e3=>?_⟩,fun y c e=>?_,I.free,I.freeC,fun p hp=>?_,?_,by simpa using I.len⟩ hs
  · obtain ⟨sl,e1⟩:=I.base.slot b o e n hb hx
    exact ⟨sl,(hs.2 b (ltb b o e)).trans e1⟩
  · obtain ⟨o',e1⟩:=I.base.there b o e hx
    exact ⟨o',(hs.2 b (ltb b o e)).trans e1⟩
  · by_cases hj:j=i
    · subst hj
      rw [hi] at e1; cases e1
      rw [List.getElem?_set_self hiσ] at e2
      cases e2
      exact ⟨u,r,.inl ⟨hk,by simp⟩⟩
    · rw [List.getElem?_set_ne (Ne.symm hj)] at e2
      obtain ⟨u',r',q⟩:=hl j y v' e1 e2 e3
      refine ⟨u',r',?_⟩
      rcases q with ⟨k,e⟩ | ⟨k,c,e,z⟩
      · refine .inl ⟨k,?_⟩
        have:y≠x:=fun e=>hj (Zbh hN e1 (e ▸ hi))
        simp [this,e]
      · exact .inr ⟨k,c,e,z.sameBut hs (cne y c e)⟩
  · obtain ⟨w',z⟩:=I.cell y c e
    exact ⟨w',z.sameBut hs (cne y c e)⟩
  · obtain ⟨e,n,ne,nf,d⟩:=I.pin p hp
    exact ⟨(hs.2 p.1 ne).trans e,n,ne,nf,d⟩
  · exact Zbn I.hok fun b u o e q=>(hs.2 b (fun z=>by rw [z,I.free] at e; cases e)).trans q
def Zaj (X:Cx) (x:Addr) (oe:Obj):Cx:={ X with A:=X.A.mark (some (.ref x)),calm:=false,pn:=X.pn++[(x,oe)],xe:=fun _ _=>False }
theorem Zcp {x:Addr} {oe:Obj} (I:Inv X pins σ H s) (he:s.heap.get? x=some oe) (hu:H x=none) (hn:x≠X.env.locals) (hf:x∉X.fs) (hd:∀v,oe.data≠.cell v):Inv (Zaj X x oe) pins σ H s:=by
  refine ⟨⟨I.ok.mod,I.ok.kind,I.ok.glob,I.ok.blt,I.ok.above,I.ok.inj,I.ok.has,I.ok.cab,fun z=>absurd (show false=true from z) (by decide),I.ok.frames,I.ok.stk,I.ok.exf,I.ok.bs,I.ok.bsz,I.ok.noex,I.ok.exfs,I.ok.funs,I.ok.frf⟩,I.os,I.bare,I.base,I.loc,I.cell,I.free,I.freeC,fun p hp=>?_,I.hok,I.len⟩
  have hp:p∈(X.pn++[(x,oe)])++pins:=hp
  rcases List.mem_append.mp hp with hp | hp
  · rcases List.mem_append.mp hp with hp | hp
    · exact I.pin p (List.mem_append_left _ hp)
    · have:p=(x,oe):=by simpa using hp
      subst this
      exact ⟨he,hu,hn,hf,hd⟩
  · exact I.pin p (List.mem_append_right _ hp)
theorem ZeE {x:Addr} {oe:Obj} (ok:X.Ok) (I:Inv (Zaj X x oe) pins σ H s):Inv X pins σ H s:=by
  refine ⟨ok,I.os,I.bare,I.base,I.loc,I.cell,I.free,I.freeC,fun p hp=>?_,I.hok,I.len⟩
  have hp:p∈X.pn++pins:=hp
  refine I.pin p ?_
  show p∈(X.pn++[(x,oe)])++pins
  rcases List.mem_append.mp hp with hp | hp
  · exact List.mem_append_left _ (List.mem_append_left _ hp)
  · exact List.mem_append_right _ hp
end
section
variable {X:Cx} {x C Nn:Addr} {oe:Obj} {nm q:Str} {bs bm:List Value} {hdct:Bool} {sn:List Str} {sub:List Value} {ab:Bool} {col:Option Bool} {dd:Option Addr} {k0 k1 k2 k3 k5:Option Value} {newId:String}
theorem Zei (hcls:oe.cls=.ref C) (hC:X.base.get? C=some (excClassObj nm q C Nn bs bm hdct sn sub ab col dd k0 k1 k2 k3 k5 newId)) (hb:bm.contains (.type "ValueError")=true) :
    CallR (Zaj X x oe) (.builtin "isinstance") (fun xs H Q=>(xs=[.ref x,.ref C]∨xs=[.ref x,.ty "ValueError"])∧Q (.bl true) H):=by
  intro pins s σ H xs us Q I r q
  obtain ⟨q1,q2⟩:=q
  have he:s.heap.get? x=some oe:=(I.pin (x,oe) (by show _∈(X.pn++[(x,oe)])++pins; simp)).1
  have hC':=I.bk C _ hC
  have fin:EP (Zaj X x oe) pins σ Q (.bool true) s:=⟨.bl true,H,I,rfl,q2⟩
  obtain ⟨h,g,d,tk,os⟩:=s
  rcases q1 with rfl | rfl
  · have e:us=[.ref x,.ref C]:=by
      cases r with
      | cons r1 r2=>
        cases r2 with
        | cons r3 r4=>
          cases r4
          cases (show _=Value.ref x from r1)
          cases (show _=Value.ref C from r3)
          rfl
    rw [e]
    exact Zhb he hcls fin
  · have e:us=[.ref x,.type "ValueError"]:=by
      cases r with
      | cons r1 r2=>
        cases r2 with
        | cons r3 r4=>
          cases r4
          cases (show _=Value.ref x from r1)
          cases (show _=Value.type "ValueError" from r3)
          rfl
    rw [e]
    exact Zha he hcls hC' rfl hb fin
end
end L2.MM
namespace L2.MM
open PySem PySem.Spec PyProof.Rows PySem.W PySem.Calls
section
variable {X:Cx} {pins:List (Addr×Obj)} {σ:St} {H H':Hp} {s:Shared} {xx T C W:Addr} {l:List Env}
theorem FlyS.here {h h':Heap} {fl fl' a0:Value} (I:Inv X pins σ H s) (F:FlyS X.prog X.w X.base X.stack H s.heap xx T C fl H' h) (k1:(hid h X.stack xx T).StaysIn h') (k2:h'.FunFrames (hid h X.stack xx T) X.stack) (k3:h'.TracedAtW (hid h X.stack xx T) xx (.ref C) a0 fl') (k4:h.UpToSlots h') :
    ∃T',FlyS X.prog X.w X.base X.stack H s.heap xx T' C fl' H' h':=
  F.move I.stkFree (fun b hb=>.inl hb) k1 k2 k3 k4 (fun b hb=>hb) (fun b hb=>.inr hb) (fun b hb=>by
    obtain ⟨_,o,ho,_⟩:=I.stack.mem hb
    exact F.un.free b o ho (I.stkFree b hb) (by simp))
theorem FlyS.inv {s':Shared} {fl:Value} (I:Inv X pins σ H s) (ho:s'.os=s.os) (hb:AllBare s'.gens) (F:FlyS X.prog X.w X.base X.stack H s.heap xx T C fl H' s'.heap):Inv X pins σ H' s':=
  I.call' (ch:=[]) ho F.un F.hok hb (fun b z=>absurd z (by simp))
variable {nm q:Str} {Nn:Addr} {bs bm:List Value} {hdct:Bool} {sn:List Str} {sub:List Value} {ab:Bool} {col:Option Bool} {dd:Option Addr} {k0 k1 k2 k3 k5:Option Value} {newId:String}
variable {nm' q':Str} {N':Addr} {bs' bm':List Value} {hdct':Bool} {sn':List Str} {sub':List Value} {ab':Bool} {col':Option Bool} {dd':Option Addr} {k0' k1' k2' k3' k5':Option Value} {newId':String}
theorem Zhs {s':Shared} {E:Value→Shared→Prop} {n rn WE cn:Str} {ie ir:Nat} {D:ZaG} {np p1 p2 p3 p4 p5 p6 p7 p8 p9 p10 p11 hp:Pos} (I:Inv X pins σ H s) (ho:s'.os=s.os) (hb:AllBare s'.gens) (F:FlyS X.prog X.w X.base X.stack H s.heap xx T C .none H' s'.heap)
    (hstk:X.stack=X.env::X.outer) (hfrm:X.env.frame=some X.env.locals)
    (hC:X.base.get? C=some (excClassObj nm q C Nn bs bm hdct sn sub ab col dd k0 k1 k2 k3 k5 newId)) (hW:X.base.get? W=some (excClassObj nm' q' W N' bs' bm' hdct' sn' sub' ab' col' dd' k0' k1' k2' k3' k5' newId'))
    (hbase:bm'.contains (.type "BaseException")=true) (hin:bm.contains (.ref W)=true) (hV:bm.contains (.type "ValueError")=true)
    (hN:X.N.Nodup) (hie:X.N[ie]?=some n) (hir:X.N[ir]?=some rn) (hnl:X.env.scope.names.lookup n=some .local) (hrl:Loc X.env.scope rn) (hfn:X.fn rn=true)
    (gW:Gl X WE) (mW:X.mg WE=some (.ref W)) (gC:Gl X cn) (mC:X.mg cn=some (.ref C)) (gI:Gl X "isinstance") (mI:X.mg "isinstance"=none) (gV:Gl X "ValueError") (mV:X.mg "ValueError"=none)
    (d1:(WE == ("__debug__":Str))=false) (d2:(cn == ("__debug__":Str))=false) (d3:(n == ("__debug__":Str))=false) (d4:(n == ("__classdict__":Str))=false)
    (hsw:∀Y:Cx,Y.env=X.env→swapsWith (.BoolOp .And [.Call (.Name "isinstance" p2) [.Name n p3,.Name cn p4] [] p5,.Call (.Name "isinstance" p6) [.Name n p7,.Name "ValueError" p8] [] p9] p10) (some (.Name rn p1)) p11.line Y.env=pure false)
    (hD:D.nx (((σ.set ie (some (.ref xx))).set ir (some (.bl true))).set ie none) H') :
    wpAny (model X.prog X.w) X.A (noteFrame (.ref xx) X.env) (fun _ s₂=>wpAny (model X.prog X.w) X.A (setFlight (.ref xx) none) (fun _ s₃=>wpAny (model X.prog X.w) X.A (handleBy (.ref xx) X.env
      [.ExceptHandler (some (.Name WE np)) (some n) [.Assign [.Name rn p1] (.BoolOp .And [.Call (.Name "isinstance" p2) [.Name n p3,.Name cn p4] [] p5,.Call (.Name "isinstance" p6) [.Name n p7,.Name "ValueError" p8] [] p9] p10) p11] hp]) (SP X pins D) E s₃) E s₂) E s':=by
  have hfr:X.A.frames=some (X.env::X.outer):=by rw [←hstk]; exact I.ok.frames
  obtain ⟨a0,f1,f2,f3,f4⟩:=Zdt F.fly
  refine wpAny_looks_onW (base:=hid s'.heap X.stack xx T) hfr hfrm ⟨f1,f2,by rw [←hstk]; exact f3,f4⟩ fun h4 hh hu=>?_
  obtain ⟨g1,g2,g3,g4⟩:=hh
  rw [←hstk] at g3
  obtain ⟨T4,F4⟩:=F.here I g1 g3 g4 hu
  obtain ⟨a1,f1,f2,f3,f4⟩:=Zdt F4.fly
  refine wpAny_landsW (base:=hid h4 X.stack xx T4) (l:=X.stack) ⟨f1,f2,f3,f4⟩ fun h5 hh hu=>?_
  obtain ⟨g1,g2,g3,g4⟩:=hh
  obtain ⟨T5,F5⟩:=F4.here I g1 g3 g4.at hu
  obtain ⟨oe,vs,oT,ts,a2,e1,e2,e3,e4,e5,e6,e7,e8,e9⟩:=F5.fly.tr
  have I5:Inv X pins σ H' { s' with heap:=h5 }:=F5.inv (s':={ s' with heap:=h5 }) I ho hb
  have nfr:=F5.fly.nfr.1
  have nL:xx≠X.env.locals:=fun z=>nfr (by rw [z,hstk]; show _∈List.filterMap _ _; simp [hfrm])
  have nfs:xx∉X.fs:=fun z=>nfr (by rw [hstk]; show _∈List.filterMap _ _; rw [List.filterMap_cons,hfrm]; exact List.mem_cons_of_mem _ z)
  have J5:=Zcp I5 e1 F5.ux nL nfs (fun v z=>by rw [e4] at z; cases z)
  refine Zeb (C:=C) (W:=W) (N:=Nn) (nm:=nm) (q:=q) (bs:=bs) (bm:=bm) (hdct:=hdct) (sn:=sn) (sub:=sub) (ab:=ab) (col:=col) (dd:=dd) (k0:=k0) (k1:=k1) (k2:=k2) (k3:=k3) (k5:=k5) (newId:=newId) (N':=N') (nm':=nm') (q':=q') (bs':=bs') (bm':=bm') (hdct':=hdct') (sn':=sn') (sub':=sub') (ab':=ab') (col':=col') (dd':=dd') (k0':=k0') (k1':=k1') (k2':=k2') (k3':=k3') (k5':=k5') (newId':=newId') hbase hin ?_
  refine Zbk (X:=Zaj X xx oe) J5 gW mW ⟨rfl,I5.bk C _ hC,I5.bk W _ hW,⟨oe,e1,e2⟩,?_⟩ d1
  obtain ⟨a3,f1,f2,f3,f4⟩:=Zdt F5.fly
  refine lands_againW (base:=hid h5 X.stack xx T5) (l:=X.stack) ⟨f1,f2,f3,f4⟩ fun h6 hh hu=>?_
  obtain ⟨g1,g2,g3,g4⟩:=hh
  obtain ⟨T6,F6⟩:=F5.here I g1 g3 g4.at hu
  have I6:Inv X pins σ H' { s' with heap:=h6 }:=F6.inv (s':={ s' with heap:=h6 }) I ho hb
  obtain ⟨oe6,vs6,oT6,ts6,a6,e1,e2,e3,e4,e5,e6,e7,e8,e9⟩:=F6.fly.tr
  refine ZhL (v:=.ref xx) I6 hN hie hnl rfl (fun s7 I7 hs7=>?_)
  have x7:s7.heap.get? xx=some oe6:=(hs7.2 xx nL).trans e1
  have J7:=Zcp I7 x7 F6.ux nL nfs (fun v z=>by rw [e4] at z; cases z)
  have hlen:ie < σ.length:=by rw [I.len]; exact (List.getElem?_eq_some_iff.mp hie).1
  have rule:PS (Zaj X xx oe6) (.Assign [.Name rn p1] (.BoolOp .And [.Call (.Name "isinstance" p2) [.Name n p3,.Name cn p4] [] p5,.Call (.Name "isinstance" p6) [.Name n p7,.Name "ValueError" p8] [] p9] p10) p11) _:=
    Zdf hN hir hrl (ZgN (Zbe (Zei e2 hC hV) gI mI PyProof.Rows.boot_isinstance (zY (ZaZ hie (.inl hnl) d3 d4) (zY (Ze9 (v:=.ref C) gC mC rfl d2) ZbE)))
      (ZgI (Zbe (Zei e2 hC hV) gI mI PyProof.Rows.boot_isinstance (zY (ZaZ hie (.inl hnl) d3 d4) (zY (Zfa (v:=.ty "ValueError") gV mV (by decide +kernel) rfl) ZbE))))) (hsw (Zaj X xx oe6) rfl) (.inl hfn)
  have run:=Zde rule pins s7 (σ.set ie (some (.ref xx))) H' { nx:=fun σ8 H8=>σ8=(σ.set ie (some (.ref xx))).set ir (some (.bl true))∧H8=H',rt:=fun _ _=>False } J7
    (by
      have gs:(σ.set ie (some (V.ref xx)))[ie]?=some (some (.ref xx)):=List.getElem?_set_self hlen
      exact ⟨.ref xx,gs,.inl rfl,true,rfl,.ref xx,gs,.inr rfl,rfl,rfl⟩)
  refine wpAny_mono run (fun f s8 q=>?_) fun _ _ z=>z.elim
  cases f with
  | next=>
    obtain ⟨σ8,H8,J8,rfl,rfl⟩:=q
    have I8:=ZeE I.ok J8
    exact Zgo I8 hN hie hnl fun s9 I9=>⟨_,_,I9,hD⟩
  | brk=>obtain ⟨_,_,_,z⟩:=q; exact z.elim
  | cont=>obtain ⟨_,_,_,z⟩:=q; exact z.elim
  | ret u=>obtain ⟨_,_,_,_,_,z⟩:=q; exact z.elim
end
end L2.MM
namespace L2.MM
open PySem PySem.Spec PyProof.Rows PySem.W PySem.Calls PySem.SeqAt
noncomputable section
def ZhB (P:Program) (w:World) (K:PySem.W.Frag) (mg:Str→Option Value) (base:Heap) (k:Nat) (C:Addr) (x:Str) (f:GM):Prop:=∃ps fa fd,FnOk P w K mg base (CX1 P w base C) k fa fd ps (spX ⟨ZcD mg,K⟩ C f)∧Binds K fd ps []∧PySem.W.keepIn K (.ref fa)=true∧mg x=some (.ref fa)
structure Zip (base:Heap) (mg:Str→Option Value) (C W:Addr) (cn WE:Str):Prop where
  ex:∃(nm q:Str) (Nn:Addr) (bs bm:List Value) (hdct:Bool) (sn:List Str) (sub:List Value) (ab:Bool) (col:Option Bool) (dd:Option Addr) (k0 k1 k2 k3 k5:Option Value) (newId:String) (nm' q':Str) (N':Addr) (bs' bm':List Value) (hdct':Bool) (sn':List Str) (sub':List Value) (ab':Bool) (col':Option Bool) (dd':Option Addr) (k0' k1' k2' k3' k5':Option Value) (newId':String),
    base.get? C=some (excClassObj nm q C Nn bs bm hdct sn sub ab col dd k0 k1 k2 k3 k5 newId)∧base.get? W=some (excClassObj nm' q' W N' bs' bm' hdct' sn' sub' ab' col' dd' k0' k1' k2' k3' k5' newId')∧
    bm'.contains (.type "BaseException")=true∧bm.contains (.ref W)=true∧bm.contains (.type "ValueError")=true
  mW:mg WE=some (.ref W)
  mC:mg cn=some (.ref C)
  mI:mg "isinstance"=none
  mV:mg "ValueError"=none
section
variable {X:Cx}
theorem Frm.no {B:Bx} {θ:Sto} {ρ:List Sl} {σ:St} {H:Hp} (F:Frm X.cl B θ ρ σ H) (i:Nat) (y:Option V):Frm X.cl B θ (ρ.set i .no) (σ.set i y) H:=by
  have oth:∀(j:Nat) (s:Sl),(ρ.set i Sl.no)[j]?=some s→s=.no∨(j≠i∧ρ[j]?=some s):=fun j s e=>by
    by_cases q:j=i
    · subst q
      have hl:j < ρ.length:=by
        have:=(List.getElem?_eq_some_iff.mp e).1
        simpa using this
      rw [List.getElem?_set_self hl] at e
      cases e; exact .inl rfl
    · rw [List.getElem?_set_ne (Ne.symm q)] at e
      exact .inr ⟨q,e⟩
  refine ⟨F.good,by simp [F.len],fun j d e=>?_,fun j xs e=>?_,fun j k xs ys a hjk e1 e2 e3=>?_⟩
  · rcases oth j _ e with z | ⟨n,z⟩
    · cases z
    · obtain ⟨v,h1,h2⟩:=F.val j d z
      exact ⟨v,by rw [List.getElem?_set_ne (Ne.symm n)]; exact h1,h2⟩
  · rcases oth j _ e with z | ⟨n,z⟩
    · cases z
    · obtain ⟨a,vs,h1,h2⟩:=F.own j xs z
      exact ⟨a,vs,by rw [List.getElem?_set_ne (Ne.symm n)]; exact h1,h2⟩
  · rcases oth j _ e1 with z | ⟨n,z⟩
    · cases z
    · rcases oth k _ e2 with z' | ⟨n',z'⟩
      · cases z'
      · rw [List.getElem?_set_ne (Ne.symm n)] at e3
        rw [List.getElem?_set_ne (Ne.symm n')]
        exact F.ne j k xs ys a hjk z z' e3
def ZcS (ie ir ix:Nat) (fa:AM) (f:GM):SM:=fun ρ θ=>(fa ρ θ).bind fun ds θ1=>match f ds θ1 with
  | .ok d θ2=>.ok (.nx,ρ.set ix (.val d)) θ2
  | .ex _ θ2=>.ok (.nx,(ρ.set ie .no).set ir (.val (.bl true))) θ2
  | .bad=>.bad
theorem Zh7 (ie ir ix:Nat) {k j:Nat} {fn n rn xn WE cn:Str} {f:GM} {fa:AM} {C W:Addr} {a:Expr} {es:List Expr} {np p1 p2 p3 p4 p5 p6 p7 p8 p9 p10 p11 hp fp cp xp ap tp:Pos} (hx0:X.xe=fun _ _=>False)
    (D0:ZhB X.prog X.w X.K X.mg X.base k C fn f) (hr:Room j X.A) (hj:k≤j) (ha:MA X (a::es) fa) (EK:Zip X.base X.mg C W cn WE) (hstk:X.stack=X.env::X.outer) (hfrm:X.env.frame=some X.env.locals)
    (hN:X.N.Nodup) (hne:ie≠ir) (hie:X.N[ie]?=some n:=by rfl) (hir:X.N[ir]?=some rn:=by rfl) (hix:X.N[ix]?=some xn:=by rfl) (hnl:X.env.scope.names.lookup n=some .local:=by rfl) (hrl:Loc X.env.scope rn:=by first | exact Or.inl rfl | exact Or.inr rfl) (hxl:Loc X.env.scope xn:=by first | exact Or.inl rfl | exact Or.inr rfl) (hfr:X.fn rn=true:=by rfl) (hfx:X.fn xn=true:=by rfl)
    (gF:Gl X fn:=by rfl) (gW:Gl X WE:=by rfl) (gC:Gl X cn:=by rfl) (gI:Gl X "isinstance":=by rfl) (gV:Gl X "ValueError":=by rfl)
    (d0:(fn == ("__debug__":Str))=false:=by decide) (d1:(WE == ("__debug__":Str))=false:=by decide) (d2:(cn == ("__debug__":Str))=false:=by decide) (d3:(n == ("__debug__":Str))=false:=by decide) (d4:(n == ("__classdict__":Str))=false:=by decide)
    (he:starEach (a::es) X.env=(false,eval a X.env)::starEach es X.env:=by rfl) (hpl:(backTo cp (starEach es X.env)).any (·.1)=false:=by rfl)
    (hs0:swapsWith (.Call (.Name fn fp) (a::es) [] cp) (some (.Name xn xp)) ap.line X.env=pure false:=by rfl)
    (hsw:∀Y:Cx,Y.env=X.env→swapsWith (.BoolOp .And [.Call (.Name "isinstance" p2) [.Name n p3,.Name cn p4] [] p5,.Call (.Name "isinstance" p6) [.Name n p7,.Name "ValueError" p8] [] p9] p10) (some (.Name rn p1)) p11.line Y.env=pure false:=by intro _ _; rfl) :
    MS X (.Try [.Assign [.Name xn xp] (.Call (.Name fn fp) (a::es) [] cp) ap] [.ExceptHandler (some (.Name WE np)) (some n) [.Assign [.Name rn p1] (.BoolOp .And [.Call (.Name "isinstance" p2) [.Name n p3,.Name cn p4] [] p5,.Call (.Name "isinstance" p6) [.Name n p7,.Name "ValueError" p8] [] p9] p10) p11] hp] [] [] tp) (ZcS ie ir ix fa f):=by
  intro pins s σ H D I h
  obtain ⟨B,θ,ρ,F,w⟩:=h
  obtain ⟨ps,fa',fd,FO,hb,hk,hm⟩:=D0
  refine wpAny_Try_except ?_
  obtain ⟨Ex,hEx⟩:∃Ex:Value→Shared→Prop,Ex=(fun e s₁=>wpAny (model X.prog X.w) X.A (noteFrame e X.env) (fun _ s₂=>wpAny (model X.prog X.w) X.A (setFlight e none) (fun _ s₃=>wpAny (model X.prog X.w) X.A (handleBy e X.env [.ExceptHandler (some (.Name WE np)) (some n) [.Assign [.Name rn p1] (.BoolOp .And [.Call (.Name "isinstance" p2) [.Name n p3,.Name cn p4] [] p5,.Call (.Name "isinstance" p6) [.Name n p7,.Name "ValueError" p8] [] p9] p10) p11] hp]) (SP X pins D) X.xe s₃) X.xe s₂) X.xe s₁):=⟨_,rfl⟩
  rw [←hEx]
  refine wpAny_execs_cons ?_
  refine wpAny_Assign_Name ?_ hs0
  refine wpAny_Call_Name_kw (Zbk I gF hm ?_ d0)
  unfold ZcS at w
  have pa:=ha cp pins s σ H _ I ⟨B,θ,ρ,F,wpS.bind (Rel:=RepL) w⟩
  rw [hx0] at pa
  refine PySem.W.callWith_K (h₀:=X.base) I.ok.mod.kin hk (wpAny_mono pa (fun us s1 q=>?_) fun _ _ z=>z.elim) he hpl
  obtain ⟨vs,H1,I1,r,B1,θ1,ds,E1,G1,rd,w1⟩:=q
  refine ⟨I1.kIn,?_⟩
  have F1:=F.ext E1 G1
  have EK':=EK.ex
  obtain ⟨nm,q,Nn,bs,bm,hdct,sn,sub,ab,col,dd,k0,k1,k2,k3,k5,newId,nm',q',N',bs',bm',hdct',sn',sub',ab',col',dd',k0',k1',k2',k3',k5',newId',hC,hW,hbase,hin,hV⟩:=EK'
  have hEH:∀(Q:VK) (Es:XK),(match f ds θ1 with
      | .ok d θ'=>∀B' H' v,ExtE B1.inC B' H1 H'→Good X.cl B' θ' H'→RepV B' H' d v→Q v H'
      | .ex _ θ'=>∀B' H',ExtE B1.inC B' H1 H'→Good X.cl B' θ' H'→Es (.ref C) none H'
      | .bad=>False)→spX X.cl C f vs H1 Q Es:=fun Q Es z=>⟨B1.inC,θ1,ds,rfl,Zec G1,RepL.same (B:=B1) (B':=B1.inC) rfl rfl rfl (fun a=>inC_ok.mpr) rd,z⟩
  obtain ⟨Qs,hQs⟩:∃Qs:VK,Qs=fun v H2=>D.nx (σ.set ix (some v)) H2:=⟨_,rfl⟩
  obtain ⟨Es,hEs⟩:∃Es:XK,Es=fun _ _ H2=>D.nx ((σ.set ie none).set ir (some (.bl true))) H2:=⟨_,rfl⟩
  have hsp:spX X.cl C f (vs++[]) H1 Qs Es:=by
    rw [List.append_nil]
    refine hEH Qs Es ?_
    cases e:f ds θ1 with
    | bad=>rw [e] at w1; exact w1
    | ok d θ2=>
      rw [e] at w1
      intro B' H' v E' G' rv
      obtain ⟨h1,h2,h3⟩:=ZgP G1 E' G'
      rw [hQs]
      exact w1 _ H' _ h1.toExtS ((F1.ext h1 h2).set ix (h3 d v rv))
    | ex c θ2=>
      rw [e] at w1
      intro B' H' E' G'
      obtain ⟨h1,h2,h3⟩:=ZgP G1 E' G'
      rw [hEs]
      exact w1 _ H' _ h1.toExtS (((F1.ext h1 h2).no ie none).set ir (v:=.bl true) rfl)
  have r2:Vals (vs++[]) (us++[]):=r.append .nil
  have hl:(us++[]).length=ps.length:=by rw [←r2.length]; exact FO.len _ _ _ _ hsp
  refine wpAny_call (codeAny_mono (FO.run X.A X.stack s1 H1 ⟨us,[]⟩ (us++[]) (vs++[]) Qs Es (hr.mono hj) I1.env0 (hb s1 us I1.kIn hl) r2 hsp) fun rr s' hq=>?_)
  cases rr with
  | error e=>
    obtain ⟨xx,T,H2,rfl,hos,hbare,Fl,hE⟩:=hq
    rw [hEx]
    refine Zhs I1 hos hbare Fl hstk hfrm hC hW hbase hin hV hN hie hir hnl hrl hfr gW EK.mW gC EK.mC gI EK.mI gV EK.mV d1 d2 d3 d4 hsw ?_
    rw [hEs] at hE
    have e1:((σ.set ie (some (V.ref xx))).set ir (some (.bl true))).set ie none=(σ.set ie none).set ir (some (.bl true)):=by
      rw [List.set_comm _ _ (Ne.symm hne),List.set_set]
    rw [e1]
    exact hE
  | ok fl=>
    cases fl with
    | ret u=>
      obtain ⟨v,H2,I2,rv,qv⟩:=I1.after hq
      rw [hQs] at qv
      exact Zcc I2 hN hix hxl rv (fun s2 I3=>wpAny_execs_nil (wpAny_execs_nil ⟨_,_,I3,qv⟩)) (.inl hfx)
    | next=>exact False.elim hq
    | brk=>exact False.elim hq
    | cont=>exact False.elim hq
end
end
end L2.MM
namespace L2.MM
open PySem PySem.Spec PyProof.Rows PySem.W PySem.Calls PySem.SeqAt
abbrev Zfp:List Value:=[.type "ValueError",.type "Exception",.type "BaseException",.type "object"]
abbrev ZkJ (W:Addr):List Value:=[.ref W,.type "ValueError",.type "Exception",.type "BaseException",.type "object"]
abbrev ZkI (C W:Addr):List Value:=[.ref C,.ref W,.type "ValueError",.type "Exception",.type "BaseException",.type "object"]
section
variable {K:PySem.W.Frag} {h:Heap} {mg:Str→Option Value} {C W:Addr} {bb:List Value} {n:String} {cn WE:Str}
theorem ZbJ (q:excIn K C bb n=true):∃(nm qn:Str) (bs tl:List Value) (ns:Addr) (hd:Bool) (sn:List Str) (sub:List Value) (ab:Bool) (col:Option Bool) (dd:Option Addr) (k0 k1 k2 k3 k5:Option Value),
    K.lookup C=some (excClassObj nm qn C ns bs tl hd sn sub ab col dd k0 k1 k2 k3 k5 n)∧tailIn K bb tl=true∧nsOkIn K ns=true∧nsIn K ns "__init__"=some none:=by
  unfold excIn at q
  split at q
  · next dd cd sl ho=>
    split at q
    · next C' tl k0 k1 k2 k3 n' k5 e1 e2=>
      have q':=q
      rw [Bool.and_eq_true,Bool.and_eq_true,Bool.and_eq_true,Bool.and_eq_true,Bool.and_eq_true] at q'
      obtain ⟨⟨⟨⟨⟨y1,y2⟩,y3⟩,y4⟩,y5⟩,y6⟩:=q'
      have z1:C'=C:=by simpa using y1
      have z2:n'=n:=by simpa using y2
      have z3:cd.hasDel=false:=by simpa using y3
      subst z1 z2
      cases cd
      simp only at e1 z3 y5 y6
      subst e1 z3
      cases sl
      simp only at e2
      subst e2
      exact ⟨_,_,_,tl,_,_,_,_,_,_,dd,k0,k1,k2,k3,k5,ho,y4,y5,by simpa using y6⟩
    · exact absurd q (by decide)
  · exact absurd q (by decide)
theorem Zih (X:K.In h) (G:h.Ns mainGlobals mg) (a:nsIn K mainGlobals cn=some (some (.ref C))) (q:excIn K C bb n=true):OwnCls cn C bb n mg h:=by
  obtain ⟨nm,qn,bs,tl,ns,hd,sn,sub,ab,col,dd,k0,k1,k2,k3,k5,y1,y2,y3,y4⟩:=ZbJ q
  have g:=mg_of X G a
  have t:=tail_of_in X y2
  have i:=nsMap_none_of_in X y3 y4
  exact { bound:=g,obj:=⟨tl,ns,nm,qn,bs,hd,sn,sub,ab,col,dd,k0,k1,k2,k3,k5,h.nsMap ns,X C _ y1,.of_isNs (isNs_of_in X y3),i,t⟩ }
theorem Zig {dC dW:Option Addr} {cC cW:ClassData} {sC sW:Array (Option Value)} (X:K.In h) (G:h.Ns mainGlobals mg) (a:nsIn K mainGlobals cn=some (some (.ref C))) (q:excIn K C bb n=true) (l:K.lookup C=some ⟨.type "type",dC,.cls cC,sC⟩) (m:cC.mro=[.ref C,.ref W,.type "ValueError",.type "Exception",.type "BaseException",.type "object"])
    (a':nsIn K mainGlobals WE=some (some (.ref W))) (q':excIn K W bb n=true) (l':K.lookup W=some ⟨.type "type",dW,.cls cW,sW⟩) (m':cW.mro=[.ref W,.type "ValueError",.type "Exception",.type "BaseException",.type "object"])
    (zI:nsIn K mainGlobals "isinstance"=some none) (zV:nsIn K mainGlobals "ValueError"=some none):Zip h mg C W cn WE:=by
  obtain ⟨nm,qn,bs,tl,ns,hd,sn,sub,ab,col,dd,k0,k1,k2,k3,k5,y1,y2,y3,y4⟩:=ZbJ q
  obtain ⟨nm',qn',bs',tl',ns',hd',sn',sub',ab',col',dd',k0',k1',k2',k3',k5',w1,w2,w3,w4⟩:=ZbJ q'
  have e:tl=[.ref W,.type "ValueError",.type "Exception",.type "BaseException",.type "object"]:=by
    have z:=Option.some.inj (y1.symm.trans l)
    injection z with z1 z2 z3 z4
    injection z3 with z5
    rw [←z5] at m
    injection m
  have e':tl'=[.type "ValueError",.type "Exception",.type "BaseException",.type "object"]:=by
    have z:=Option.some.inj (w1.symm.trans l')
    injection z with z1 z2 z3 z4
    injection z3 with z5
    rw [←z5] at m'
    injection m'
  subst e e'
  refine ⟨⟨nm,qn,ns,bs,_,hd,sn,sub,ab,col,dd,k0,k1,k2,k3,k5,n,nm',qn',ns',bs',_,hd',sn',sub',ab',col',dd',k0',k1',k2',k3',k5',n,X _ _ y1,X _ _ w1,by decide,by simp,by simp⟩,mg_of X G a',mg_of X G a,mg_none_of X G zI,mg_none_of X G zV⟩
end
end L2.MM
namespace L2.MM
open PySem PySem.Spec PyProof.Rows PySem.W PySem.Calls PySem.SeqAt
noncomputable section
variable {X:Cx}
theorem Zik (i:Nat) {x:Str} {es:List Expr} {f:EM} {p1 p2 p3:Pos} (hN:X.N.Nodup) (h1:BE X (.List es p1) f) (hi:X.N[i]?=some x) (hx:Loc X.env.scope x) (hf:X.fn x=true∨X.env.scope.names.lookup x=some .local):BS X (.Assign [.Name x p2] (.List es p1) p3) (Zu i f):=⟨Zm i hN h1.h hi hx rfl hf⟩
end
end L2.MM
namespace PySem.W.Fast
def tw14603078340713326688:=0
def tw12703771592030859488:=0
def tw13891509010304963040:=0
def tw4254152558931993184:=0
def tw7274257986375947968:=0
def tw4458313206616992672:=0
def tw5104894626059162560:=0
def tw3570839541303870529:=0
def tw13466011464689513601:=0
def tw520575028930808257:=0
def tw9282914039598969345:=0
def tw4924369936681563202:=0
def tw6671687072069743970:=0
def tw7263404971609861858:=0
def tw14253378678084267810:=0
def tw5549235782177470434:=0
def tw15258838281476226018:=0
def tw6143203972961369091:=0
def tw9395911104663730243:=0
def tw1403014358841329027:=0
def tw17074143489001406979:=0
def tw9622552259499700867:=0
def tw9367856112948899523:=0
def tw13083622132663898819:=0
def tw7955002322784935747:=0
def tw2836116452911924067:=0
def tw12814799716020456323:=0
def tw4289377800847446148:=0
def tw9430010542278485348:=0
def tw18224953290607743364:=0
def tw11560712943124838948:=0
def tw10279968992120812869:=0
def tw10710367328510829989:=0
def tw1392460580447674789:=0
def tw9454596215075404485:=0
def tw7664742644739381989:=0
def tw5481819416013852742:=0
def tw16468727517568269638:=0
def tw14453420294029744518:=0
def tw2530933880644053510:=0
def tw9250713849640370982:=0
def tw3059629612624900998:=0
def tw17856356975048666054:=0
def tw13188374693023302695:=0
def tw6039840799092222695:=0
def tw3144107497330538343:=0
def tw14250410297597019079:=0
def tw14822152677424208968:=0
def tw13642539114126219368:=0
def tw1668303434313857224:=0
def tw8447390680685342216:=0
def tw3303120904381968936:=0
def tw4531270688066401896:=0
def tw10753425871050745544:=0
def tw9165504882037080040:=0
def tw3616424567191122953:=0
def tw5364184961584922793:=0
def tw10453571365206441193:=0
def tw10711412970121103817:=0
def tw4007594167882382825:=0
def tw15850278428316971753:=0
def tw16592029114181305161:=0
def tw12980074482165660362:=0
def tw16995951585169541866:=0
def tw8306181955247068970:=0
def tw4767360254088950859:=0
def tw440420316052055403:=0
def tw3729616697799839179:=0
def tw1648319786276824939:=0
def tw2195162108906805099:=0
def tw18312762445879528556:=0
def tw15047968026880309420:=0
def tw462853876683708716:=0
def tw6435080531079687692:=0
def tw2594563307660225420:=0
def tw10964958109783511181:=0
def tw2156429093553082509:=0
def tw12340672762276527341:=0
def tw16774930165529148909:=0
def tw7713532630552754733:=0
def tw17669194578075362989:=0
def tw17288687773305435917:=0
def tw16949445435996505933:=0
def tw14048339527662533581:=0
def tw6554042205971328110:=0
def tw251673474603879630:=0
def tw5575353777270106542:=0
def tw13948012188409553358:=0
def tw10681826970752408430:=0
def tw11271348302062317647:=0
def tw6652601989026290095:=0
def tw13552900992650681871:=0
def tw17214879918409276271:=0
def tw9550876312890757264:=0
def tw9297662731769118928:=0
def tw13618772651883875856:=0
def tw8496031055659448880:=0
def tw13990119582958635600:=0
def tw16697776114483147408:=0
def tw9920772852703527568:=0
def tw6240507848583492272:=0
def tw4011397984920588401:=0
def tw17095133550538085681:=0
def tw2259788860550155249:=0
def tw3514504885187621202:=0
def tw441409798020119026:=0
def tw5111384635046111826:=0
def tw520613427273493074:=0
def tw16960703638378361682:=0
def tw9891130641857404914:=0
def tw11606307857413764179:=0
def tw14494023543648073875:=0
def tw18061940533444110547:=0
def tw16730927911147874771:=0
def tw9593012421368434131:=0
def tw16641841567744046835:=0
def tw8399287710024233779:=0
def tw17807545977616989075:=0
def tw3762614237410634036:=0
def tw5578194168725417652:=0
def tw10264578582835987156:=0
def tw12335729140855946996:=0
def tw3879739127717292884:=0
def tw14288768111028081620:=0
def tw708941868148611285:=0
def tw3535047860251915509:=0
def tw573867747245737365:=0
def tw7656740350395790773:=0
def tw8249391045295579669:=0
def tw1892956683459095317:=0
def tw9944492434167858005:=0
def tw13983676777699128726:=0
def tw11207138463223773207:=0
def tw14050390650235951255:=0
def tw17717377924858969527:=0
def tw5382538757805051703:=0
def tw18381116249551553527:=0
def tw11275726024718403575:=0
def tw2972783638869958712:=0
def tw13072897031819086104:=0
def tw1073036546053186872:=0
def tw729435664930586008:=0
def tw1970481120199738072:=0
def tw7714253818349415320:=0
def tw18432841029980548441:=0
def tw12324545969982878105:=0
def tw11617360988439678617:=0
def tw10644883350120881913:=0
def tw2323153799646915866:=0
def tw15632655147479913018:=0
def tw3752877333721901403:=0
def tw12002538283609233915:=0
def tw11107800239661788859:=0
def tw18330738268488911579:=0
def tw4702478454931893211:=0
def tw5992369046356039740:=0
def tw696898473097045148:=0
def tw949049620807624892:=0
def tw12872825601012869340:=0
def tw11999004524958914972:=0
def tw2744814498450282140:=0
def tw9154100017193332572:=0
def tw4285592328705800092:=0
def tw6518549754253641789:=0
def tw1951127416683672669:=0
def tw3664169664532536509:=0
def tw10261704749345150717:=0
def tw13193922928783843101:=0
def tw3657568833910862621:=0
def tw3805205208452645853:=0
def tw16533064229311296477:=0
def tw12496067521594090526:=0
def tw5606289164646455422:=0
def tw15633361257938493630:=0
def tw2293364361311445534:=0
def tw16341486196896808542:=0
def tw17533102624615539358:=0
def tw10198606374786778878:=0
def tw10723943588305909662:=0
def tw488738890497176510:=0
def tw1632534472188078143:=0
def tw3894611597943682847:=0
def tw4424571337904271199:=0
def tw9994479880600892098:=0
end PySem.W.Fast
namespace My
open PySem L2 L2.MM
noncomputable section
def Zbc:TMr:=(Zd6 (Zd5 (mCB ZG (Za (Ze 0) Zi))))
def Zbr:SM:=(Zq (Zu 1 (mCB Z9 (Za (Ze 0) Zi)))
  (Zq (Zu 2 (Zg6 (Zw (mOp eqM (Ze 1) (mC (.int 24)))) (mCB ZD (Za (Ze 0) (Za (mC (.int 22)) Zi))) (mC (.int 0))))
  (Zq (Zu 3 (ZZ (Za (mCB ZD (Za (Ze 0) (Za (mC (.int 0)) Zi))) (Za (mCB ZD (Za (Ze 0) (Za (mC (.int 2)) Zi))) Zi))))
  (Zq (Zu 4 (ZZ (Za (mCB zu (Za (Ze 0) (Za (mC (.int 4)) Zi))) (Za (mCB zu (Za (Ze 0) (Za (mC (.int 8)) Zi))) Zi))))
  (zr (mOp Zo (mOp Zo (Ze 3) (Ze 4)) (ZZ (Za (mOp ixM (Ze 0) (mC (.int 13))) (Za (mCB ZD (Za (Ze 0) (Za (mC (.int 14)) Zi))) (Za (Ze 2) (Za (mCB ZaX (Za (mSl (Ze 0) (ZR (Ze 1)) Zx) Zi)) Zi)))))))))))
def Zag:GM:=ZcT "NoSegment" 1 5 Zbc Zbr
def Zan:SM:=(Zdq (mIn (mSl (Ze 0) (ZR (mC (.int 2))) (ZR (mC (.int 4))))) (gNm 2) (Zu 1 (mOp Zo (mOp Zo (Ze 1) (mCB zd (Za (mOp ZaC (Ze 2) (mC (.int 65536))) Zi))) (mCB zd (Za (mOp ZX (Ze 2) (mC (.int 65536))) Zi)))))
def Zam:SM:=(mIf (Zw (mOp gtM (mOp ixM (Ze 0) (mC (.int 6))) (mC (.int 0)))) (Zu 1 (mOp Zo (mOp Zo (Ze 1) (zK (Za (mC (.int 2)) (Za (mC (.int 4)) Zi)))) (mCB zd (Za (mOp ixM (Ze 0) (mC (.int 6))) Zi)))) zm)
def Zba:SM:=(Zq (Zu 1 (mOp Zo (mCB zd (Za (mOp ixM (Ze 0) (mC (.int 0))) Zi)) (mCB zd (Za (mOp ixM (Ze 0) (mC (.int 1))) Zi))))
  (Zq Zan
  (Zq (Zu 1 (mOp Zo (mOp Zo (mOp Zo (Ze 1) (zK (Za (mOp ixM (zK (Za (mC (.int 80)) (Za (mC (.int 96)) Zi))) (mCB Zhd (Za (mOp gtM (mOp ixM (Ze 0) (mC (.int 6))) (mC (.int 0))) Zi))) (Za (mOp ixM (Ze 0) (mC (.int 4))) Zi)))) (mCB zd (Za (mOp ixM (Ze 0) (mC (.int 5))) Zi))) (zK (Za (mC (.int 0)) (Za (mC (.int 0)) (Za (mC (.int 0)) (Za (mC (.int 0)) Zi)))))))
  (Zq Zam
  (Zq (Zu 1 (mOp Zo (Ze 1) (mCB ZbP (Za (mOp ixM (Ze 0) (mC (.int 7))) Zi))))
  (zr (mOp ZdF (mOp Zo (mSl (Ze 1) Zx (ZR (mC (.int 16)))) (mCB zd (Za (mOp ZdS (mC (.int 65535)) (mCB Z1 (Za (Ze 1) Zi))) Zi))) (mSl (Ze 1) (ZR (mC (.int 18))) Zx))))))))
def zD:GM:=zL 1 3 Zba
def ZaP:SM:=(mIf (Zw (mOp eqM (Ze 3) (mC (.int 2)))) (ZV 2 (ZbO 2 (mOp ZdF (Ze 2) (Zaa (z9 (Za (mOp Zo (mC (.int 1)) (mOp ZX (mCB ZS (Za (Ze 0) (Za (mC (.int 42)) Zi))) (mC (.int 18)))) Zi)) [0] (mOp ZX (mCB ZS (Za (Ze 1) (Za (mOp Zo (mC (.int 43)) (Ze 0)) Zi))) (mC (.int 256))))))) zm)
def ZaO:SM:=(mIf (Zw (mOp eqM (Ze 3) (mC (.int 1)))) (ZV 2 (Zu 2 (mSl (Ze 2) Zx (ZR (Ze 4))))) ZaP)
def Z7:SM:=(mIf (Zw (mOp eqM (Ze 3) (mC (.int 0)))) (Zfj 2 (Ze 4) (mOp ZX (mOp Zo (mOp Zo (Zdp 2 (Ze 4)) (mC (.int 1))) (mOp ZX (mCB ZS (Za (Ze 0) (Za (mC (.int 42)) Zi))) (mC (.int 255)))) (mC (.int 256)))) ZaO)
def ZaN:SM:=(mIf (Zw (mOp ltM (mOp ixM (Ze 5) (mC (.int 0))) (ZaJ 2))) (Zfj 2 (mOp ixM (Ze 5) (mC (.int 0))) (mOp ixM (Ze 5) (mC (.int 1)))) zm)
def zl:SM:=(mIf (mOr (Zw (mOp eqM (Ze 3) (mC (.int 3)))) (ZfY (Zw (mOp eqM (Ze 3) (mC (.int 2)))) (Zw (mOp eqM (mOp ZX (mCB ZS (Za (Ze 0) (Za (mC (.int 62)) Zi))) (mC (.int 2))) (mC (.int 0)))))) (Zq (Zu 5 (zK (Za (ZZ (Za (mC (.int 12)) (Za (mC (.int 112)) Zi))) (Za (ZZ (Za (mC (.int 12)) (Za (mC (.int 96)) Zi))) (Za (ZZ (Za (mC (.int 12)) (Za (mC (.int 80)) Zi))) (Za (ZZ (Za (mC (.int 12)) (Za (mC (.int 64)) Zi))) (Za (ZZ (Za (mC (.int 13)) (Za (mC (.int 32)) Zi))) (Za (ZZ (Za (mC (.int 13)) (Za (mC (.int 31)) Zi))) (Za (ZZ (Za (mC (.int 18)) (Za (mC (.int 1)) Zi))) (Za (ZZ (Za (mC (.int 19)) (Za (mC (.int 1)) Zi))) (Za (ZZ (Za (mC (.int 20)) (Za (mC (.int 3)) Zi))) (Za (ZZ (Za (mC (.int 21)) (Za (mC (.int 5)) Zi))) (Za (ZZ (Za (mC (.int 22)) (Za (mC (.int 0)) Zi))) (Za (ZZ (Za (mC (.int 23)) (Za (mC (.int 3)) Zi))) (Za (ZZ (Za (mC (.int 13)) (Za (mC (.int 0)) Zi))) (Za (ZZ (Za (mC (.int 0)) (Za (mC (.int 9)) Zi))) Zi))))))))))))))))
    (Zq (Zu 5 (mOp ixM (Ze 5) (mOp ZX (mCB ZS (Za (Ze 0) (Za (mC (.int 44)) Zi))) (mC (.int 14)))))
    (Zq ZaN
    (Zq (ZV 2 (Zu 2 (mOp Zo (mOp Zo (mSl (Ze 2) Zx (ZR (mC (.int 16)))) (zK (Za (mC (.int 0)) (Za (mC (.int 0)) Zi)))) (mSl (Ze 2) (ZR (mC (.int 18))) Zx))))
    (ZV 2 (Zu 2 (mOp Zo (mOp Zo (mSl (Ze 2) Zx (ZR (mC (.int 16)))) (mCB zd (Za (mOp ZdS (mC (.int 65535)) (mCB Z1 (Za (Ze 2) Zi))) Zi))) (mSl (Ze 2) (ZR (mC (.int 18))) Zx)))))))) zm)
def ZaM:SM:=(mIf (ZfY (Zw (mOp eqM (Ze 3) (mC (.int 0)))) (Zw (mOp Zcm (Ze 6) (mC .non)))) (zr (mC (.bl false))) zm)
def ZaL:SM:=(mIf (mOr (Zw (mOp neM (Ze 7) (Ze 2))) (mOr (Zd6 (Zd5 (mCB ZaV (Za (Ze 8) (Za (mC (.ty "bool")) Zi))))) (Zw (mOp neM (Ze 8) (mOp Zcm (Ze 6) (mC .non)))))) (zr (mC (.bl false))) zm)
def Zb3:SM:=(Zq (Zu 1 (mCB ZcW (Za (Ze 0) (Za (mC (.int 0)) Zi))))
  (Zq (ZbO 2 (mCB zD (Za (Ze 1) Zi)))
  (Zq (Zu 3 (mOp ZX (mCB ZS (Za (Ze 0) (Za (mC (.int 40)) Zi))) (mC (.int 4))))
  (Zq (Zu 4 (mOp ZX (mCB ZS (Za (Ze 0) (Za (mC (.int 41)) Zi))) (ZaJ 2)))
  (Zq Z7
  (Zq zl
  (Zq (ZV 2 (Zu 6 (mCB zW (Za (Ze 2) Zi))))
  (Zq ZaM
  (Zq (ZV 2 (Zu 7 (mCB ZbP (Za (Ze 2) Zi))))
  (Zq (Zu 8 (mCB ZG (Za (Ze 7) Zi)))
  (Zq (Zu 9 (mC (.bl false)))
  (Zq (Zu 10 (mC .non))
  (Zq (ZcS 11 9 10 (Za (Ze 7) Zi) Zag)
  (Zq (ZV 2 ZaL)
  (zr (zU (mOp eqM (Ze 9) (mOp isM (Ze 6) (mC .non))) (mOp eqM (Ze 10) (Ze 6))))))))))))))))))
def Zfk:GM:=zL 1 12 Zb3
theorem Zgn {a b:List Int} {θ:Sto} (h:a.length+b.length≤100000):ZdF (il a) (il b) θ=.ok (.ref θ.length) (θ++[.lst ((a++b).map D.int)]):=by
  unfold ZdF il
  have e1:ZY θ (.lst (a.map D.int))=some (a.map D.int):=rfl
  have e2:ZY θ (.lst (b.map D.int))=some (b.map D.int):=rfl
  rw [e1,e2]
  simp only [List.length_map,ZhC,if_pos h,List.map_append]
theorem Zj0 {s:Seg} (h:s.Ok) (θ:Sto) (x y:Sl):zr (mOp ZdF (mOp Zo (mSl (Ze 1) Zx (ZR (mC (.int 16)))) (mCB zd (Za (mOp ZdS (mC (.int 65535)) (mCB Z1 (Za (Ze 1) Zi))) Zi))) (mSl (Ze 1) (ZR (mC (.int 18))) Zx)) [x,.val (il (zB s)),y] θ
    = .ok (.rt (.ref θ.length),[x,.val (il (zB s)),y]) (θ++[.lst ((putL s).map D.int)]):=by
  have pe:=ZgE h
  have bp:=h.put.byt
  rw [←pe] at bp
  have lf:=ZaH bp θ
  have hs:=Zbo bp.sum.1
  have hl:(zB s).length≤100:=by
    have:=Za8 s
    have:=h.data.2
    rw [pe]
    simp
    omega
  have fin:=ZhU h
  have tw:[(65535-ZI (Zt (zB s)))/256,(65535-ZI (Zt (zB s))) % 256]=two (65535-ZI (Zt (zB s))):=two_small (by omega) (by omega)
  have k1:zz (zB s) none (some 16)=(zB s).take 16:=Zdw _ (by decide)
  have k2:zz (zB s) (some 18) none=(zB s).drop 18:=ZaE _ (by decide)
  have fs:Zo (il ((zB s).take 16)) (il (two (65535-ZI (Zt (zB s))))) θ=.ok (il ((zB s).take 16++two (65535-ZI (Zt (zB s))))) θ:=Zbm (by simp; omega)
  have fs2:ZdF (il ((zB s).take 16++two (65535-ZI (Zt (zB s))))) (il ((zB s).drop 18)) θ=.ok (.ref θ.length) (θ++[.lst ((putL s).map D.int)]):=by
    rw [Zgn (by simp; omega),fin]
  simp only [Zgj,Zgk,ZiN,ZeT,ZjY,Zeq,Zgl,Zb5,Zep,x_c,R.bind_ok,List.getElem?_cons_succ,List.getElem?_cons_zero,Zhf,k1,k2,lf,Zdj,if_true,Ziu,tw,fs,fs2]
theorem ZfC {s:Seg} (h:s.Ok) (θ:Sto):zD [s.d] θ=.ok (.ref θ.length) (θ++[.lst ((putL s).map D.int)]):=by
  have tail:=Zj0 h θ
  have dl:=h.data.2
  by_cases m:s.most=0
  · have g:ixM (il [80,96]) (.int 0) θ=.ok (.int 80) θ:=rfl
    have e0:hd s=80:=if_pos m
    have pl:[s.src/256,s.src % 256,s.goal/256,s.goal % 256,s.num/65536/256,s.num/65536 % 256,s.num % 65536/256,s.num % 256,s.ans/65536/256,s.ans/65536 % 256,s.ans % 65536/256,s.ans % 256,
      80,s.flags,s.win/256,s.win % 256,0,0,0,0]++s.data=zB s:=by unfold zB; rw [if_pos m,e0]; rfl
    simp only [List.cons_append,List.nil_append] at pl
    simp [zD,Zba,Zan,Zam,Zdq,ZbI,m,g,pl,-Zgj,tail,show s.data.length+20≤100000 by omega,show 20+s.data.length≤100000 by omega]
  · have g:ixM (il [80,96]) (.int 1) θ=.ok (.int 96) θ:=rfl
    have e0:hd s=96:=if_neg m
    have mg:(0:Int)<s.most:=by have:=h.most.resolve_left m; omega
    have pl:[s.src/256,s.src % 256,s.goal/256,s.goal % 256,s.num/65536/256,s.num/65536 % 256,s.num % 65536/256,s.num % 256,s.ans/65536/256,s.ans/65536 % 256,s.ans % 65536/256,s.ans % 256,
      96,s.flags,s.win/256,s.win % 256,0,0,0,0,2,4,s.most/256,s.most % 256]++s.data=zB s:=by unfold zB; rw [if_neg m,e0]; rfl
    simp only [List.cons_append,List.nil_append] at pl
    simp [zD,Zba,Zan,Zam,Zdq,ZbI,mg,g,pl,-Zgj,tail,show s.data.length+24≤100000 by omega,show 24+s.data.length≤100000 by omega]
theorem Zib {s:Seg} (h:s.Ok):20≤(putL s).length:=by
  have:=(Zaz (ZfL h)).1
  exact this
section
variable {ns:List Int} {θ:Sto}
theorem ZdP {i:Nat} {f:EM} {ρ:List Sl} {xs:List Int} (lo:θ.all (Zia θ.length)=true) (h:f ρ θ=.ok (.ref θ.length) (θ++[.lst (xs.map D.int)])):ZbO i f ρ θ=.ok (.nx,ρ.set i (.own (xs.map D.int))) θ:=by
  unfold ZbO
  rw [h,R.bind_ok]
  simp only [List.getLast?_concat,List.dropLast_concat]
  rw [if_pos ⟨by simp,Nat.le_refl _,Zd7 _ _,lo⟩]
end
theorem ZdM:∀(a:List Int) (k:Nat) (v:Int),k<a.length→Zt (a.set k v)=Zt a+(v-gt a k)*(if k % 2=0 then 256 else 1)
  | [],k,v,h=>by simp at h
  | [x],k,v,h=>by
    have:k=0:=by simp at h; omega
    subst this
    simp [Zt,gt]
    omega
  | x::y::r,0,v,h=>by
    simp [Zt,gt]
    omega
  | x::y::r,1,v,h=>by
    simp [Zt,gt]
    omega
  | x::y::r,k+2,v,h=>by
    have ih:=ZdM r k v (by simpa using h)
    have e:gt (x::y::r) (k+2)=gt r k:=by simp [gt]
    have e2:(k+2) % 2=k % 2:=by omega
    rw [e,e2]
    simp only [List.set_cons_succ,Zt]
    rw [ih]
    omega
theorem ZfG {a:List Int} {k:Nat} {v:Int} (h:Byt a) (hf:ZI (Zt a)=65535) (hk:k<a.length) (hv:0≤v∧v≤255) (hne:v≠gt a k):Byt (a.set k v)∧ZE (a.set k v)=false:=by
  have b:Byt (a.set k v):=by
    refine ⟨fun z hz=>?_,by simpa using h.2⟩
    rcases List.mem_or_eq_of_mem_set hz with hz | rfl
    · exact h.1 z hz
    · exact hv
  refine ⟨b,?_⟩
  have e:=ZdM a k v hk
  have f1:=Zbo h.sum.1
  have f2:=Zbo b.sum.1
  have gb:0≤gt a k∧gt a k≤255:=by
    unfold gt
    rw [List.getD_eq_getElem?_getD,List.getElem?_eq_getElem hk]
    exact h.1 a[k] (List.getElem_mem hk)
  have ne:ZI (Zt (a.set k v))≠65535:=by
    intro q
    rw [q] at f2
    rw [hf] at f1
    rw [e] at f2
    split at f2<;>omega
  unfold ZE
  simp [ne]
theorem ZiU {a:List Int} (h:Byt a) (θ:Sto):Zag [il a] θ=if ZE a=true then .ok (ZaB a).d θ else .ex "NoSegment" θ:=by
  have ir:=ZaY h θ
  cases hr:ZE a with
  | false=>
    rw [hr] at ir
    simp [Zag,ZcT,Zbc,ir]
  | true=>
    have g:=Zj1 h hr θ
    rw [hr] at ir
    have e1:Zbc (ZP 5 [il a]) θ=.ok false θ:=by simp [Zbc,ir]
    have b1:zO (ZP 5 [il a]) θ=.ok (.nx,ZP 5 [il a]) θ:=by simp [zO,ir]
    have e2:Zb2 (ZP 5 [il a]) θ=Zbr (ZP 5 [il a]) θ:=by
      show ZbN (zO (ZP 5 [il a]) θ) Zbr=_
      rw [b1]
      rfl
    unfold Zfb at g
    rw [Zis,if_pos (by rfl),e2] at g
    unfold Zag ZcT
    rw [if_pos (by rfl),e1,if_pos rfl]
    dsimp only
    cases q:Zbr (ZP 5 [il a]) θ with
    | bad=>rw [q] at g; cases g
    | ex c θ'=>rw [q] at g; cases g
    | ok p θ'=>
      rw [q,R.bind_ok] at g
      obtain ⟨fl,ρ⟩:=p
      cases fl<;>simp_all
def Zet:SM:=(Zq (ZV 2 (Zu 6 (mCB zW (Za (Ze 2) Zi))))
  (Zq ZaM
  (Zq (ZV 2 (Zu 7 (mCB ZbP (Za (Ze 2) Zi))))
  (Zq (Zu 8 (mCB ZG (Za (Ze 7) Zi)))
  (Zq (Zu 9 (mC (.bl false)))
  (Zq (Zu 10 (mC .non))
  (Zq (ZcS 11 9 10 (Za (Ze 7) Zi) Zag)
  (Zq (ZV 2 ZaL)
  (zr (zU (mOp eqM (Ze 9) (mOp isM (Ze 6) (mC .non))) (mOp eqM (Ze 10) (Ze 6))))))))))))
theorem Zjz (s:Seg) (θ:Sto):eqM s.d s.d θ=.ok (.bl true) θ:=by
  have p:pl 9 s.d=true:=Zi7 7 s
  have n:noB s.d=true:=Zh5 s
  have lk:look θ s.d=s.d:=rfl
  rw [Zdv (Zdx (by rw [lk]; exact p) (by rw [lk]; exact p) (by rw [lk]; exact n) (by rw [lk]; exact n))]
  simp
theorem ZjA (θ:Sto):eqM .non .non θ=.ok (.bl true) θ:=by
  rw [Zdv (x:=.non) (y:=.non) ⟨rfl,rfl,rfl,rfl,rfl⟩]
  simp
theorem ZfJ {ns row:List Int} {d1:D} {x4 x5:Sl} {way:Int} (h:Byt row) (hw:way=0→ZE row=false):∃ρ,Zet [.val (.scr ns),.val d1,.val (il row),.val (.int way),x4,x5,.no,.no,.no,.no,.no,.no] []=.ok (.rt (.bl true),ρ) []:=by
  have ir:=ZaY h []
  have gx:=ZiU h []
  cases hr:ZE row with
  | false=>
    have rd:=Zeu h hr []
    rw [hr] at ir gx
    have gx':Zag [il row] []=.ex "NoSegment" []:=gx
    exact ⟨_,by simp [Zet,ZaM,ZaL,ZcS,rd,ir,gx',zJ,ZjA,isT]; rfl⟩
  | true=>
    have rd:=ZhH h hr []
    rw [hr] at ir gx
    have gx':Zag [il row] []=.ok (ZaB row).d []:=gx
    have wn:way≠0:=fun z=>by rw [hw z] at hr; cases hr
    obtain ⟨s,hs⟩:∃s,s=ZaB row:=⟨_,rfl⟩
    rw [←hs] at rd gx'
    have inn:zJ s.d=false:=rfl
    exact ⟨_,by simp [Zet,ZaM,ZaL,ZcS,rd,ir,gx',inn,wn,Zjz,isT]; rfl⟩
theorem ZfK {ns row:List Int} {d1:D} {x4 x5 S:Sl} {way:Int} (h:Byt row) (hw:way=0→ZE row=false) (hS:S=.own (row.map D.int)∨S=.val (il row)):∃ρ,Zet [.val (.scr ns),.val d1,S,.val (.int way),x4,x5,.no,.no,.no,.no,.no,.no] []=.ok (.rt (.bl true),ρ) []:=by
  obtain ⟨ρ,e⟩:=ZfJ (ns:=ns) (d1:=d1) (x4:=x4) (x5:=x5) h hw
  rcases hS with rfl | rfl
  · refine ⟨ρ,?_⟩
    rw [←e]
    unfold Zet
    rw [Zb4,Zb4]
    congr 1
  · exact ⟨ρ,e⟩
def ZT (ns:List Int) (s:Seg) (S:Sl) (way:Int) (k:Nat) (x5:Sl):List Sl:=[.val (.scr ns),.val s.d,S,.val (.int way),.val (.int (k:Int)),x5,.no,.no,.no,.no,.no,.no]
def Zgq:List D:=[.tup [.int 12,.int 112],.tup [.int 12,.int 96],.tup [.int 12,.int 80],.tup [.int 12,.int 64],.tup [.int 13,.int 32],.tup [.int 13,.int 31],.tup [.int 18,.int 1],.tup [.int 19,.int 1],.tup [.int 20,.int 3],.tup [.int 21,.int 5],.tup [.int 22,.int 0],.tup [.int 23,.int 3],.tup [.int 13,.int 0],.tup [.int 0,.int 9]]
theorem ZjZ {j:Int} (h:0≤j∧j<14) (θ:Sto):∃a b:Nat,b≤255∧ixM (.lst Zgq) (.int j) θ=.ok (.tup [.int (a:Int),.int (b:Int)]) θ:=by
  have:j=0∨j=1∨j=2∨j=3∨j=4∨j=5∨j=6∨j=7∨j=8∨j=9∨j=10∨j=11∨j=12∨j=13:=by omega
  rcases this with rfl | rfl | rfl | rfl | rfl | rfl | rfl | rfl | rfl | rfl | rfl | rfl | rfl | rfl
  · exact ⟨12,112,by decide,rfl⟩
  · exact ⟨12,96,by decide,rfl⟩
  · exact ⟨12,80,by decide,rfl⟩
  · exact ⟨12,64,by decide,rfl⟩
  · exact ⟨13,32,by decide,rfl⟩
  · exact ⟨13,31,by decide,rfl⟩
  · exact ⟨18,1,by decide,rfl⟩
  · exact ⟨19,1,by decide,rfl⟩
  · exact ⟨20,3,by decide,rfl⟩
  · exact ⟨21,5,by decide,rfl⟩
  · exact ⟨22,0,by decide,rfl⟩
  · exact ⟨23,3,by decide,rfl⟩
  · exact ⟨13,0,by decide,rfl⟩
  · exact ⟨0,9,by decide,rfl⟩
theorem Zje {r:List Int} {k:Nat} (hk:k<r.length):atI (r.map D.int) (k:Int)=some (.int (gt r k)):=by
  rw [Zfz,ZjE (x:=gt r k)]
  · rfl
  · unfold gt
    rw [List.getD_eq_getElem?_getD,List.getElem?_eq_getElem hk]
    rfl
theorem ZgO {r:List Int} {k:Nat} (hk:k<r.length):ixN (r.map D.int).length (k:Int)=some k:=by
  rw [List.length_map]
  unfold ixN
  rw [if_pos (by omega)]
  simp [hk]
theorem ZkD {r:List Int} {k:Nat} (h:Byt r) (hk:k<r.length):0≤gt r k∧gt r k≤255:=by
  unfold gt
  rw [List.getD_eq_getElem?_getD,List.getElem?_eq_getElem hk]
  exact h.1 r[k] (List.getElem_mem hk)
theorem Zij {r:List Int} {k:Nat} {v:Int} (h:Byt r) (hv:0≤v∧v≤255):Byt (r.set k v):=by
  refine ⟨fun z hz=>?_,by simpa using h.2⟩
  rcases List.mem_or_eq_of_mem_set hz with hz | rfl
  · exact h.1 z hz
  · exact hv
theorem Zfs {r m:List Int} (h:Byt r) (hl:r.length≤200) (hm:∀z∈m,0≤z∧z≤255) (m2:m.length=2):Byt (r.take 16++m++r.drop 18)∧(r.take 16++m++r.drop 18).length≤202:=by
  have l:(r.take 16++m++r.drop 18).length≤202:=by simp; omega
  exact ⟨⟨Z8 (Z8 (fun z hz=>h.1 z (List.mem_of_mem_take hz)) hm) (fun z hz=>h.1 z (List.mem_of_mem_drop hz)),by omega⟩,l⟩
section
variable {ns:List Int} {s:Seg} {r:List Int} {way:Int} {k:Nat} {x5:Sl}
theorem Zh8 {S:Sl} (h:Byt r) (hl:r.length≤200) (hS:S=.own (r.map D.int)):∃r',Byt r'∧Zq (ZV 2 (Zu 2 (mOp Zo (mOp Zo (mSl (Ze 2) Zx (ZR (mC (.int 16)))) (zK (Za (mC (.int 0)) (Za (mC (.int 0)) Zi)))) (mSl (Ze 2) (ZR (mC (.int 18))) Zx))))
    (ZV 2 (Zu 2 (mOp Zo (mOp Zo (mSl (Ze 2) Zx (ZR (mC (.int 16)))) (mCB zd (Za (mOp ZdS (mC (.int 65535)) (mCB Z1 (Za (Ze 2) Zi))) Zi))) (mSl (Ze 2) (ZR (mC (.int 18))) Zx)))) (ZT ns s S way k x5) []=.ok (.nx,ZT ns s (.val (il r')) way k x5) []:=by
  subst hS
  obtain ⟨b2,l2⟩:=Zfs (m:=[0,0]) h hl (by intro z hz; simp at hz; omega) rfl
  obtain ⟨q,hq⟩:∃q,q=r.take 16++[0,0]++r.drop 18:=⟨_,rfl⟩
  rw [←hq] at b2 l2
  have lf:=ZaH b2 []
  have hs:=Zbo b2.sum.1
  have b3:=Zfs (r:=q) (m:=[(65535-ZI (Zt q))/256,(65535-ZI (Zt q)) % 256]) b2 (by
    have:q.length≤200∨200<q.length:=by omega
    rcases this with z | z
    · exact z
    · rw [hq] at z; simp at z; omega) (by intro z hz; simp at hz; omega) rfl
  refine ⟨_,b3.1,?_⟩
  have k1:zz r none (some 16)=r.take 16:=Zdw _ (by decide)
  have k2:zz r (some 18) none=r.drop 18:=ZaE _ (by decide)
  have k3:zz q none (some 16)=q.take 16:=Zdw _ (by decide)
  have k4:zz q (some 18) none=q.drop 18:=ZaE _ (by decide)
  have f1:Zo (il (r.take 16)) (il [0,0]) []=.ok (il (r.take 16++[0,0])) []:=Zbm (by simp; omega)
  have f2:Zo (il (r.take 16++[0,0])) (il (r.drop 18)) []=.ok (il q) []:=by rw [hq]; exact Zbm (by simp; omega)
  have f3:Zo (il (q.take 16)) (il [(65535-ZI (Zt q))/256,(65535-ZI (Zt q)) % 256]) []=.ok (il (q.take 16++[(65535-ZI (Zt q))/256,(65535-ZI (Zt q)) % 256])) []:=Zbm (by simp; omega)
  have f4:Zo (il (q.take 16++[(65535-ZI (Zt q))/256,(65535-ZI (Zt q)) % 256])) (il (q.drop 18)) []=.ok (il (q.take 16++[(65535-ZI (Zt q))/256,(65535-ZI (Zt q)) % 256]++q.drop 18)) []:=Zbm (by simp; omega)
  have g0:(.lst (r.map D.int):D)=il r:=rfl
  have g1:zK (Za (mC (.int 0)) (Za (mC (.int 0)) Zi))=fun (_:List Sl) (θ:Sto)=>.ok (il [0,0]) θ:=by
    funext ρ θ
    rfl
  have s1:ZV 2 (Zu 2 (mOp Zo (mOp Zo (mSl (Ze 2) Zx (ZR (mC (.int 16)))) (zK (Za (mC (.int 0)) (Za (mC (.int 0)) Zi)))) (mSl (Ze 2) (ZR (mC (.int 18))) Zx))) (ZT ns s (.own (r.map D.int)) way k x5) []=.ok (.nx,ZT ns s (.val (il q)) way k x5) []:=by
    rw [g1]
    unfold ZT
    simp only [Zb6,ZeU,Zgk,ZiN,ZeT,Zb5,Zep,x_c,R.bind_ok,List.getElem?_cons_succ,List.getElem?_cons_zero,List.set_cons_succ,List.set_cons_zero,g0,Zhf,k1,k2,f1,f2]
  have s2:ZV 2 (Zu 2 (mOp Zo (mOp Zo (mSl (Ze 2) Zx (ZR (mC (.int 16)))) (mCB zd (Za (mOp ZdS (mC (.int 65535)) (mCB Z1 (Za (Ze 2) Zi))) Zi))) (mSl (Ze 2) (ZR (mC (.int 18))) Zx))) (ZT ns s (.val (il q)) way k x5) []=.ok (.nx,ZT ns s (.val (il (q.take 16++[(65535-ZI (Zt q))/256,(65535-ZI (Zt q)) % 256]++q.drop 18))) way k x5) []:=by
    unfold ZT
    simp only [Zb6,ZeU,Zgk,ZiN,ZeT,Zb5,Zep,x_c,ZjY,Zeq,Zgl,R.bind_ok,List.getElem?_cons_succ,List.getElem?_cons_zero,List.set_cons_succ,List.set_cons_zero,Zhf,k3,k4,lf,Zdj,if_true,Ziu,f3,f4]
  rw [Zb4,s1]
  exact s2
theorem Zfo (h:Byt r) (hl:r.length≤200) (hc:way=3∨(way=2∧mix ns 62 % 2=0)):∃r' y5,Byt r'∧zl (ZT ns s (.own (r.map D.int)) way k x5) []=.ok (.nx,ZT ns s (.val (il r')) way k y5) []:=by
  obtain ⟨a,b,hb,tb⟩:=ZjZ (j:=mix ns 44 % 14) (by omega) []
  obtain ⟨r1,b1,l1,e4⟩:∃r1,Byt r1∧r1.length≤200∧ZaN (ZT ns s (.own (r.map D.int)) way k (.val (.tup [.int (a:Int),.int (b:Int)]))) []=.ok (.nx,ZT ns s (.own (r1.map D.int)) way k (.val (.tup [.int (a:Int),.int (b:Int)]))) []:=by
    by_cases q:a<r.length
    · refine ⟨r.set a (b:Int),Zij h (by omega),by simpa using hl,?_⟩
      have i:=ZgO q
      simp only [List.length_map] at i
      have ms:(r.map D.int).set a (.int (b:Int))=(r.set a (b:Int)).map D.int:=by rw [List.map_set]
      unfold ZT
      simp [ZaN,q,i,ms,-List.map_set]
    · refine ⟨r,h,hl,?_⟩
      unfold ZT
      simp [ZaN,q]
  obtain ⟨r',b',e'⟩:=Zh8 (ns:=ns) (s:=s) (way:=way) (k:=k) (x5:=.val (.tup [.int (a:Int),.int (b:Int)])) b1 l1 rfl
  refine ⟨r',.val (.tup [.int (a:Int),.int (b:Int)]),b',?_⟩
  have cond:∀θ,(mOr (Zw (mOp eqM (Ze 3) (mC (.int 3)))) (ZfY (Zw (mOp eqM (Ze 3) (mC (.int 2)))) (Zw (mOp eqM (mOp ZX (mCB ZS (Za (Ze 0) (Za (mC (.int 62)) Zi))) (mC (.int 2))) (mC (.int 0)))))) (ZT ns s (.own (r.map D.int)) way k x5) θ=.ok true θ:=by
    intro θ
    unfold ZT
    rcases hc with rfl | ⟨rfl,z⟩
    · simp
    · simp [z]
  have t1:∀θ,zK (Za (ZZ (Za (mC (.int 12)) (Za (mC (.int 112)) Zi))) (Za (ZZ (Za (mC (.int 12)) (Za (mC (.int 96)) Zi))) (Za (ZZ (Za (mC (.int 12)) (Za (mC (.int 80)) Zi))) (Za (ZZ (Za (mC (.int 12)) (Za (mC (.int 64)) Zi))) (Za (ZZ (Za (mC (.int 13)) (Za (mC (.int 32)) Zi))) (Za (ZZ (Za (mC (.int 13)) (Za (mC (.int 31)) Zi))) (Za (ZZ (Za (mC (.int 18)) (Za (mC (.int 1)) Zi))) (Za (ZZ (Za (mC (.int 19)) (Za (mC (.int 1)) Zi))) (Za (ZZ (Za (mC (.int 20)) (Za (mC (.int 3)) Zi))) (Za (ZZ (Za (mC (.int 21)) (Za (mC (.int 5)) Zi))) (Za (ZZ (Za (mC (.int 22)) (Za (mC (.int 0)) Zi))) (Za (ZZ (Za (mC (.int 23)) (Za (mC (.int 3)) Zi))) (Za (ZZ (Za (mC (.int 13)) (Za (mC (.int 0)) Zi))) (Za (ZZ (Za (mC (.int 0)) (Za (mC (.int 9)) Zi))) Zi)))))))))))))) (ZT ns s (.own (r.map D.int)) way k x5) θ=.ok (.lst Zgq) θ:=fun θ=>rfl
  unfold zl
  rw [ZhE,cond,R.bind_ok,if_pos rfl,Zb4,ZeU,t1,R.bind_ok]
  have st:(ZT ns s (.own (r.map D.int)) way k x5).set 5 (.val (.lst Zgq))=ZT ns s (.own (r.map D.int)) way k (.val (.lst Zgq)):=rfl
  rw [st]
  have t2:Zu 5 (mOp ixM (Ze 5) (mOp ZX (mCB ZS (Za (Ze 0) (Za (mC (.int 44)) Zi))) (mC (.int 14)))) (ZT ns s (.own (r.map D.int)) way k (.val (.lst Zgq))) []=.ok (.nx,ZT ns s (.own (r.map D.int)) way k (.val (.tup [.int (a:Int),.int (b:Int)]))) []:=by
    unfold ZT
    simp [tb]
  rw [zM,Zb4,t2,zM,Zb4,e4,zM]
  exact e'
end
theorem law_true (ns:List Int) (hn:ns.length≤63):∃θ',Zfk [.scr ns] []=.ok (.bl true) θ':=by
  obtain ⟨s,hs⟩:∃x,x=ZaF ns 0:=⟨_,rfl⟩
  have ta:=Zj2 ns 0 []
  have sok:s.Ok:=by rw [hs]; exact ZjF ns 0
  rw [←hs] at ta
  have lb:=ZfC sok []
  have l20:=Zib sok
  have pb:=ZhR sok.put
  have pf:=ZdX sok.put
  have pl':(putL s).length≤40:=by rw [Ze6]; have:=sok.data.2; split<;>omega
  obtain ⟨r,hr⟩:∃x,x=putL s:=⟨_,rfl⟩
  rw [←hr] at lb l20 pb pf pl'
  obtain ⟨k,hk⟩:∃x:Nat,(x:Int)=mix ns 41 % (r.length:Int):=⟨(mix ns 41 % (r.length:Int)).toNat,by have:=Int.emod_nonneg (mix ns 41) (show (r.length:Int)≠0 by omega); omega⟩
  have hlt:k<r.length:=by have:=Int.emod_lt_of_pos (mix ns 41) (show 0<(r.length:Int) by omega); omega
  obtain ⟨way,hw⟩:∃x,x=mix ns 40 % 4:=⟨_,rfl⟩
  have tk:=ZdP (i:=2) (f:=mCB zD (Za (Ze 1) Zi)) (ρ:=[.val (.scr ns),.val s.d,.no,.no,.no,.no,.no,.no,.no,.no,.no,.no]) (θ:=[]) (xs:=r) rfl (by simpa using lb)
  have hd:Zb3 (ZP 12 [.scr ns]) []=ZbN (Z7 (ZT ns s (.own (r.map D.int)) way k .no) []) (Zq zl Zet):=by
    have np:0<r.length:=by omega
    unfold ZT
    have e0:Zb3=Zq (Zu 1 (mCB ZcW (Za (Ze 0) (Za (mC (.int 0)) Zi)))) (Zq (ZbO 2 (mCB zD (Za (Ze 1) Zi))) (Zq (Zu 3 (mOp ZX (mCB ZS (Za (Ze 0) (Za (mC (.int 40)) Zi))) (mC (.int 4)))) (Zq (Zu 4 (mOp ZX (mCB ZS (Za (Ze 0) (Za (mC (.int 41)) Zi))) (ZaJ 2))) (Zq Z7 (Zq zl Zet))))):=rfl
    rw [e0]
    simp [ta,tk,←hw,←hk,np,ZP]
  obtain ⟨row,S,y5,hb,hz,hS,e3⟩:∃row S y5,Byt row∧(way=0→ZE row=false)∧(S=.own (row.map D.int)∨S=.val (il row))∧ZbN (Z7 (ZT ns s (.own (r.map D.int)) way k .no) []) zl=.ok (.nx,ZT ns s S way k y5) []:=by
    have w4:way=0∨way=1∨way=2∨way=3:=by omega
    rcases w4 with rfl | rfl | rfl | rfl
    · obtain ⟨v,hv⟩:∃x:Int,x=(gt r k+1+mix ns 42 % 255) % 256:=⟨_,rfl⟩
      have gb:=ZkD pb hlt
      obtain ⟨w1,w2⟩:=ZfG (v:=v) pb pf hlt (by omega) (by omega)
      refine ⟨r.set k v,_,.no,w1,fun _=>w2,.inl rfl,?_⟩
      have i:=ZgO hlt
      simp only [List.length_map] at i
      have ms:(r.map D.int).set k (.int v)=(r.set k v).map D.int:=by rw [List.map_set]
      have a0:=Zje hlt
      unfold ZT
      simp [Z7,zl,a0,i,←hv,ms,-List.map_set]
    · refine ⟨r.take k,.val (il (r.take k)),.no,⟨fun z hz=>pb.1 z (List.mem_of_mem_take hz),by have:=pb.2; simp; omega⟩,fun z=>by omega,.inr rfl,?_⟩
      have k1:zz r none (some (k:Int))=r.take k:=Zdw _ (by omega)
      have g0:(.lst (r.map D.int):D)=il r:=rfl
      unfold ZT
      simp [Z7,ZaO,zl,g0,k1]
    · obtain ⟨n,hn'⟩:∃x,x=1+mix ns 42 % 18:=⟨_,rfl⟩
      have cp:=fun ρ (h0:ρ[0]?=some (Sl.val (D.scr ns)))=>Zhp (nE:=mOp Zo (mC (.int 1)) (mOp ZX (mCB ZS (Za (Ze 0) (Za (mC (.int 42)) Zi))) (mC (.int 18)))) (src:=[0]) (elt:=mOp ZX (mCB ZS (Za (Ze 1) (Za (mOp Zo (mC (.int 43)) (Ze 0)) Zi))) (mC (.int 256))) (ρ:=ρ) (θ:=[]) (j:=n) (fun k=>mix ns (43+(k:Int)) % 256) (by simp [h0,hn']) (by omega) (by omega) (by intro i hi; simp [h0])
      obtain ⟨c,hc⟩:∃c,c=(List.range n.toNat).map fun (k:Nat)=>mix ns (43+(k:Int)) % 256:=⟨_,rfl⟩
      rw [←hc] at cp
      have cl:c.length≤18:=by rw [hc]; simp; omega
      have cb:∀z∈c,0≤z∧z≤255:=by
        intro z hz
        rw [hc] at hz
        obtain ⟨j,_,rfl⟩:=List.mem_map.mp hz
        omega
      have rb:Byt (r++c):=⟨Z8 pb.1 cb,by simp; omega⟩
      have rl:(r++c).length≤200:=by simp; omega
      have tk2:=ZdP (i:=2) (f:=mOp ZdF (Ze 2) (Zaa (z9 (Za (mOp Zo (mC (.int 1)) (mOp ZX (mCB ZS (Za (Ze 0) (Za (mC (.int 42)) Zi))) (mC (.int 18)))) Zi)) [0] (mOp ZX (mCB ZS (Za (Ze 1) (Za (mOp Zo (mC (.int 43)) (Ze 0)) Zi))) (mC (.int 256))))) (ρ:=ZT ns s (.val (il r)) 2 k .no) (θ:=[]) (xs:=r++c) rfl (by
        have ac:=Zgn (a:=r) (b:=c) (θ:=[]) (by omega)
        have v2:Ze 2 (ZT ns s (.val (il r)) 2 k .no) []=.ok (il r) []:=by simp [ZT]
        rw [Zgk,v2,R.bind_ok,cp _ rfl,R.bind_ok,ac])
      have e3:Z7 (ZT ns s (.own (r.map D.int)) 2 k .no) []=.ok (.nx,ZT ns s (.own ((r++c).map D.int)) 2 k .no) []:=by
        have st:(ZT ns s (.own (r.map D.int)) 2 k .no).set 2 (.val (.lst (r.map D.int)))=ZT ns s (.val (il r)) 2 k .no:=rfl
        have u:ZaP (ZT ns s (.own (r.map D.int)) 2 k .no) []=.ok (.nx,ZT ns s (.own ((r++c).map D.int)) 2 k .no) []:=by
          unfold ZaP
          rw [ZhE]
          have ts:Zw (mOp eqM (Ze 3) (mC (.int 2))) (ZT ns s (.own (r.map D.int)) 2 k .no) []=.ok true []:=by unfold ZT; simp
          rw [ts,R.bind_ok,if_pos rfl,Zb6]
          show ZbO 2 _ ((ZT ns s (.own (r.map D.int)) 2 k .no).set 2 (.val (.lst (r.map D.int)))) []=_
          rw [st,tk2]
          rfl
        have ts0:Zw (mOp eqM (Ze 3) (mC (.int 0))) (ZT ns s (.own (r.map D.int)) 2 k .no) []=.ok false []:=by unfold ZT; simp
        have ts1:Zw (mOp eqM (Ze 3) (mC (.int 1))) (ZT ns s (.own (r.map D.int)) 2 k .no) []=.ok false []:=by unfold ZT; simp
        unfold Z7 ZaO
        rw [ZhE,ts0,R.bind_ok,if_neg (by decide),ZhE,ts1,R.bind_ok,if_neg (by decide)]
        exact u
      rw [e3]
      by_cases c2:mix ns 62 % 2=0
      · obtain ⟨r',y5,hb',e5⟩:=Zfo (ns:=ns) (s:=s) (way:=2) (k:=k) (x5:=.no) rb rl (.inr ⟨rfl,c2⟩)
        exact ⟨r',_,y5,hb',fun z=>by omega,.inr rfl,e5⟩
      · refine ⟨r++c,_,.no,rb,fun z=>by omega,.inl rfl,?_⟩
        rw [zM]
        unfold ZT
        simp [zl,c2]
    · obtain ⟨r',y5,hb',e5⟩:=Zfo (ns:=ns) (s:=s) (way:=3) (k:=k) (x5:=.no) pb (by omega) (.inl rfl)
      refine ⟨r',_,y5,hb',fun z=>by omega,.inr rfl,?_⟩
      have e3:Z7 (ZT ns s (.own (r.map D.int)) 3 k .no) []=.ok (.nx,ZT ns s (.own (r.map D.int)) 3 k .no) []:=by
        unfold ZT
        simp [Z7,ZaO,ZaP]
      rw [e3]
      exact e5
  obtain ⟨ρ,et⟩:=ZfK (ns:=ns) (d1:=s.d) (x4:=.val (.int (k:Int))) (x5:=y5) (way:=way) hb hz hS
  refine ⟨[],?_⟩
  have fin:Zb3 (ZP 12 [.scr ns]) []=.ok (.rt (.bl true),ρ) []:=by
    rw [hd]
    cases q:Z7 (ZT ns s (.own (r.map D.int)) way k .no) [] with
    | bad=>rw [q] at e3; cases e3
    | ex c θ=>rw [q] at e3; cases e3
    | ok p θ=>
      rw [q] at e3
      obtain ⟨fl,ρ'⟩:=p
      cases fl with
      | nx=>
        rw [zM] at e3 ⊢
        rw [Zb4,e3,zM]
        exact et
      | _=>cases e3
  unfold Zfk
  rw [Zis,if_pos (show [D.scr ns].length=1 from rfl),fin,R.bind_ok]
end
def top (i:Nat):Stmt:=PySem.Challenge.pw_wirestream_k04_segments_refused.main.body.getD i (.Pass ⟨0,0,0,0⟩)
abbrev zs0:Stmt:=top 6
abbrev zs1:Stmt:=top 15
abbrev zs2:Stmt:=top 16
abbrev zs3:Stmt:=top 17
abbrev zs4:Stmt:=top 18
abbrev zs5:Stmt:=top 19
abbrev zs6:Stmt:=top 20
abbrev zs7:Stmt:=top 21
abbrev zs8:Stmt:=top 22
abbrev zs9:Stmt:=top 24
abbrev ZdK:Stmt:=top 25
abbrev ZdJ:Stmt:=top 28
abbrev ZdI:Stmt:=top 29
abbrev Zc7:Stmt:=top 30
abbrev Zcy:Stmt:=top 31
abbrev ZdH:Stmt:=top 32
abbrev Zc6:Stmt:=top 33
abbrev ZbW:Stmt:=top 34
abbrev zP0:List Str:=["row"]
theorem zc0:ZC ["row","total"] zP0 (Zj zs0):=⟨rfl,rfl,rfl,by decide +kernel,rfl,by decide +kernel,by decide +kernel⟩
abbrev zP1:List Str:=["flags","flag"]
theorem zc1:ZC ["flags","flag"] zP1 (Zj zs1):=⟨rfl,rfl,rfl,by decide +kernel,rfl,by decide +kernel,by decide +kernel⟩
abbrev zP2:List Str:=["head"]
theorem zc2:ZC ["head"] zP2 (Zj zs2):=⟨rfl,rfl,rfl,by decide +kernel,rfl,by decide +kernel,by decide +kernel⟩
abbrev zP3:List Str:=["row"]
theorem zc3:ZC ["row"] zP3 (Zj zs3):=⟨rfl,rfl,rfl,by decide +kernel,rfl,by decide +kernel,by decide +kernel⟩
abbrev zP4:List Str:=["row"]
theorem zc4:ZC ["row"] zP4 (Zj zs4):=⟨rfl,rfl,rfl,by decide +kernel,rfl,by decide +kernel,by decide +kernel⟩
abbrev zP5:List Str:=["row"]
theorem zc5:ZC ["row"] zP5 (Zj zs5):=⟨rfl,rfl,rfl,by decide +kernel,rfl,by decide +kernel,by decide +kernel⟩
abbrev zP6:List Str:=["row"]
theorem zc6:ZC ["row","head","most","ports","numbers"] zP6 (Zj zs6):=⟨rfl,rfl,rfl,by decide +kernel,rfl,by decide +kernel,by decide +kernel⟩
abbrev zP7:List Str:=["row","place"]
theorem zc7:ZC ["row","place"] zP7 (Zj zs7):=⟨rfl,rfl,rfl,by decide +kernel,rfl,by decide +kernel,by decide +kernel⟩
abbrev zP8:List Str:=["row","place"]
theorem zc8:ZC ["row","place"] zP8 (Zj zs8):=⟨rfl,rfl,rfl,by decide +kernel,rfl,by decide +kernel,by decide +kernel⟩
abbrev zP9:List Str:=["_law_script","_law_k"]
theorem zc9:ZC ["_law_script","_law_k"] zP9 (Zj zs9):=⟨rfl,rfl,rfl,by decide +kernel,rfl,by decide +kernel,by decide +kernel⟩
abbrev Zgh:List Str:=["_law_script","_law_k"]
theorem zc10:ZC ["_law_script","_law_k","_law_number"] Zgh (Zj ZdK):=⟨rfl,rfl,rfl,by decide +kernel,rfl,by decide +kernel,by decide +kernel⟩
abbrev Zgg:List Str:=["_law_number"]
theorem Zk7:ZC ["_law_number"] Zgg (Zj ZdJ):=⟨rfl,rfl,rfl,by decide +kernel,rfl,by decide +kernel,by decide +kernel⟩
abbrev Zgf:List Str:=["_law_row"]
theorem zc12:ZC ["_law_row","_law_total","_law_k"] Zgf (Zj ZdI):=⟨rfl,rfl,rfl,by decide +kernel,rfl,by decide +kernel,by decide +kernel⟩
abbrev ZfA:List Str:=["_law_segment"]
theorem zc13:ZC ["_law_segment","_law_row","_law_number"] ZfA (Zj Zc7):=⟨rfl,rfl,rfl,by decide +kernel,rfl,by decide +kernel,by decide +kernel⟩
abbrev Zge:List Str:=["_law_row"]
theorem zc14:ZC ["_law_row","_law_head","_law_most","_law_words","_law_found"] Zge (Zj Zcy):=⟨rfl,rfl,rfl,by decide +kernel,rfl,by decide +kernel,by decide +kernel⟩
abbrev Zgd:List Str:=["_law_byte_here"]
theorem Zk6:ZC ["_law_byte_here"] Zgd (Zj ZdH):=⟨rfl,rfl,rfl,by decide +kernel,rfl,by decide +kernel,by decide +kernel⟩
abbrev Zgc:List Str:=["_law_script","_law_base"]
theorem zc16:ZC ["_law_script","_law_base","_law_flags","_law_most","_law_numbers","_law_k","_law_number","_law_ports","_law_size","_law_data","_law_window"] Zgc (Zj Zc6):=⟨rfl,rfl,rfl,by decide +kernel,rfl,by decide +kernel,by decide +kernel⟩
abbrev Zgb:List Str:=["_law_script"]
theorem zc17:ZC ["_law_script","_law_segment","_law_row","_law_way","_law_at","_law_some","_law_due","_law_handed","_law_answer","_law_refused","_law_found","e"] Zgb (Zj ZbW):=⟨rfl,rfl,rfl,by decide +kernel,rfl,by decide +kernel,by decide +kernel⟩
structure Glb (K:PySem.W.Frag) (mg:Str→Option Value):Prop where
  zc0:∃t,mg "GREATEST_DATA"=some (.int 16 t)
  zc1:∃t,mg "GREATEST_FLAGS"=some (.int 31 t)
  zc2:∃t,mg "GREATEST_WORD"=some (.int 65535 t)
  zc3:∃t,mg "LEAST_MOST"=some (.int 4 t)
  zc4:∃t,mg "LONG_HEAD"=some (.int 24 t)
  zc5:∃t,mg "RIGHT_SUM"=some (.int 65535 t)
  zc6:∃t,mg "SHORT_HEAD"=some (.int 20 t)
  zc7:∃t,mg "SYN"=some (.int 2 t)
  zc8:∃t,mg "WORDS"=some (.int 65536 t)
  b_all:mg "all"=none
  b_bool:mg "bool"=none
  b_int:mg "int"=none
  b_isinstance:mg "isinstance"=none
  b_len:mg "len"=none
  b_list:mg "list"=none
  b_range:mg "range"=none
  b_sum:mg "sum"=none
  b_tuple:mg "tuple"=none
section
variable {P:Program} {w:World} {K:PySem.W.Frag} {mg:Str→Option Value} {base:Heap}
theorem zo0 (D:ZK K mg "folded" zs0 zP0) (g:Glb K mg) :ZW P w K mg base 1 "folded" Zat:=
  Zay D zc0 1 2 rfl rfl fun f cdv A outer s H E hr=>(Zh (Zm 1 zc0.nd (Zg Zn (Zg zH Zc (Z6 ZiJ g.b_sum PyProof.Rows.boot_sum (Zb (ZcQ (Zd 0) zc zc (ZO Zc)) Zf))) (Z6 ZiJ g.b_sum PyProof.Rows.boot_sum (Zb (ZcQ (Zd 0) (ZO Zc) zc (ZO Zc)) Zf))))
  (Zh (Zd2 200 PassesOwn.never (ZA Zdk (Zd 1) (zj g.zc2)) (Zl (Zm 1 zc0.nd (Zg Zn (Zg ZM (Zd 1) (zj g.zc8)) (Zg z7 (Zd 1) (zj g.zc8))))))
  (Zl (ZH (Zd 1)))))
theorem zo1 (D:ZK K mg "has" zs1 zP1) (g:Glb K mg) :ZW P w K mg base 1 "has" ZdZ:=
  Zay D zc1 2 2 rfl rfl fun f cdv A outer s H E hr=>(Zl (ZH (Zg2 (ZA (ZgS hr.units) (Zg Zks (Zd 0) (Zd 1)) Zc) Zc Zc)))
theorem zo2 (D:ZK K mg "byte_of_head" zs2 zP2) (g:Glb K mg) :ZW P w K mg base 1 "byte_of_head" Z5:=
  Zay D zc2 1 1 rfl rfl fun f cdv A outer s H E hr=>(Zl (ZH (Zg zH Zc (Zg z7 (Zd 0) Zc))))
theorem zo4 (D:ZK K mg "head_of" zs4 zP4) (g:Glb K mg) :ZW P w K mg base 1 "head_of" Z9:=
  Zay D zc4 1 1 rfl rfl fun f cdv A outer s H E hr=>(Zl (ZH (Zg zH (Zg z7 (Zp Zr (Zd 0) Zc) Zc) Zc)))
theorem zo7 (D:ZK K mg "two_at" zs7 zP7) (g:Glb K mg) :ZW P w K mg base 1 "two_at" ZD:=
  Zay D zc7 2 2 rfl rfl fun f cdv A outer s H E hr=>(Zl (ZH (Zg Zn (Zg zH Zc (Zp Zr (Zd 0) (Zd 1))) (Zp Zr (Zd 0) (Zg Zn (Zd 1) Zc)))))
theorem zo5 (D:ZK K mg "is_right_long_head" zs5 zP5) (g:Glb K mg) (zd1:ZW P w K mg base 1 "has" ZdZ) (zd7:ZW P w K mg base 1 "two_at" ZD):ZW P w K mg base 2 "is_right_long_head" ZL:=
  Zay D zc5 1 1 rfl rfl fun f cdv A outer s H E hr=>(Zl (ZH (zG (zo (zT hr.units) (Zk zd1 hr (by decide) (Zb (Zp Zr (Zd 0) Zc) (Zb (zj g.zc7) Zf))) Zc) (zG (zo (zT hr.units) (Zp Zr (Zd 0) Zc) Zc) (zG (zo (zT hr.units) (Zp Zr (Zd 0) Zc) Zc) (Zci (zo Zkr (Zk zd7 hr (by decide) (Zb (Zd 0) (Zb Zc Zf))) (zj g.zc3))))))))
theorem zo3 (D:ZK K mg "is_right" zs3 zP3) (g:Glb K mg) (zd2:ZW P w K mg base 1 "byte_of_head" Z5) (zd0:ZW P w K mg base 1 "folded" Zat) (zd4:ZW P w K mg base 1 "head_of" Z9) (zd5:ZW P w K mg base 2 "is_right_long_head" ZL) (zd7:ZW P w K mg base 1 "two_at" ZD):ZW P w K mg base 3 "is_right" ZG:=
  Zay D zc3 1 1 rfl rfl fun f cdv A outer s H E hr=>(Zl (ZH (zG (zo Zkr (Z6 ZcZ g.b_len PySem.boot_len (Zb (Zd 0) Zf)) (zj g.zc6)) (zG (zo Zlx (Zp Zr (Zd 0) Zc) (zF (Zb (Zk zd2 hr (by decide) (Zb (zj g.zc6) Zf)) (Zb (Zk zd2 hr (by decide) (Zb (zj g.zc4) Zf)) Zf))) (by with_unfolding_all rfl)) (zG (zo ZeF (Zp Zr (Zd 0) Zc) (zj g.zc1)) (zG (Zd4 ZeF ZeF Zc (Zg Zfd (Z6 ZcZ g.b_len PySem.boot_len (Zb (Zd 0) Zf)) (Zk zd4 hr (by decide) (Zb (Zd 0) Zf))) (zj g.zc0)) (zG (zo (zT hr.units) (Zk zd7 hr (by decide) (Zb (Zd 0) (Zb Zc Zf))) Zc) (zG (Zkt (zo (zT hr.units) (Zk zd4 hr (by decide) (Zb (Zd 0) Zf)) (zj g.zc6)) (Zci (Zk zd5 hr (by decide) (Zb (Zd 0) Zf)))) (Zci (zo (zT hr.units) (Zk zd0 hr (by decide) (Zb (Zd 0) Zf)) (zj g.zc5)))))))))))
theorem zo8 (D:ZK K mg "four_at" zs8 zP8) (g:Glb K mg) (zd7:ZW P w K mg base 1 "two_at" ZD):ZW P w K mg base 2 "four_at" zu:=
  Zay D zc8 2 2 rfl rfl fun f cdv A outer s H E hr=>(Zl (ZH (Zg Zn (Zg zH Zc (Zk zd7 hr (by decide) (Zb (Zd 0) (Zb (Zd 1) Zf)))) (Zk zd7 hr (by decide) (Zb (Zd 0) (Zb (Zg Zn (Zd 1) Zc) Zf))))))
theorem ZfR {CC:Addr} (D:ZK K mg "get" zs6 zP6) (O:PyProof.Rows.OwnCls "NoSegment" CC Zfp "ValueError.__new__" mg base) (g:Glb K mg) (zd8:ZW P w K mg base 2 "four_at" zu) (zd4:ZW P w K mg base 1 "head_of" Z9) (zd3:ZW P w K mg base 3 "is_right" ZG) (zd7:ZW P w K mg base 1 "two_at" ZD):ZhB P w K mg base 4 CC "get" Zag:=by
  obtain ⟨f,fd,F,b,m⟩:=D
  exact ⟨_,f,fd,Zlz "NoSegment" F zc6 1 5 rfl rfl rfl O PySem.F.excBase_ValueError (by decide) PySem.F.excBase_ValueError rfl (by decide) (fun cdv A outer s H E hr=>⟨(Zch (Zav (Zk zd3 hr (by decide) (Zb (Zd 0) Zf)))),(Zh (Zm 1 zc6.nd (Zk zd4 hr (by decide) (Zb (Zd 0) Zf)))
  (Zh (Zm 2 zc6.nd (Zg2 (ZA (zT hr.units) (Zd 1) (zj g.zc4)) (Zk zd7 hr (by decide) (Zb (Zd 0) (Zb Zc Zf))) Zc))
  (Zh (Zm 3 zc6.nd (zF (Zb (Zk zd7 hr (by decide) (Zb (Zd 0) (Zb Zc Zf))) (Zb (Zk zd7 hr (by decide) (Zb (Zd 0) (Zb Zc Zf))) Zf))))
  (Zh (Zm 4 zc6.nd (zF (Zb (Zk zd8 hr (by decide) (Zb (Zd 0) (Zb Zc Zf))) (Zb (Zk zd8 hr (by decide) (Zb (Zd 0) (Zb Zc Zf))) Zf))))
  (Zl (ZH (Zg Zn (Zg Zn (Zd 3) (Zd 4)) (zF (Zb (Zp Zr (Zd 0) Zc) (Zb (Zk zd7 hr (by decide) (Zb (Zd 0) (Zb Zc Zf))) (Zb (Zd 2) (Zb (zw Zdz g.b_tuple PyProof.Rows.boot_tuple (Zb (Z0 (Zd 0) (ZO (Zd 1)) zc) Zf)) Zf))))))))))))⟩),b,F.kp,m⟩
theorem zo9 (D:ZK K mg "_law_cell" zs9 zP9) (g:Glb K mg) :ZW P w K mg base 1 "_law_cell" ZbH:=
  Zay D zc9 2 2 rfl rfl fun f cdv A outer s H E hr=>(Zh (zq (Zav (Zd 0)) (Zl (ZH (Zp Zr (Zd 0) (Zg ZM (Zd 1) (Z6 ZcZ g.b_len PySem.boot_len (Zb (Zd 0) Zf)))))) ZU)
  (Zl (ZH Zc)))
theorem Zk5 (D:ZK K mg "_law_mix" ZdK Zgh) (g:Glb K mg) (zd9:ZW P w K mg base 1 "_law_cell" ZbH):ZW P w K mg base 2 "_law_mix" ZS:=
  Zay D zc10 2 3 rfl rfl fun f cdv A outer s H E hr=>(Zh (Zm 2 zc10.nd (Zg ZM (Zg Zn (Zk zd9 hr (by decide) (Zb (Zd 0) (Zb (Zd 1) Zf))) (Zg zH Zc (Zg Zn (Zd 1) Zc))) Zc))
  (Zh (Zm 2 zc10.nd (Zg ZM (Zg zH (Zd 2) Zc) Zc))
  (Zl (ZH (Zg ZM (Zg Zn (Zg zH (Zg z7 (Zd 2) Zc) Zc) (Zd 2)) Zc)))))
theorem Zk4 (D:ZK K mg "_law_two" ZdJ Zgg) (g:Glb K mg) :ZW P w K mg base 1 "_law_two" zd:=
  Zay D Zk7 1 1 rfl rfl fun f cdv A outer s H E hr=>(Zl (ZH (zn (Zb (Zg z7 (Zd 0) Zc) (Zb (Zg ZM (Zd 0) Zc) Zf)))))
theorem Zk3 (D:ZK K mg "_law_folded" ZdI Zgf) (g:Glb K mg) :ZW P w K mg base 1 "_law_folded" Z1:=
  Zay D zc12 1 3 rfl rfl fun f cdv A outer s H E hr=>(Zh (Zm 1 zc12.nd Zc)
  (Zh (Zdl PassesOwn.never (z8 g.b_range (Zb (Z6 ZcZ g.b_len PySem.boot_len (Zb (Zd 0) Zf)) Zf)) (Zb0 2 zc12.nd) (Zl (Zm 1 zc12.nd (Zg Zn (Zd 1) (Zg zH (Zp Zr (Zd 0) (Zd 2)) (Zp Zr (zn (Zb Zc (Zb Zc Zf))) (Zg ZM (Zd 2) Zc)))))))
  (Zh (Zd2 200 PassesOwn.never (ZA Zdk (Zd 1) Zc) (Zl (Zm 1 zc12.nd (Zg Zn (Zg ZM (Zd 1) Zc) (Zg z7 (Zd 1) Zc)))))
  (Zl (ZH (Zd 1))))))
theorem Zk2 (D:ZK K mg "_law_bytes" Zc7 ZfA) (g:Glb K mg) (zd12:ZW P w K mg base 1 "_law_folded" Z1) (zd11:ZW P w K mg base 1 "_law_two" zd):ZW P w K mg base 2 "_law_bytes" Zfl:=
  Zay D zc13 1 3 rfl rfl fun f cdv A outer s H E hr=>(Zh (Zm 1 zc13.nd (Zg Zn (Zk zd11 hr (by decide) (Zb (Zp Zr (Zd 0) Zc) Zf)) (Zk zd11 hr (by decide) (Zb (Zp Zr (Zd 0) Zc) Zf))))
  (Zh (Zdl PassesOwn.never (ZeI (Z0 (Zd 0) (ZO Zc) (ZO Zc))) (Zb0 2 zc13.nd) (Zl (Zm 1 zc13.nd (Zg Zn (Zg Zn (Zd 1) (Zk zd11 hr (by decide) (Zb (Zg z7 (Zd 2) Zc) Zf))) (Zk zd11 hr (by decide) (Zb (Zg ZM (Zd 2) Zc) Zf))))))
  (Zh (Zm 1 zc13.nd (Zg Zn (Zg Zn (Zg Zn (Zd 1) (zn (Zb (Zp Zr (zn (Zb Zc (Zb Zc Zf))) (zw ZiK g.b_int PyProof.Rows.boot_int (Zb (zo Zdk (Zp Zr (Zd 0) Zc) Zc) Zf))) (Zb (Zp Zr (Zd 0) Zc) Zf)))) (Zk zd11 hr (by decide) (Zb (Zp Zr (Zd 0) Zc) Zf))) (zn (Zb Zc (Zb Zc (Zb Zc (Zb Zc Zf)))))))
  (Zh (zq (ZA Zdk (Zp Zr (Zd 0) Zc) Zc) (Zl (Zm 1 zc13.nd (Zg Zn (Zg Zn (Zd 1) (zn (Zb Zc (Zb Zc Zf)))) (Zk zd11 hr (by decide) (Zb (Zp Zr (Zd 0) Zc) Zf))))) ZU)
  (Zh (Zm 1 zc13.nd (Zg Zn (Zd 1) (zw ZeP g.b_list PyProof.Rows.boot_list (Zb (Zp Zr (Zd 0) Zc) Zf))))
  (Zl (ZH (Zg Zn (Zg Zn (Z0 (Zd 1) zc (ZO Zc)) (Zk zd11 hr (by decide) (Zb (Zg Zfd Zc (Zk zd12 hr (by decide) (Zb (Zd 1) Zf))) Zf))) (Z0 (Zd 1) (ZO Zc) zc)))))))))
theorem Zk0 (D:ZK K mg "_law_byte" ZdH Zgd) (g:Glb K mg) :ZW P w K mg base 1 "_law_byte" Za5:=
  Zay D Zk6 1 1 rfl rfl fun f cdv A outer s H E hr=>(Zl (ZH (zG (Z6 ZdA g.b_isinstance PyProof.Rows.boot_isinstance (Zb (Zd 0) (Zb (Zfi g.b_int PyProof.Rows.boot_int) Zf))) (zG (Zjp (Z6 ZdA g.b_isinstance PyProof.Rows.boot_isinstance (Zb (Zd 0) (Zb (Zfi g.b_bool PyProof.Rows.boot_bool) Zf)))) (Zci (Zd4 ZeF ZeF Zc (Zd 0) Zc))))))
theorem Zk1 (D:ZK K mg "_law_read" Zcy Zge) (g:Glb K mg) (zd15:ZW P w K mg base 1 "_law_byte" Za5) (zd12:ZW P w K mg base 1 "_law_folded" Z1):ZW P w K mg base 2 "_law_read" zW:=
  Zay D zc14 1 5 rfl rfl fun f cdv A outer s H E hr=>(Zh (zq (MW.mt (Zbi (Zch (Zav (Z6 ZdA g.b_isinstance PyProof.Rows.boot_isinstance (Zb (Zd 0) (Zb (Zfi g.b_list PyProof.Rows.boot_list) Zf))))) (zN (ZA Zjo (Z6 ZcZ g.b_len PySem.boot_len (Zb (Zd 0) Zf)) Zc)))) (Zl (ZH Zai)) ZU)
  (Zh (zq (Zch (Zav (Z6 ZkK g.b_all PyProof.Rows.boot_all (Zb (Zg1 (show za _ (Zj Zcy) "_law_byte_here" ["_law_row","_law_head","_law_most","_law_words","_law_found"] ["_law_byte_here"] [] from ⟨rfl,by decide +kernel,by decide +kernel,by decide +kernel,by decide +kernel,by decide +kernel,rfl,by decide,by decide +kernel⟩) rfl rfl (ZeI (Zd 0)) (fun _ _ _ _ _=>(Zk zd15 hr (by decide) (Zb (Zd 0) Zf)))) Zf)))) (Zl (ZH Zai)) ZU)
  (Zh (Zm 1 zc14.nd (Zg z7 (Zp Zr (Zd 0) Zc) Zc))
  (Zh (zq (MW.mt (Zbi (ZA Zh4 (Zp Zr (Zd 0) Zc) (zF (Zb Zc (Zb Zc Zf))) (by with_unfolding_all rfl)) (Zbi (ZA Zdk (Zp Zr (Zd 0) Zc) Zc) (zN (ZA Zdk (Zg Zn (Zp Zr (Zd 0) Zc) (Zp Zr (Zd 0) Zc)) Zc))))) (Zl (ZH Zai)) ZU)
  (Zh (zq (MW.mt (Zbi (Zch (ZgY ZeF ZeF (Zd 1) (Z6 ZcZ g.b_len PySem.boot_len (Zb (Zd 0) Zf)) (Zg Zn (Zd 1) Zc))) (zN (ZA (ZgS hr.units) (Zk zd12 hr (by decide) (Zb (Zd 0) Zf)) Zc)))) (Zl (ZH Zai)) ZU)
  (Zh (Zm 2 zc14.nd Zc)
  (Zh (zq (ZA (zT hr.units) (Zd 1) Zc) (Zh (Zm 2 zc14.nd (Zg Zn (Zg zH (Zp Zr (Zd 0) Zc) Zc) (Zp Zr (Zd 0) Zc)))
    (Zl (zq (MW.mt (Zbi (ZA (zT hr.units) (Zg ZM (Zg z7 (Zp Zr (Zd 0) Zc) Zc) Zc) Zc) (Zbi (ZA (ZgS hr.units) (Z0 (Zd 0) (ZO Zc) (ZO Zc)) (zn (Zb Zc (Zb Zc Zf)))) (zN (ZA Zjo (Zd 2) Zc))))) (Zl (ZH Zai)) ZU))) ZU)
  (Zh (ZgZ 3 zc14.nd (show za _ (Zj Zcy) "_law_k" ["_law_row","_law_head","_law_most","_law_words","_law_found"] ["_law_k","_law_row"] [0] from ⟨rfl,by decide +kernel,by decide +kernel,by decide +kernel,by decide +kernel,by decide +kernel,rfl,by decide,by decide +kernel⟩) rfl rfl (z8 g.b_range (Zb Zc Zf)) (fun _ _ _ _ _=>(Zg Zn (Zg zH Zc (Zp Zr (Zd 1) (Zg zH Zc (Zd 0)))) (Zp Zr (Zd 1) (Zg Zn (Zg zH Zc (Zd 0)) Zc)))))
  (Zh (Zm 4 zc14.nd (zF (Zb (Zp Zr (Zd 3) Zc) (Zb (Zp Zr (Zd 3) Zc) (Zb (Zg Zn (Zg zH (Zp Zr (Zd 3) Zc) Zc) (Zp Zr (Zd 3) Zc)) (Zb (Zg Zn (Zg zH (Zp Zr (Zd 3) Zc) Zc) (Zp Zr (Zd 3) Zc)) Zf))))))
  (Zl (ZH (Zg Zn (Zd 4) (zF (Zb (Zp Zr (Zd 0) Zc) (Zb (Zp Zr (Zd 3) Zc) (Zb (Zd 2) (Zb (zw Zdz g.b_tuple PyProof.Rows.boot_tuple (Zb (Z0 (Zd 0) (ZO (Zd 1)) zc) Zf)) Zf)))))))))))))))))
theorem ZkZ (D:ZK K mg "_law_any" Zc6 Zgc) (g:Glb K mg) (zd10:ZW P w K mg base 2 "_law_mix" ZS):ZW P w K mg base 3 "_law_any" ZcW:=
  Zay D zc16 2 11 rfl rfl fun f cdv A outer s H E hr=>(Zh (Zm 2 zc16.nd (Zg ZM (Zk zd10 hr (by decide) (Zb (Zd 0) (Zb (Zd 1) Zf))) Zc))
  (Zh (Zm 3 zc16.nd Zc)
  (Zh (zq (MW.mt (ZeH (ZA (zT hr.units) (Zg ZM (Zg z7 (Zd 2) Zc) Zc) Zc) (Za1 (ZA Zdk (Zg ZM (Zk zd10 hr (by decide) (Zb (Zd 0) (Zb (Zg Zn (Zd 1) Zc) Zf))) Zc) Zc)))) (Zh (Zm 3 zc16.nd (Zp Zr (zn (Zb Zc (Zb Zc (Zb Zc (Zb Zc (Zb Zc (Zb Zc Zf))))))) (Zg ZM (Zk zd10 hr (by decide) (Zb (Zd 0) (Zb (Zg Zn (Zd 1) Zc) Zf))) Zc)))
    (Zl (zq (ZA (zT hr.units) (Zd 3) Zc) (Zl (Zm 3 zc16.nd (Zg Zn Zc (Zg ZM (Zk zd10 hr (by decide) (Zb (Zd 0) (Zb (Zg Zn (Zd 1) Zc) Zf))) Zc)))) ZU))) ZU)
  (Zh (ZfV 4 zc16.nd Zf)
  (Zh (Zdl PassesOwn.never (z8 g.b_range (Zb Zc Zf)) (Zb0 5 zc16.nd) (Zh (Zm 6 zc16.nd (Zk zd10 hr (by decide) (Zb (Zd 0) (Zb (Zg Zn (Zg Zn (Zd 1) Zc) (Zd 5)) Zf))))
    (Zh (zq (ZA (zT hr.units) (Zg ZM (Zd 6) Zc) Zc) (Zl (Zm 6 zc16.nd (Zp Zr (zn (Zb Zc (Zb Zc (Zb Zc (Zb Zc (Zb Zc (Zb Zc (Zb Zc Zf)))))))) (Zg ZM (Zg z7 (Zd 6) Zc) Zc)))) ZU)
    (Zl (ZfW 4 (Zd 6) (hpe:=fun h=>Zkk PySem.F.plainAttrs_list PySem.F.slot_list_append PySem.F.type_list_append ZfT h (zY (Zd 6) ZbE)))))))
  (Zh (Zm 7 zc16.nd (zF (Zb (Zg ZM (Zk zd10 hr (by decide) (Zb (Zd 0) (Zb (Zg Zn (Zd 1) Zc) Zf))) Zc) Zf)))
  (Zh (Zm 7 zc16.nd (Zg Zn (Zd 7) (zF (Zb (Zg ZM (Zk zd10 hr (by decide) (Zb (Zd 0) (Zb (Zg Zn (Zd 1) Zc) Zf))) Zc) Zf))))
  (Zh (Zm 8 zc16.nd (Zp Zr (zn (Zb Zc (Zb Zc (Zb Zc (Zb Zc (Zb Zc Zf)))))) (Zg ZM (Zk zd10 hr (by decide) (Zb (Zd 0) (Zb (Zg Zn (Zd 1) Zc) Zf))) Zc)))
  (Zh (zq (ZA (zT hr.units) (Zd 8) Zc) (Zl (Zm 8 zc16.nd (Zg ZM (Zk zd10 hr (by decide) (Zb (Zd 0) (Zb (Zg Zn (Zd 1) Zc) Zf))) Zc))) ZU)
  (Zh (Zm 9 zc16.nd (zw Zdz g.b_tuple PyProof.Rows.boot_tuple (Zb (Zg1 (show za _ (Zj Zc6) "_law_k" ["_law_script","_law_base","_law_flags","_law_most","_law_numbers","_law_k","_law_number","_law_ports","_law_size","_law_data","_law_window"] ["_law_k","_law_script","_law_base"] [0,1] from ⟨rfl,by decide +kernel,by decide +kernel,by decide +kernel,by decide +kernel,by decide +kernel,rfl,by decide,by decide +kernel⟩) rfl rfl (z8 g.b_range (Zb (Zd 8) Zf)) (fun _ _ _ _ _=>(Zg ZM (Zg z7 (Zk zd10 hr (by decide) (Zb (Zd 1) (Zb (Zg Zn (Zg Zn (Zd 2) Zc) (Zd 0)) Zf))) Zc) Zc))) Zf)))
  (Zh (zq (ZA (zT hr.units) (Zg ZM (Zk zd10 hr (by decide) (Zb (Zd 0) (Zb (Zg Zn (Zd 1) Zc) Zf))) Zc) Zc) (Zl (Zm 9 zc16.nd (Zg zH (zF (Zb Zc Zf)) (Zd 8)))) ZU)
  (Zh (Zm 10 zc16.nd (Zg ZM (Zk zd10 hr (by decide) (Zb (Zd 0) (Zb (Zg Zn (Zd 1) Zc) Zf))) Zc))
  (Zl (zv 4 (ZH (Zg Zn (Zd 7) (zF (Zb (Zp Zr (Zd 4) Zc) (Zb (Zp Zr (Zd 4) Zc) (Zb (Zd 2) (Zb (Zd 10) (Zb (Zd 3) (Zb (Zd 9) Zf)))))))))))))))))))))))
theorem Zd0 (D:ZK K mg "_law_bytes" Zc7 ZfA) (g:Glb K mg) (zd12:ZW P w K mg base 1 "_law_folded" Z1) (zd11:ZW P w K mg base 1 "_law_two" zd):ZW P w K mg base 2 "_law_bytes" zD:=
  Zay D zc13 1 3 rfl rfl fun f cdv A outer s H E hr=>(Zh (Zm 1 zc13.nd (Zg Zn (Zk zd11 hr (by decide) (Zb (Zp Zr (Zd 0) Zc) Zf)) (Zk zd11 hr (by decide) (Zb (Zp Zr (Zd 0) Zc) Zf))))
  (Zh (Zdl PassesOwn.never (ZeI (Z0 (Zd 0) (ZO Zc) (ZO Zc))) (Zb0 2 zc13.nd) (Zl (Zm 1 zc13.nd (Zg Zn (Zg Zn (Zd 1) (Zk zd11 hr (by decide) (Zb (Zg z7 (Zd 2) Zc) Zf))) (Zk zd11 hr (by decide) (Zb (Zg ZM (Zd 2) Zc) Zf))))))
  (Zh (Zm 1 zc13.nd (Zg Zn (Zg Zn (Zg Zn (Zd 1) (zn (Zb (Zp Zr (zn (Zb Zc (Zb Zc Zf))) (zw ZiK g.b_int PyProof.Rows.boot_int (Zb (zo Zdk (Zp Zr (Zd 0) Zc) Zc) Zf))) (Zb (Zp Zr (Zd 0) Zc) Zf)))) (Zk zd11 hr (by decide) (Zb (Zp Zr (Zd 0) Zc) Zf))) (zn (Zb Zc (Zb Zc (Zb Zc (Zb Zc Zf)))))))
  (Zh (zq (ZA Zdk (Zp Zr (Zd 0) Zc) Zc) (Zl (Zm 1 zc13.nd (Zg Zn (Zg Zn (Zd 1) (zn (Zb Zc (Zb Zc Zf)))) (Zk zd11 hr (by decide) (Zb (Zp Zr (Zd 0) Zc) Zf))))) ZU)
  (Zh (Zm 1 zc13.nd (Zg Zn (Zd 1) (zw ZeP g.b_list PyProof.Rows.boot_list (Zb (Zp Zr (Zd 0) Zc) Zf))))
  (Zl (ZH (Zg ZgT (Zg Zn (Z0 (Zd 1) zc (ZO Zc)) (Zk zd11 hr (by decide) (Zb (Zg Zfd Zc (Zk zd12 hr (by decide) (Zb (Zd 1) Zf))) Zf))) (Z0 (Zd 1) (ZO Zc) zc)))))))))
theorem ZkY {fl:Addr} {fdl:FuncData} (F:Fun K "law" "law" ZbW fl fdl) (g:Glb K mg) {CC WW:Addr} (EK:Zip base mg CC WW "NoSegment" "WireError") (zd16:ZW P w K mg base 3 "_law_any" ZcW) (zd13:ZW P w K mg base 2 "_law_bytes" Zfl) (d_l_bytesC:ZW P w K mg base 2 "_law_bytes" zD) (zd12:ZW P w K mg base 1 "_law_folded" Z1) (zd10:ZW P w K mg base 2 "_law_mix" ZS) (zd14:ZW P w K mg base 2 "_law_read" zW) (zd11:ZW P w K mg base 1 "_law_two" zd) (d_p_getX:ZhB P w K mg base 4 CC "get" Zag) (zd3:ZW P w K mg base 3 "is_right" ZG):FnOk P w K mg base CX0 5 fl fdl Zgb (spM ⟨ZcD mg,K⟩ Zfk):=
  mfn F zc17 1 12 rfl rfl fun cdv A outer s H E hr=>(Zh (Zm 1 zc17.nd (Zk zd16 hr (by decide) (Zb (Zd 0) (Zb Zc Zf))))
  (Zh (Zfg 2 zc17.nd (Zk d_l_bytesC hr (by decide) (Zb (Zd 1) Zf)))
  (Zh (Zm 3 zc17.nd (Zg ZM (Zk zd10 hr (by decide) (Zb (Zd 0) (Zb Zc Zf))) Zc))
  (Zh (Zm 4 zc17.nd (Zg ZM (Zk zd10 hr (by decide) (Zb (Zd 0) (Zb Zc Zf))) (ZcR 2 g.b_len PySem.boot_len)))
  (Zh (zq (ZA (zT hr.units) (Zd 3) Zc) (Zl (Zfh 2 (Zd 4) (Zg ZM (Zg Zn (Zg Zn (Zd3 2 (Zd 4)) Zc) (Zg ZM (Zk zd10 hr (by decide) (Zb (Zd 0) (Zb Zc Zf))) Zc)) Zc) (hps:=fun h=>ZgD (Zg ZM (Zg Zn (Zg Zn (Zd3 2 (Zd 4)) Zc) (Zg ZM (Zk zd10 hr (by decide) (Zb (Zd 0) (Zb Zc Zf))) Zc)) Zc) (ZgG h (Zd 4) ZdU)))) (Zl (zq (ZA (zT hr.units) (Zd 3) Zc) (Zl (zv 2 (Zm 2 zc17.nd (Z0 (Zd 2) zc (ZO (Zd 4)))))) (Zl (zq (ZA (zT hr.units) (Zd 3) Zc) (Zl (zv 2 (Zfg 2 zc17.nd (Zg ZgT (Zd 2) (Zg1 (show za _ (Zj ZbW) "_law_k" ["_law_script","_law_segment","_law_row","_law_way","_law_at","_law_some","_law_due","_law_handed","_law_answer","_law_refused","_law_found","e"] ["_law_k","_law_script"] [0] from ⟨rfl,by decide +kernel,by decide +kernel,by decide +kernel,by decide +kernel,by decide +kernel,rfl,by decide,by decide +kernel⟩) rfl rfl (z8 g.b_range (Zb (Zg Zn Zc (Zg ZM (Zk zd10 hr (by decide) (Zb (Zd 0) (Zb Zc Zf))) Zc)) Zf)) (fun _ _ _ _ _=>(Zg ZM (Zk zd10 hr (by decide) (Zb (Zd 1) (Zb (Zg Zn Zc (Zd 0)) Zf))) Zc))))))) ZU)))))
  (Zh (zq (MW.mt (Zbi (ZA (zT hr.units) (Zd 3) Zc) (zN (MW.mt (ZeH (ZA (zT hr.units) (Zd 3) Zc) (Za1 (ZA (zT hr.units) (Zg ZM (Zk zd10 hr (by decide) (Zb (Zd 0) (Zb Zc Zf))) Zc) Zc))))))) (by refine ZfU ?_ ?_; exact (Zik 5 zc17.nd (ZjD (zg (Zv (Zv zt)) (zg (Zv (Zv zt)) (zg (Zv (Zv zt)) (zg (Zv (Zv zt)) (zg (Zv (Zv zt)) (zg (Zv (Zv zt)) (zg (Zv (Zv zt)) (zg (Zv (Zv zt)) (zg (Zv (Zv zt)) (zg (Zv (Zv zt)) (zg (Zv (Zv zt)) (zg (Zv (Zv zt)) (zg (Zv (Zv zt)) (zg (Zv (Zv zt)) zt))))))))))))))) rfl (by first | exact Or.inl rfl | exact Or.inr rfl) (by first | exact .inl rfl | exact .inr rfl)); exact (Zh (Zm 5 zc17.nd (Zp Zr (Zd 5) (Zg ZM (Zk zd10 hr (by decide) (Zb (Zd 0) (Zb Zc Zf))) Zc)))
    (Zh (zq (ZA Zjo (Zp Zr (Zd 5) Zc) (ZcR 2 g.b_len PySem.boot_len)) (Zl (Zfh 2 (Zp Zr (Zd 5) Zc) (Zp Zr (Zd 5) Zc) (hps:=fun h=>ZgD (Zp Zr (Zd 5) Zc) (ZgG h (Zp Zr (Zd 5) Zc) ZdU)))) ZU)
    (Zh (zv 2 (Zm 2 zc17.nd (Zg Zn (Zg Zn (Z0 (Zd 2) zc (ZO Zc)) (zn (Zb Zc (Zb Zc Zf)))) (Z0 (Zd 2) (ZO Zc) zc))))
    (Zl (zv 2 (Zm 2 zc17.nd (Zg Zn (Zg Zn (Z0 (Zd 2) zc (ZO Zc)) (Zk zd11 hr (by decide) (Zb (Zg Zfd Zc (Zk zd12 hr (by decide) (Zb (Zd 2) Zf))) Zf))) (Z0 (Zd 2) (ZO Zc) zc))))))))) ZU)
  (Zh (zv 2 (Zm 6 zc17.nd (Zk zd14 hr (by decide) (Zb (Zd 2) Zf))))
  (Zh (zq (MW.mt (ZeH (ZA (zT hr.units) (Zd 3) Zc) (Za1 (ZA Zfe (Zd 6) Zai)))) (Zl (ZH Zg4)) ZU)
  (Zh (zv 2 (Zm 7 zc17.nd (zw ZeP g.b_list PyProof.Rows.boot_list (Zb (Zd 2) Zf))))
  (Zh (Zm 8 zc17.nd (Zk zd3 hr (by decide) (Zb (Zd 7) Zf)))
  (Zh (Zm 9 zc17.nd Zg4)
  (Zh (Zm 10 zc17.nd Zai)
  (Zh (Zh7 11 9 10 rfl d_p_getX hr (by decide) (Zb (Zd 7) Zf) EK rfl rfl zc17.nd (by decide))
  (Zh (zv 2 (zq (MW.mt (Zbi (ZA (ZgS hr.units) (Zd 7) (Zd 2)) (Zbi (Zch (Zav (Z6 ZdA g.b_isinstance PyProof.Rows.boot_isinstance (Zb (Zd 8) (Zb (Zfi g.b_bool PyProof.Rows.boot_bool) Zf))))) (zN (ZA (ZgS hr.units) (Zd 8) (zo Zfe (Zd 6) Zai)))))) (Zl (ZH Zg4)) ZU))
  (Zl (ZH (zG (zo (zT hr.units) (Zd 9) (zo Zlw (Zd 6) Zai)) (Zci (zo (zT hr.units) (Zd 10) (Zd 6))))))))))))))))))))
theorem Zjn {fl:Addr} {fdl:FuncData} (F:Fun K "law" "law" ZbW fl fdl) (zD0:ZK K mg "folded" zs0 zP0) (zD1:ZK K mg "has" zs1 zP1) (zD2:ZK K mg "byte_of_head" zs2 zP2) (zD3:ZK K mg "is_right" zs3 zP3) (zD4:ZK K mg "head_of" zs4 zP4) (zD5:ZK K mg "is_right_long_head" zs5 zP5) (zD6:ZK K mg "get" zs6 zP6) (zD7:ZK K mg "two_at" zs7 zP7) (zD8:ZK K mg "four_at" zs8 zP8) (zD9:ZK K mg "_law_cell" zs9 zP9) (zD10:ZK K mg "_law_mix" ZdK Zgh) (zD11:ZK K mg "_law_two" ZdJ Zgg) (zD12:ZK K mg "_law_folded" ZdI Zgf) (zD13:ZK K mg "_law_bytes" Zc7 ZfA) (zD14:ZK K mg "_law_read" Zcy Zge) (zD15:ZK K mg "_law_byte" ZdH Zgd) (zD16:ZK K mg "_law_any" Zc6 Zgc) (g:Glb K mg) {CC WW:Addr} (O:PyProof.Rows.OwnCls "NoSegment" CC Zfp "ValueError.__new__" mg base) (EK:Zip base mg CC WW "NoSegment" "WireError"):FnOk P w K mg base CX0 5 fl fdl Zgb (spM ⟨ZcD mg,K⟩ Zfk):=by
  have zd0:=zo0 (P:=P) (w:=w) (base:=base) zD0 g
  have zd1:=zo1 (P:=P) (w:=w) (base:=base) zD1 g
  have zd2:=zo2 (P:=P) (w:=w) (base:=base) zD2 g
  have zd4:=zo4 (P:=P) (w:=w) (base:=base) zD4 g
  have zd7:=zo7 (P:=P) (w:=w) (base:=base) zD7 g
  have zd5:=zo5 (P:=P) (w:=w) (base:=base) zD5 g zd1 zd7
  have zd3:=zo3 (P:=P) (w:=w) (base:=base) zD3 g zd2 zd0 zd4 zd5 zd7
  have zd8:=zo8 (P:=P) (w:=w) (base:=base) zD8 g zd7
  have d_p_getX:=ZfR (P:=P) (w:=w) (base:=base) zD6 O g zd8 zd4 zd3 zd7
  have zd9:=zo9 (P:=P) (w:=w) (base:=base) zD9 g
  have zd10:=Zk5 (P:=P) (w:=w) (base:=base) zD10 g zd9
  have zd11:=Zk4 (P:=P) (w:=w) (base:=base) zD11 g
  have zd12:=Zk3 (P:=P) (w:=w) (base:=base) zD12 g
  have zd13:=Zk2 (P:=P) (w:=w) (base:=base) zD13 g zd12 zd11
  have zd15:=Zk0 (P:=P) (w:=w) (base:=base) zD15 g
  have zd14:=Zk1 (P:=P) (w:=w) (base:=base) zD14 g zd15 zd12
  have zd16:=ZkZ (P:=P) (w:=w) (base:=base) zD16 g zd10
  have d_l_bytesC:=Zd0 (P:=P) (w:=w) (base:=base) zD13 g zd12 zd11
  exact ZkY F g EK zd16 zd13 d_l_bytesC zd12 zd10 zd14 zd11 d_p_getX zd3
end
theorem us1 {p:List Value→Prop} (h:∀a,p [a]):∀us:List Value,us.length=1→p us
  | [a],_=>h a
theorem us2 {p:List Value→Prop} (h:∀a b,p [a,b]):∀us:List Value,us.length=2→p us
  | [a,b],_=>h a b
open PySem.W
theorem ZjH {l:OpenLaw} {w:World} {K:Frag} {h:Heap} {mg:Str→Option Value} {fa CC WW f0 f1 f2 f3 f4 f5 f6 f7 f8 f9 f10 f11 f12 f13 f14 f15 f16 f17:Addr} (X:K.In h) (G:h.Ns mainGlobals mg) (hfa:mg "law"=some (.ref fa))
    {dC dW:Option Addr} {cC cW:ClassData} {sC sW:Array (Option Value)}
    (xaC:nsIn K mainGlobals "NoSegment"=some (some (.ref CC))) (xaW:nsIn K mainGlobals "WireError"=some (some (.ref WW))) (xqC:excIn K CC Zfp "ValueError.__new__"=true) (xqW:excIn K WW Zfp "ValueError.__new__"=true)
    (xlC:K.lookup CC=some ⟨.type "type",dC,.cls cC,sC⟩) (xlW:K.lookup WW=some ⟨.type "type",dW,.cls cW,sW⟩) (xmC:cC.mro=ZkI CC WW) (xmW:cW.mro=ZkJ WW) (xzI:nsIn K mainGlobals "isinstance"=some none) (xzV:nsIn K mainGlobals "ValueError"=some none)
    (a0:nsIn K mainGlobals "folded"=some (some (.ref f0))) (l0:K.lookup f0=some ⟨oc0,od0,.func (fnOf "folded" "folded" (ZF zs0) (Zy zs0) (Zj zs0) .none kV0 dc0 pm0 an0 cd0 ct0),sl0⟩) (c0:codeIn K cd0 "folded"=true) (k0:keepIn K (.ref f0)=true)
    (a1:nsIn K mainGlobals "has"=some (some (.ref f1))) (l1:K.lookup f1=some ⟨oc1,od1,.func (fnOf "has" "has" (ZF zs1) (Zy zs1) (Zj zs1) .none kV1 dc1 pm1 an1 cd1 ct1),sl1⟩) (c1:codeIn K cd1 "has"=true) (k1:keepIn K (.ref f1)=true)
    (a2:nsIn K mainGlobals "byte_of_head"=some (some (.ref f2))) (l2:K.lookup f2=some ⟨oc2,od2,.func (fnOf "byte_of_head" "byte_of_head" (ZF zs2) (Zy zs2) (Zj zs2) .none kV2 dc2 pm2 an2 cd2 ct2),sl2⟩) (c2:codeIn K cd2 "byte_of_head"=true) (k2:keepIn K (.ref f2)=true)
    (a3:nsIn K mainGlobals "is_right"=some (some (.ref f3))) (l3:K.lookup f3=some ⟨oc3,od3,.func (fnOf "is_right" "is_right" (ZF zs3) (Zy zs3) (Zj zs3) .none kV3 dc3 pm3 an3 cd3 ct3),sl3⟩) (c3:codeIn K cd3 "is_right"=true) (k3:keepIn K (.ref f3)=true)
    (a4:nsIn K mainGlobals "head_of"=some (some (.ref f4))) (l4:K.lookup f4=some ⟨oc4,od4,.func (fnOf "head_of" "head_of" (ZF zs4) (Zy zs4) (Zj zs4) .none kV4 dc4 pm4 an4 cd4 ct4),sl4⟩) (c4:codeIn K cd4 "head_of"=true) (k4:keepIn K (.ref f4)=true)
    (a5:nsIn K mainGlobals "is_right_long_head"=some (some (.ref f5))) (l5:K.lookup f5=some ⟨oc5,od5,.func (fnOf "is_right_long_head" "is_right_long_head" (ZF zs5) (Zy zs5) (Zj zs5) .none kV5 dc5 pm5 an5 cd5 ct5),sl5⟩) (c5:codeIn K cd5 "is_right_long_head"=true) (k5:keepIn K (.ref f5)=true)
    (a6:nsIn K mainGlobals "get"=some (some (.ref f6))) (l6:K.lookup f6=some ⟨oc6,od6,.func (fnOf "get" "get" (ZF zs6) (Zy zs6) (Zj zs6) .none kV6 dc6 pm6 an6 cd6 ct6),sl6⟩) (c6:codeIn K cd6 "get"=true) (k6:keepIn K (.ref f6)=true)
    (a7:nsIn K mainGlobals "two_at"=some (some (.ref f7))) (l7:K.lookup f7=some ⟨oc7,od7,.func (fnOf "two_at" "two_at" (ZF zs7) (Zy zs7) (Zj zs7) .none kV7 dc7 pm7 an7 cd7 ct7),sl7⟩) (c7:codeIn K cd7 "two_at"=true) (k7:keepIn K (.ref f7)=true)
    (a8:nsIn K mainGlobals "four_at"=some (some (.ref f8))) (l8:K.lookup f8=some ⟨oc8,od8,.func (fnOf "four_at" "four_at" (ZF zs8) (Zy zs8) (Zj zs8) .none kV8 dc8 pm8 an8 cd8 ct8),sl8⟩) (c8:codeIn K cd8 "four_at"=true) (k8:keepIn K (.ref f8)=true)
    (a9:nsIn K mainGlobals "_law_cell"=some (some (.ref f9))) (l9:K.lookup f9=some ⟨oc9,od9,.func (fnOf "_law_cell" "_law_cell" (ZF zs9) (Zy zs9) (Zj zs9) .none kV9 dc9 pm9 an9 cd9 ct9),sl9⟩) (c9:codeIn K cd9 "_law_cell"=true) (k9:keepIn K (.ref f9)=true)
    (a10:nsIn K mainGlobals "_law_mix"=some (some (.ref f10))) (l10:K.lookup f10=some ⟨oc10,od10,.func (fnOf "_law_mix" "_law_mix" (ZF ZdK) (Zy ZdK) (Zj ZdK) .none kV10 dc10 pm10 an10 cd10 ct10),sl10⟩) (c10:codeIn K cd10 "_law_mix"=true) (k10:keepIn K (.ref f10)=true)
    (a11:nsIn K mainGlobals "_law_two"=some (some (.ref f11))) (l11:K.lookup f11=some ⟨oc11,od11,.func (fnOf "_law_two" "_law_two" (ZF ZdJ) (Zy ZdJ) (Zj ZdJ) .none kV11 dc11 pm11 an11 cd11 ct11),sl11⟩) (c11:codeIn K cd11 "_law_two"=true) (k11:keepIn K (.ref f11)=true)
    (a12:nsIn K mainGlobals "_law_folded"=some (some (.ref f12))) (l12:K.lookup f12=some ⟨oc12,od12,.func (fnOf "_law_folded" "_law_folded" (ZF ZdI) (Zy ZdI) (Zj ZdI) .none kV12 dc12 pm12 an12 cd12 ct12),sl12⟩) (c12:codeIn K cd12 "_law_folded"=true) (k12:keepIn K (.ref f12)=true)
    (a13:nsIn K mainGlobals "_law_bytes"=some (some (.ref f13))) (l13:K.lookup f13=some ⟨oc13,od13,.func (fnOf "_law_bytes" "_law_bytes" (ZF Zc7) (Zy Zc7) (Zj Zc7) .none kV13 dc13 pm13 an13 cd13 ct13),sl13⟩) (c13:codeIn K cd13 "_law_bytes"=true) (k13:keepIn K (.ref f13)=true)
    (a14:nsIn K mainGlobals "_law_read"=some (some (.ref f14))) (l14:K.lookup f14=some ⟨oc14,od14,.func (fnOf "_law_read" "_law_read" (ZF Zcy) (Zy Zcy) (Zj Zcy) .none kV14 dc14 pm14 an14 cd14 ct14),sl14⟩) (c14:codeIn K cd14 "_law_read"=true) (k14:keepIn K (.ref f14)=true)
    (a15:nsIn K mainGlobals "_law_byte"=some (some (.ref f15))) (l15:K.lookup f15=some ⟨oc15,od15,.func (fnOf "_law_byte" "_law_byte" (ZF ZdH) (Zy ZdH) (Zj ZdH) .none kV15 dc15 pm15 an15 cd15 ct15),sl15⟩) (c15:codeIn K cd15 "_law_byte"=true) (k15:keepIn K (.ref f15)=true)
    (a16:nsIn K mainGlobals "_law_any"=some (some (.ref f16))) (l16:K.lookup f16=some ⟨oc16,od16,.func (fnOf "_law_any" "_law_any" (ZF Zc6) (Zy Zc6) (Zj Zc6) .none kV16 dc16 pm16 an16 cd16 ct16),sl16⟩) (c16:codeIn K cd16 "_law_any"=true) (k16:keepIn K (.ref f16)=true)
    (a17:nsIn K mainGlobals "law"=some (some (.ref f17))) (l17:K.lookup f17=some ⟨oc17,od17,.func (fnOf "law" "law" (ZF ZbW) (Zy ZbW) (Zj ZbW) .none kV17 dc17 pm17 an17 cd17 ct17),sl17⟩) (c17:codeIn K cd17 "law"=true) (k17:keepIn K (.ref f17)=true)
    (zg0:nsIn K mainGlobals "GREATEST_DATA"=some (some (.int 16 zt0)))
    (zg1:nsIn K mainGlobals "GREATEST_FLAGS"=some (some (.int 31 zt1)))
    (zg2:nsIn K mainGlobals "GREATEST_WORD"=some (some (.int 65535 zt2)))
    (zg3:nsIn K mainGlobals "LEAST_MOST"=some (some (.int 4 zt3)))
    (zg4:nsIn K mainGlobals "LONG_HEAD"=some (some (.int 24 zt4)))
    (zg5:nsIn K mainGlobals "RIGHT_SUM"=some (some (.int 65535 zt5)))
    (zg6:nsIn K mainGlobals "SHORT_HEAD"=some (some (.int 20 zt6)))
    (zg7:nsIn K mainGlobals "SYN"=some (some (.int 2 zt7)))
    (zg8:nsIn K mainGlobals "WORDS"=some (some (.int 65536 zt8)))
    (z_all:nsIn K mainGlobals "all"=some none)
    (z_bool:nsIn K mainGlobals "bool"=some none)
    (z_int:nsIn K mainGlobals "int"=some none)
    (z_isinstance:nsIn K mainGlobals "isinstance"=some none)
    (z_len:nsIn K mainGlobals "len"=some none)
    (z_list:nsIn K mainGlobals "list"=some none)
    (z_range:nsIn K mainGlobals "range"=some none)
    (z_sum:nsIn K mainGlobals "sum"=some none)
    (z_tuple:nsIn K mainGlobals "tuple"=some none) :
    ∃fd:FuncData,(∀(s:Shared) (v:Value),BindsTo s fd ⟨[v],[]⟩ [("_law_script",v)])∧∀base:Heap,K.In base→base.Ns mainGlobals mg→FnOk l.prog w K mg base CX0 5 fa fd ["_law_script"] (Ze3 K):=by
  have e:=hfa.symm.trans (mg_of X G a17)
  cases e
  have g:Glb K mg:=⟨⟨_,mg_of X G zg0⟩,⟨_,mg_of X G zg1⟩,⟨_,mg_of X G zg2⟩,⟨_,mg_of X G zg3⟩,⟨_,mg_of X G zg4⟩,⟨_,mg_of X G zg5⟩,⟨_,mg_of X G zg6⟩,⟨_,mg_of X G zg7⟩,⟨_,mg_of X G zg8⟩,mg_none_of X G z_all,mg_none_of X G z_bool,mg_none_of X G z_int,mg_none_of X G z_isinstance,mg_none_of X G z_len,mg_none_of X G z_list,mg_none_of X G z_range,mg_none_of X G z_sum,mg_none_of X G z_tuple⟩
  have F0:=zb (st:=zs0) l0 c0 k0
  have b0:=F0.binds (ps:=zP0) fun _ _ _ _ _ _=>us1 fun _=>rfl
  have D0:ZK K mg "folded" zs0 zP0:=⟨_,_,F0,b0,mg_of X G a0⟩
  have F1:=zb (st:=zs1) l1 c1 k1
  have b1:=F1.binds (ps:=zP1) fun _ _ _ _ _ _=>us2 fun _ _=>rfl
  have D1:ZK K mg "has" zs1 zP1:=⟨_,_,F1,b1,mg_of X G a1⟩
  have F2:=zb (st:=zs2) l2 c2 k2
  have b2:=F2.binds (ps:=zP2) fun _ _ _ _ _ _=>us1 fun _=>rfl
  have D2:ZK K mg "byte_of_head" zs2 zP2:=⟨_,_,F2,b2,mg_of X G a2⟩
  have F3:=zb (st:=zs3) l3 c3 k3
  have b3:=F3.binds (ps:=zP3) fun _ _ _ _ _ _=>us1 fun _=>rfl
  have D3:ZK K mg "is_right" zs3 zP3:=⟨_,_,F3,b3,mg_of X G a3⟩
  have F4:=zb (st:=zs4) l4 c4 k4
  have b4:=F4.binds (ps:=zP4) fun _ _ _ _ _ _=>us1 fun _=>rfl
  have D4:ZK K mg "head_of" zs4 zP4:=⟨_,_,F4,b4,mg_of X G a4⟩
  have F5:=zb (st:=zs5) l5 c5 k5
  have b5:=F5.binds (ps:=zP5) fun _ _ _ _ _ _=>us1 fun _=>rfl
  have D5:ZK K mg "is_right_long_head" zs5 zP5:=⟨_,_,F5,b5,mg_of X G a5⟩
  have F6:=zb (st:=zs6) l6 c6 k6
  have b6:=F6.binds (ps:=zP6) fun _ _ _ _ _ _=>us1 fun _=>rfl
  have D6:ZK K mg "get" zs6 zP6:=⟨_,_,F6,b6,mg_of X G a6⟩
  have F7:=zb (st:=zs7) l7 c7 k7
  have b7:=F7.binds (ps:=zP7) fun _ _ _ _ _ _=>us2 fun _ _=>rfl
  have D7:ZK K mg "two_at" zs7 zP7:=⟨_,_,F7,b7,mg_of X G a7⟩
  have F8:=zb (st:=zs8) l8 c8 k8
  have b8:=F8.binds (ps:=zP8) fun _ _ _ _ _ _=>us2 fun _ _=>rfl
  have D8:ZK K mg "four_at" zs8 zP8:=⟨_,_,F8,b8,mg_of X G a8⟩
  have F9:=zb (st:=zs9) l9 c9 k9
  have b9:=F9.binds (ps:=zP9) fun _ _ _ _ _ _=>us2 fun _ _=>rfl
  have D9:ZK K mg "_law_cell" zs9 zP9:=⟨_,_,F9,b9,mg_of X G a9⟩
  have F10:=zb (st:=ZdK) l10 c10 k10
  have b10:=F10.binds (ps:=Zgh) fun _ _ _ _ _ _=>us2 fun _ _=>rfl
  have D10:ZK K mg "_law_mix" ZdK Zgh:=⟨_,_,F10,b10,mg_of X G a10⟩
  have F11:=zb (st:=ZdJ) l11 c11 k11
  have b11:=F11.binds (ps:=Zgg) fun _ _ _ _ _ _=>us1 fun _=>rfl
  have D11:ZK K mg "_law_two" ZdJ Zgg:=⟨_,_,F11,b11,mg_of X G a11⟩
  have F12:=zb (st:=ZdI) l12 c12 k12
  have b12:=F12.binds (ps:=Zgf) fun _ _ _ _ _ _=>us1 fun _=>rfl
  have D12:ZK K mg "_law_folded" ZdI Zgf:=⟨_,_,F12,b12,mg_of X G a12⟩
  have F13:=zb (st:=Zc7) l13 c13 k13
  have b13:=F13.binds (ps:=ZfA) fun _ _ _ _ _ _=>us1 fun _=>rfl
  have D13:ZK K mg "_law_bytes" Zc7 ZfA:=⟨_,_,F13,b13,mg_of X G a13⟩
  have F14:=zb (st:=Zcy) l14 c14 k14
  have b14:=F14.binds (ps:=Zge) fun _ _ _ _ _ _=>us1 fun _=>rfl
  have D14:ZK K mg "_law_read" Zcy Zge:=⟨_,_,F14,b14,mg_of X G a14⟩
  have F15:=zb (st:=ZdH) l15 c15 k15
  have b15:=F15.binds (ps:=Zgd) fun _ _ _ _ _ _=>us1 fun _=>rfl
  have D15:ZK K mg "_law_byte" ZdH Zgd:=⟨_,_,F15,b15,mg_of X G a15⟩
  have F16:=zb (st:=Zc6) l16 c16 k16
  have b16:=F16.binds (ps:=Zgc) fun _ _ _ _ _ _=>us2 fun _ _=>rfl
  have D16:ZK K mg "_law_any" Zc6 Zgc:=⟨_,_,F16,b16,mg_of X G a16⟩
  have F17:=zb (st:=ZbW) l17 c17 k17
  have b17:=F17.binds (ps:=Zgb) fun _ _ _ _ _ _=>us1 fun _=>rfl
  have D17:ZK K mg "law" ZbW Zgb:=⟨_,_,F17,b17,mg_of X G a17⟩
  refine ⟨fnOf "law" "law" (ZF ZbW) (Zy ZbW) (Zj ZbW) .none kV17 dc17 pm17 an17 cd17 ct17,fun s v=>.of_eq rfl,fun base BX BG=>?_⟩
  exact Zic law_true (Zjn F17 D0 D1 D2 D3 D4 D5 D6 D7 D8 D9 D10 D11 D12 D13 D14 D15 D16 g (Zih BX BG xaC xqC) (Zig BX BG xaC xqC xlC xmC xaW xqW xlW xmW xzI xzV))
theorem Zlf {l:OpenLaw} {q:Program} {loose:List Str} {XP:(Str→Option Value)→Heap→Prop} {YP:World→Heap→Prop} {d:DefRec} {K:Params→Frag} (hn:l.most=some 63) (hdf:d.params.defaults=[])
    (hY:∀(w:World) (h:Heap),YP w h→(K w.params).In h)
    (F:∀(w:World) (mg:Str→Option Value) (fa:Addr) (h:Heap),(K w.params).In h→h.Ns mainGlobals mg→mg d.name=some (.ref fa)→
      ∃fd:FuncData,(∀(s:Shared) (u:Value),BindsTo s fd ⟨[u],[]⟩ [("_law_script",u)])∧∀base:Heap,(K w.params).In base→base.Ns mainGlobals mg→FnOk l.prog w (K w.params) mg base CX0 5 fa fd ["_law_script"] (Ze3 (K w.params))) :
    WalkO q loose XP YP l.row.toRowW d [] (fun f vs=>PySem.call f vs):=
  L2.ZhG (n:=63) (k:=5) (x:="_law_script") (CX:=fun _=>CX0) (sp:=fun w=>Ze3 (K w.params)) hn (by decide) hdf ⟨rfl,by decide,by decide⟩ hY F (fun _ H a ns hl hO hS=>⟨a,ns,rfl,hO,hS,hl,fun _=>rfl⟩) fun _ _ _ _ _ z=>z
end My
open PySem PySem.W PyProof.Rows
set_option maxRecDepth 100000 in
set_option maxHeartbeats 0 in
theorem PySem.Challenge.cw_wirestream_k04_segments_refused_holds : PySem.Challenge.rw_wirestream_k04_segments_refused.Holds := by
  w_on; o_law; k_head; (case hw=>w_witness2)
  k_fill
  refine My.Zlf (l:=PySem.Challenge.rw_wirestream_k04_segments_refused) rfl rfl (fun w h Y=>PySem.W.kIn_of Y) ?F
  case F=>
    intro w mg fa h KX G hmg
    refine' My.ZjH KX G hmg ?xaC ?xaW ?xqC ?xqW ?xlC ?xlW ?xmC ?xmW ?xzI ?xzV ?a0 ?l0 ?c0 ?k0 ?a1 ?l1 ?c1 ?k1 ?a2 ?l2 ?c2 ?k2 ?a3 ?l3 ?c3 ?k3 ?a4 ?l4 ?c4 ?k4 ?a5 ?l5 ?c5 ?k5 ?a6 ?l6 ?c6 ?k6 ?a7 ?l7 ?c7 ?k7 ?a8 ?l8 ?c8 ?k8 ?a9 ?l9 ?c9 ?k9 ?a10 ?l10 ?c10 ?k10 ?a11 ?l11 ?c11 ?k11 ?a12 ?l12 ?c12 ?k12 ?a13 ?l13 ?c13 ?k13 ?a14 ?l14 ?c14 ?k14 ?a15 ?l15 ?c15 ?k15 ?a16 ?l16 ?c16 ?k16 ?a17 ?l17 ?c17 ?k17 ?zg0 ?zg1 ?zg2 ?zg3 ?zg4 ?zg5 ?zg6 ?zg7 ?zg8 ?z_all ?z_bool ?z_int ?z_isinstance ?z_len ?z_list ?z_range ?z_sum ?z_tuple
    case xaC | xaW | xlC | xlW | xzI | xzV | a0 | l0 | c0 | k0 | a1 | l1 | c1 | k1 | a2 | l2 | c2 | k2 | a3 | l3 | c3 | k3 | a4 | l4 | c4 | k4 | a5 | l5 | c5 | k5 | a6 | l6 | c6 | k6 | a7 | l7 | c7 | k7 | a8 | l8 | c8 | k8 | a9 | l9 | c9 | k9 | a10 | l10 | c10 | k10 | a11 | l11 | c11 | k11 | a12 | l12 | c12 | k12 | a13 | l13 | c13 | k13 | a14 | l14 | c14 | k14 | a15 | l15 | c15 | k15 | a16 | l16 | c16 | k16 | a17 | l17 | c17 | k17 | zg0 | zg1 | zg2 | zg3 | zg4 | zg5 | zg6 | zg7 | zg8 | z_all | z_bool | z_int | z_isinstance | z_len | z_list | z_range | z_sum | z_tuple=>k_is
    (case xqC=>k_exc)
    (case xqW=>k_exc)
    (case xmC=>rfl)
    (case xmW=>rfl)
#print axioms PySem.Challenge.cw_wirestream_k04_segments_refused_holds
