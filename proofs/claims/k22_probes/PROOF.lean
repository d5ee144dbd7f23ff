import PyProof.Rows.All
import Wide.All
import OpenK.AllK
import Wide.FinOn
import Lean
import PyProof.EqAt
import PyProof.EqKinds
import PyProof.TupleCall
import PySem.Challenge.RW_wirestream_k22_probes
set_option compiler.extract_closed false
set_option bootstrap.genMatcherCode false
set_option Elab.async false
set_option linter.all false
set_option maxRecDepth 100000
namespace L2
open PySem PySem.Spec PyProof.Rows
abbrev Key:=Sum Int Str
def Zi1:Key→Value→Bool
  | .inl k,v=>Value.isInt k v
  | .inr x,v=>Value.isStrOf x v
def ZzB (w:World):Key→Int
  | .inl k=>hashInt k
  | .inr x=>hashStr w x
theorem Zaw:∀{k:Key} {v:Value},Zi1 k v=true→(∃i t,k=Sum.inl i∧v=Value.int i t)∨(∃x t,k=Sum.inr x∧v=Value.str x t)
  | .inl i,v,h=>by
    obtain ⟨t,e⟩:=Value.isInt_shape (k:=i) (v:=v) h
    exact .inl ⟨i,t,rfl,e⟩
  | .inr x,v,h=>by
    obtain ⟨t,e⟩:=Value.isStrOf_shape (x:=x) (v:=v) h
    exact .inr ⟨x,t,rfl,e⟩
theorem ZnV (i:Int) (t:Tok):Zi1 (.inl i) (.int i t)=true:=by simp [Zi1,Value.isInt]
theorem ZnU (x:Str) (t:Tok):Zi1 (.inr x) (.str x t)=true:=by simp [Zi1,Value.isStrOf]
theorem Zuz (a b:Int):decide ((Sum.inl a:Key)=Sum.inl b)=(a == b):=by
  by_cases e:a=b
  · subst e; simp
  · have h:¬(Sum.inl a:Key)=Sum.inl b:=fun q=>e (Sum.inl.inj q)
    rw [decide_eq_false h]
    exact (beq_eq_false_iff_ne.mpr e).symm
theorem Zuw (a b:Str):decide ((Sum.inr a:Key)=Sum.inr b)=decide (a=b):=by
  by_cases e:a=b
  · subst e; simp
  · have h:¬(Sum.inr a:Key)=Sum.inr b:=fun q=>e (Sum.inr.inj q)
    rw [decide_eq_false h,decide_eq_false e]
theorem Zuy (a:Int) (b:Str):decide ((Sum.inl a:Key)=Sum.inr b)=false:=decide_eq_false (fun q=>nomatch q)
theorem Zux (a:Str) (b:Int):decide ((Sum.inr a:Key)=Sum.inl b)=false:=decide_eq_false (fun q=>nomatch q)
def ZaN (prog:Program) (w:World):PySem.KeyKind prog w Key where
  is:=Zi1
  hash:=ZzB w
  inj:=fun v a b ha hb=>by
    rcases Zaw ha with ⟨i,t,rfl,rfl⟩ | ⟨x,t,rfl,rfl⟩
    · rcases Zaw hb with ⟨j,u,rfl,e⟩ | ⟨y,u,rfl,e⟩
      · injection e with e1 _; rw [e1]
      · exact nomatch e
    · rcases Zaw hb with ⟨j,u,rfl,e⟩ | ⟨y,u,rfl,e⟩
      · exact nomatch e
      · injection e with e1 _; rw [e1]
  byValue:=fun k v h=>by
    rcases Zaw h with ⟨i,t,rfl,rfl⟩ | ⟨x,t,rfl,rfl⟩<;>rfl
  pyHash:=fun hv h=>by
    rcases Zaw hv with ⟨i,t,rfl,rfl⟩ | ⟨x,t,rfl,rfl⟩
    · exact wpAny_pyHash_int h
    · exact wpAny_pyHash_str h
  eqBool:=fun hu hv h=>by
    rcases Zaw hu with ⟨i,t,rfl,rfl⟩ | ⟨x,t,rfl,rfl⟩
    · rcases Zaw hv with ⟨j,u,rfl,rfl⟩ | ⟨y,u,rfl,rfl⟩
      · rw [Zuz] at h; exact wpAny_eqBool_int h
      · rw [Zuy] at h; exact SeqAt.EqAt.int_str i t y u _ _ _ _ h
    · rcases Zaw hv with ⟨j,u,rfl,rfl⟩ | ⟨y,u,rfl,rfl⟩
      · rw [Zux] at h; exact SeqAt.EqAt.str_int x t j u _ _ _ _ h
      · rw [Zuw] at h; exact wpAny_eqBool_str h
  «strs»:=fun k x t v h=>by
    rcases Zaw h with ⟨i,u,rfl,e⟩ | ⟨y,u,rfl,e⟩
    · exact nomatch e
    · injection e with e1 _
      subst e1
      cases v<;>rfl
theorem ZlH (prog:Program) (w:World) (i:Int) (t:Tok):(ZaN prog w).is (.inl i) (.int i t)=true:=ZnV i t
theorem ZlG (prog:Program) (w:World) (x:Str) (t:Tok):(ZaN prog w).is (.inr x) (.str x t)=true:=ZnU x t
end L2
namespace L2
open PySem PySem.Spec PyProof.Rows
inductive V where
  | non | bl (b:Bool) | int (i:Int) | str (x:Str) | byt (b:Array UInt8) | flt (b:UInt64) | ref (a:Addr) | ty (n:String)
  deriving DecidableEq
def RelV:V→Value→Prop
  | .non,u=>u=Value.none
  | .bl b,u=>u=Value.bool b
  | .int i,u=>∃t,u=Value.int i t
  | .str x,u=>∃t,u=Value.str x t
  | .byt b,u=>∃t,u=Value.bytes b t
  | .flt b,u=>∃t,u=Value.float b t
  | .ref a,u=>u=Value.ref a
  | .ty n,u=>u=Value.type n
abbrev Vals:List V→List Value→Prop:=Paired RelV
theorem Vals.length {xs:List V} {us:List Value} (r:Vals xs us):xs.length=us.length:=Paired.length r
theorem Vals.get:∀{xs:List V} {us:List Value} {i:Nat} {x:V},Vals xs us→xs[i]?=some x→∃u,us[i]?=some u∧RelV x u
  | _,_,_,_,.nil,e=>by simp at e
  | _,_,0,_,.cons r _,e=>by simp at e; subst e; exact ⟨_,rfl,r⟩
  | _,_,i+1,x,.cons _ t,e=>by
    obtain ⟨u,h1,h2⟩:=Vals.get (i:=i) (x:=x) t (by simpa using e)
    exact ⟨u,by simpa using h1,h2⟩
theorem Vals.append:∀{xs ys:List V} {us ws:List Value},Vals xs us→Vals ys ws→Vals (xs++ys) (us++ws)
  | _,_,_,_,.nil,s=>s
  | _,_,_,_,.cons r t,s=>.cons r (Vals.append t s)
theorem Vals.take:∀{xs:List V} {us:List Value} (n:Nat),Vals xs us→Vals (xs.take n) (us.take n)
  | _,_,0,_=>.nil
  | _,_,_+1,.nil=>.nil
  | _,_,n+1,.cons r t=>.cons r (Vals.take n t)
theorem Vals.drop:∀{xs:List V} {us:List Value} (n:Nat),Vals xs us→Vals (xs.drop n) (us.drop n)
  | _,_,0,r=>r
  | _,_,_+1,.nil=>.nil
  | _,_,n+1,.cons _ t=>Vals.drop n t
theorem Vals.none_of:∀{xs:List V} {us:List Value} {i:Nat},Vals xs us→xs[i]?=none→us[i]?=none:=fun {xs us i} r e=>by
  have h1:=r.length
  have h2:xs.length≤i:=List.getElem?_eq_none_iff.mp e
  exact List.getElem?_eq_none_iff.mpr (by omega)
def RelO:Option V→Option Value→Prop
  | some v,some u=>RelV v u
  | none,none=>True
  | _,_=>False
def KV {κ:Type}:List (κ×V)→List (κ×Value)→Prop:=Paired fun (p:κ×V) (q:κ×Value)=>p.1=q.1∧RelV p.2 q.2
def kV:Key→V
  | .inl i=>.int i
  | .inr x=>.str x
inductive HO where
  | lst (xs:List V)
  | tup (xs:List V)
  | dK (kvs:List (Key×V)) | dT (kvs:List (List Key×V))
  | set (S:Int→Bool) (n:Nat)
  | ins (C dx:Addr) (fs:List (Str×V))
  | own (x:Addr)
  | xd (fs:List (Str×V))
  | met (f x:Addr)
  | rng (lo hi:Int)
  | frz (o:Obj) (u:HO)
  | tbl (ps:Array Value)
  | ext (φ:Heap→Prop)
abbrev Hp:=Addr→Option HO
def upd (H:Hp) (a:Addr) (o:HO):Hp:=fun b=>if b=a then some o else H b
theorem zJ {H:Hp} {a:Addr} {o:HO}:upd H a o a=some o:=by unfold upd; rw [if_pos rfl]
theorem ZT {H:Hp} {a b:Addr} {o:HO} (h:b≠a):upd H a o b=H b:=by unfold upd; rw [if_neg h]
theorem zl {H:Hp} {a b:Addr} {o:HO} (h:H a=some o) (h':H b=none):a≠b:=by
  intro e; subst e; rw [h] at h'; cases h'
section
variable (P:Program) (w:World)
def ObjOk (H:Hp) (h:Heap) (a:Addr):HO→Prop
  | .lst xs=>xs.length≤sizeLine∧∃(its:List Value) (n:Nat),Vals xs its∧h.get? a=some { cls:=.type "list",data:=.seq its.toArray n }
  | .tup xs=>xs.length≤sizeLine∧∃its:List Value,Vals xs its∧IsTup h a its.toArray
  | .dK kvs=>kvs.length≤sizeLine∧(a == sysModules)=false∧∃vs,KV kvs vs∧h.DictOf (ZaN P w) a vs
  | .dT kvs=>kvs.length≤sizeLine∧(a == sysModules)=false∧∃xs:List (List Key×Addr×Value),
      Paired (fun (p:List Key×V) (q:List Key×Addr×Value)=>p.1=q.1∧H q.2.1=some (.tup (p.1.map kV))∧RelV p.2 q.2.2) kvs xs∧
      ∃o es ep,h.get? a=some o∧o.ExactDict∧o.data=.dict es ep∧es.toList=xs.map (entryOfKey (tupleKind (ZaN P w)))∧(xs.map (·.1)).Nodup
  | .set S n=>h.SetOf (intKind P w) a S n
  | .ins C dx fs=>H dx=some (.own a)∧fs.length≤1000∧dx≠a∧h.get? a=some (PySem.W.instObj C dx)∧
      ∃mA,h.Ns1 dx mA∧(∀f,RelO (fs.lookup f) (mA f))∧PySem.Within mA (fs.map (·.1))
  | .own _=>∃o,h.get? a=some o
  | .xd fs=>∃mA,h.Ns1 a mA∧∀f,RelO (fs.lookup f) (mA f)
  | .rng lo hi=>∃t u v,h.get? a=some { cls:=.type "range",data:=.fields #[.int lo t,.int hi u,.int 1 v] }
  | .frz o u=>h.get? a=some o∧ObjOk H h a u
  | .tbl ps=>h.get? a=some { cls:=.none,data:=.fields ps }
  | .met f x=>h.get? a=some (PySem.W.methodObj (.ref f) (.ref x))
  | .ext φ=>φ h∧(∃o,h.get? a=some o)∧∀h1 h2:Heap,φ h1→(∀o,h1.get? a=some o→h2.get? a=some o)→φ h2
def HOk (H:Hp) (h:Heap):Prop:=∀a o,H a=some o→ObjOk P w H h a o
end
section
variable {P:Program} {w:World} {H H':Hp} {h h':Heap} {a:Addr} {o:HO}
theorem ObjOk.lt (x:ObjOk P w H h a o):a<h.objs.size:=by
  cases o with
  | lst xs=>obtain ⟨_,_,_,_,e⟩:=x; exact Heap.lt_size e
  | tup xs=>obtain ⟨_,_,_,p⟩:=x; exact p.lt
  | dK kvs=>obtain ⟨_,_,_,_,o,_,_,e,_⟩:=x; exact Heap.lt_size e
  | dT kvs=>obtain ⟨_,_,_,_,o,_,_,e,_⟩:=x; exact Heap.lt_size e
  | set S n=>obtain ⟨o,_,_,_,e,_⟩:=x; exact Heap.lt_size e
  | ins C dx fs=>obtain ⟨_,_,_,e,_⟩:=x; exact Heap.lt_size e
  | own y=>obtain ⟨_,e⟩:=x; exact Heap.lt_size e
  | xd fs=>obtain ⟨_,⟨_,_,_,e,_⟩,_⟩:=x; exact Heap.lt_size e
  | rng lo hi=>obtain ⟨_,_,_,e⟩:=x; exact Heap.lt_size e
  | frz ob u=>obtain ⟨e,_⟩:=x; exact Heap.lt_size e
  | tbl ps=>exact Heap.lt_size (show h.get? a=some _ from x)
  | met f y=>exact Heap.lt_size (show h.get? a=some _ from x)
  | ext φ=>obtain ⟨_,⟨_,e⟩,_⟩:=x; exact Heap.lt_size e
theorem Paired.mapP {α β:Type} {F G:α→β→Prop}:∀{l₁:List α} {l₂:List β},Paired F l₁ l₂→(∀a b,F a b→G a b)→Paired G l₁ l₂
  | _,_,.nil,_=>.nil
  | _,_,.cons r t,f=>.cons (f _ _ r) (Paired.mapP t f)
theorem ObjOk.stay (x:ObjOk P w H h a o) (k:∀b u,(b=a∨H b=some (.own a))→h.get? b=some u→h'.get? b=some u)
    (ho:∀b,H b=some (.own a)→H' b=some (.own a)) (ht:∀b xs,H b=some (.tup xs)→H' b=some (.tup xs)):ObjOk P w H' h' a o:=by
  induction o with
  | lst xs=>obtain ⟨z,its,n,r,e⟩:=x; exact ⟨z,its,n,r,k _ _ (.inl rfl) e⟩
  | tup xs=>obtain ⟨z,its,r,ob,e,c⟩:=x; exact ⟨z,its,r,ob,k _ _ (.inl rfl) e,c⟩
  | dK kvs=>obtain ⟨z,y,vs,r,ob,es,ep,e,c⟩:=x; exact ⟨z,y,vs,r,ob,es,ep,k _ _ (.inl rfl) e,c⟩
  | dT kvs=>
    obtain ⟨z,y,xs,r,ob,es,ep,e,c⟩:=x
    exact ⟨z,y,xs,Paired.mapP r fun p q z=>⟨z.1,ht _ _ z.2.1,z.2.2⟩,ob,es,ep,k _ _ (.inl rfl) e,c⟩
  | set S n=>obtain ⟨ob,es,ep,t,e,c⟩:=x; exact ⟨ob,es,ep,t,k _ _ (.inl rfl) e,c⟩
  | ins C dx fs=>
    obtain ⟨d,z,ne,e,mA,⟨od,es,ep,e2,c⟩,r⟩:=x
    exact ⟨ho _ d,z,ne,k _ _ (.inl rfl) e,mA,⟨od,es,ep,k _ _ (.inr d) e2,c⟩,r⟩
  | own y=>obtain ⟨ob,e⟩:=x; exact ⟨ob,k _ _ (.inl rfl) e⟩
  | xd fs=>obtain ⟨mA,⟨od,es,ep,e,c⟩,r⟩:=x; exact ⟨mA,⟨od,es,ep,k _ _ (.inl rfl) e,c⟩,r⟩
  | rng lo hi=>obtain ⟨t,u,v,e⟩:=x; exact ⟨t,u,v,k _ _ (.inl rfl) e⟩
  | frz ob u ih=>obtain ⟨e,q⟩:=x; exact ⟨k _ _ (.inl rfl) e,ih q⟩
  | tbl ps=>
    have e:h.get? a=some { cls:=.none,data:=.fields ps }:=x
    show h'.get? a=some { cls:=.none,data:=.fields ps }
    exact k a _ (.inl rfl) e
  | met f y=>
    have e:h.get? a=some (PySem.W.methodObj (.ref f) (.ref y)):=x
    show h'.get? a=some (PySem.W.methodObj (.ref f) (.ref y))
    exact k a _ (.inl rfl) e
  | ext φ=>obtain ⟨p,⟨o,e⟩,st⟩:=x; exact ⟨st _ _ p fun o q=>k _ _ (.inl rfl) q,⟨o,k _ _ (.inl rfl) e⟩,st⟩
theorem HOk.lt (x:HOk P w H h) (e:H a=some o):a<h.objs.size:=(x a o e).lt
theorem HOk.fresh (x:HOk P w H h) (e:h.objs.size≤a):H a=none:=by
  cases q:H a with
  | none=>rfl
  | some u=>exact absurd (Nat.lt_of_lt_of_le (x.lt q) e) (Nat.lt_irrefl _)
theorem HOk.kept (x:HOk P w H h) (k:∀b u,h.get? b=some u→h'.get? b=some u):HOk P w H h':=fun a o e=>
  (x a o e).stay (fun b u _ q=>k b u q) (fun _ q=>q) fun _ _ q=>q
theorem HOk.laid (x:HOk P w H h) (k:∀b u,h.get? b=some u→h'.get? b=some u) (hp:h.objs.size≤a) (new:ObjOk P w (upd H a o) h' a o):HOk P w (upd H a o) h':=fun b u e=>by
  have hn:=x.fresh hp
  by_cases hb:b=a
  · subst hb; rw [zJ] at e; cases e; exact new
  · rw [ZT hb] at e
    exact (x b u e).stay (fun c v _ q=>k c v q) (fun c q=>by rw [ZT (zl q hn)]; exact q) fun c xs q=>by rw [ZT (zl q hn)]; exact q
end
def Rd (H:Hp) (a:Addr) (u:HO):Prop:=H a=some u∨∃o,H a=some (.frz o u)
theorem Rd.ok {P:Program} {w:World} {H:Hp} {h:Heap} {a:Addr} {u:HO} (r:Rd H a u) (x:HOk P w H h):ObjOk P w H h a u:=by
  rcases r with r | ⟨o,r⟩
  · exact x a u r
  · obtain ⟨_,q⟩:=x a _ r
    exact q
def Mut:Option HO→Prop
  | some (.lst _)=>True
  | some (.dK _)=>True
  | some (.dT _)=>True
  | some (.set _ _)=>True
  | some (.ins _ _ _)=>True
  | some (.ext _)=>True
  | _=>False
section
variable {P:Program} {w:World} {H:Hp} {h h':Heap} {x e:Addr} {o':HO}
theorem HOk.write (ok:HOk P w H h) (mu:Mut (H x)) (he:e=x∨H e=some (.own x)) (k:∀b u,b≠e→h.get? b=some u→h'.get? b=some u) (heo:∃u,h'.get? e=some u)
    (new:ObjOk P w (upd H x o') h' x o'):HOk P w (upd H x o') h':=fun b u q=>by
  have nown:∀c y,H c=some (.own y)→c≠x:=fun c y r z=>by subst z; rw [r] at mu; exact mu
  have ntup:∀c xs,H c=some (.tup xs)→c≠x:=fun c xs r z=>by subst z; rw [r] at mu; exact mu
  by_cases hb:b=x
  · subst hb; rw [zJ] at q; cases q; exact new
  · rw [ZT hb] at q
    by_cases hbe:b=e
    · have q':H b=some (.own x):=by
        rcases he with z | z
        · exact absurd (hbe.trans z) hb
        · rw [hbe]; exact z
      rw [q] at q'; cases q'
      obtain ⟨v,hv⟩:=heo
      exact ⟨v,by rw [hbe]; exact hv⟩
    · refine (ok b u q).stay (fun c v hc r=>k c v ?_ r) (fun c r=>by rw [ZT (nown c b r)]; exact r) fun c xs r=>by rw [ZT (ntup c xs r)]; exact r
      rcases hc with rfl | hc
      · exact hbe
      · rintro rfl
        rcases he with z | z
        · exact nown c b hc z
        · rw [hc] at z; cases z; exact hb rfl
end
structure Un (fs ex:List Addr) (H H':Hp) (h h':Heap):Prop where
  keep:∀b o,h.get? b=some o→H b=none→b∉fs→b∉ex→h'.get? b=some o
  slot:∀b o,h.get? b=some o→H b=none→b∈fs→b∉ex→∃sl,h'.get? b=some { o with slots:=sl }
  free:∀b o,h.get? b=some o→H b=none→b∉ex→H' b=none
  there:∀b o,h.get? b=some o→b∉ex→∃o',h'.get? b=some o'
  tups:∀b xs,H b=some (.tup xs)→H' b=some (.tup xs)
  frzs:∀b o u,H b=some (.frz o u)→H' b=some (.frz o u)
  tbls:∀b ps,H b=some (.tbl ps)→∃more,H' b=some (.tbl (ps++more))
section
variable {fs fs' ex ex':List Addr} {H H1 H2:Hp} {h h1 h2 h':Heap} {a x e:Addr} {o:HO}
theorem Un.any (u:Un fs ex H H1 h h1) {b:Addr} {ob:Obj} (q:h.get? b=some ob) (n:H b=none) (hx:b∉ex):∃sl,h1.get? b=some { ob with slots:=sl }:=by
  by_cases hb:b∈fs
  · exact u.slot b ob q n hb hx
  · exact ⟨ob.slots,u.keep b ob q n hb hx⟩
theorem Un.kept (k:∀b u,h.get? b=some u→h'.get? b=some u):Un fs ex H H h h':=
  ⟨fun b ob q _ _ _=>k b ob q,fun b ob q _ _ _=>⟨ob.slots,k b ob q⟩,fun _ _ _ n _=>n,fun b ob q _=>⟨ob,k b ob q⟩,fun _ _ q=>q,fun _ _ _ q=>q,fun _ ps q=>⟨#[],by rw [q]; simp⟩⟩
theorem Un.refl:Un fs ex H H h h:=Un.kept fun _ _ q=>q
theorem Un.laid (k:∀b u,h.get? b=some u→h'.get? b=some u) (hp:h.objs.size≤a) (hn:H a=none):Un fs ex H (upd H a o) h h' where
  keep:=fun b u q _ _ _=>k b u q
  slot:=fun b u q _ _ _=>⟨u.slots,k b u q⟩
  free:=fun b u q n _=>by rw [ZT (Nat.ne_of_lt (Nat.lt_of_lt_of_le (Heap.lt_size q) hp))]; exact n
  there:=fun b u q _=>⟨u,k b u q⟩
  tups:=fun b xs q=>by rw [ZT (zl q hn)]; exact q
  frzs:=fun b u xs q=>by rw [ZT (zl q hn)]; exact q
  tbls:=fun b ps q=>⟨#[],by rw [ZT (zl q hn),q]; simp⟩
theorem Un.write (mu:Mut (H x)) (he:e=x∨H e=some (.own x)) (k:∀b u,b≠e→h.get? b=some u→h'.get? b=some u) (heo:∃u,h'.get? e=some u):Un fs ex H (upd H x o) h h':=by
  have hx:∀b,H b=none→b≠x:=fun b n z=>by subst z; rw [n] at mu; exact mu
  have hb:∀b,H b=none→b≠e:=fun b n z=>by
    subst z
    rcases he with r | r
    · exact hx b n r
    · rw [n] at r; cases r
  have hm:∀b u,H b=some u→¬Mut (some u)→b≠x:=fun b u q nm z=>by subst z; rw [q] at mu; exact nm mu
  refine ⟨fun b u q n _ _=>k b u (hb b n) q,fun b u q n _ _=>⟨u.slots,k b u (hb b n) q⟩,fun b u q n _=>by rw [ZT (hx b n)]; exact n,fun b u q _=>?_,
    fun b xs q=>by rw [ZT (hm b _ q fun z=>z)]; exact q,fun b u xs q=>by rw [ZT (hm b _ q fun z=>z)]; exact q,fun b ps q=>⟨#[],by rw [ZT (hm b _ q fun z=>z),q]; simp⟩⟩
  by_cases hbe:b=e
  · subst hbe; exact heo
  · exact ⟨u,k b u hbe q⟩
end
def trk (h:Heap) (H:Hp):List Addr:=(List.range h.objs.size).filter fun a=>(H a).isSome
def ZjC (h:Heap) (H:Hp):Heap:=PySem.W.hideAll h (trk h H)
theorem Zn0 (h:Heap) (H:Hp):(ZjC h H).objs.size=h.objs.size:=PySem.W.hideAll_size _ _
theorem ZqJ {h:Heap} {H:Hp} {b:Addr} {o:Obj} (e:h.get? b=some o) (n:H b=none):(ZjC h H).get? b=some o:=
  PySem.W.hideAll_get _ e fun hm=>by
    have q:(H b).isSome=true:=(List.mem_filter.mp hm).2
    rw [n] at q; simp at q
theorem Zsc {h:Heap} {H:Hp} {b:Addr} {o:Obj} (e:(ZjC h H).get? b=some o):h.get? b=some o∧H b=none:=by
  have e':h.get? b=some o:=PySem.W.of_hideAll (trk h H) e
  refine ⟨e',?_⟩
  cases q:H b with
  | none=>rfl
  | some x=>
    have hm:b∈trk h H:=List.mem_filter.mpr ⟨List.mem_range.mpr (Heap.lt_size e'),by simp [q]⟩
    have z:(ZjC h H).get? b=none:=PySem.W.hideAll_none (trk h H) hm
    rw [z] at e; cases e
def ZsK (g h:Heap) (L:Addr):List (Addr×Obj):=(List.range h.objs.size).filterMap fun a=>if a=L∨(g.get? a).isSome=true then none else (h.get? a).map fun o=>(a,o)
def rest (g h:Heap) (L d:Addr):List (Addr×Obj):=(ZsK g h L).filter fun p=>decide (p.1≠d)
end L2
namespace L2
open PySem PySem.Spec PyProof.Rows
structure Mod (K:PySem.W.Frag) (mg:Str→Option Value) (base:Heap):Prop where
  kin:K.In base
  glob:base.Ns mainGlobals mg
  blt:∃mb,base.Ns builtinsNs mb∧∀x:Str,x≠"__name__"→mb x=bootBuiltins x
  nolimit:base.NoLimit
structure Cx where
  prog:Program
  w:World
  K:PySem.W.Frag
  mg:Str→Option Value
  base:Heap
  A:Around
  N:List Str
  s₀:Shared
  H₀:Hp
  env:Env
  outer:List Env
  stack:List Env
  ex:List Addr
  fn:Str→Bool
  calm:Bool
  pn:List (Addr×Obj)
  xe:Value→Shared→Prop
def frs (l:List Env):List Addr:=l.filterMap (·.frame)
abbrev Cx.fs (X:Cx):List Addr:=frs X.outer
def Vis (sc:Scope) (x:Str):Prop:=sc.names.lookup x=some .local∨sc.names.lookup x=some .cell∨sc.names.lookup x=some .free
def Loc (sc:Scope) (x:Str):Prop:=sc.names.lookup x=some .local∨sc.names.lookup x=some .cell
def Zz0 (env:Env) (h:Heap) (m:Str→Option Value) (x:Str) (u:Value):Prop:=
  (env.kindOf x=some .local∧m x=some u)∨((env.kindOf x=some .cell∨env.kindOf x=some .free)∧∃c,env.cells.lookup x=some c∧h.IsCell c (some u))
structure Cx.Ok (X:Cx):Prop where
  mod:Mod X.K X.mg X.base
  kind:X.env.scope.kind=.function
  glob:X.env.globals=mainGlobals
  blt:X.env.builtins=builtinsNs
  above:X.s₀.heap.objs.size≤X.env.locals
  inj:∀x y c,X.env.cells.lookup x=some c→X.env.cells.lookup y=some c→x=y
  has:∀x,(X.env.kindOf x=some .cell∨X.env.kindOf x=some .free)→∃c,X.env.cells.lookup x=some c
  cab:∀x c,X.fn x=true→X.env.cells.lookup x=some c→X.s₀.heap.objs.size≤c
  hd:X.calm=true→X.A.handled=none
  frames:X.A.frames=some X.stack
  stk:X.stack=X.outer∨(X.stack=X.env::X.outer∧X.env.frame=some X.env.locals)
  exf:∀b∈X.ex,b≠X.env.locals∧∀x c,X.env.cells.lookup x=some c→c≠b
  bs:∀b o,X.base.get? b=some o→X.s₀.heap.get? b=some o∧X.H₀ b=none
  bsz:X.base.objs.size≤X.s₀.heap.objs.size
  noex:∀b o,X.base.get? b=some o→b∉X.ex
  exfs:∀b∈X.ex,b∉X.fs
  funs:X.s₀.heap.FunFrames X.base X.outer
  frf:∀b∈X.fs,X.H₀ b=none
structure Inv (X:Cx) (pins:List (Addr×Obj)) (σ:List (Option V)) (H:Hp) (s:Shared):Prop where
  ok:X.Ok
  os:s.os=X.s₀.os
  bare:AllBare s.gens
  base:Un X.fs X.ex X.H₀ H X.s₀.heap s.heap
  loc:∃m,s.heap.Ns X.env.locals m∧∀(i:Nat) (x:Str) (v:V),X.N[i]?=some x→σ[i]?=some (some v)→Vis X.env.scope x→∃u,RelV v u∧Zz0 X.env s.heap m x u
  cell:∀x c,X.env.cells.lookup x=some c→∃v,s.heap.IsCell c v
  free:H X.env.locals=none
  freeC:∀x c,X.env.cells.lookup x=some c→H c=none
  pin:∀p∈X.pn++pins,s.heap.get? p.1=some p.2∧H p.1=none∧p.1≠X.env.locals∧p.1∉X.fs∧∀v,p.2.data≠.cell v
  hok:HOk X.prog X.w H s.heap
  len:σ.length=X.N.length
section
variable {X:Cx} {pins:List (Addr×Obj)} {σ:List (Option V)} {H H':Hp} {s:Shared} {h':Heap}
theorem Cx.Ok.nofr (ok:X.Ok) {b:Addr} {o:Obj} (e:X.base.get? b=some o):b∉X.fs:=fun hb=>by
  have:=(ok.funs.mem hb).1
  rw [e] at this; cases this
theorem Inv.bs (I:Inv X pins σ H s):∀b o,X.base.get? b=some o→s.heap.get? b=some o∧H b=none:=fun b o e=>
  ⟨I.base.keep b o (I.ok.bs b o e).1 (I.ok.bs b o e).2 (I.ok.nofr e) (I.ok.noex b o e),I.base.free b o (I.ok.bs b o e).1 (I.ok.bs b o e).2 (I.ok.noex b o e)⟩
theorem Inv.bk (I:Inv X pins σ H s):∀b o,X.base.get? b=some o→s.heap.get? b=some o:=fun b o e=>(I.bs b o e).1
theorem Inv.mod (I:Inv X pins σ H s):Mod X.K X.mg X.base:=I.ok.mod
theorem Inv.kIn (I:Inv X pins σ H s):X.K.In s.heap:=I.ok.mod.kin.keeps I.bk
theorem Inv.lt (I:Inv X pins σ H s):X.env.locals<s.heap.objs.size:=let ⟨_,hn,_⟩:=I.loc; hn.lt
theorem Inv.sz (I:Inv X pins σ H s):X.s₀.heap.objs.size≤s.heap.objs.size:=Nat.le_trans I.ok.above (Nat.le_of_lt I.lt)
theorem Inv.nofs (I:Inv X pins σ H s) {a:Addr} (h:s.heap.objs.size≤a):a∉X.fs:=fun hb=>by
  obtain ⟨_,o,ho,_⟩:=I.ok.funs.mem hb
  exact absurd (Nat.lt_of_lt_of_le (Heap.lt_size ho) (Nat.le_trans I.sz h)) (Nat.lt_irrefl _)
theorem Inv.cne (I:Inv X pins σ H s):∀x c,X.env.cells.lookup x=some c→c≠X.env.locals:=fun x c e z=>by
  obtain ⟨v,o,ho,hd⟩:=I.cell x c e
  obtain ⟨m,⟨o',es,ep,ho',hd',_⟩,_⟩:=I.loc
  rw [z,ho'] at ho; cases ho; rw [hd'] at hd; cases hd
theorem Inv.funs (I:Inv X pins σ H s):s.heap.FunFrames X.base X.outer:=by
  have all:∀(l:List Env),(∀b∈frs l,b∈X.fs)→X.s₀.heap.FunFrames X.base l→s.heap.FunFrames X.base l:=by
    intro l
    induction l with
    | nil=>intro _ _; trivial
    | cons env r ih=>
      intro hs hl
      obtain ⟨hk,⟨L,o,hf,hn,ho,hd⟩,hr⟩:=hl
      have hL:L∈X.fs:=hs L (by unfold frs; rw [List.filterMap_cons,hf]; exact List.mem_cons_self)
      obtain ⟨sl,e⟩:=I.base.slot L o ho (I.ok.frf L hL) hL fun z=>I.ok.exfs L z hL
      exact ⟨hk,⟨L,_,hf,hn,e,hd⟩,ih (fun b hb=>hs b (by unfold frs; rw [List.filterMap_cons,hf]; exact List.mem_cons_of_mem _ hb)) hr⟩
  exact all X.outer (fun _ hb=>hb) I.ok.funs
theorem Inv.stack (I:Inv X pins σ H s):s.heap.FunFrames X.base X.stack:=by
  rcases I.ok.stk with e | ⟨e,hf⟩
  · rw [e]; exact I.funs
  · rw [e]
    obtain ⟨m,hn,_⟩:=I.loc
    refine .cons (by rw [I.ok.kind]; decide) hf hn ?_ I.funs
    exact Heap.get?_none_of_le (Nat.le_trans I.ok.bsz I.ok.above)
theorem Inv.stkSub (I:Inv X pins σ H s):∀b∈frs X.stack,b∈X.env.locals::X.fs:=fun b hb=>by
  rcases I.ok.stk with e | ⟨e,hf⟩
  · rw [e] at hb; exact List.mem_cons_of_mem _ hb
  · rw [e] at hb
    unfold frs at hb
    rw [List.filterMap_cons,hf] at hb
    exact hb
theorem Inv.stkFree (I:Inv X pins σ H s):∀b∈frs X.stack,H b=none:=fun b hb=>by
  rcases List.mem_cons.mp (I.stkSub b hb) with e | hb
  · rw [e]; exact I.free
  · obtain ⟨_,o,ho,_⟩:=I.ok.funs.mem hb
    exact I.base.free b o ho (I.ok.frf b hb) fun z=>I.ok.exfs b z hb
theorem Inv.step {g':Array GenState} {t':Nat} {d':Drawn} {ch:List Addr} (I:Inv X pins σ H s)
    (hch:∀b∈ch,(b∈X.ex∨X.s₀.heap.objs.size≤b)∧b≠X.env.locals∧(∀x c,X.env.cells.lookup x=some c→c≠b)∧∀p∈X.pn++pins,p.1≠b)
    (keep:∀b o,b≠X.env.locals→b∉X.fs→b∉ch→s.heap.get? b=some o→H b=none→h'.get? b=some o)
    (slot:∀b o,b≠X.env.locals→b∈X.fs→b∉ch→s.heap.get? b=some o→H b=none→∃sl,h'.get? b=some { o with slots:=sl }) (free:∀b o,b∉ch→s.heap.get? b=some o→H b=none→H' b=none)
    (there:∀b o,b∉ch→s.heap.get? b=some o→∃o',h'.get? b=some o')
    (tups:∀b xs,H b=some (.tup xs)→H' b=some (.tup xs)) (frzs:∀b o u,H b=some (.frz o u)→H' b=some (.frz o u)) (tbls:∀b ps,H b=some (.tbl ps)→∃more,H' b=some (.tbl (ps++more)))
    (ns:∀m,s.heap.Ns X.env.locals m→h'.Ns X.env.locals m) (hok:HOk X.prog X.w H' h') (hg:AllBare g') :
    Inv X pins σ H' { s with heap:=h',gens:=g',drawn:=d',toks:=t' }:=by
  have neL:∀b o,X.s₀.heap.get? b=some o→b≠X.env.locals:=fun b o e=>Nat.ne_of_lt (Nat.lt_of_lt_of_le (Heap.lt_size e) I.ok.above)
  have neC:∀b o,X.s₀.heap.get? b=some o→b∉X.ex→b∉ch:=fun b o e hx hb=>by
    rcases (hch b hb).1 with z | z
    · exact hx z
    · exact absurd (Nat.lt_of_lt_of_le (Heap.lt_size e) z) (Nat.lt_irrefl _)
  have cellK:∀x c,X.env.cells.lookup x=some c→∀v,s.heap.IsCell c v→h'.IsCell c v:=fun x c e v ⟨o,ho,hd⟩=>by
    have nch:c∉ch:=fun z=>(hch c z).2.2.1 x c e rfl
    by_cases hc:c∈X.fs
    · obtain ⟨sl,q⟩:=slot c o (I.cne x c e) hc nch ho (I.freeC x c e)
      exact ⟨_,q,hd⟩
    · exact ⟨o,keep c o (I.cne x c e) hc nch ho (I.freeC x c e),hd⟩
  refine ⟨I.ok,I.os,hg,⟨fun b o e n hb hx=>?_,fun b o e n hb hx=>?_,fun b o e n hx=>?_,fun b o e hx=>?_,fun b xs e=>tups b xs (I.base.tups b xs e),fun b o xs e=>frzs b o xs (I.base.frzs b o xs e),fun b ps e=>?_⟩,?_,fun x c e=>?_,?_,fun x c e=>?_,fun p hp=>?_,hok,I.len⟩
  · exact keep b o (neL b o e) hb (neC b o e hx) (I.base.keep b o e n hb hx) (I.base.free b o e n hx)
  · obtain ⟨sl,e1⟩:=I.base.slot b o e n hb hx
    obtain ⟨sl',e2⟩:=slot b _ (neL b o e) hb (neC b o e hx) e1 (I.base.free b o e n hx)
    exact ⟨sl',e2⟩
  · obtain ⟨o',e1⟩:=I.base.there b o e hx
    exact free b o' (neC b o e hx) e1 (I.base.free b o e n hx)
  · obtain ⟨o',e1⟩:=I.base.there b o e hx
    exact there b o' (neC b o e hx) e1
  · obtain ⟨m1,e1⟩:=I.base.tbls b ps e
    obtain ⟨m2,e2⟩:=tbls b _ e1
    exact ⟨m1++m2,by rw [e2,Array.append_assoc]⟩
  · obtain ⟨m,hn,hl⟩:=I.loc
    refine ⟨m,ns m hn,fun i x v e1 e2 e3=>?_⟩
    obtain ⟨u,r,l⟩:=hl i x v e1 e2 e3
    refine ⟨u,r,?_⟩
    rcases l with l | ⟨k,c,e,z⟩
    · exact .inl l
    · exact .inr ⟨k,c,e,cellK x c e _ z⟩
  · obtain ⟨v,z⟩:=I.cell x c e
    exact ⟨v,cellK x c e v z⟩
  · obtain ⟨m,⟨o,_,_,ho,_⟩,_⟩:=I.loc
    exact free _ o (fun z=>(hch _ z).2.1 rfl) ho I.free
  · obtain ⟨v,o,ho,hd⟩:=I.cell x c e
    exact free c o (fun z=>(hch c z).2.2.1 x c e rfl) ho (I.freeC x c e)
  · obtain ⟨e,n,ne,nf,d⟩:=I.pin p hp
    have nch:p.1∉ch:=fun z=>(hch p.1 z).2.2.2 p hp rfl
    exact ⟨keep p.1 p.2 ne nf nch e n,free p.1 p.2 nch e n,ne,nf,d⟩
theorem Inv.un {t':Nat} (I:Inv X pins σ H s) (u:Un X.fs [] H H' s.heap h') (hok:HOk X.prog X.w H' h'):Inv X pins σ H' { s with heap:=h',toks:=t' }:=by
  obtain ⟨m,⟨o,es,ep,ho,r⟩,_⟩:=id I.loc
  obtain ⟨sl,hL⟩:=u.any ho I.free (by simp)
  exact I.step (g':=s.gens) (d':=s.drawn) (ch:=[]) (fun _ z=>nomatch z) (fun b o _ hb _ e n=>u.keep b o e n hb (by simp)) (fun b o _ hb _ e n=>u.slot b o e n hb (by simp)) (fun b o _ e n=>u.free b o e n (by simp)) (fun b o _ e=>u.there b o e (by simp)) u.tups u.frzs u.tbls (fun m' hm=>by
    obtain ⟨o',es',ep',ho',r'⟩:=hm
    rw [ho] at ho'; cases ho'
    exact ⟨_,es',ep',hL,r'⟩) hok I.bare
theorem Inv.call {g':Array GenState} {t':Nat} {d':Drawn} {ch:List Addr} (I:Inv X pins σ H s) (u:Un (frs X.stack) ch H H' s.heap h') (hok:HOk X.prog X.w H' h') (hg:AllBare g')
    (hch:∀b∈ch,(b∈X.ex∨X.s₀.heap.objs.size≤b)∧b≠X.env.locals∧(∀x c,X.env.cells.lookup x=some c→c≠b)∧∀p∈X.pn++pins,p.1≠b) :
    Inv X pins σ H' { s with heap:=h',gens:=g',drawn:=d',toks:=t' }:=by
  obtain ⟨m,⟨o,es,ep,ho,r⟩,_⟩:=id I.loc
  obtain ⟨sl,hL⟩:=u.any ho I.free fun z=>(hch _ z).2.1 rfl
  exact I.step (ch:=ch) hch (fun b o hL hb hc e n=>u.keep b o e n (fun z=>(List.mem_cons.mp (I.stkSub b z)).elim hL hb) hc) (fun b o _ _ hc e n=>u.any e n hc) (fun b o hc e n=>u.free b o e n hc) (fun b o hc e=>u.there b o e hc) u.tups u.frzs u.tbls (fun m' hm=>by
    obtain ⟨o',es',ep',ho',r'⟩:=hm
    rw [ho] at ho'; cases ho'
    exact ⟨_,es',ep',hL,r'⟩) hok hg
theorem Inv.turned {t':Nat} {it:Addr} (I:Inv X pins σ H s) (k:∀b o,b≠it→s.heap.get? b=some o→h'.get? b=some o) (hn:H it=none) (hL:it≠X.env.locals)
    (h1:it∈X.ex∨X.s₀.heap.objs.size≤it) (h2:∀x c,X.env.cells.lookup x=some c→c≠it) (h3:∀p∈X.pn++pins,p.1≠it):Inv X pins σ H { s with heap:=h',toks:=t' }:=by
  have nit:∀b u,H b=some u→b≠it:=fun b u e z=>by rw [z,hn] at e; cases e
  refine I.step (g':=s.gens) (d':=s.drawn) (ch:=[it]) (fun b hb=>?_) (fun b o _ _ hc e _=>k b o (fun z=>hc (by simp [z])) e) (fun b o _ _ hc e _=>⟨o.slots,k b o (fun z=>hc (by simp [z])) e⟩) (fun _ _ _ _ n=>n)
    (fun b o hc e=>⟨o,k b o (fun z=>hc (by simp [z])) e⟩) (fun _ _ e=>e) (fun _ _ _ e=>e) (fun b ps e=>⟨#[],by rw [e]; simp⟩) (fun m hm=>?_) (fun b u e=>?_) I.bare
  · have e:b=it:=by simpa using hb
    subst e
    exact ⟨h1,hL,h2,h3⟩
  · obtain ⟨o,es,ep,ho,r⟩:=hm
    exact ⟨o,es,ep,k _ o (Ne.symm hL) ho,r⟩
  · refine (I.hok b u e).stay (fun c v hc q=>k c v ?_ q) (fun _ q=>q) fun _ _ q=>q
    rcases hc with z | z
    · rw [z]; exact nit b u e
    · exact nit c _ z
theorem Inv.tok (I:Inv X pins σ H s) (t:Nat):Inv X pins σ H { s with toks:=t }:=I.un (h':=s.heap) (t':=t) Un.refl I.hok
theorem Inv.kept {t':Nat} (I:Inv X pins σ H s) (k:∀b u,s.heap.get? b=some u→h'.get? b=some u):Inv X pins σ H { s with heap:=h',toks:=t' }:=I.un (Un.kept k) (I.hok.kept k)
theorem Inv.laid {a:Addr} {o:HO} {t':Nat} (I:Inv X pins σ H s) (k:∀b u,s.heap.get? b=some u→h'.get? b=some u) (hp:s.heap.objs.size≤a) (new:ObjOk X.prog X.w (upd H a o) h' a o) :
    Inv X pins σ (upd H a o) { s with heap:=h',toks:=t' }:=I.un (Un.laid k hp (I.hok.fresh hp)) (I.hok.laid k hp new)
theorem Inv.write {x e:Addr} {o:HO} {t':Nat} (I:Inv X pins σ H s) (mu:Mut (H x)) (he:e=x∨H e=some (.own x)) (k:∀b u,b≠e→s.heap.get? b=some u→h'.get? b=some u) (heo:∃u,h'.get? e=some u)
    (new:ObjOk X.prog X.w (upd H x o) h' x o):Inv X pins σ (upd H x o) { s with heap:=h',toks:=t' }:=I.un (Un.write mu he k heo) (I.hok.write mu he k heo new)
theorem Inv.pins_of {pins':List (Addr×Obj)} (I:Inv X pins σ H s) (h:∀p∈pins',s.heap.get? p.1=some p.2∧H p.1=none∧p.1≠X.env.locals∧p.1∉X.fs∧∀v,p.2.data≠.cell v):Inv X pins' σ H s:=
  ⟨I.ok,I.os,I.bare,I.base,I.loc,I.cell,I.free,I.freeC,fun p hp=>(List.mem_append.mp hp).elim (fun z=>I.pin p (List.mem_append_left _ z)) (h p),I.hok,I.len⟩
theorem ZlE {N:List Str} (hN:N.Nodup) {i j:Nat} {x:Str} (a:N[i]?=some x) (b:N[j]?=some x):i=j:=by
  obtain ⟨h1,e1⟩:=List.getElem?_eq_some_iff.mp a
  obtain ⟨h2,e2⟩:=List.getElem?_eq_some_iff.mp b
  exact (List.getElem_inj hN).mp (e1.trans e2.symm)
theorem ZnE {M:Model} {A:Around} {E:Value→Shared→Prop} {i:Nat} {x:Str} {v:V} {u:Value} {Q:Unit→Shared→Prop} (I:Inv X pins σ H s) (hN:X.N.Nodup) (hi:X.N[i]?=some x) (hx:Loc X.env.scope x) (r:RelV v u)
    (h:∀s',Inv X pins (σ.set i (some v)) H s'→(∃a,Heap.SameBut a s.heap s'.heap∧(a=X.env.locals∨X.env.cells.lookup x=some a))→Q () s') (hf:X.fn x=true∨X.env.scope.names.lookup x=some .local:=by first | exact .inl rfl | exact .inr rfl | assumption):wpAny M A (storeName X.env x u) Q E s:=by
  obtain ⟨m,hn,hl⟩:=id I.loc
  have hcls:(X.env.scope.kind == .class || (X.env.scope.kind == .module && X.env.locals != X.env.globals))=false:=by rw [I.ok.kind]; rfl
  have hiσ:i < σ.length:=by rw [I.len]; exact (List.getElem?_eq_some_iff.mp hi).1
  have cne:=I.cne
  have tracked:∀{a:Addr} {h':Heap},(∃o,s.heap.get? a=some o∧H a=none)→Heap.SameBut a s.heap h'→HOk X.prog X.w H h':=fun {a h'} ha hs b ob e=>by
    obtain ⟨_,_,hfree⟩:=ha
    refine (I.hok b ob e).stay (fun c w' hc q=>(hs.2 c ?_).trans q) (fun _ q=>q) fun _ _ q=>q
    rintro rfl
    rcases hc with rfl | hc
    · rw [hfree] at e; cases e
    · rw [hfree] at hc; cases hc
  rcases hx with hk | hk
  · refine wpAny_storeName_local hk hn (fun h' hn' hs=>?_) hcls
    obtain ⟨oL,_,_,hoL,_⟩:=id hn
    refine h _ ⟨I.ok,I.os,I.bare,⟨fun b o e n hb hx=>?_,fun b o e n hb hx=>?_,I.base.free,fun b o e hx=>?_,I.base.tups,I.base.frzs,I.base.tbls⟩,⟨_,hn',fun j y v' e1 e2 e3=>?_⟩,fun y c e=>?_,I.free,I.freeC,fun p hp=>?_,tracked ⟨oL,hoL,I.free⟩ hs,by simpa using I.len⟩ ⟨_,hs,.inl rfl⟩
    · exact (hs.2 b (Nat.ne_of_lt (Nat.lt_of_lt_of_le (Heap.lt_size e) I.ok.above))).trans (I.base.keep b o e n hb hx)
    · obtain ⟨sl,e1⟩:=I.base.slot b o e n hb hx
      exact ⟨sl,(hs.2 b (Nat.ne_of_lt (Nat.lt_of_lt_of_le (Heap.lt_size e) I.ok.above))).trans e1⟩
    · obtain ⟨o',e1⟩:=I.base.there b o e hx
      exact ⟨o',(hs.2 b (Nat.ne_of_lt (Nat.lt_of_lt_of_le (Heap.lt_size e) I.ok.above))).trans e1⟩
    · by_cases hj:j=i
      · subst hj
        rw [hi] at e1; cases e1
        rw [List.getElem?_set_self hiσ] at e2
        cases e2
        exact ⟨u,r,.inl ⟨hk,by simp⟩⟩
      · rw [List.getElem?_set_ne (Ne.symm hj)] at e2
        obtain ⟨u',r',q⟩:=hl j y v' e1 e2 e3
        refine ⟨u',r',?_⟩
        rcases q with ⟨k,e⟩ | ⟨k,c,e,z⟩
        · refine .inl ⟨k,?_⟩
          have:y≠x:=fun e=>hj (ZlE hN e1 (e ▸ hi))
          simp [this,e]
        · exact .inr ⟨k,c,e,z.sameBut hs (cne y c e)⟩
    · obtain ⟨w',z⟩:=I.cell y c e
      exact ⟨w',z.sameBut hs (cne y c e)⟩
    · obtain ⟨e,n,ne,nf,d⟩:=I.pin p hp
      exact ⟨(hs.2 p.1 ne).trans e,n,ne,nf,d⟩
  · have hfn:X.fn x=true:=by
      rcases hf with z | z
      · exact z
      · rw [z] at hk; cases hk
    obtain ⟨c,hc⟩:=I.ok.has x (.inl hk)
    obtain ⟨w',z⟩:=I.cell x c hc
    refine wpAny_storeName_cell I.ok.kind hk hc z (fun h' hc' hs=>?_)
    obtain ⟨oc,hoc,hocd⟩:=id z
    refine h { s with heap:=h' } ⟨I.ok,I.os,I.bare,⟨fun b o e n hb hx=>?_,fun b o e n hb hx=>?_,I.base.free,fun b o e hx=>?_,I.base.tups,I.base.frzs,I.base.tbls⟩,⟨m,hn.sameBut hs (Ne.symm (cne x c hc)),fun j y v' e1 e2 e3=>?_⟩,fun y c' e=>?_,I.free,I.freeC,fun p hp=>?_,tracked ⟨oc,hoc,I.freeC x c hc⟩ hs,by simpa using I.len⟩ ⟨c,hs,.inr hc⟩
    · exact (hs.2 b (Nat.ne_of_lt (Nat.lt_of_lt_of_le (Heap.lt_size e) (I.ok.cab x c hfn hc)))).trans (I.base.keep b o e n hb hx)
    · obtain ⟨sl,e1⟩:=I.base.slot b o e n hb hx
      exact ⟨sl,(hs.2 b (Nat.ne_of_lt (Nat.lt_of_lt_of_le (Heap.lt_size e) (I.ok.cab x c hfn hc)))).trans e1⟩
    · obtain ⟨o',e1⟩:=I.base.there b o e hx
      exact ⟨o',(hs.2 b (Nat.ne_of_lt (Nat.lt_of_lt_of_le (Heap.lt_size e) (I.ok.cab x c hfn hc)))).trans e1⟩
    · by_cases hj:j=i
      · subst hj
        rw [hi] at e1; cases e1
        rw [List.getElem?_set_self hiσ] at e2
        cases e2
        exact ⟨u,r,.inr ⟨.inl hk,c,hc,hc'⟩⟩
      · rw [List.getElem?_set_ne (Ne.symm hj)] at e2
        obtain ⟨u',r',q⟩:=hl j y v' e1 e2 e3
        refine ⟨u',r',?_⟩
        rcases q with q | ⟨k,c',e,z'⟩
        · exact .inl q
        · refine .inr ⟨k,c',e,z'.sameBut hs ?_⟩
          rintro rfl
          exact hj (ZlE hN e1 (I.ok.inj _ _ _ e hc ▸ hi))
    · by_cases hcc:c'=c
      · subst hcc; exact ⟨_,hc'⟩
      · obtain ⟨w2,z2⟩:=I.cell y c' e
        exact ⟨w2,z2.sameBut hs hcc⟩
    · obtain ⟨e,n,ne,nf,d⟩:=I.pin p hp
      refine ⟨(hs.2 p.1 ?_).trans e,n,ne,nf,d⟩
      intro q
      rw [q,hoc] at e
      have q':oc=p.2:=Option.some.inj e
      exact d w' (by rw [←q']; exact hocd)
theorem Zln {M:Model} {A:Around} {E:Value→Shared→Prop} {i:Nat} {x:Str} {v:V} {u:Value} {Q:Unit→Shared→Prop} (I:Inv X pins σ H s) (hN:X.N.Nodup) (hi:X.N[i]?=some x) (hx:Loc X.env.scope x) (r:RelV v u)
    (h:∀s',Inv X pins (σ.set i (some v)) H s'→Q () s') (hf:X.fn x=true∨X.env.scope.names.lookup x=some .local:=by first | exact .inl rfl | exact .inr rfl | assumption):wpAny M A (storeName X.env x u) Q E s:=
  ZnE I hN hi hx r (fun s' I' _=>h s' I') hf
theorem Inv.call' {s':Shared} {ch:List Addr} (I:Inv X pins σ H s) (ho:s'.os=s.os) (u:Un (frs X.stack) ch H H' s.heap s'.heap) (hok:HOk X.prog X.w H' s'.heap) (hg:AllBare s'.gens)
    (hch:∀b∈ch,(b∈X.ex∨X.s₀.heap.objs.size≤b)∧b≠X.env.locals∧(∀x c,X.env.cells.lookup x=some c→c≠b)∧∀p∈X.pn++pins,p.1≠b):Inv X pins σ H' s':=by
  obtain ⟨h',g',d',t',o'⟩:=s'
  have e:o'=s.os:=ho
  subst e
  exact I.call (g':=g') (t':=t') (d':=d') u hok hg hch
end
abbrev XK:=Value→Option Addr→Hp→Prop
abbrev St:=List (Option V)
abbrev VK:=V→Hp→Prop
abbrev TE:=St→Hp→VK→Prop
abbrev TT:=St→Hp→(Bool→Hp→Prop)→Prop
abbrev TA:=St→Hp→(List V→Hp→Prop)→Prop
structure Zfq where
  nx:St→Hp→Prop
  rt:VK
  bk:St→Hp→Prop:=fun _ _=>False
  ct:St→Hp→Prop:=fun _ _=>False
abbrev TS:=Zfq→St→Hp→Prop
def EP (X:Cx) (pins:List (Addr×Obj)) (σ:St) (Q:VK) (u:Value) (s':Shared):Prop:=∃v H',Inv X pins σ H' s'∧RelV v u∧Q v H'
def TP (X:Cx) (pins:List (Addr×Obj)) (σ:St) (Q:Bool→Hp→Prop) (b:Bool) (s':Shared):Prop:=∃H',Inv X pins σ H' s'∧Q b H'
def AP (X:Cx) (pins:List (Addr×Obj)) (σ:St) (Q:List V→Hp→Prop) (us:List Value) (s':Shared):Prop:=∃vs H',Inv X pins σ H' s'∧Vals vs us∧Q vs H'
def SP (X:Cx) (pins:List (Addr×Obj)) (D:Zfq) (f:Flow) (s':Shared):Prop:=
  match f with
  | .next=>∃σ' H',Inv X pins σ' H' s'∧D.nx σ' H'
  | .brk=>∃σ' H',Inv X pins σ' H' s'∧D.bk σ' H'
  | .cont=>∃σ' H',Inv X pins σ' H' s'∧D.ct σ' H'
  | .ret u=>∃v σ' H',Inv X pins σ' H' s'∧RelV v u∧D.rt v H'
def PE (X:Cx) (e:Expr) (t:TE):Prop:=
  ∀(pins:List (Addr×Obj)) (s:Shared) (σ:St) (H:Hp) (Q:VK),Inv X pins σ H s→t σ H Q→wpAny (model X.prog X.w) X.A (eval e X.env) (EP X pins σ Q) X.xe s
def PT (X:Cx) (e:Expr) (t:TT):Prop:=
  ∀(pins:List (Addr×Obj)) (s:Shared) (σ:St) (H:Hp) (Q:Bool→Hp→Prop),Inv X pins σ H s→t σ H Q→wpAny (model X.prog X.w) X.A (isTrue e X.env (eval e X.env)) (TP X pins σ Q) X.xe s
def PW (X:Cx) (e:Expr) (t:TT):Prop:=
  ∀(whole:Sem Value) (pins:List (Addr×Obj)) (s:Shared) (σ:St) (H:Hp) (Q:Bool→Hp→Prop),Inv X pins σ H s→t σ H Q→wpAny (model X.prog X.w) X.A (isTrue e X.env whole) (TP X pins σ Q) X.xe s
theorem PW.pt {X:Cx} {e:Expr} {t:TT} (h:PW X e t):PT X e t:=h _
def PA (X:Cx) (es:List Expr) (t:TA):Prop:=
  ∀(pos:Pos) (pins:List (Addr×Obj)) (s:Shared) (σ:St) (H:Hp) (Q:List V→Hp→Prop),Inv X pins σ H s→t σ H Q→wpAny (model X.prog X.w) X.A (spliced (backTo pos (starEach es X.env))) (AP X pins σ Q) X.xe s
def PS (X:Cx) (st:Stmt) (t:TS):Prop:=
  ∀(pins:List (Addr×Obj)) (s:Shared) (σ:St) (H:Hp) (D:Zfq),Inv X pins σ H s→t D σ H→wpAny (model X.prog X.w) X.A (exec st X.env) (SP X pins D) X.xe s
def PSs (X:Cx) (st:List Stmt) (t:TS):Prop:=
  ∀(pins:List (Addr×Obj)) (s:Shared) (σ:St) (H:Hp) (D:Zfq),Inv X pins σ H s→t D σ H→wpAny (model X.prog X.w) X.A (execs st X.env) (SP X pins D) X.xe s
theorem thn {α:Type} {t:Sem α} {Q Q':α→Shared→Prop} {M:Model} {A:Around} {E:Value→Shared→Prop} {s:Shared} (h:wpAny M A t Q E s) (hQ:∀a s,Q a s→Q' a s):wpAny M A t Q' E s:=wpAny_mono h hQ fun _ _ x=>x
end L2
namespace L2
open PySem PySem.Spec PyProof.Rows
section
variable {X:Cx}
theorem bin {a b:Expr} {ta tb:TE} (ha:PE X a ta) (hb:PE X b tb) {pins:List (Addr×Obj)} {s:Shared} {σ:St} {H:Hp} {R:V→V→Hp→Prop} (I:Inv X pins σ H s) (h:ta σ H fun x H1=>tb σ H1 fun y H2=>R x y H2)
    {α:Type} {Q:α→Shared→Prop} {f:Value→Value→Sem α}
    (hf:∀v u s2 x y H2,Inv X pins σ H2 s2→RelV x v→RelV y u→R x y H2→wpAny (model X.prog X.w) X.A (f v u) Q X.xe s2) :
    wpAny (model X.prog X.w) X.A (eval a X.env) (fun v s₁=>wpAny (model X.prog X.w) X.A (eval b X.env) (fun u s₂=>wpAny (model X.prog X.w) X.A (f v u) Q X.xe s₂) X.xe s₁) X.xe s:=by
  refine thn (ha pins s σ H _ I h) fun v s1 ⟨x,H1,I1,r1,q1⟩=>?_
  refine thn (hb pins s1 σ H1 _ I1 q1) fun u s2 ⟨y,H2,I2,r2,q2⟩=>?_
  exact hf v u s2 x y H2 I2 r1 r2 q2
def Zzc (i:Nat):TE:=fun σ H Q=>∃v,σ[i]?=some (some v)∧Q v H
def tC (v:V):TE:=fun _ H Q=>Q v H
theorem Zp2 {i:Nat} {x:Str} {pos:Pos} (hN:X.N[i]?=some x) (hv:Vis X.env.scope x) (hd:(x == ("__debug__":Str))=false:=by decide) (hcd:(x == ("__classdict__":Str))=false:=by decide):PE X (.Name x pos) (Zzc i):=by
  intro pins s σ H Q I h
  obtain ⟨v,e,h⟩:=h
  obtain ⟨m,hn,hl⟩:=I.loc
  obtain ⟨u,r,l⟩:=hl i x v hN e hv
  have fin:EP X pins σ Q u s:=⟨v,H,I,r,h⟩
  rcases l with ⟨hk,hm⟩ | ⟨hk,c,hc,hcell⟩
  · exact wpAny_Name (wpAny_loadName_local I.ok.kind hk hn hm fin) hd
  · rcases hk with hk | hk
    · exact wpAny_Name (wpAny_loadName_cell I.ok.kind hk hc hcell fin) hd
    · exact wpAny_Name (wpAny_loadName_free I.ok.kind hk hc hcell fin hcd) hd
theorem Zuf {i j pos}:PE X (.Constant (.int i) j pos) (tC (.int i)):=fun _ _ _ H _ I h=>wpAny_Constant_int ⟨.int i,H,I.tok _,⟨_,rfl⟩,h⟩
theorem ZvW {b j pos}:PE X (.Constant (.bool b) j pos) (tC (.bl b)):=fun _ _ _ H _ I h=>Constant_bool ⟨.bl b,H,I,rfl,h⟩
theorem Zue {j pos}:PE X (.Constant .none j pos) (tC .non):=fun _ _ _ H _ I h=>Constant_none ⟨.non,H,I,rfl,h⟩
theorem Zuc {x j pos}:PE X (.Constant (.str x) j pos) (tC (.str x)):=fun _ _ _ H _ I h=>Calls.Constant_str ⟨.str x,H,I.tok _,⟨_,rfl⟩,h⟩
def Gl (X:Cx) (x:Str):Prop:=X.env.kindOf x=some .globalImplicit
theorem Zhn {E:Value→Shared→Prop} {pins:List (Addr×Obj)} {s:Shared} {σ:St} {H:Hp} {x:Str} {u:Value} {pos:Pos} {Q:Value→Shared→Prop} (I:Inv X pins σ H s) (hg:Gl X x) (hm:X.mg x=some u) (h:Q u s)
    (hd:(x == ("__debug__":Str))=false:=by decide):wpAny (model X.prog X.w) X.A (eval (.Name x pos) X.env) Q E s:=
  Calls.Name_function_global I.ok.kind hg (Calls.loadGlobal_global (by rw [I.ok.glob]; exact I.mod.glob.keeps I.bk) hm h) hd
theorem ZhV {E:Value→Shared→Prop} {pins:List (Addr×Obj)} {s:Shared} {σ:St} {H:Hp} {x:Str} {u:Value} {pos:Pos} {Q:Value→Shared→Prop} (I:Inv X pins σ H s) (hg:Gl X x) (hm:X.mg x=none) (hv:bootBuiltins x=some u) (h:Q u s)
    (hn:x≠"__name__":=by decide) (hd:(x == ("__debug__":Str))=false:=by decide):wpAny (model X.prog X.w) X.A (eval (.Name x pos) X.env) Q E s:=by
  obtain ⟨mb,h1,h2⟩:=I.mod.blt
  exact Calls.Name_function_global I.ok.kind hg (Calls.loadGlobal_builtin (by rw [I.ok.glob]; exact I.mod.glob.keeps I.bk) hm (by rw [I.ok.blt]; exact h1.keeps I.bk) ((h2 x hn).trans hv) h) hd
theorem Zm3 {x:Str} {v:V} {u:Value} {pos:Pos} (hg:Gl X x) (hm:X.mg x=some u) (r:RelV v u) (hd:(x == ("__debug__":Str))=false:=by decide):PE X (.Name x pos) (tC v):=
  fun _ _ _ H _ I h=>Zhn I hg hm ⟨v,H,I,r,h⟩ hd
theorem Zr9 {x:Str} {v:V} {u:Value} {pos:Pos} (hg:Gl X x) (hm:X.mg x=none) (hv:bootBuiltins x=some u) (r:RelV v u) (hn:x≠"__name__":=by decide) (hd:(x == ("__debug__":Str))=false:=by decide):PE X (.Name x pos) (tC v):=
  fun _ _ _ H _ I h=>ZhV I hg hm hv ⟨v,H,I,r,h⟩ hn hd
variable {a b:Expr} {ta tb:TE} {pos:Pos}
def PC (X:Cx) (op:CmpOp) (a b:Expr) (t:TE):Prop:=
  ∀(pins:List (Addr×Obj)) (s:Shared) (σ:St) (H:Hp) (Q:VK),Inv X pins σ H s→t σ H Q→
    wpAny (model X.prog X.w) X.A (eval a X.env) (fun v s₁=>wpAny (model X.prog X.w) X.A (eval b X.env) (fun u s₂=>wpAny (model X.prog X.w) X.A (compareOp op v u) (EP X pins σ Q) X.xe s₂) X.xe s₁) X.xe s
theorem Zqo (b:Expr) {op:CmpOp} (h:op≠.In) (h2:op≠.NotIn):behindInMarks op b=false:=by
  have e1:(op == CmpOp.In)=false:=by cases op<;>first | rfl | exact absurd rfl h
  have e2:(op == CmpOp.NotIn)=false:=by cases op<;>first | rfl | exact absurd rfl h2
  cases b<;>simp [behindInMarks,e1,e2]
def tB (t:TE):TT:=fun σ H Q=>t σ H fun x H1=>∃c,x=.bl c∧Q c H1
theorem Zt2 {op:CmpOp} {t:TE} (h:PC X op a b t) (h1:behindInMarks op b=false:=by first | exact Zqo _ (by decide) (by decide) | rfl):PT X (.Compare a [op] [b] pos) (tB t):=by
  intro pins s σ H Q I hw
  refine wpAny_isTrue_Compare1 (thn (h pins s σ H _ I hw) fun v s1 h1=>thn h1 fun u s2 h2=>thn h2 fun c s3 ⟨x,H1,I1,r1,q1⟩=>?_) h1
  obtain ⟨d,rfl,q⟩:=q1
  cases r1
  exact wpAny_truthy_bool ⟨H1,I1,q⟩
variable {tA tB':TT} {rest:List Expr}
def Zzn (t u:TT):TT:=fun σ H Q=>t σ H fun c H1=>if c=true then u σ H1 Q else Q false H1
def tOr (t u:TT):TT:=fun σ H Q=>t σ H fun c H1=>if c=true then Q true H1 else u σ H1 Q
def Zzi (t:TT):TT:=fun σ H Q=>t σ H fun c H1=>Q (!c) H1
theorem ZrT (ha:PT X a tA):PW X (.BoolOp .And [a] pos) tA:=by
  intro wh pins s σ H Q I h
  refine isTrue_and (thn (ha pins s σ H Q I h) fun c s1 e=>?_)
  cases c with
  | true=>exact isTrue_and_nil e
  | false=>exact e
theorem ZtY (ha:PT X a tA):PW X (.BoolOp .Or [a] pos) tA:=by
  intro wh pins s σ H Q I h
  refine isTrue_or (thn (ha pins s σ H Q I h) fun c s1 e=>?_)
  cases c with
  | false=>exact isTrue_or_nil e
  | true=>exact e
theorem ZtZ (ha:PT X a tA) (hb:PW X (.BoolOp .And (b::rest) pos) tB'):PW X (.BoolOp .And (a::b::rest) pos) (Zzn tA tB'):=by
  intro wh pins s σ H Q I h
  refine isTrue_and (thn (ha pins s σ H _ I h) fun c s1 ⟨H1,I1,q1⟩=>?_)
  cases c with
  | true=>exact hb wh pins s1 σ H1 Q I1 q1
  | false=>exact ⟨H1,I1,q1⟩
theorem ZvM (ha:PT X a tA) (hb:PW X (.BoolOp .Or (b::rest) pos) tB'):PW X (.BoolOp .Or (a::b::rest) pos) (tOr tA tB'):=by
  intro wh pins s σ H Q I h
  refine isTrue_or (thn (ha pins s σ H _ I h) fun c s1 ⟨H1,I1,q1⟩=>?_)
  cases c with
  | true=>exact ⟨H1,I1,q1⟩
  | false=>exact hb wh pins s1 σ H1 Q I1 q1
theorem Zt1 (ha:PT X a tA):PT X (.UnaryOp .Not a pos) (Zzi tA):=by
  intro pins s σ H Q I h
  exact isTrue_not (ha pins s σ H (fun c H1=>Q (!c) H1) I h)
def ZvB (ta tb:TE):TE:=fun σ H Q=>ta σ H fun x H1=>∃c,x=.bl c∧if c=true then tb σ H1 Q else Q (.bl false) H1
def Zzh (ta tb:TE):TE:=fun σ H Q=>ta σ H fun x H1=>∃c,x=.bl c∧if c=true then Q (.bl true) H1 else tb σ H1 Q
theorem Zud {op} {t:TE} (h:PE X a t):PE X (.BoolOp op [a] pos) t:=fun pins s σ H Q I hw=>BoolOp_one (h pins s σ H Q I hw)
theorem Zuh (ha:PE X a ta) (hb:PE X (.BoolOp .And (b::rest) pos) tb):PE X (.BoolOp .And (a::b::rest) pos) (ZvB ta tb):=by
  intro pins s σ H Q I h
  refine BoolOp_and (thn (ha pins s σ H _ I h) fun v s1 ⟨x,H1,I1,r1,q1⟩=>?_)
  obtain ⟨c,rfl,q1⟩:=q1
  cases r1
  refine wpAny_truthy_bool ?_
  cases c with
  | true=>exact hb pins s1 σ H1 Q I1 q1
  | false=>exact ⟨.bl false,H1,I1,rfl,q1⟩
theorem ZvS (ha:PE X a ta) (hb:PE X (.BoolOp .Or (b::rest) pos) tb):PE X (.BoolOp .Or (a::b::rest) pos) (Zzh ta tb):=by
  intro pins s σ H Q I h
  refine BoolOp_or (thn (ha pins s σ H _ I h) fun v s1 ⟨x,H1,I1,r1,q1⟩=>?_)
  obtain ⟨c,rfl,q1⟩:=q1
  cases r1
  refine wpAny_truthy_bool ?_
  cases c with
  | false=>exact hb pins s1 σ H1 Q I1 q1
  | true=>exact ⟨.bl true,H1,I1,rfl,q1⟩
def tIf (t:TT) (ta tb:TE):TE:=fun σ H Q=>t σ H fun c H1=>if c=true then ta σ H1 Q else tb σ H1 Q
theorem Zp6 {c:Expr} (hc:PT X c tA) (ha:PE X a ta) (hb:PE X b tb):PE X (.IfExp c a b pos) (tIf tA ta tb):=by
  intro pins s σ H Q I h
  refine wpAny_IfExp (thn (hc pins s σ H _ I h) fun d s1 ⟨H1,I1,q1⟩=>?_)
  cases d with
  | true=>exact ha pins s1 σ H1 Q I1 q1
  | false=>exact hb pins s1 σ H1 Q I1 q1
end
end L2
namespace L2
open PySem PySem.Spec PyProof.Rows
def SqL (K:PySem.W.Frag) (H:Hp) (a:Addr) (xs:List V):Prop:=
  Rd H a (.lst xs)∨
    ∃(o:Obj) (its:Array Value) (n:Nat),K.lookup a=some o∧o.cls=.type "list"∧o.dict=none∧o.data=.seq its n∧its.size≤sizeLine∧Vals xs its.toList
def SqT (K:PySem.W.Frag) (H:Hp) (a:Addr) (xs:List V):Prop:=
  Rd H a (.tup xs)∨
    ∃(o:Obj) (its:Array Value) (n:Nat),K.lookup a=some o∧o.cls=.type "tuple"∧o.data=.seq its n∧its.size≤sizeLine∧Vals xs its.toList
def ZzX:Value→Option V
  | .none=>some .non
  | .bool b=>some (.bl b)
  | .int i _=>some (.int i)
  | .str x _=>some (.str x)
  | .bytes b _=>some (.byt b)
  | .float b _=>some (.flt b)
  | .ref a=>some (.ref a)
  | .type n=>some (.ty n)
  | _=>none
theorem RelV.abs {x:V} {u:Value} (r:RelV x u):ZzX u=some x:=by
  cases x with
  | non=>cases r; rfl
  | bl _=>cases r; rfl
  | int _=>obtain ⟨t,rfl⟩:=r; rfl
  | str _=>obtain ⟨t,rfl⟩:=r; rfl
  | byt _=>obtain ⟨t,rfl⟩:=r; rfl
  | flt _=>obtain ⟨t,rfl⟩:=r; rfl
  | ref _=>cases r; rfl
  | ty _=>cases r; rfl
theorem RelV.inj {x y:V} {u:Value} (r:RelV x u) (q:RelV y u):x=y:=Option.some.inj (r.abs.symm.trans q.abs)
theorem Vals.inj:∀{xs ys:List V} {us:List Value},Vals xs us→Vals ys us→xs=ys
  | _,_,_,.nil,.nil=>rfl
  | _,_,_,.cons r t,.cons r' t'=>by rw [r.inj r',Vals.inj t t']
section
variable {X:Cx} {pins:List (Addr×Obj)} {σ:St} {H:Hp} {s:Shared} {a:Addr} {xs ys:List V}
theorem SqL.of {K:PySem.W.Frag} (h:H a=some (.lst xs)):SqL K H a xs:=.inl (.inl h)
theorem SqT.of {K:PySem.W.Frag} (h:H a=some (.tup xs)):SqT K H a xs:=.inl (.inl h)
theorem Inv.list (I:Inv X pins σ H s) (h:SqL X.K H a xs):∃its:List Value,Vals xs its∧PlainL s.heap a its.toArray∧xs.length≤sizeLine:=by
  rcases h with h | ⟨o,its,n,hk,hc,hd,hs,hz,r⟩
  · obtain ⟨z,its,n,r,e⟩:=h.ok I.hok
    exact ⟨its,r,⟨_,n,e,rfl,rfl,rfl⟩,z⟩
  · refine ⟨its.toList,r,⟨o,n,I.kIn a o hk,hc,hd,by simpa using hs⟩,?_⟩
    have e:=r.length
    simp only [Array.length_toList] at e
    omega
theorem Inv.tuple (I:Inv X pins σ H s) (h:SqT X.K H a xs):∃its:List Value,Vals xs its∧IsTup s.heap a its.toArray∧xs.length≤sizeLine:=by
  rcases h with h | ⟨o,its,n,hk,hc,hs,hz,r⟩
  · obtain ⟨z,its,r,p⟩:=h.ok I.hok
    exact ⟨its,r,p,z⟩
  · refine ⟨its.toList,r,⟨o,I.kIn a o hk,hc,n,by simpa using hs⟩,?_⟩
    have e:=r.length
    simp only [Array.length_toList] at e
    omega
theorem Inv.list_inj (I:Inv X pins σ H s) (h:SqL X.K H a xs) (h':SqL X.K H a ys):xs=ys:=by
  obtain ⟨its,r,⟨o,n,e,_,_,d⟩,_⟩:=I.list h
  obtain ⟨its',r',⟨o',n',e',_,_,d'⟩,_⟩:=I.list h'
  rw [e] at e'; cases e'
  rw [d] at d'
  injection d' with d1 _
  have:its=its':=by simpa using congrArg Array.toList d1
  subst this
  exact r.inj r'
theorem Inv.tuple_inj (I:Inv X pins σ H s) (h:SqT X.K H a xs) (h':SqT X.K H a ys):xs=ys:=by
  obtain ⟨its,r,⟨o,e,_,n,d⟩,_⟩:=I.tuple h
  obtain ⟨its',r',⟨o',e',_,n',d'⟩,_⟩:=I.tuple h'
  rw [e] at e'; cases e'
  rw [d] at d'
  injection d' with d1 _
  have:its=its':=by simpa using congrArg Array.toList d1
  subst this
  exact r.inj r'
end
abbrev Cx.wish (X:Cx) (E:Value→Shared→Prop):Cx:={ X with xe:=E }
abbrev Cx.nox (X:Cx):Cx:=X.wish fun _ _=>False
theorem Cx.Ok.wish {X:Cx} (ok:X.Ok) (E:Value→Shared→Prop):(X.wish E).Ok:=
  ⟨ok.mod,ok.kind,ok.glob,ok.blt,ok.above,ok.inj,ok.has,ok.cab,ok.hd,ok.frames,ok.stk,ok.exf,ok.bs,ok.bsz,ok.noex,ok.exfs,ok.funs,ok.frf⟩
theorem Cx.Ok.unwish {X:Cx} {E:Value→Shared→Prop} (ok:(X.wish E).Ok):X.Ok:=
  ⟨ok.mod,ok.kind,ok.glob,ok.blt,ok.above,ok.inj,ok.has,ok.cab,ok.hd,ok.frames,ok.stk,ok.exf,ok.bs,ok.bsz,ok.noex,ok.exfs,ok.funs,ok.frf⟩
section
variable {X:Cx} {pins:List (Addr×Obj)} {σ:St} {H:Hp} {s:Shared} {E:Value→Shared→Prop}
theorem Inv.wish (I:Inv X pins σ H s) (E:Value→Shared→Prop):Inv (X.wish E) pins σ H s:=⟨I.ok.wish E,I.os,I.bare,I.base,I.loc,I.cell,I.free,I.freeC,I.pin,I.hok,I.len⟩
theorem Inv.unwish (I:Inv (X.wish E) pins σ H s):Inv X pins σ H s:=⟨I.ok.unwish,I.os,I.bare,I.base,I.loc,I.cell,I.free,I.freeC,I.pin,I.hok,I.len⟩
theorem SP.unwish {D:Zfq} {f:Flow} {s':Shared} (h:SP (X.wish E) pins D f s'):SP X pins D f s':=by
  cases f with
  | next=>obtain ⟨σ',H',I,q⟩:=h; exact ⟨σ',H',I.unwish,q⟩
  | brk=>obtain ⟨σ',H',I,q⟩:=h; exact ⟨σ',H',I.unwish,q⟩
  | cont=>obtain ⟨σ',H',I,q⟩:=h; exact ⟨σ',H',I.unwish,q⟩
  | ret u=>obtain ⟨v,σ',H',I,r,q⟩:=h; exact ⟨v,σ',H',I.unwish,r,q⟩
theorem PSs.nox {st:List Stmt} {t:TS} (h:PSs X.nox st t):PSs X st t:=fun pins s σ H D I hw=>
  wpAny_mono (h pins s σ H D (I.wish _) hw) (fun _ _ q=>q.unwish) fun _ _ z=>False.elim z
end
section
variable {X:Cx} {st:Stmt} {rest:List Stmt} {t u:TS} {e:Expr} {te:TE} {pos:Pos}
def Zvx:TS:=fun D σ H=>D.nx σ H
def Zzf (t u:TS):TS:=fun D σ H=>t { D with nx:=u D } σ H
theorem ZrX:PSs X [] Zvx:=fun _ _ σ H _ I h=>wpAny_execs_nil ⟨σ,H,I,h⟩
theorem ZpW (h1:PS X st t) (h2:PSs X rest u):PSs X (st::rest) (Zzf t u):=by
  intro pins s σ H D I h
  refine wpAny_execs_cons (thn (h1 pins s σ H { D with nx:=u D } I h) fun f s1 q=>?_)
  cases f with
  | next=>
    obtain ⟨σ',H',I',q⟩:=q
    exact h2 pins s1 σ' H' D I' q
  | ret v=>exact q
  | brk=>exact q
  | cont=>exact q
theorem ZrW (h1:PS X st t):PSs X [st] t:=by
  intro pins s σ H D I h
  refine wpAny_execs_cons (thn (h1 pins s σ H D I h) fun f s1 q=>?_)
  cases f with
  | next=>exact wpAny_execs_nil q
  | ret v=>exact q
  | brk=>exact q
  | cont=>exact q
theorem Inv.quiet {pins:List (Addr×Obj)} {σ:St} {H:Hp} {s:Shared} (I:Inv X pins σ H s):interactive X.env=false:=by simp [interactive,I.ok.kind]
def Zvy (te:TE):TS:=fun D σ H=>te σ H fun _ H1=>D.nx σ H1
theorem Zm1 (he:PE X e te) (hs:swapsWith e none pos.line X.env=pure false:=by rfl):PS X (.Expr e pos) (Zvy te):=by
  intro pins s σ H D I h
  exact wpAny_Expr_any (thn (he pins s σ H _ I h) fun v s1 ⟨x,H1,I1,r1,q1⟩=>⟨σ,H1,I1,q1⟩) I.quiet hs
def Zzg (te:TE):TS:=fun D σ H=>te σ H D.rt
theorem Zt3 (he:PE X e te):PS X (.Return (some e) pos) (Zzg te):=by
  intro pins s σ H D I h
  exact wpAny_Return_some (thn (he pins s σ H _ I h) fun v s1 ⟨x,H1,I1,r1,q1⟩=>⟨x,σ,H1,I1,r1,q1⟩)
def Zvv:TS:=fun D _ H=>D.rt .non H
theorem ZrY:PS X (.Return none pos) Zvv:=fun _ _ σ H _ I h=>wpAny_Return_none ⟨.non,σ,H,I,rfl,h⟩
def Zzk (c:TT) (t u:TS):TS:=fun D σ H=>c σ H fun b H1=>if b=true then t D σ H1 else u D σ H1
theorem ZvO {c:Expr} {a b:List Stmt} {tc:TT} (hc:PT X c tc) (ha:PSs X a t) (hb:PSs X b u):PS X (.If c a b pos) (Zzk tc t u):=by
  intro pins s σ H D I h
  refine wpAny_If (thn (hc pins s σ H _ I h) fun d s1 ⟨H1,I1,q1⟩=>?_)
  cases d with
  | true=>exact ha pins s1 σ H1 D I1 q1
  | false=>exact hb pins s1 σ H1 D I1 q1
end
abbrev TG:=V→St→Hp→(St→Hp→Prop)→Prop
abbrev TGs:=List V→St→Hp→(St→Hp→Prop)→Prop
def PG (X:Cx) (target:Expr) (t:TG):Prop:=
  ∀(pins:List (Addr×Obj)) (s:Shared) (σ:St) (H:Hp) (v:V) (u:Value) (Q:St→Hp→Prop),Inv X pins σ H s→RelV v u→t v σ H Q→
    wpAny (model X.prog X.w) X.A (assign target X.env u) (fun _ s'=>∃σ' H',Inv X pins σ' H' s'∧Q σ' H') X.xe s
def PGs (X:Cx) (ts:List Expr) (t:TGs):Prop:=
  ∀(pins:List (Addr×Obj)) (s:Shared) (σ:St) (H:Hp) (vs:List V) (us:List Value) (Q:St→Hp→Prop),Inv X pins σ H s→Vals vs us→t vs σ H Q→
    wpAny (model X.prog X.w) X.A (assignInOrder ((assignEach ts X.env).map (·.2)) us) (fun _ s'=>∃σ' H',Inv X pins σ' H' s'∧Q σ' H') X.xe s
section
variable {X:Cx} {pos:Pos}
def ZlU (i:Nat):TG:=fun v σ H Q=>Q (σ.set i (some v)) H
theorem ZfU {i:Nat} {x:Str} (hN:X.N.Nodup) (hi:X.N[i]?=some x) (hx:Loc X.env.scope x) (hf:X.fn x=true∨X.env.scope.names.lookup x=some .local:=by first | exact .inl rfl | exact .inr rfl | assumption):PG X (.Name x pos) (ZlU i):=by
  intro pins s σ H v u Q I r h
  exact wpAny_assign_Name (Zln I hN hi hx r (fun s' I'=>⟨_,H,I',h⟩) hf)
def ZzR:TGs:=fun vs σ H Q=>vs=[]∧Q σ H
def Zwl (t:TG) (u:TGs):TGs:=fun vs σ H Q=>∃v r,vs=v::r∧t v σ H fun σ' H'=>u r σ' H' Q
theorem Zr4:PGs X [] ZzR:=by
  intro pins s σ H vs us Q I r h
  obtain ⟨e,h⟩:=h
  subst e
  cases r
  exact assignInOrder_nil ⟨σ,H,I,h⟩
theorem Zlw {e:Expr} {es:List Expr} {t:TG} {u:TGs} (h1:PG X e t) (h2:PGs X es u)
    (hs:(assignEach (e::es) X.env).map (·.2)=assign e X.env::(assignEach es X.env).map (·.2):=by rfl):PGs X (e::es) (Zwl t u):=by
  intro pins s σ H vs us Q I r h
  obtain ⟨v,vr,e1,h⟩:=h
  subst e1
  cases r with
  | cons r rr=>
    rw [hs]
    refine assignInOrder_cons (thn (h1 pins s σ H _ _ _ I r h) fun _ s1 ⟨σ1,H1,I1,q1⟩=>?_)
    exact h2 pins s1 σ1 H1 _ _ Q I1 rr q1
def ZzQ (K:PySem.W.Frag) (n:Nat) (t:TGs):TG:=fun v σ H Q=>∃a xs,v=.ref a∧SqT K H a xs∧xs.length=n∧t xs σ H Q
theorem Zua {es:List Expr} {k:Nat} {t:TGs} {n:Nat} (hc:X.calm=true) (h:PGs X es t)
    (hn:(assignEach es X.env).length=n:=by rfl) (hst:(assignEach es X.env).findIdx? (·.1)=none:=by rfl):PG X (.Tuple es k pos) (ZzQ X.K n t):=by
  intro pins s σ H v u Q I r hw
  obtain ⟨a,xs,e1,hq,hl,hw⟩:=hw
  subst e1
  cases r
  obtain ⟨its,rv,ht,hz⟩:=I.tuple hq
  refine assign_Tuple_tuple (I.ok.hd hc) ht (by simp [hn,←hl,rv.length]) hst fun h' hx=>?_
  have I1:Inv X pins σ H { s with heap:=h' }:=I.kept (t':=s.toks) fun b o e=>hx b o (Nat.ne_of_lt (Heap.lt_size e)) e
  exact h pins _ σ H xs _ Q I1 (by simpa using rv) hw
def ZvA (te:TE) (g:TG):TS:=fun D σ H=>te σ H fun x H1=>g x σ H1 D.nx
theorem ZpY {i:Nat} {x:Str} {e:Expr} {te:TE} {pos':Pos} (hN:X.N.Nodup) (hi:X.N[i]?=some x) (hx:Loc X.env.scope x) (he:PE X e te) (hs:swapsWith e (some (.Name x pos')) pos.line X.env=pure false:=by rfl) (hf:X.fn x=true∨X.env.scope.names.lookup x=some .local:=by first | exact .inl rfl | exact .inr rfl | assumption) :
    PS X (.Assign [.Name x pos'] e pos) (ZvA te (ZlU i)):=by
  intro pins s σ H D I h
  refine wpAny_Assign_Name (thn (he pins s σ H _ I h) fun v s1 ⟨y,H1,I1,r1,q1⟩=>?_) hs
  exact Zln I1 hN hi hx r1 (fun s2 I2=>⟨_,H1,I2,q1⟩) hf
end
section
variable {X:Cx} {pos:Pos}
def ZtM (c:TT) (tb:TS):TS:=fun D σ H=>∃W:Nat→St→Hp→Prop,(∃m,W m σ H)∧∀m σ H,W m σ H→
  c σ H fun b H1=>if b=true then ∃N:St→Hp→Prop,(∀σ' H',N σ' H'→∃m',m'<m∧W m' σ' H')∧tb { D with nx:=N,ct:=N,bk:=D.nx } σ H1 else D.nx σ H1
theorem ZpX {c:Expr} {body:List Stmt} {tc:TT} {tb:TS} (hp:PassesOwn (model X.prog X.w) X.A X.env X.xe) (hc:PT X c tc) (hb:PSs X body tb):PS X (.While c body [] pos) (ZtM tc tb):=by
  intro pins s σ H D I h
  obtain ⟨W,⟨m0,w0⟩,turn⟩:=h
  refine wpAny_While (codeAny_whileLoop (fun n s'=>∃σ' H',Inv X pins σ' H' s'∧W n σ' H') ?_ m0 ⟨σ,H,I,w0⟩)
  rintro n s1 ⟨σ1,H1,I1,w1⟩
  refine wpAny_passesOwn hp (thn (hc pins s1 σ1 H1 _ I1 (turn n σ1 H1 w1)) fun b s2 ⟨H2,I2,q2⟩=>?_)
  cases b with
  | true=>
    obtain ⟨N,hN,q2⟩:=q2
    rw [if_pos rfl]
    refine wpAny_passesOwn hp (thn (hb pins s2 σ1 H2 _ I2 q2) fun f s3 q3=>?_)
    cases f with
    | next=>
      obtain ⟨σ3,H3,I3,n3⟩:=q3
      obtain ⟨m',hm,w3⟩:=hN σ3 H3 n3
      exact ⟨m',hm,σ3,H3,I3,w3⟩
    | cont=>
      obtain ⟨σ3,H3,I3,n3⟩:=q3
      obtain ⟨m',hm,w3⟩:=hN σ3 H3 n3
      exact ⟨m',hm,σ3,H3,I3,w3⟩
    | brk=>exact q3
    | ret v=>exact q3
  | false=>
    rw [if_neg Bool.false_ne_true]
    exact wpAny_execs_nil ⟨σ1,H2,I2,q2⟩
end
structure It where
  go:Nat→Hp→Prop
  yld:Nat→Hp→V→Hp→Prop
  stop:Nat→Hp→Prop
def ZiC (X:Cx) (pins:List (Addr×Obj)) (H:Hp) (b:Addr):Prop:=
  H b=none∧b≠X.env.locals∧b∉X.fs∧(b∈X.ex∨X.s₀.heap.objs.size≤b)∧(∀x c,X.env.cells.lookup x=some c→c≠b)∧∀p∈X.pn++pins,p.1≠b
theorem Inv.fpOk {X:Cx} {pins:List (Addr×Obj)} {σ:St} {H H':Hp} {s:Shared} {b:Addr} (I:Inv X pins σ H s) (hb:s.heap.objs.size≤b) (hn:H' b=none):ZiC X pins H' b:=by
  refine ⟨hn,Nat.ne_of_gt (Nat.lt_of_lt_of_le I.lt hb),I.nofs hb,.inr (Nat.le_trans I.sz hb),fun x c e z=>?_,fun p hp z=>?_⟩
  · obtain ⟨v,q⟩:=I.cell x c e
    exact absurd (Nat.lt_of_lt_of_le q.lt (by rw [z]; exact hb)) (Nat.lt_irrefl _)
  · exact absurd (Nat.lt_of_lt_of_le (Heap.lt_size (I.pin p hp).1) (by rw [z]; exact hb)) (Nat.lt_irrefl _)
structure Zoa (P:Program) (w:World) (K:PySem.W.Frag) (tg:Expr) (J:It) (fp:List Addr) (it:Addr) (tn:Nat→Heap→Prop):Prop where
  mem:it∈fp
  obj:∀i h,tn i h→∀b∈fp,∃o,h.get? b=some o∧∀v,o.data≠.cell v
  keep:∀i h h',tn i h→(∀b∈fp,∀o,h.get? b=some o→h'.get? b=some o)→tn i h'
  item:∀(X:Cx),X.prog=P→X.w=w→X.K=K→X.calm=true→∀(i:Nat) (pins:List (Addr×Obj)) (s:Shared) (σ:St) (H:Hp) (E:Value→Shared→Prop),Inv X pins σ H s→(∀b∈fp,ZiC X pins H b)→tn i s.heap→J.go i H→
    wpAny (model P w) X.A (pyNext (.ref it)) (fun r s1=>∃u,r=some u∧
      wpAny (model P w) X.A (letOwnedTupleGo tg (.ref it) u) (fun _ s2=>∃x H',Inv X pins σ H' s2∧RelV x u∧J.yld i H x H'∧tn (i+1) s2.heap∧∀b∈fp,H' b=none) E s1) E s
  done:∀(X:Cx),X.prog=P→X.w=w→X.K=K→X.calm=true→∀(i:Nat) (pins:List (Addr×Obj)) (s:Shared) (σ:St) (H:Hp) (E:Value→Shared→Prop),Inv X pins σ H s→(∀b∈fp,ZiC X pins H b)→tn i s.heap→J.stop i H→
    wpAny (model P w) X.A (pyNext (.ref it)) (fun r s1=>r=none∧Inv X pins σ H s1) E s
  self:∀(A:Around) (i:Nat) (s:Shared) (Q:Value→Shared→Prop) (E:Value→Shared→Prop),tn i s.heap→Q (.ref it) s→wpAny (model P w) A (pyIter (.ref it)) Q E s
abbrev TI:=St→Hp→(It→Hp→Prop)→Prop
def PIE (X:Cx) (pins:List (Addr×Obj)) (σ:St) (tg:Expr) (R:It→Hp→Prop) (itv:Value) (s2:Shared):Prop:=
  ∃(it:Addr) (fp:List Addr) (tn:Nat→Heap→Prop) (J:It) (H':Hp),itv=.ref it∧Inv X pins σ H' s2∧Zoa X.prog X.w X.K tg J fp it tn∧tn 0 s2.heap∧(∀b∈fp,ZiC X pins H' b)∧R J H'
def PI (X:Cx) (tg iter:Expr) (wi:TI):Prop:=
  ∀(pins:List (Addr×Obj)) (s:Shared) (σ:St) (H:Hp) (R:It→Hp→Prop),Inv X pins σ H s→wi σ H R→
    wpAny (model X.prog X.w) X.A (eval iter X.env) (fun v s1=>wpAny (model X.prog X.w) X.A (pyIter v) (PIE X pins σ tg R) X.xe s1) X.xe s
theorem ZqN {M:Model} {A:Around} {E:Value→Shared→Prop} {s:Shared} {tg:Expr} {it:Addr} {u:Value} {o:Obj} {n:String} {vs:Array Value} {Q:Unit→Shared→Prop} (ho:s.heap.get? it=some o) (hc:o.cls=.type n) (hd:o.data=.fields vs)
    (hn:["enumerate","zip","dict_itemiterator","dict_reverseitemiterator","odict_iterator","itertools.zip_longest","itertools.pairwise"].contains n=false) (hQ:Q () s):wpAny M A (letOwnedTupleGo tg (.ref it) u) Q E s:=by
  unfold letOwnedTupleGo
  cases tg<;>first
    | exact wpAny_pure hQ
    | (cases u<;>first
        | exact wpAny_pure hQ
        | (refine wpAny_bind (wpAny_load ho ?_)
           rw [hc,hd]
           show wpAny M A (if (["enumerate","zip","dict_itemiterator","dict_reverseitemiterator","odict_iterator","itertools.zip_longest","itertools.pairwise"].contains n && vs[0]? == some (rawInt _))=true then _ else _) Q E s
           rw [if_neg (by intro h; rw [hn,Bool.false_and] at h; cases h)]
           exact wpAny_pure hQ))
def Itl (K:PySem.W.Frag) (a:Addr):It:=
  ⟨fun i H=>∃xs x,SqL K H a xs∧xs[i]?=some x,fun i H x H'=>H'=H∧∀xs,SqL K H a xs→xs[i]?=some x,fun i H=>∃xs,SqL K H a xs∧xs.length≤i⟩
def Itt (K:PySem.W.Frag) (a:Addr):It:=
  ⟨fun i H=>∃xs x,SqT K H a xs∧xs[i]?=some x,fun i H x H'=>H'=H∧∀xs,SqT K H a xs→xs[i]?=some x,fun i H=>∃xs,SqT K H a xs∧xs.length≤i⟩
def Itr (lo:Int) (n:Nat):It:=⟨fun i _=>i<n,fun i H x H'=>H'=H∧x=.int (lo+i),fun i _=>n≤i⟩
theorem Znz {P:Program} {w:World} {K:PySem.W.Frag} {tg:Expr} (a it:Addr):Zoa P w K tg (Itl K a) [it] it (fun i h=>h.IsListIter it a i) where
  mem:=by simp
  obj:=fun i h st b hb=>by
    have e:b=it:=by simpa using hb
    subst e
    obtain ⟨o,e,c,d⟩:=st
    exact ⟨o,e,fun v z=>by rw [d] at z; cases z⟩
  keep:=fun i h h' st k=>st.at fun o e=>k it (by simp) o e
  item:=by
    intro X hP hw hK hc i pins s σ H E I hf st hg
    subst hP hw hK
    obtain ⟨xs,x,hq,hx⟩:=hg
    obtain ⟨its,rv,p,hz⟩:=I.list hq
    obtain ⟨u,hu,ru⟩:=rv.get hx
    obtain ⟨f0,f1,f2,f3,f4,f5⟩:=hf it (by simp)
    refine wpAny_pyNext_list_item st p.isList (x:=u) (by simpa using hu) fun h' st' sb=>?_
    have I1:Inv X pins σ H { s with heap:=h' }:=I.turned (t':=s.toks) (fun b o hb e=>(sb.2 b hb).trans e) f0 f1 f3 f4 f5
    obtain ⟨o,e,c,d⟩:=id st'
    exact ⟨u,rfl,ZqN (s:={ s with heap:=h' }) e c d (by decide) ⟨x,H,I1,ru,⟨rfl,fun ys hy=>by rw [I.list_inj hy hq]; exact hx⟩,st',fun b hb=>(hf b hb).1⟩⟩
  done:=by
    intro X hP hw hK hc i pins s σ H E I hf st hg
    subst hP hw hK
    obtain ⟨xs,hq,hx⟩:=hg
    obtain ⟨its,rv,p,hz⟩:=I.list hq
    obtain ⟨f0,f1,f2,f3,f4,f5⟩:=hf it (by simp)
    have hl:=rv.length
    exact wpAny_pyNext_list_end (I.ok.hd hc) st p.isList (by simp; omega) fun h' eb=>⟨rfl,I.turned (t':=s.toks) (fun b o hb e=>eb b o hb e) f0 f1 f3 f4 f5⟩
  self:=fun _ _ _ _ _ st h=>wpAny_pyIter_listiter st h
theorem Zmd {P:Program} {w:World} {K:PySem.W.Frag} {tg:Expr} (a it:Addr):Zoa P w K tg (Itt K a) [it] it (fun i h=>h.IsTupleIter it a i) where
  mem:=by simp
  obj:=fun i h st b hb=>by
    have e:b=it:=by simpa using hb
    subst e
    obtain ⟨o,e,c,d⟩:=st
    exact ⟨o,e,fun v z=>by rw [d] at z; cases z⟩
  keep:=fun i h h' st k=>st.at fun o e=>k it (by simp) o e
  item:=by
    intro X hP hw hK hc i pins s σ H E I hf st hg
    subst hP hw hK
    obtain ⟨xs,x,hq,hx⟩:=hg
    obtain ⟨its,rv,p,hz⟩:=I.tuple hq
    obtain ⟨u,hu,ru⟩:=rv.get hx
    obtain ⟨f0,f1,f2,f3,f4,f5⟩:=hf it (by simp)
    refine wpAny_pyNext_tuple_item st (show s.heap.IsTuple a its.toArray from p) (x:=u) (by simpa using hu) fun h' st' sb=>?_
    have I1:Inv X pins σ H { s with heap:=h' }:=I.turned (t':=s.toks) (fun b o hb e=>(sb.2 b hb).trans e) f0 f1 f3 f4 f5
    obtain ⟨o,e,c,d⟩:=id st'
    exact ⟨u,rfl,ZqN (s:={ s with heap:=h' }) e c d (by decide) ⟨x,H,I1,ru,⟨rfl,fun ys hy=>by rw [I.tuple_inj hy hq]; exact hx⟩,st',fun b hb=>(hf b hb).1⟩⟩
  done:=by
    intro X hP hw hK hc i pins s σ H E I hf st hg
    subst hP hw hK
    obtain ⟨xs,hq,hx⟩:=hg
    obtain ⟨its,rv,p,hz⟩:=I.tuple hq
    obtain ⟨f0,f1,f2,f3,f4,f5⟩:=hf it (by simp)
    have hl:=rv.length
    exact wpAny_pyNext_tuple_end (I.ok.hd hc) st (show s.heap.IsTuple a its.toArray from p) (by simp; omega) fun h' eb=>⟨rfl,I.turned (t':=s.toks) (fun b o hb e=>eb b o hb e) f0 f1 f3 f4 f5⟩
  self:=fun _ _ _ _ _ st h=>wpAny_pyIter_tupleiter st h
theorem Zme {P:Program} {w:World} {K:PySem.W.Frag} {tg:Expr} (it:Addr) (lo:Int) (n:Nat):Zoa P w K tg (Itr lo n) [it] it (fun i h=>IsRangeIter h it (lo+(i:Nat)*1) ((n:Int)-(i:Nat)) 1) where
  mem:=by simp
  obj:=fun i h st b hb=>by
    have e:b=it:=by simpa using hb
    subst e
    exact ⟨_,st,fun v z=>by
      have z':Data.fields _=Data.cell v:=z
      cases z'⟩
  keep:=fun i h h' st k=>k it (by simp) _ st
  item:=by
    intro X hP hw hK hc i pins s σ H E I hf st hg
    subst hP hw hK
    obtain ⟨f0,f1,f2,f3,f4,f5⟩:=hf it (by simp)
    have W:=Walks.range (prog:=X.prog) (w:=X.w) (I.ok.hd hc) it lo 1 n
    refine W.item i s _ _ hg st fun v h' tk hv st' kk=>?_
    obtain ⟨t,rfl⟩:=hv
    have I1:Inv X pins σ H { s with heap:=h',toks:=tk }:=I.turned (fun b o hb e=>kk b o (by simpa using hb) e) f0 f1 f3 f4 f5
    refine ⟨_,rfl,ZqN (s:={ s with heap:=h',toks:=tk }) (n:="range_iterator") st' rfl rfl (by decide) ⟨.int (lo+i),H,I1,⟨t,?_⟩,⟨rfl,rfl⟩,st',fun b hb=>(hf b hb).1⟩⟩
    rw [Int.mul_one]
  done:=by
    intro X hP hw hK hc i pins s σ H E I hf st hg
    subst hP hw hK
    obtain ⟨f0,f1,f2,f3,f4,f5⟩:=hf it (by simp)
    exact wpAny_pyNext_range_end (I.ok.hd hc) st (by have:n≤i:=hg; omega) fun h' eb=>⟨rfl,I.turned (t':=s.toks) (fun b o hb e=>eb b o hb e) f0 f1 f3 f4 f5⟩
  self:=fun _ _ _ _ _ st h=>wpAny_pyIter_rangeiter st h
end L2
namespace L2
open PySem PySem.Spec PyProof.Rows
section
variable {X:Cx} {tg:Expr}
theorem ZpR {pins:List (Addr×Obj)} {σ:St} {H:Hp} {s:Shared} {R:It→Hp→Prop} {E:Value→Shared→Prop} {lo hi:Int} {t u v:Tok} {tk:Nat} (I:Inv X pins σ H s) (h1 : -(2 ^ 62)≤lo) (h2:lo<2 ^ 62) (h3 : -(2 ^ 62)≤hi) (h4:hi<2 ^ 62)
    (q:R (Itr lo (hi-lo).toNat) H):wpAny (model X.prog X.w) X.A (pyIter (.ref s.heap.objs.size)) (PIE X pins σ tg R) E { s with heap:=s.heap.push { cls:=.type "range",data:=.fields #[.int lo t,.int hi u,.int 1 v] },toks:=tk }:=by
  refine wpAny_pyIter_range (IsRange.new ..) (small_one h1 h2 h3 h4) ?_
  have I1:Inv X pins σ H { s with heap:=s.heap.push { cls:=.type "range",data:=.fields #[.int lo t,.int hi u,.int 1 v] },toks:=tk }:=I.kept fun b o e=>Heap.get?_push_of_some _ e
  refine ⟨(s.heap.push { cls:=.type "range",data:=.fields #[.int lo t,.int hi u,.int 1 v] }).objs.size,[(s.heap.push { cls:=.type "range",data:=.fields #[.int lo t,.int hi u,.int 1 v] }).objs.size],_,_,H,rfl,
    I1.kept (t':=tk) fun b o e=>Heap.get?_push_of_some _ e,Zme _ lo (hi-lo).toNat,?_,fun b hb=>?_,q⟩
  · have e1:lo+((0:Nat):Int)*1=lo:=by simp
    have e2:(((hi-lo).toNat:Nat):Int)-((0:Nat):Int)=Builtin.Range.rangeSize lo hi 1:=by rw [rangeSize_one]; split<;>omega
    show IsRangeIter _ _ (lo+((0:Nat):Int)*1) ((((hi-lo).toNat:Nat):Int)-((0:Nat):Int)) 1
    rw [e1,e2]
    exact Heap.get?_push_size _ rfl
  · have e:b=(s.heap.push { cls:=.type "range",data:=.fields #[.int lo t,.int hi u,.int 1 v] }).objs.size:=by simpa using hb
    subst e
    exact I1.fpOk (Nat.le_refl _) (I1.hok.fresh (Nat.le_refl _))
def Zwh (ta:TA):TI:=fun σ H R=>ta σ H fun vs H1=>∃j:Int,vs=[.int j]∧-(2 ^ 62)≤j∧j<2 ^ 62∧R (Itr 0 j.toNat) H1
theorem ZnL {a:Expr} {ta:TA} {p pos:Pos} (hg:Gl X "range") (hm:X.mg "range"=none) (ha:PA X [a] ta) (hs:starEach [a] X.env=[(false,eval a X.env)]:=by rfl):PI X tg (.Call (.Name "range" p) [a] [] pos) (Zwh ta):=by
  intro pins s σ H R I h
  refine Call_ (ZhV I hg hm boot_range (PyProof.Rows.callWith_type1 (thn (ha pos pins s σ H _ I h) fun us s1 ⟨vs,H1,I1,r1,q1⟩=>?_) hs rfl))
  obtain ⟨j,e,q1,q2,q⟩:=q1
  subst e
  cases r1 with
  | cons r rr=>
    cases rr
    obtain ⟨t,rfl⟩:=r
    exact call_range_1 (ZpR I1 (by omega) (by omega) q1 q2 (by simpa using q))
def Zzl (wi:TI) (g:TG) (tb:TS):TS:=fun D σ H=>wi σ H fun J H1=>∃W:Nat→Nat→St→Hp→Prop,(∃m,W 0 m σ H1)∧∀i m σ H,W i m σ H→
  (J.stop i H∧D.nx σ H)∨(J.go i H∧∃N:St→Hp→Prop,(∀σ' H',N σ' H'→∃m',m'<m∧W (i+1) m' σ' H')∧∀x H',J.yld i H x H'→g x σ H' fun σ2 H2=>tb { D with nx:=N,ct:=N,bk:=D.nx } σ2 H2)
def Zjr (fp:List Addr) (h:Heap):List (Addr×Obj):=fp.filterMap fun b=>(h.get? b).map fun o=>(b,o)
theorem Zec {fp:List Addr} {h:Heap} {b:Addr} {o:Obj} (hb:b∈fp) (e:h.get? b=some o):(b,o)∈Zjr fp h:=List.mem_filterMap.mpr ⟨b,hb,by rw [e]; rfl⟩
theorem ZnP {fp:List Addr} {h:Heap} {p:Addr×Obj} (hp:p∈Zjr fp h):p.1∈fp∧h.get? p.1=some p.2:=by
  obtain ⟨b,hb,e⟩:=List.mem_filterMap.mp hp
  cases q:h.get? b with
  | none=>rw [q] at e; cases e
  | some o=>
    rw [q] at e
    have e':(b,o)=p:=Option.some.inj e
    subst e'
    exact ⟨hb,q⟩
theorem Inv.pinned {pins:List (Addr×Obj)} {σ:St} {H:Hp} {s:Shared} {fp:List Addr} (I:Inv X pins σ H s) (hf:∀b∈fp,ZiC X pins H b) (ho:∀b∈fp,∃o,s.heap.get? b=some o∧∀v,o.data≠.cell v):Inv X (pins++Zjr fp s.heap) σ H s:=
  I.pins_of fun p hp=>(List.mem_append.mp hp).elim (fun z=>I.pin p (List.mem_append_right _ z)) fun z=>by
    obtain ⟨hb,e⟩:=ZnP z
    obtain ⟨f0,f1,f2,_⟩:=hf p.1 hb
    obtain ⟨o,e',d⟩:=ho p.1 hb
    rw [e] at e'; cases e'
    exact ⟨e,f0,f1,f2,d⟩
theorem Inv.unpinned {pins pl:List (Addr×Obj)} {σ:St} {H:Hp} {s:Shared} (I:Inv X (pins++pl) σ H s):Inv X pins σ H s:=I.pins_of fun p hp=>I.pin p (List.mem_append_right _ (List.mem_append_left _ hp))
theorem ZpZ {iter:Expr} {body:List Stmt} {wi:TI} {g:TG} {tb:TS} {pos:Pos} (hp:PassesOwn (model X.prog X.w) X.A X.env X.xe) (hc:X.calm=true) (hi:PI X tg iter wi) (hg:PG X tg g) (hb:PSs X body tb)
    (hs:∀x,foldedSetIterable iter X.env x=pure x:=by intro _; rfl):PS X (.For tg iter body [] pos) (Zzl wi g tb):=by
  intro pins s σ H D I h
  refine wpAny_For (thn (hi pins s σ H _ I h) fun v s1 h1=>thn h1 fun itv s2 h2=>?_) hs
  obtain ⟨it,fp,tn,J,H2,e,I2,T,st2,f2,W,⟨m0,w0⟩,turn⟩:=h2
  subst e
  have stat:∀{H':Hp},(∀b∈fp,H' b=none)→∀b∈fp,ZiC X pins H' b:=fun hn b hb=>⟨hn b hb,(f2 b hb).2⟩
  refine codeAny_forLoop_any (fun n s'=>∃i σ' H',Inv X pins σ' H' s'∧tn i s'.heap∧(∀b∈fp,H' b=none)∧W i n σ' H') ?_ m0 ⟨0,σ,H2,I2,st2,fun b hb=>(f2 b hb).1,w0⟩
  rintro n s3 ⟨i,σ3,H3,I3,st3,fr3,w3⟩
  rcases turn i n σ3 H3 w3 with ⟨stop,qn⟩ | ⟨go,N,hN,step⟩
  · refine wpAny_passesOwn hp (thn (T.done X rfl rfl rfl hc i pins s3 σ3 H3 X.xe I3 (stat fr3) st3 stop) fun r s4 ⟨hr,I4⟩=>?_)
    subst hr
    exact wpAny_execs_nil ⟨σ3,H3,I4,qn⟩
  · refine wpAny_passesOwn hp (thn (T.item X rfl rfl rfl hc i pins s3 σ3 H3 X.xe I3 (stat fr3) st3 go) fun r s4 ⟨u,hr,h4⟩=>?_)
    subst hr
    refine wpAny_passesOwn hp (thn h4 fun _ s5 ⟨x,H5,I5,r5,y5,st5,fr5⟩=>?_)
    have I5':=I5.pinned (stat fr5) (T.obj _ _ st5)
    refine wpAny_passesOwn hp (thn (hg _ s5 σ3 H5 x u _ I5' r5 (step x H5 y5)) fun _ s6 ⟨σ6,H6,I6,q6⟩=>?_)
    refine wpAny_passesOwn hp (thn (hb _ s6 σ6 H6 _ I6 q6) fun f s7 q7=>?_)
    have again:∀{σ7:St} {H7:Hp},Inv X (pins++Zjr fp s5.heap) σ7 H7 s7→N σ7 H7→∃m,m<n∧∃i σ' H',Inv X pins σ' H' s7∧tn i s7.heap∧(∀b∈fp,H' b=none)∧W i m σ' H':=fun {σ7 H7} I7 n7=>by
      obtain ⟨m',hm,w7⟩:=hN σ7 H7 n7
      refine ⟨m',hm,i+1,σ7,H7,I7.unpinned,T.keep _ _ _ st5 fun b hb o e=>(I7.pin (b,o) (List.mem_append_right _ (List.mem_append_right _ (Zec hb e)))).1,fun b hb=>?_,w7⟩
      obtain ⟨o,e,d⟩:=T.obj _ _ st5 b hb
      exact (I7.pin (b,o) (List.mem_append_right _ (List.mem_append_right _ (Zec hb e)))).2.1
    cases f with
    | next=>obtain ⟨σ7,H7,I7,n7⟩:=q7; exact again I7 n7
    | cont=>obtain ⟨σ7,H7,I7,n7⟩:=q7; exact again I7 n7
    | brk=>obtain ⟨σ7,H7,I7,q7⟩:=q7; exact ⟨σ7,H7,I7.unpinned,q7⟩
    | ret v=>obtain ⟨x7,σ7,H7,I7,r7,q7⟩:=q7; exact ⟨x7,σ7,H7,I7.unpinned,r7,q7⟩
end
end L2
namespace L2
open PySem PySem.Spec PyProof.Rows
abbrev R2:=V→V→Hp→VK→Prop
def OpR (X:Cx) (f:Value→Value→Sem Value) (r:R2):Prop:=
  ∀(pins:List (Addr×Obj)) (s:Shared) (σ:St) (H:Hp) (x y:V) (v u:Value) (Q:VK),Inv X pins σ H s→RelV x v→RelV y u→r x y H Q→
    wpAny (model X.prog X.w) X.A (f v u) (EP X pins σ Q) X.xe s
def UnR (X:Cx) (f:Value→Sem Value) (r:V→Hp→VK→Prop):Prop:=
  ∀(pins:List (Addr×Obj)) (s:Shared) (σ:St) (H:Hp) (x:V) (v:Value) (Q:VK),Inv X pins σ H s→RelV x v→r x H Q→
    wpAny (model X.prog X.w) X.A (f v) (EP X pins σ Q) X.xe s
def CallR (X:Cx) (f:Value) (r:List V→Hp→VK→Prop):Prop:=
  ∀(pins:List (Addr×Obj)) (s:Shared) (σ:St) (H:Hp) (xs:List V) (us:List Value) (Q:VK),Inv X pins σ H s→Vals xs us→r xs H Q→
    wpAny (model X.prog X.w) X.A (call f us) (EP X pins σ Q) X.xe s
def ZzY (X:Cx) (r:V→Hp→(Bool→Hp→Prop)→Prop):Prop:=
  ∀(pins:List (Addr×Obj)) (s:Shared) (σ:St) (H:Hp) (x:V) (v:Value) (Q:Bool→Hp→Prop),Inv X pins σ H s→RelV x v→r x H Q→
    wpAny (model X.prog X.w) X.A (truthy v) (TP X pins σ Q) X.xe s
def tOp (r:R2) (ta tb:TE):TE:=fun σ H Q=>ta σ H fun x H1=>tb σ H1 fun y H2=>r x y H2 Q
def tUn (r:V→Hp→VK→Prop) (ta:TE):TE:=fun σ H Q=>ta σ H fun x H1=>r x H1 Q
def rI (C:Int→Int→Prop) (g:Int→Int→V):R2:=fun x y H Q=>∃i j,x=.int i∧y=.int j∧C i j∧Q (g i j) H
def rI0 (g:Int→Int→V):R2:=fun x y H Q=>∃i j,x=.int i∧y=.int j∧Q (g i j) H
def rU (g:Int→V):V→Hp→VK→Prop:=fun x H Q=>∃i,x=.int i∧Q (g i) H
section
variable {X:Cx} {a b c:Expr} {ta tb tc:TE} {pos:Pos}
theorem ZuI (ha:PE X a ta) (hb:PE X b tb) {pins:List (Addr×Obj)} {s:Shared} {σ:St} {H:Hp} {R:V→V→Hp→Prop} (I:Inv X pins σ H s)
    (h:ta σ H fun x H1=>tb σ H1 fun y H2=>R x y H2) {Q:Value→Shared→Prop} {f:Value→Value→Sem Value}
    (hf:∀v u s2 x y H2,Inv X pins σ H2 s2→RelV x v→RelV y u→R x y H2→wpAny (model X.prog X.w) X.A (f v u) Q X.xe s2) :
    wpAny (model X.prog X.w) X.A (eval a X.env) (fun v s₁=>wpAny (model X.prog X.w) X.A (eval b X.env) (fun u s₂=>wpAny (model X.prog X.w) X.A (f v u) Q X.xe s₂) X.xe s₁) X.xe s:=by
  refine thn (ha pins s σ H _ I h) fun v s1 ⟨x,H1,I1,r1,q1⟩=>?_
  refine thn (hb pins s1 σ H1 _ I1 q1) fun u s2 ⟨y,H2,I2,r2,q2⟩=>?_
  exact hf v u s2 x y H2 I2 r1 r2 q2
theorem ZvT {op:Operator} {r:R2} (ho:OpR X (binaryOp op) r) (ha:PE X a ta) (hb:PE X b tb):PE X (.BinOp a op b pos) (tOp r ta tb):=by
  intro pins s σ H Q I h
  exact wpAny_BinOp (ZuI ha hb I h fun v u s2 x y H2 I2 rx ry q=>ho pins s2 σ H2 x y v u Q I2 rx ry q)
theorem ZvQ {op:UnaryOp} {r:V→Hp→VK→Prop} (ho:UnR X (unaryOp op) r) (ha:PE X a ta):PE X (.UnaryOp op a pos) (tUn r ta):=by
  intro pins s σ H Q I h
  exact UnaryOp_ (thn (ha pins s σ H _ I h) fun v s1 ⟨x,H1,I1,r1,q1⟩=>ho pins s1 σ H1 x v Q I1 r1 q1)
theorem opI {f:Value→Value→Sem Value} {C:Int→Int→Prop} {g:Int→Int→Int}
    (rule:∀(i j:Int) (t u:Tok) (s:Shared) (Q:Value→Shared→Prop) (E:Value→Shared→Prop),C i j→Q (.int (g i j) s.toks) { s with toks:=s.toks+1 }→wpAny (model X.prog X.w) X.A (f (.int i t) (.int j u)) Q E s) :
    OpR X f (rI C fun i j=>.int (g i j)):=by
  intro pins s σ H x y v u Q I rx ry h
  obtain ⟨i,j,rfl,rfl,hc,q⟩:=h
  obtain ⟨t,rfl⟩:=rx
  obtain ⟨t',rfl⟩:=ry
  exact rule i j t t' s _ _ hc ⟨.int (g i j),H,I.tok _,⟨_,rfl⟩,q⟩
theorem Zur {f:Value→Value→Sem Value} {g:Int→Int→Int}
    (rule:∀(i j:Int) (t u:Tok) (s:Shared) (Q:Value→Shared→Prop) (E:Value→Shared→Prop),Q (.int (g i j) s.toks) { s with toks:=s.toks+1 }→wpAny (model X.prog X.w) X.A (f (.int i t) (.int j u)) Q E s) :
    OpR X f (rI0 fun i j=>.int (g i j)):=by
  intro pins s σ H x y v u Q I rx ry h
  obtain ⟨i,j,rfl,rfl,q⟩:=h
  obtain ⟨t,rfl⟩:=rx
  obtain ⟨t',rfl⟩:=ry
  exact rule i j t t' s _ _ ⟨.int (g i j),H,I.tok _,⟨_,rfl⟩,q⟩
theorem Zsb {f:Value→Value→Sem Value} {g:Int→Int→Bool}
    (rule:∀(i j:Int) (t u:Tok) (s:Shared) (Q:Value→Shared→Prop) (E:Value→Shared→Prop),Q (.bool (g i j)) s→wpAny (model X.prog X.w) X.A (f (.int i t) (.int j u)) Q E s) :
    OpR X f (rI0 fun i j=>.bl (g i j)):=by
  intro pins s σ H x y v u Q I rx ry h
  obtain ⟨i,j,rfl,rfl,q⟩:=h
  obtain ⟨t,rfl⟩:=rx
  obtain ⟨t',rfl⟩:=ry
  exact rule i j t t' s _ _ ⟨.bl (g i j),H,I,rfl,q⟩
def CMul (i j:Int):Prop:=(-(2 ^ 64)<i∧i<2 ^ 64)∨(-(2 ^ 64)<j∧j<2 ^ 64)
theorem CMul.ok {i j:Int} (h:CMul i j):IntMulOk i j:=by
  rcases h with ⟨h1,h2⟩ | ⟨h1,h2⟩
  · exact .of_left (intBits_le_64 h1 h2)
  · exact .of_right (intBits_le_64 h1 h2)
theorem op_add:OpR X (binaryOp .Add) (rI0 fun i j=>.int (i+j)):=Zur fun _ _ _ _ _ _ _ q=>add_int q
theorem Zuj:OpR X (binaryOp .Sub) (rI0 fun i j=>.int (i-j)):=Zur fun _ _ _ _ _ _ _ q=>sub_int q
theorem op_mul:OpR X (binaryOp .Mult) (rI CMul fun i j=>.int (i*j)):=opI fun _ _ _ _ _ _ _ hc q=>mul_int q hc.ok
theorem Zum:OpR X (binaryOp .Mod) (rI (fun _ j=>0<j) fun i j=>.int (i % j)):=opI fun i j _ _ _ _ _ hc q=>by
  have h1:(0:Int)<j:=hc
  exact mod_int' (by omega) (by rw [Int.fmod_eq_emod_of_nonneg i (by omega)]; exact q)
theorem Zuq:OpR X (binaryOp .BitAnd) (rI0 fun i j=>.int (Builtin.bitAnd i j)):=Zur fun _ _ _ _ _ _ _ q=>and_int q
theorem unI {f:Value→Sem Value} {g:Int→Int}
    (rule:∀(i:Int) (t:Tok) (s:Shared) (Q:Value→Shared→Prop) (E:Value→Shared→Prop),Q (.int (g i) s.toks) { s with toks:=s.toks+1 }→wpAny (model X.prog X.w) X.A (f (.int i t)) Q E s) :
    UnR X f (rU fun i=>.int (g i)):=by
  intro pins s σ H x v Q I rx h
  obtain ⟨i,rfl,q⟩:=h
  obtain ⟨t,rfl⟩:=rx
  exact rule i t s _ _ ⟨.int (g i),H,I.tok _,⟨_,rfl⟩,q⟩
theorem Ztu:UnR X (unaryOp .USub) (rU fun i=>.int (-i)):=unI fun _ _ _ _ _ q=>neg_int q
end
section
variable {X:Cx} {a b c:Expr} {ta tb tc:TE} {pos:Pos}
theorem ZqU {pins:List (Addr×Obj)} {σ:St} {H:Hp} {s:Shared} {Q:VK} {k k':Bool} (I:Inv X pins σ H s) (q:Q (.bl k) H) (e:k=k'):EP X pins σ Q (.bool k') s:=by
  subst e
  exact ⟨.bl k,H,I,rfl,q⟩
theorem Zv1:OpR X (compareOp .Lt) (rI0 fun i j=>.bl (decide (i<j))):=Zsb fun _ _ _ _ _ _ _ q=>lt_int q
theorem Zv2:OpR X (compareOp .LtE) (rI0 fun i j=>.bl (decide (i≤j))):=Zsb fun _ _ _ _ _ _ _ q=>le_int q
theorem Zv3:OpR X (compareOp .Gt) (rI0 fun i j=>.bl (decide (j<i))):=Zsb fun _ _ _ _ _ _ _ q=>gt_int q
theorem Zv4:OpR X (compareOp .GtE) (rI0 fun i j=>.bl (decide (j≤i))):=Zsb fun _ _ _ _ _ _ _ q=>ge_int q
theorem op_isN:OpR X (compareOp .Is) (fun x y H Q=>y=.non∧Q (.bl (decide (x=.non))) H):=by
  intro pins s σ H x y v u Q I rx ry h
  obtain ⟨rfl,q⟩:=h
  cases ry
  refine is_none_gen (ZqU I q ?_)
  cases x<;>first
    | (cases rx; rfl)
    | (obtain ⟨t,rfl⟩:=rx; rfl)
theorem op_notN:OpR X (compareOp .IsNot) (fun x y H Q=>y=.non∧Q (.bl (!decide (x=.non))) H):=by
  intro pins s σ H x y v u Q I rx ry h
  obtain ⟨rfl,q⟩:=h
  cases ry
  refine isnot_none_gen (ZqU I q ?_)
  cases x<;>first
    | (cases rx; rfl)
    | (obtain ⟨t,rfl⟩:=rx; rfl)
theorem OpR.or {f:Value→Value→Sem Value} {r r':R2} (h:OpR X f r) (h':OpR X f r'):OpR X f (fun x y H Q=>r x y H Q∨r' x y H Q):=by
  intro pins s σ H x y v u Q I rx ry q
  rcases q with q | q
  · exact h pins s σ H x y v u Q I rx ry q
  · exact h' pins s σ H x y v u Q I rx ry q
theorem Zqn (b:Expr) {op:CmpOp} (h:op≠.In:=by decide) (h2:op≠.NotIn:=by decide):behindInMarks op b=false:=by
  have e1:(op == CmpOp.In)=false:=by cases op<;>first | rfl | exact absurd rfl h
  have e2:(op == CmpOp.NotIn)=false:=by cases op<;>first | rfl | exact absurd rfl h2
  cases b<;>simp [behindInMarks,e1,e2]
theorem Zr7 {op:CmpOp} {r:R2} (ho:OpR X (compareOp op) r) (ha:PE X a ta) (hb:PE X b tb) (hm:behindInMarks op b=false):PE X (.Compare a [op] [b] pos) (tOp r ta tb):=by
  intro pins s σ H Q I h
  exact wpAny_Compare1 (ZuI ha hb I h fun v u s2 x y H2 I2 rx ry q=>ho pins s2 σ H2 x y v u Q I2 rx ry q) hm
def ZsY (t:TE):TT:=fun σ H Q=>t σ H fun x H'=>∃k,x=.bl k∧Q k H'
theorem ZrV {op:CmpOp} {r:R2} (ho:OpR X (compareOp op) r) (ha:PE X a ta) (hb:PE X b tb) (hm:behindInMarks op b=false):PT X (.Compare a [op] [b] pos) (ZsY (tOp r ta tb)):=by
  intro pins s σ H Q I h
  refine wpAny_isTrue_Compare1 (thn (ha pins s σ H _ I h) fun v s1 ⟨x,H1,I1,r1,q1⟩=>thn (hb pins s1 σ H1 _ I1 q1) fun u s2 ⟨y,H2,I2,r2,q2⟩=>
    thn (ho pins s2 σ H2 x y v u _ I2 r1 r2 q2) fun c s3 ⟨z,H3,I3,r3,k,e,q3⟩=>?_) hm
  subst e
  cases r3
  exact wpAny_truthy_bool ⟨H3,I3,q3⟩
def Zmi (r r':R2) (ta tb tc:TE):TE:=fun σ H Q=>ta σ H fun x H1=>tb σ H1 fun y H2=>r x y H2 fun z H3=>∃k,z=.bl k∧
  (if k=true then tc σ H3 fun w' H4=>r' y w' H4 Q else Q (.bl false) H3)
theorem Zqa {op op':CmpOp} {r r':R2} (ho:OpR X (compareOp op) r) (ho':OpR X (compareOp op') r') (ha:PE X a ta) (hb:PE X b tb) (hc:PE X c tc)
    (hm:lastMarks [op,op'] [b,c]=false:=by with_unfolding_all rfl):PE X (.Compare a [op,op'] [b,c] pos) (Zmi r r' ta tb tc):=by
  intro pins s σ H Q I h
  refine Compare_chain (thn (ha pins s σ H _ I h) fun v s1 ⟨x,H1,I1,r1,q1⟩=>chain_link (thn (hb pins s1 σ H1 _ I1 q1) fun u s2 ⟨y,H2,I2,r2,q2⟩=>
    thn (ho pins s2 σ H2 x y v u _ I2 r1 r2 q2) fun d s3 ⟨z,H3,I3,r3,k,e,q3⟩=>?_)) hm
  subst e
  cases r3
  refine wpAny_truthy_bool ?_
  cases k with
  | false=>exact ite_ff ⟨.bl false,H3,I3,rfl,q3⟩
  | true=>exact ite_tt (chain_last (thn (hc pins s3 σ H3 _ I3 q3) fun w' s4 ⟨z',H4,I4,r4,q4⟩=>ho' pins s4 σ H4 y z' u w' Q I4 r2 r4 q4))
theorem ZpV {op op':CmpOp} {r r':R2} (ho:OpR X (compareOp op) r) (ho':OpR X (compareOp op') r') (ha:PE X a ta) (hb:PE X b tb) (hc:PE X c tc)
    (hm:lastMarks [op,op'] [b,c]=false:=by with_unfolding_all rfl):PT X (.Compare a [op,op'] [b,c] pos) (ZsY (Zmi r r' ta tb tc)):=by
  intro pins s σ H Q I h
  refine isTrue_chain (thn (ha pins s σ H _ I h) fun v s1 ⟨x,H1,I1,r1,q1⟩=>test_link (thn (hb pins s1 σ H1 _ I1 q1) fun u s2 ⟨y,H2,I2,r2,q2⟩=>
    thn (ho pins s2 σ H2 x y v u _ I2 r1 r2 q2) fun d s3 ⟨z,H3,I3,r3,k,e,q3⟩=>?_)) hm
  subst e
  cases r3
  refine wpAny_truthy_bool ?_
  cases k with
  | false=>
    obtain ⟨k',e',q'⟩:=q3
    cases e'
    exact ite_ff ⟨H3,I3,q'⟩
  | true=>
    refine ite_tt (test_last (thn (hc pins s3 σ H3 _ I3 q3) fun w' s4 ⟨z',H4,I4,r4,q4⟩=>thn (ho' pins s4 σ H4 y z' u w' _ I4 r2 r4 q4) fun d' s5 ⟨z2,H5,I5,r5,k2,e2,q5⟩=>?_))
    subst e2
    cases r5
    exact wpAny_truthy_bool ⟨H5,I5,q5⟩
def TruV (K:PySem.W.Frag) (x:V) (H:Hp) (k:Bool):Prop:=
  match x with
  | .non=>k=false
  | .bl b=>k=b
  | .int i=>k=(i != 0)
  | .str y=>y.length≤sizeLine∧k=((y.length:Int) != 0)
  | .byt y=>y.size≤sizeLine∧k=((y.size:Int) != 0)
  | .ref p=>(∃xs,SqL K H p xs∧k=!xs.isEmpty)∨(∃xs,SqT K H p xs∧k=!xs.isEmpty)∨∃kvs,H p=some (.dK kvs)∧k=!kvs.isEmpty
  | _=>False
theorem Zmx {κ:Type} {kvs:List (κ×V)} {vs:List (κ×Value)} (r:KV kvs vs):(!vs.isEmpty)=!kvs.isEmpty:=by
  cases r<;>rfl
theorem ZhZ {xs:List V} {its:List Value} (r:Vals xs its):(!its.toArray.isEmpty)=!xs.isEmpty:=by
  cases r<;>simp
theorem Zgz:(sizeLine:Nat)<2 ^ 63:=by rw [sizeLine_eq]; decide
theorem ZpG:ZzY X (fun x H Q=>∃k,TruV X.K x H k∧Q k H):=by
  intro pins s σ H x v Q I rx h
  obtain ⟨k,e,q⟩:=h
  have hl:=Zgz
  have hs:sizeLine=16777216:=sizeLine_eq
  cases x with
  | non=>
    cases rx
    have e':k=false:=e
    subst e'
    exact truthy_none ⟨H,I,q⟩
  | bl b=>
    cases rx
    have e':k=b:=e
    subst e'
    exact wpAny_truthy_bool ⟨H,I,q⟩
  | int i=>
    obtain ⟨t,rfl⟩:=rx
    have e':k=(i != 0):=e
    subst e'
    exact PySem.P.truthy_int ⟨H,I,q⟩
  | str y=>
    obtain ⟨t,rfl⟩:=rx
    obtain ⟨hy,e'⟩:y.length≤sizeLine∧k=((y.length:Int) != 0):=e
    subst e'
    exact PySem.P.truthy_str (by omega) ⟨H,I.tok _,q⟩
  | byt y=>
    obtain ⟨t,rfl⟩:=rx
    obtain ⟨hy,e'⟩:y.size≤sizeLine∧k=((y.size:Int) != 0):=e
    subst e'
    exact PySem.W.truthy_bytes (by omega) ⟨H,I.tok _,q⟩
  | ref p=>
    cases rx
    have e':(∃xs,SqL X.K H p xs∧k=!xs.isEmpty)∨(∃xs,SqT X.K H p xs∧k=!xs.isEmpty)∨∃kvs,H p=some (.dK kvs)∧k=!kvs.isEmpty:=e
    rcases e' with ⟨xs,hx,e'⟩ | ⟨xs,hx,e'⟩ | ⟨kvs,hx,e'⟩
    · subst e'
      obtain ⟨its,r,pl,hz⟩:=I.list hx
      have hlen:=r.length
      exact wpAny_truthy_list pl.isList (by simp only [List.size_toArray]; omega) ⟨H,I.tok _,by rw [ZhZ r]; exact q⟩
    · subst e'
      obtain ⟨its,r,pl,hz⟩:=I.tuple hx
      have hlen:=r.length
      exact truthy_tuple pl (by simp only [List.size_toArray]; omega) ⟨H,I.tok _,by rw [ZhZ r]; exact q⟩
    · subst e'
      obtain ⟨hz,hS,vs,r,m⟩:kvs.length≤sizeLine∧(p == sysModules)=false∧∃vs,KV kvs vs∧s.heap.DictOf (ZaN X.prog X.w) p vs:=I.hok p _ hx
      have hlen:kvs.length=vs.length:=Paired.length r
      exact wpAny_truthy_dict hS m (by omega) ⟨H,I.tok _,by rw [Zmx r]; exact q⟩
  | _=>exact (show False from e).elim
theorem ZpU (ha:PE X a ta) (he:∀whole,isTrue a X.env whole=(do let v ←whole; standAt a.pos; holding [v] (truthy v))) :
    PT X a (fun σ H Q=>ta σ H fun x H'=>∃k,TruV X.K x H' k∧Q k H'):=by
  intro pins s σ H Q I h
  exact isTrue_plain (thn (ha pins s σ H _ I h) fun v s1 ⟨x,H1,I1,r1,q1⟩=>ZpG pins s1 σ H1 x v Q I1 r1 q1) (he _)
theorem op_add_str:OpR X (binaryOp .Add) (fun x y H Q=>∃i j,x=.str i∧y=.str j∧i.length+j.length≤sizeLine∧Q (.str (i++j)) H):=by
  intro pins s σ H x y v u Q I rx ry h
  obtain ⟨i,j,rfl,rfl,hz,q⟩:=h
  obtain ⟨t,rfl⟩:=rx
  obtain ⟨t',rfl⟩:=ry
  exact add_str (fun t' tk=>⟨.str (i++j),H,I.tok _,⟨_,rfl⟩,q⟩) hz
theorem ZfM {x:V} {us:List Value} (r:Vals [x] us):∃u,us=[u]∧RelV x u:=by
  cases r with
  | cons r1 r2=>cases r2; exact ⟨_,rfl,r1⟩
theorem ZpE {x y:V} {us:List Value} (r:Vals [x,y] us):∃u w',us=[u,w']∧RelV x u∧RelV y w':=by
  cases r with
  | cons r1 r2=>
    cases r2 with
    | cons r3 r4=>cases r4; exact ⟨_,_,rfl,r1,r3⟩
theorem Zn7 (hc:X.calm=true):CallR X (.builtin "max") (fun xs H Q=>∃i j,xs=[.int i,.int j]∧Q (.int (if j > i then j else i)) H):=by
  intro pins s σ H xs us Q I r h
  obtain ⟨i,j,rfl,q⟩:=h
  obtain ⟨u,w',rfl,⟨t,rfl⟩,⟨t',rfl⟩⟩:=ZpE r
  refine max_two_ints (I.ok.hd hc) fun h' tk k=>⟨_,H,I.kept k,?_,q⟩
  by_cases hj:j > i
  · rw [if_pos hj,if_pos hj]; exact ⟨_,rfl⟩
  · rw [if_neg hj,if_neg hj]; exact ⟨_,rfl⟩
theorem Zn6 (hc:X.calm=true):CallR X (.builtin "min") (fun xs H Q=>∃i j,xs=[.int i,.int j]∧Q (.int (if j<i then j else i)) H):=by
  intro pins s σ H xs us Q I r h
  obtain ⟨i,j,rfl,q⟩:=h
  obtain ⟨u,w',rfl,⟨t,rfl⟩,⟨t',rfl⟩⟩:=ZpE r
  refine min_two_ints (I.ok.hd hc) fun h' tk k=>⟨_,H,I.kept k,?_,q⟩
  by_cases hj:j<i
  · rw [if_pos hj,if_pos hj]; exact ⟨_,rfl⟩
  · rw [if_neg hj,if_neg hj]; exact ⟨_,rfl⟩
theorem Zn8:CallR X (.type "int") (fun xs H Q=>(∃i,xs=[.int i]∧Q (.int i) H)∨∃k,xs=[.bl k]∧Q (.int (if k then 1 else 0)) H):=by
  intro pins s σ H xs us Q I r h
  rcases h with ⟨i,rfl,q⟩ | ⟨k,rfl,q⟩
  · obtain ⟨u,rfl,t,rfl⟩:=ZfM r
    exact call_int_int ⟨.int i,H,I,⟨_,rfl⟩,q⟩
  · obtain ⟨u,rfl,r1⟩:=ZfM r
    cases r1
    exact call_int_bool ⟨.int (if k then 1 else 0),H,I.tok _,⟨_,rfl⟩,q⟩
end
end L2
namespace L2
open PySem PySem.Spec PyProof.Rows
structure ObjM (h:Heap) (x dx C:Addr) (mA:Str→Option Value):Prop where
  obj:h.get? x=some (PySem.W.instObj C dx)
  ns:h.Ns1 dx mA
  ne:dx≠x
theorem ZnS {h:Heap} {dx:Addr} {mA:Str→Option Value} (n:h.Ns1 dx mA):∃od,h.get? dx=some od∧∀name,PySem.W.lookIn name od=some (mA name):=by
  obtain ⟨o,es,ep,ho,hd,hk,_,hm⟩:=n
  refine ⟨o,ho,fun name=>?_⟩
  have e:=hm name
  unfold nsFind findBy at e
  rw [←Array.find?_toList] at e
  unfold PySem.W.lookIn
  rw [hd]
  dsimp only
  split
  · rename_i y q
    rw [q] at e
    exact congrArg some e
  · rename_i q
    rw [q] at e
    have a:es.toList.any (·.refKey)=false:=by
      rw [List.any_eq_false]
      intro y hy
      obtain ⟨z,t,hkey⟩:=hk y (Array.mem_toList_iff.mp hy)
      simp [DictEntry.refKey,hkey]
    have a':¬es.toList.any (·.refKey)=true:=by rw [a]; exact Bool.false_ne_true
    rw [if_neg a']
    exact congrArg some e
theorem ObjM.look {h:Heap} {x dx C:Addr} {mA:Str→Option Value} (I:ObjM h x dx C mA):∃od,PySem.W.InstAt h x (PySem.W.instObj C dx) C (some od)∧∀name,PySem.W.lookIn name od=some (mA name):=
  let ⟨od,ho,hl⟩:=ZnS I.ns
  ⟨od,⟨I.obj,rfl,rfl,ho⟩,hl⟩
section
variable {prog:Program} {w:World} {A:Around} {E:Value→Shared→Prop} {s:Shared} {K:PySem.W.Frag} {x dx C f:Addr} {mA:Str→Option Value} {name:Str} {v:Value}
theorem Zsv {expr:Bool} {Q:Value→Shared→Prop} (X:K.In s.heap) (I:ObjM s.heap x dx C mA) (hg:PySem.W.plainGet K C name=true) (hh:PySem.W.hasDictIn K C=true)
    (ha:PySem.W.findIn K (.ref C) name=some none) (hv:mA name=some v) (hv':PySem.W.handedIn v=true) (h:Q v { s with toks:=s.toks+1 }) :
    wpAny (model prog w) A (getAttr (.ref x) name expr) Q E s:=by
  obtain ⟨od,J,hl⟩:=I.look
  exact PySem.W.get_value X J (PySem.W.plainGet_of hg).1 (PySem.W.findObj_own hh ha rfl (by rw [hl,hv])) hv' h
theorem ZrM {ns:List Str} {Q:Unit→Shared→Prop} (X:K.In s.heap) (I:ObjM s.heap x dx C mA)
    (hs:PySem.W.findIn K (.ref C) "__setattr__"=some (some (.builtin "object.__setattr__"))) (hp:PySem.W.plainOver K C=true) (ht:PySem.W.takerIn K C name=some none) (hh:PySem.W.hasDictIn K C=true)
    (hw:PySem.Within mA ns) (hsz:ns.length≤sizeLine)
    (h:∀h',ObjM h' x dx C (fun y=>if y=name then some v else mA y)→Heap.SameBut dx s.heap h'→Q () { s with heap:=h',toks:=s.toks+2 }) :
    wpAny (model prog w) A (setAttr (.ref x) name v) Q E s:=by
  obtain ⟨od,J,hl⟩:=I.look
  refine PySem.W.set_plain X J hs (PySem.W.osa_open (s:={ s with toks:=s.toks+1 }) (r:=none) X J hp ht fun b=>?_)
  obtain ⟨cd,hc,hd'⟩:=PySem.W.any_some hh
  have hx:s.heap.get? x=some ⟨.ref C,some dx,.plain,#[]⟩:=I.obj
  refine wpAny_bind (wpAny_pure (wpAny_bind (wpAny_bind (wpAny_loadPart hx (wpAny_bind (PySem.W.Looks.here (s:={ s with toks:=s.toks+1 }) (PySem.W.looks_clsIn X hc) ?_))))))
  rw [hd']
  refine wpAny_pure (a:=some dx) (wpAny_bind (wpAny_pure (wpAny_bind ?_)))
  refine wpAny_nsSet1 (s:={ s with toks:=s.toks+1 }) I.ns fun h' hn2 hs2=>?_
  obtain ⟨oD,esD,epD,hoD,hdD,hcD⟩:=hn2.count (PySem.Within.cons name v hw)
  refine wpAny_bind (wpAny_lookBehind hoD (by rw [hdD]; exact pastItsLine_dict (Nat.le_trans hcD (by rw [List.length_cons]; omega))) ?_)
  exact wpAny_pure (h _ ⟨(hs2.2 _ (Ne.symm I.ne)).trans I.obj,hn2,I.ne⟩ hs2)
theorem Zqy {R:Result→Shared→Prop} {vs:List Value} {kw:List (Str×Value)} (X:K.In s.heap) (hm:PySem.W.makesIn K C=true)
    (hi:PySem.W.findIn K (.ref C) "__init__"=some (some (.ref f))) (hf:PySem.W.typeIn K (.ref f)=some (.type "function"))
    (h:codeAny (model prog w) (A.under (.builtin "type.__call__" ⟨.ref C::vs,kw⟩)) (.call (.ref f) ⟨.ref (s.heap.objs.size+1)::vs,kw⟩) (PySem.W.InitBack (s.heap.objs.size+1) R)
      { s with heap:=(s.heap.push PySem.W.emptyDict).push (PySem.W.instObj C s.heap.objs.size) }) :
    codeAny (model prog w) A (.call (.ref C) ⟨vs,kw⟩) R s:=by
  obtain ⟨hh,g,d,t,os⟩:=s
  exact PySem.W.make_core (PySem.W.makes_of X hm) (PySem.W.looks_findIn X hi) (fun self=>PySem.W.bind_fn X self hf) (.inl rfl) h
end
def ZdM (f:Str) (v:V):List (Str×V)→List (Str×V)
  | []=>[(f,v)]
  | (g,x)::r=>if g=f then (g,v)::r else (g,x)::ZdM f v r
theorem ZgU (f g:Str) (v:V):∀fs:List (Str×V),(ZdM f v fs).lookup g=if g=f then some v else fs.lookup g
  | []=>by
    show List.lookup g [(f,v)]=_
    by_cases h:g=f
    · have hb:(g == f)=true:=beq_iff_eq.mpr h
      simp only [List.lookup,hb,if_pos h]
    · have hb:(g == f)=false:=beq_eq_false_iff_ne.mpr h
      simp only [List.lookup,hb,if_neg h]
  | (k,x)::r=>by
    have ih:=ZgU f g v r
    rw [show ZdM f v ((k,x)::r)=(if k=f then (k,v)::r else (k,x)::ZdM f v r) from rfl]
    by_cases hk:k=f
    · rw [if_pos hk]
      by_cases h:g=k
      · have hb:(g == k)=true:=beq_iff_eq.mpr h
        simp only [List.lookup,hb,if_pos (h.trans hk)]
      · have hb:(g == k)=false:=beq_eq_false_iff_ne.mpr h
        simp only [List.lookup,hb,if_neg (fun e:g=f=>h (e.trans hk.symm))]
    · rw [if_neg hk]
      by_cases h:g=k
      · have hb:(g == k)=true:=beq_iff_eq.mpr h
        simp only [List.lookup,hb,if_neg (fun e:g=f=>hk (h.symm.trans e))]
      · have hb:(g == k)=false:=beq_eq_false_iff_ne.mpr h
        simp only [List.lookup,hb]
        exact ih
theorem ZgD (f:Str) (v:V):∀fs:List (Str×V),f∈(ZdM f v fs).map (·.1)∧∀g,g∈fs.map (·.1)→g∈(ZdM f v fs).map (·.1)
  | []=>⟨by simp [ZdM],fun g h=>by simp at h⟩
  | (k,x)::r=>by
    obtain ⟨i1,i2⟩:=ZgD f v r
    rw [show ZdM f v ((k,x)::r)=(if k=f then (k,v)::r else (k,x)::ZdM f v r) from rfl]
    by_cases hk:k=f
    · rw [if_pos hk]
      subst hk
      exact ⟨by simp,fun g h=>by simpa using h⟩
    · rw [if_neg hk]
      refine ⟨?_,fun g h=>?_⟩
      · rw [List.map_cons]
        exact List.mem_cons_of_mem _ i1
      · rw [List.map_cons] at h ⊢
        rcases List.mem_cons.mp h with e | e
        · exact List.mem_cons.mpr (.inl e)
        · exact List.mem_cons_of_mem _ (i2 g e)
theorem ZgV (f:Str) (v:V):∀fs:List (Str×V),(ZdM f v fs).length≤fs.length+1
  | []=>by simp [ZdM]
  | (k,x)::r=>by
    have ih:=ZgV f v r
    rw [show ZdM f v ((k,x)::r)=(if k=f then (k,v)::r else (k,x)::ZdM f v r) from rfl]
    by_cases hk:k=f
    · rw [if_pos hk,List.length_cons,List.length_cons]; omega
    · rw [if_neg hk,List.length_cons,List.length_cons]; omega
theorem RelO.some_of {v:V} {o:Option Value} (r:RelO (some v) o):∃u,o=some u∧RelV v u:=by
  cases o with
  | none=>exact (show False from r).elim
  | some u=>exact ⟨u,rfl,r⟩
theorem RelO.none_of {o:Option Value} (r:RelO none o):o=none:=by
  cases o with
  | none=>rfl
  | some u=>exact (show False from r).elim
theorem Zn1 {v:V} {u:Value} (r:RelV v u):PySem.W.handedIn u=true:=by
  cases v with
  | non=>cases (show u=Value.none from r); rfl
  | bl b=>cases (show u=Value.bool b from r); rfl
  | int i=>obtain ⟨t,e⟩:=(show ∃t,u=Value.int i t from r); cases e; rfl
  | str x=>obtain ⟨t,e⟩:=(show ∃t,u=Value.str x t from r); cases e; rfl
  | byt b=>obtain ⟨t,e⟩:=(show ∃t,u=Value.bytes b t from r); cases e; rfl
  | flt b=>obtain ⟨t,e⟩:=(show ∃t,u=Value.float b t from r); cases e; rfl
  | ref a=>cases (show u=Value.ref a from r); rfl
  | ty n=>cases (show u=Value.type n from r); rfl
section
variable {P:Program} {w:World} {H H':Hp} {h h':Heap} {a C dx:Addr} {fs fs':List (Str×V)}
theorem ZjA (hok:HOk P w H h) (e:H a=some (.ins C dx fs)):∃mA,ObjM h a dx C mA∧(∀f,RelO (fs.lookup f) (mA f))∧PySem.Within mA (fs.map (·.1))∧fs.length≤1000∧H dx=some (.own a):=by
  obtain ⟨d,z,ne,ob,mA,n,r,q⟩:=(show ObjOk P w H h a (.ins C dx fs) from hok a _ e)
  exact ⟨mA,⟨ob,n,ne⟩,r,q,z,d⟩
end
structure Cls (K:PySem.W.Frag) (C:Addr):Prop where
  pg:PySem.W.plainGet K C Str.empty=true
  hd:PySem.W.hasDictIn K C=true
  po:PySem.W.plainOver K C=true
  sa:PySem.W.findIn K (.ref C) "__setattr__"=some (some (.builtin "object.__setattr__"))
theorem Cls.get {K:PySem.W.Frag} {C:Addr} (c:Cls K C) (f:Str):PySem.W.plainGet K C f=true:=c.pg
def NoAttr (K:PySem.W.Frag) (C:Addr) (f:Str):Prop:=PySem.W.findIn K (.ref C) f=some none
theorem NoAttr.taker {K:PySem.W.Frag} {C:Addr} {f:Str} (n:NoAttr K C f):PySem.W.takerIn K C f=some none:=by
  unfold PySem.W.takerIn
  rw [show PySem.W.findIn K (.ref C) f=some none from n]
  rfl
structure Con (K:PySem.W.Frag) (C:Addr) (f:Str) (v:V) (u:Value):Prop where
  at_:PySem.W.findIn K (.ref C) f=some (some u)
  rel:RelV v u
  get:PySem.W.specialIn K u "__get__"=some none
  cp:PySem.W.copiedNames.contains f=false
structure ZzZ (K:PySem.W.Frag) (C:Addr) (m:Str) (f:Addr):Prop where
  at_:PySem.W.findIn K (.ref C) m=some (some (.ref f))
  fn:PySem.W.isFn K (.ref f)=true
  kp:PySem.W.keepIn K (.ref f)=true
section
variable {X:Cx} {pins:List (Addr×Obj)} {σ:St} {H:Hp} {s:Shared} {a C dx:Addr} {fs:List (Str×V)} {f:Str} {v:V} {A:Around} {E:Value→Shared→Prop}
theorem ZmA {b:Bool} {Q:Value→Shared→Prop} (I:Inv X pins σ H s) (e:H a=some (.ins C dx fs)) (c:Cls X.K C) (n:NoAttr X.K C f) (l:fs.lookup f=some v)
    (h:∀u s',Inv X pins σ H s'→RelV v u→Q u s'):wpAny (model X.prog X.w) A (getAttr (.ref a) f b) Q E s:=by
  obtain ⟨mA,O,r,_,_,_⟩:=ZjA I.hok e
  obtain ⟨u,hu,ru⟩:=RelO.some_of (v:=v) (o:=mA f) (by rw [←l]; exact r f)
  exact Zsv I.kIn O (c.get f) c.hd n hu (Zn1 ru) (h u _ (I.tok _) ru)
theorem Zmj {y:V} {u:Value} {Q:Unit→Shared→Prop} (I:Inv X pins σ H s) (e:H a=some (.ins C dx fs)) (c:Cls X.K C) (n:NoAttr X.K C f) (hl:fs.length<1000) (ry:RelV y u)
    (h:∀s',Inv X pins σ (upd H a (.ins C dx (ZdM f y fs))) s'→Q () s'):wpAny (model X.prog X.w) A (setAttr (.ref a) f u) Q E s:=by
  obtain ⟨mA,O,r,wi,_,ho⟩:=ZjA I.hok e
  have hz:(fs.map (·.1)).length≤sizeLine:=by rw [List.length_map,sizeLine_eq]; omega
  refine ZrM I.kIn O c.sa c.po n.taker c.hd wi hz fun h' O' sb=>h _ ?_
  have hd:∃o,h'.get? dx=some o:=let ⟨o,_,_,e',_⟩:=O'.ns; ⟨o,e'⟩
  refine I.write (x:=a) (e:=dx) (by rw [e]; exact True.intro) (.inr ho) (fun b q hb z=>(sb.2 b hb).trans z) hd ?_
  refine ⟨by rw [ZT O.ne]; exact ho,?_,O.ne,O'.obj,_,O'.ns,fun g=>?_,fun g hg=>?_⟩
  · have:=ZgV f y fs; omega
  · show RelO ((ZdM f y fs).lookup g) (if g=f then some u else mA g)
    rw [ZgU]
    by_cases q:g=f
    · rw [if_pos q,if_pos q]; exact ry
    · rw [if_neg q,if_neg q]; exact r g
  · by_cases q:g=f
    · rw [q]; exact (ZgD f y fs).1
    · refine (ZgD f y fs).2 g (wi g fun z=>hg ?_)
      show (if g=f then some u else mA g)=none
      rw [if_neg q]; exact z
theorem Inv.made (I:Inv X pins σ H s):Inv X pins σ (upd (upd H s.heap.objs.size (.own (s.heap.objs.size+1))) (s.heap.objs.size+1) (.ins C s.heap.objs.size []))
    { s with heap:=(s.heap.push PySem.W.emptyDict).push (PySem.W.instObj C s.heap.objs.size) }:=by
  have e1:(s.heap.push PySem.W.emptyDict).get? s.heap.objs.size=some PySem.W.emptyDict:=Heap.get?_push_size s.heap rfl
  have e2:((s.heap.push PySem.W.emptyDict).push (PySem.W.instObj C s.heap.objs.size)).get? (s.heap.objs.size+1)=some (PySem.W.instObj C s.heap.objs.size):=by
    have:=Heap.get?_push_size (s.heap.push PySem.W.emptyDict) (o:=PySem.W.instObj C s.heap.objs.size) rfl
    rwa [Heap.size_push] at this
  have e3:(s.heap.push PySem.W.emptyDict).Ns s.heap.objs.size (fun _=>none):=⟨PySem.W.emptyDict,#[],_,e1,rfl,(fun e he=>absurd he (by simp)),fun _=>rfl⟩
  have I1:=I.laid (a:=s.heap.objs.size) (o:=.own (s.heap.objs.size+1)) (h':=s.heap.push PySem.W.emptyDict) (t':=s.toks) (fun b u q=>Heap.get?_push_of_some _ q) (Nat.le_refl _) ⟨_,e1⟩
  refine I1.laid (a:=s.heap.objs.size+1) (o:=.ins C s.heap.objs.size []) (t':=s.toks) (fun b u q=>Heap.get?_push_of_some _ q) (Nat.le_of_eq (Heap.size_push _ _)) ?_
  have ne:s.heap.objs.size≠s.heap.objs.size+1:=Nat.ne_of_lt (Nat.lt_succ_self _)
  refine ⟨by rw [ZT ne,zJ],Nat.zero_le _,ne,e2,fun _=>none,(Heap.Ns1.of_empty e3).at fun o q=>Heap.get?_push_of_some _ q,fun _=>True.intro,fun y hy=>absurd rfl hy⟩
theorem ZsG {prog:Program} {w:World} {env:Env} {e:Expr} {f:Str} {pos:Pos} {s:Shared} {Q:Value→Shared→Prop} (hb:attributeBase e f env (eval e env)=eval e env)
    (h:wpAny (model prog w) A (eval e env) (fun o s₁=>wpAny (model prog w) A (getAttr o f true) Q E s₁) E s):wpAny (model prog w) A (eval (.Attribute e f pos) env) Q E s:=
  Attribute_any_ h (by rw [arm_eval_Attribute,hb])
end
def Zzm (K:PySem.W.Frag) (ta:TE) (f:Str):TE:=fun σ H Q=>ta σ H fun x H1=>∃a C dx fs v,x=.ref a∧H1 a=some (.ins C dx fs)∧Cls K C∧NoAttr K C f∧fs.lookup f=some v∧Q v H1
def Zzt (K:PySem.W.Frag) (ta tv:TE) (f:Str):TS:=fun D σ H=>tv σ H fun y H1=>ta σ H1 fun x H2=>∃a C dx fs,x=.ref a∧H2 a=some (.ins C dx fs)∧Cls K C∧NoAttr K C f∧fs.length<1000∧
  D.nx σ (upd H2 a (.ins C dx (ZdM f y fs)))
section
variable {X:Cx} {o e value:Expr} {f:Str} {pos pos' tpos:Pos} {ta tv:TE}
theorem Zug (he:PE X e ta) (hb:attributeBase e f X.env (eval e X.env)=eval e X.env):PE X (.Attribute e f pos) (Zzm X.K ta f):=by
  intro pins s σ H Q I h
  refine ZsG hb (thn (he pins s σ H _ I h) fun u s1 ⟨x,H1,I1,rx,a,C,dx,fs,v,ex,ea,c,n,l,q⟩=>?_)
  subst ex
  obtain rfl:u=Value.ref a:=rx
  exact ZmA I1 ea c n l fun u' s2 I2 ru=>⟨v,H1,I2,ru,q⟩
theorem Zt4 (ha:PE X o ta) (hv:PE X value tv) (hs:swapsWith value (some (.Attribute o f pos')) pos.line X.env=pure false):PS X (.Assign [.Attribute o f pos'] value pos) (Zzt X.K ta tv f):=by
  intro pins s σ H D I h
  refine plainObj_wpAny_Assign_Attribute (thn (hv pins s σ H _ I h) fun u s1 ⟨y,H1,I1,ry,q⟩=>thn (ha pins s1 σ H1 _ I1 q) fun ov s2 ⟨x,H2,I2,rx,a,C,dx,fs,ex,ea,c,n,l,q2⟩=>?_) hs
  subst ex
  obtain rfl:ov=Value.ref a:=rx
  exact Zmj I2 ea c n l ry fun s3 I3=>⟨σ,_,I3,q2⟩
end
section
variable {X:Cx} {pins:List (Addr×Obj)} {σ:St} {H:Hp} {s:Shared} {A:Around} {E:Value→Shared→Prop} {Q:Value→Shared→Prop} {c:Value} {b:Bool}
inductive Zgn (K:PySem.W.Frag) (H:Hp):V→Value→Prop where
  | non:Zgn K H .non (.type "NoneType")
  | bl (x:Bool):Zgn K H (.bl x) (.type "bool")
  | int (i:Int):Zgn K H (.int i) (.type "int")
  | str (x:Str):Zgn K H (.str x) (.type "str")
  | flt (x:UInt64):Zgn K H (.flt x) (.type "float")
  | lst {a:Addr} {xs:List V} (e:H a=some (.lst xs)):Zgn K H (.ref a) (.type "list")
  | frz {a:Addr} {o:Obj} {xs:List V} (e:H a=some (.frz o (.lst xs))):Zgn K H (.ref a) (.type "list")
  | tup {a:Addr} {xs:List V} (e:H a=some (.tup xs)):Zgn K H (.ref a) (.type "tuple")
  | dK {a:Addr} {kvs:List (Key×V)} (e:H a=some (.dK kvs)):Zgn K H (.ref a) (.type "dict")
  | dT {a:Addr} {kvs:List (List Key×V)} (e:H a=some (.dT kvs)):Zgn K H (.ref a) (.type "dict")
  | ins {a C dx:Addr} {fs:List (Str×V)} (e:H a=some (.ins C dx fs)) (cl:Cls K C) (ha:PySem.W.findIn K (.ref C) "__class__"=some (some (.builtin "object.__class__")))
      (hn:PySem.W.specialIn K (.builtin "object.__class__") "__get__"=some (some (.builtin "getset_descriptor.__get__"))) (htk:PySem.W.takesIn K (.builtin "object.__class__")=some true)
      (hm:PySem.W.mroIn K C (.type "object")=some true):Zgn K H (.ref a) (.ref C)
theorem ZnW {x:V} {u t:Value} (I:Inv X pins σ H s) (rx:RelV x u) (ty:Zgn X.K H x t) (e:PySem.W.kitOne X.K t c=some b) (h:∀tk,Q (.bool b) { s with toks:=tk }) :
    wpAny (model X.prog X.w) A (call (.builtin "isinstance") [u,c]) Q E s:=by
  cases ty with
  | non=>cases (show u=Value.none from rx); exact PySem.W.kia_one PySem.W.kitx_none I.kIn True.intro e (fun z=>nomatch z) h
  | bl y=>cases (show u=Value.bool y from rx); exact PySem.W.kia_one PySem.W.kitx_bool I.kIn True.intro e (fun z=>nomatch z) h
  | int i=>obtain ⟨t,q⟩:=(show ∃t,u=Value.int i t from rx); cases q; exact PySem.W.kia_one PySem.W.kitx_int I.kIn True.intro e (fun z=>nomatch z) h
  | str y=>obtain ⟨t,q⟩:=(show ∃t,u=Value.str y t from rx); cases q; exact PySem.W.kia_one PySem.W.kitx_str I.kIn True.intro e (fun z=>nomatch z) h
  | flt y=>obtain ⟨t,q⟩:=(show ∃t,u=Value.float y t from rx); cases q; exact PySem.W.kia_one PySem.W.kitx_float I.kIn True.intro e (fun z=>nomatch z) h
  | @lst a xs ea=>
    cases (show u=Value.ref a from rx)
    obtain ⟨_,_,n,_,h1⟩:=(show ObjOk X.prog X.w H s.heap a (.lst xs) from I.hok a _ ea)
    exact PySem.W.kia_one PySem.W.kitx_list I.kIn ⟨_,h1,rfl⟩ e (fun z=>nomatch z) h
  | @frz a ob xs ea=>
    cases (show u=Value.ref a from rx)
    obtain ⟨_,_,_,n,_,h1⟩:=(show ObjOk X.prog X.w H s.heap a (.frz ob (.lst xs)) from I.hok a _ ea)
    exact PySem.W.kia_one PySem.W.kitx_list I.kIn ⟨_,h1,rfl⟩ e (fun z=>nomatch z) h
  | @tup a xs ea=>
    cases (show u=Value.ref a from rx)
    obtain ⟨_,_,_,p⟩:=(show ObjOk X.prog X.w H s.heap a (.tup xs) from I.hok a _ ea)
    obtain ⟨o,h1,h2,_⟩:=p
    exact PySem.W.kia_one PySem.W.kitx_tuple I.kIn ⟨o,h1,h2⟩ e (fun z=>nomatch z) h
  | @dK a kvs ea=>
    cases (show u=Value.ref a from rx)
    obtain ⟨_,_,vs,_,p⟩:=(show ObjOk X.prog X.w H s.heap a (.dK kvs) from I.hok a _ ea)
    obtain ⟨o,es,ep,h1,h2,_⟩:=p
    exact PySem.W.kia_one PySem.W.kitx_dict I.kIn ⟨o,h1,h2.1⟩ e (fun z=>nomatch z) h
  | @dT a kvs ea=>
    cases (show u=Value.ref a from rx)
    obtain ⟨_,_,xs,_,o,es,ep,h1,h2,_⟩:=(show ObjOk X.prog X.w H s.heap a (.dT kvs) from I.hok a _ ea)
    exact PySem.W.kia_one PySem.W.kitx_dict I.kIn ⟨o,h1,h2.1⟩ e (fun z=>nomatch z) h
  | @ins a C dx fs ea cl ha hn htk hm=>
    cases (show u=Value.ref a from rx)
    obtain ⟨mA,O,_⟩:=ZjA I.hok ea
    obtain ⟨od,J,_⟩:=O.look
    exact PySem.W.kia_one (PySem.W.kitx_own (cl.get _) cl.hd ha hn htk hm) I.kIn J e (fun z=>nomatch z) h
end
end L2
namespace L2
open PySem PySem.Spec PyProof.Rows
structure Room (k:Nat) (A:Around):Prop where
  hd:A.handled=none
  dp:A.depth+3*k+5<recursionLimit
  un:A.units+16*k+200<cLine
theorem Room.mono {j k:Nat} {A:Around} (r:Room k A) (h:j≤k):Room j A:=⟨r.hd,by have:=r.dp; omega,by have:=r.un; omega⟩
theorem Room.deeper {k:Nat} {A:Around} (r:Room (k+1) A) (env:Env):Room k (A.deeper env):=
  ⟨r.hd,by have:=r.dp; show A.depth+1+3*k+5<_; omega,by have:=r.un; show A.units+3+16*k+200<_; omega⟩
theorem Zmt {A:Around} {C:Addr} {us:List Value} {kw:List (Str×Value)}:(A.under (.builtin "type.__call__" ⟨.ref C::us,kw⟩)).depth=A.depth+1:=by
  first | rfl | simp [Around.under,Code.weight,Code.isCreation,Code.isGuard,Code.isCaller,Code.frames,Code.isFrame,guardIds]
theorem Zms {A:Around} {C:Addr} {us:List Value} {kw:List (Str×Value)}:(A.under (.builtin "type.__call__" ⟨.ref C::us,kw⟩)).units=A.units+1:=by
  first | rfl | simp [Around.under,Code.cUnits,Code.frames,Code.isFrame]
theorem Room.make {k:Nat} {A:Around} (r:Room (k+1) A) (C:Addr) (us:List Value) (kw:List (Str×Value)):Room k (A.under (.builtin "type.__call__" ⟨.ref C::us,kw⟩)):=
  ⟨r.hd,by have:=r.dp; rw [Zmt]; omega,by have:=r.un; rw [Zms]; omega⟩
theorem Room.depth {k:Nat} {A:Around} (r:Room k A):A.depth<recursionLimit:=by have:=r.dp; omega
theorem Room.units {k:Nat} {A:Around} (r:Room k A):A.units+64<cLine:=by have:=r.un; omega
def ZtN:TA:=fun _ H Q=>Q [] H
def Zs1 (ta:TE) (tr:TA):TA:=fun σ H Q=>ta σ H fun x H1=>tr σ H1 fun xs H2=>Q (x::xs) H2
section
variable {X:Cx} {e:Expr} {es:List Expr} {te:TE} {t:TA} {pos:Pos}
theorem Zmn:PA X [] ZtN:=fun _ _ _ _ H Q I h=>Calls.spliced_nil ⟨[],H,I,.nil,h⟩
theorem Zjs (ha:PE X e te) (hr:PA X es t) (hs:starEach (e::es) X.env=(false,eval e X.env)::starEach es X.env:=by rfl):PA X (e::es) (Zs1 te t):=by
  intro pos pins s σ H Q I h
  rw [hs]
  show wpAny _ _ (spliced ((false,eval e X.env)::backTo pos (starEach es X.env))) _ _ s
  refine Calls.spliced_cons (thn (ha pins s σ H _ I h) fun u s1 ⟨x,H1,I1,r1,q1⟩=>?_)
  exact thn (hr pos pins s1 σ H1 _ I1 q1) fun us s2 ⟨xs,H2,I2,r2,q2⟩=>⟨x::xs,H2,I2,.cons r1 r2,q2⟩
def Zzd (t:TA):TE:=fun σ H Q=>t σ H fun xs H1=>xs.length≤sizeLine∧∀p,H1 p=none→Q (.ref p) (upd H1 p (.tup xs))
def Zzj (t:TA):TE:=fun σ H Q=>t σ H fun xs H1=>xs.length≤sizeLine∧∀p,H1 p=none→Q (.ref p) (upd H1 p (.lst xs))
theorem Zub {x1} (h:PA X es t):PE X (.Tuple es x1 pos) (Zzd t):=by
  intro pins s σ H Q I hq
  refine wpAny_Tuple_spliced (thn (h pos pins s σ H _ I hq) fun us s1 ⟨xs,H1,I1,r,z,q⟩=>⟨by rw [←r.length]; exact z,?_⟩)
  have hf:H1 s1.heap.objs.size=none:=I1.hok.fresh (Nat.le_refl _)
  refine ⟨.ref s1.heap.objs.size,upd H1 s1.heap.objs.size (.tup xs),I1.laid (t':=s1.toks) (fun b u e=>Heap.get?_push_of_some _ e) (Nat.le_refl _) ?_,rfl,q _ hf⟩
  exact ⟨z,us,r,⟨_,Heap.get?_push_size _ rfl,rfl,_,rfl⟩⟩
theorem Zp5 (h:PA X es t):PE X (.List es pos) (Zzj t):=by
  intro pins s σ H Q I hq
  refine wpAny_List_spliced (thn (h pos pins s σ H _ I hq) fun us s1 ⟨xs,H1,I1,r,z,q⟩=>⟨by rw [←r.length]; exact z,?_⟩)
  have hf:H1 s1.heap.objs.size=none:=I1.hok.fresh (Nat.le_refl _)
  refine ⟨.ref s1.heap.objs.size,upd H1 s1.heap.objs.size (.lst xs),I1.laid (t':=s1.toks) (fun b u e=>Heap.get?_push_of_some _ e) (Nat.le_refl _) ?_,rfl,q _ hf⟩
  exact ⟨z,us,0,r,Heap.get?_push_size _ rfl⟩
end
abbrev Sp:=List V→Hp→VK→XK→Prop
abbrev CXT:=List Env→Hp→Shared→XK→Value→Shared→Prop
structure Env0 (P:Program) (w:World) (K:PySem.W.Frag) (mg:Str→Option Value) (base:Heap) (A:Around) (outer:List Env) (s:Shared) (H:Hp):Prop where
  frames:A.frames=some outer
  mod:Mod K mg base
  bs:∀b o,base.get? b=some o→s.heap.get? b=some o∧H b=none
  bsz:base.objs.size≤s.heap.objs.size
  funs:s.heap.FunFrames base outer
  frf:∀b∈frs outer,H b=none
  hok:HOk P w H s.heap
  bare:AllBare s.gens
def CE (outer:List Env) (P:Program) (w:World) (H:Hp) (s:Shared) (Q:VK) (u:Value) (s':Shared):Prop:=
  ∃v H',s'.os=s.os∧AllBare s'.gens∧Un (frs outer) [] H H' s.heap s'.heap∧HOk P w H' s'.heap∧RelV v u∧Q v H'
def CR (CX:CXT) (outer:List Env) (P:Program) (w:World) (H:Hp) (s:Shared) (Q:VK) (E:XK) (r:Result) (s':Shared):Prop:=
  match r with
  | .ok (.ret u)=>CE outer P w H s Q u s'
  | .ok _=>False
  | .error e=>CX outer H s E e s'
structure FnOk (P:Program) (w:World) (K:PySem.W.Frag) (mg:Str→Option Value) (base:Heap) (CX:CXT) (k:Nat) (f:Addr) (fd:FuncData) (ps:List Str) (sp:Sp):Prop where
  len:∀vs H Q E,sp vs H Q E→vs.length=ps.length
  run:∀(A:Around) (outer:List Env) (s:Shared) (H:Hp) (args:Args) (us:List Value) (vs:List V) (Q:VK) (E:XK),Room k A→Env0 P w K mg base A outer s H→BindsTo s fd args (ps.zip us)→Vals vs us→sp vs H Q E→
    codeAny (model P w) A (.call (.ref f) args) (CR CX outer P w H s Q E) s
theorem FnOk.imp {P:Program} {w:World} {K:PySem.W.Frag} {mg:Str→Option Value} {base:Heap} {CX:CXT} {k:Nat} {f:Addr} {fd:FuncData} {ps:List Str} {sp sp':Sp} (F:FnOk P w K mg base CX k f fd ps sp)
    (h:∀vs H Q E,sp' vs H Q E→sp vs H Q E):FnOk P w K mg base CX k f fd ps sp':=
  ⟨fun vs H Q E q=>F.len vs H Q E (h _ _ _ _ q),fun A outer s H args us vs Q E hr he hb hv hs=>F.run A outer s H args us vs Q E hr he hb hv (h _ _ _ _ hs)⟩
theorem Env0.make {P:Program} {w:World} {K:PySem.W.Frag} {mg:Str→Option Value} {base:Heap} {A:Around} {outer:List Env} {s:Shared} {H:Hp} (e:Env0 P w K mg base A outer s H) (C:Addr) (us:List Value) (kw:List (Str×Value)) :
    Env0 P w K mg base (A.under (.builtin "type.__call__" ⟨.ref C::us,kw⟩)) outer s H:=⟨by first | exact e.frames | (simpa [Around.under,Code.envs,Code.isFrame,pushEnvs] using e.frames),e.mod,e.bs,e.bsz,e.funs,e.frf,e.hok,e.bare⟩
section
variable {X:Cx} {pins:List (Addr×Obj)} {σ:St} {H:Hp} {s s':Shared}
theorem Inv.env0 (I:Inv X pins σ H s):Env0 X.prog X.w X.K X.mg X.base X.A X.stack s H:=
  ⟨I.ok.frames,I.ok.mod,I.bs,Nat.le_trans I.ok.bsz I.sz,I.stack,I.stkFree,I.hok,I.bare⟩
theorem Inv.after {Q:VK} {u:Value} (I:Inv X pins σ H s) (h:CE X.stack X.prog X.w H s Q u s'):EP X pins σ Q u s':=by
  obtain ⟨v,H',os,bare,un,hok,r,q⟩:=h
  obtain ⟨hh,g,d,t,os'⟩:=s'
  obtain rfl:os'=s.os:=os
  exact ⟨v,H',I.call (h':=hh) (g':=g) (d':=d) (t':=t) (ch:=[]) un hok bare (fun b z=>absurd z (by simp)),r,q⟩
end
def Zs2 (sp:Sp) (dvs:List V) (E:XK) (t:TA):TE:=fun σ H Q=>t σ H fun vs H1=>sp (vs++dvs) H1 Q E
def ZsZ (C:Addr) (sp:Sp) (dvs:List V) (E:XK) (t:TA):TE:=fun σ H Q=>t σ H fun vs H1=>∀x dx,H1 x=none→H1 dx=none→dx≠x→
  sp (.ref x::(vs++dvs)) (upd (upd H1 dx (.own x)) x (.ins C dx [])) (fun v H2=>v=.non∧Q (.ref x) H2) E
def Binds (K:PySem.W.Frag) (fd:FuncData) (ps:List Str) (ds:List Value):Prop:=
  ∀(s:Shared) (us:List Value),K.In s.heap→(us++ds).length=ps.length→BindsTo s fd ⟨us,[]⟩ (ps.zip (us++ds))
theorem Binds.all {K:PySem.W.Frag} {fd:FuncData} {ps:List Str} (h:∀us:List Value,us.length=ps.length→bindArgs fd ⟨us,[]⟩=pure (ps.zip us)):Binds K fd ps []:=fun s us _ hl=>by
  rw [List.append_nil] at hl ⊢
  exact .of_eq (h us hl)
def ZgQ (CX:CXT) (X:Cx) (E:XK):Prop:=∀(pins:List (Addr×Obj)) (σ:St) (H:Hp) (s:Shared) (e:Value) (s':Shared),Inv X pins σ H s→CX X.stack H s E e s'→X.xe e s'
section
variable {X:Cx} {CX:CXT} {k:Nat} {f C:Addr} {fd:FuncData} {ps:List Str} {sp:Sp} {dvs:List V} {ds:List Value} {E:XK} {x m:Str} {p pos apos:Pos} {e o:Expr} {es:List Expr} {ta:TE} {t:TA}
theorem ZtV {pins:List (Addr×Obj)} {σ:St} {H:Hp} {s:Shared} {Q:VK} {us:List Value} {vs:List V} (F:FnOk X.prog X.w X.K X.mg X.base CX k f fd ps sp) (hr:Room k X.A) (hb:Binds X.K fd ps ds) (hd:Vals dvs ds) (hx:ZgQ CX X E)
    (I:Inv X pins σ H s) (r:Vals vs us) (h:sp (vs++dvs) H Q E):wpAny (model X.prog X.w) X.A (call (.ref f) us) (EP X pins σ Q) X.xe s:=by
  have r2:Vals (vs++dvs) (us++ds):=r.append hd
  have hl:(us++ds).length=ps.length:=by rw [←r2.length]; exact F.len _ _ _ _ h
  refine wpAny_call (codeAny_mono (F.run X.A X.stack s H ⟨us,[]⟩ (us++ds) (vs++dvs) Q E hr I.env0 (hb s us I.kIn hl) r2 h) fun r s' hq=>?_)
  cases r with
  | error e=>exact hx pins σ H s e s' I hq
  | ok fl=>
    cases fl with
    | ret u=>exact I.after hq
    | next=>exact False.elim hq
    | brk=>exact False.elim hq
    | cont=>exact False.elim hq
theorem Zr8 (F:FnOk X.prog X.w X.K X.mg X.base CX k f fd ps sp) (hr:Room k X.A) (hg:Gl X x) (hm:X.mg x=some (.ref f)) (hk:PySem.W.keepIn X.K (.ref f)=true) (hb:Binds X.K fd ps ds) (hd:Vals dvs ds) (hx:ZgQ CX X E)
    (ha:PA X (e::es) t) (hdb:(x == ("__debug__":Str))=false:=by decide) (he:starEach (e::es) X.env=(false,eval e X.env)::starEach es X.env:=by rfl) (hpl:(backTo pos (starEach es X.env)).any (·.1)=false:=by rfl) :
    PE X (.Call (.Name x p) (e::es) [] pos) (Zs2 sp dvs E t):=by
  intro pins s σ H Q I h
  refine wpAny_Call_Name_kw (Zhn I hg hm ?_ hdb)
  refine PySem.W.callWith_K (h₀:=X.base) I.ok.mod.kin hk (thn (ha pos pins s σ H _ I h) fun us s1 ⟨vs,H1,I1,r,q⟩=>⟨I1.kIn,?_⟩) he hpl
  exact ZtV F hr hb hd hx I1 r q
structure Mk (K:PySem.W.Frag) (C f:Addr):Prop where
  makes:PySem.W.makesIn K C=true
  init:PySem.W.findIn K (.ref C) "__init__"=some (some (.ref f))
  fn:PySem.W.isFn K (.ref f)=true
  kp:PySem.W.keepIn K (.ref C)=true
theorem Zlt {pins:List (Addr×Obj)} {σ:St} {H:Hp} {s:Shared} {Q:VK} {us:List Value} {vs:List V} (M:Mk X.K C f) (F:FnOk X.prog X.w X.K X.mg X.base CX k f fd ps sp) (hr:Room (k+1) X.A) (hb:Binds X.K fd ps ds) (hd:Vals dvs ds)
    (hx:ZgQ CX X E) (I:Inv X pins σ H s) (r:Vals vs us)
    (h:∀x dx,H x=none→H dx=none→dx≠x→sp (.ref x::(vs++dvs)) (upd (upd H dx (.own x)) x (.ins C dx [])) (fun v H2=>v=.non∧Q (.ref x) H2) E) :
    wpAny (model X.prog X.w) X.A (call (.ref C) us) (EP X pins σ Q) X.xe s:=by
  have hq:=h (s.heap.objs.size+1) s.heap.objs.size (I.hok.fresh (Nat.le_succ _)) (I.hok.fresh (Nat.le_refl _)) (Nat.ne_of_lt (Nat.lt_succ_self _))
  have I2:=Inv.made (C:=C) I
  have r2:Vals (V.ref (s.heap.objs.size+1)::(vs++dvs)) (Value.ref (s.heap.objs.size+1)::(us++ds)):=.cons rfl (r.append hd)
  have hl:(Value.ref (s.heap.objs.size+1)::us++ds).length=ps.length:=by
    have e:=r2.length
    rw [F.len _ _ _ _ hq] at e
    exact e.symm
  refine wpAny_call (Zqy (f:=f) I.kIn M.makes M.init (beq_iff_eq.mp M.fn) (codeAny_mono (F.run _ X.stack _ _ ⟨Value.ref (s.heap.objs.size+1)::us,[]⟩ (Value.ref (s.heap.objs.size+1)::(us++ds)) _ _ E (hr.make C us [])
    (I2.env0.make C us []) (hb _ (Value.ref (s.heap.objs.size+1)::us) I2.kIn hl) r2 hq) fun r s' hq'=>?_))
  cases r with
  | error e=>exact hx pins σ _ _ e s' I2 hq'
  | ok fl=>
    cases fl with
    | ret u=>
      obtain ⟨v,H',I3,rv,ev,q3⟩:=I2.after hq'
      subst ev
      exact ⟨rv,⟨V.ref (s.heap.objs.size+1),H',I3,rfl,q3⟩⟩
    | next=>exact False.elim hq'
    | brk=>exact False.elim hq'
    | cont=>exact False.elim hq'
theorem Zr5 (M:Mk X.K C f) (F:FnOk X.prog X.w X.K X.mg X.base CX k f fd ps sp) (hr:Room (k+1) X.A) (hg:Gl X x) (hm:X.mg x=some (.ref C)) (hb:Binds X.K fd ps ds) (hd:Vals dvs ds) (hx:ZgQ CX X E)
    (ha:PA X (e::es) t) (hdb:(x == ("__debug__":Str))=false:=by decide) (he:starEach (e::es) X.env=(false,eval e X.env)::starEach es X.env:=by rfl) (hpl:(backTo pos (starEach es X.env)).any (·.1)=false:=by rfl) :
    PE X (.Call (.Name x p) (e::es) [] pos) (ZsZ C sp dvs E t):=by
  intro pins s σ H Q I h
  refine wpAny_Call_Name_kw (Zhn I hg hm ?_ hdb)
  refine PySem.W.callWith_K (h₀:=X.base) I.ok.mod.kin M.kp (thn (ha pos pins s σ H _ I h) fun us s1 ⟨vs,H1,I1,r,q⟩=>⟨I1.kIn,?_⟩) he hpl
  exact Zlt M F hr hb hd hx I1 r q
theorem Zp4 (M:Mk X.K C f) (F:FnOk X.prog X.w X.K X.mg X.base CX k f fd ps sp) (hr:Room (k+1) X.A) (hg:Gl X x) (hm:X.mg x=some (.ref C)) (hb:Binds X.K fd ps ds) (hd:Vals dvs ds) (hx:ZgQ CX X E)
    (hdb:(x == ("__debug__":Str))=false:=by decide):PE X (.Call (.Name x p) [] [] pos) (ZsZ C sp dvs E ZtN):=by
  intro pins s σ H Q I h
  refine wpAny_Call_Name_kw (Zhn I hg hm ?_ hdb)
  exact PySem.W.callWith_K0 I.kIn M.kp (Zlt (us:=[]) M F hr hb hd hx I .nil h)
end
section
variable {X:Cx} {CX:CXT} {k:Nat} {f C:Addr} {fd:FuncData} {ps ks:List Str} {sp:Sp} {E:XK} {x m:Str} {p pos apos kpos:Pos} {e o:Expr} {es:List Expr} {kws:List Keyword} {te ta:TE} {t tk:TA} {nm:Option Str}
structure Zz1 (K:PySem.W.Frag) (fd:FuncData) (ps ks:List Str) (g:List Value→List Value→List Value) (gV:List V→List V→List V):Prop where
  to:∀(s:Shared) (us ws:List Value),K.In s.heap→(g us ws).length=ps.length→BindsTo s fd ⟨us,ks.zip ws⟩ (ps.zip (g us ws))
  rel:∀{vs:List V} {us:List Value} {zs:List V} {ws:List Value},Vals vs us→Vals zs ws→Vals (gV vs zs) (g us ws)
variable {g:List Value→List Value→List Value} {gV:List V→List V→List V}
end
structure Zs (N P:List Str) (sc:Scope):Prop where
  kind:sc.kind=.function
  co:sc.isCoroutine=false
  gen:sc.isGenerator=false
  nd:N.Nodup
  pre:N.take P.length=P
  par:∀x∈P,sc.names.lookup x=some .local∨sc.names.lookup x=some .cell
  nofree:∀y∈sc.names,y.2≠.free
theorem Zja {kindOf:Str→Option NameKind} {x:Str}:∀{binds:List (Str×Value)} {m:Str→Option Value},(∀v,(x,v)∉binds)→bindL kindOf binds m x=m x
  | [],_,_=>rfl
  | (n,v)::r,m,h=>by
    unfold bindL
    rw [Zja fun w hw=>h w (List.mem_cons_of_mem _ hw)]
    split
    · have:x≠n:=by rintro rfl; exact h v List.mem_cons_self
      simp [this]
    · rfl
theorem Zjc {kindOf:Str→Option NameKind} {x:Str}:∀{binds:List (Str×Value)} {m:Str→Option Value},(∀v,(x,v)∉binds)→bindC kindOf binds m x=m x
  | [],_,_=>rfl
  | (n,v)::r,m,h=>by
    unfold bindC
    rw [Zjc fun w hw=>h w (List.mem_cons_of_mem _ hw)]
    split
    · rfl
    · have:x≠n:=by rintro rfl; exact h v List.mem_cons_self
      simp [this]
theorem Zjb {kindOf:Str→Option NameKind} {x:Str} {v:Value}:∀{P:List Str} {vs:List Value} {i:Nat} {m:Str→Option Value},P.Nodup→P[i]?=some x→vs[i]?=some v→kindOf x=some .local→
    bindL kindOf (P.zip vs) m x=some v
  | [],_,_,_,_,h,_,_=>by simp at h
  | _::_,[],_,_,_,_,h,_=>by simp at h
  | p::P,w::vs,0,m,nd,h1,h2,hk=>by
    simp at h1 h2; subst h1; subst h2
    show bindL kindOf ((p,w)::P.zip vs) m p=_
    unfold bindL
    rw [Zja fun v hv=>(List.nodup_cons.mp nd).1 (List.of_mem_zip hv).1,if_pos hk]
    simp
  | p::P,w::vs,i+1,m,nd,h1,h2,hk=>by
    show bindL kindOf ((p,w)::P.zip vs) m x=_
    unfold bindL
    exact Zjb (i:=i) (List.nodup_cons.mp nd).2 (by simpa using h1) (by simpa using h2) hk
theorem Zjd {kindOf:Str→Option NameKind} {x:Str} {v:Value}:∀{P:List Str} {vs:List Value} {i:Nat} {m:Str→Option Value},P.Nodup→P[i]?=some x→vs[i]?=some v→kindOf x≠some .local→
    bindC kindOf (P.zip vs) m x=some v
  | [],_,_,_,_,h,_,_=>by simp at h
  | _::_,[],_,_,_,_,h,_=>by simp at h
  | p::P,w::vs,0,m,nd,h1,h2,hk=>by
    simp at h1 h2; subst h1; subst h2
    show bindC kindOf ((p,w)::P.zip vs) m p=_
    unfold bindC
    rw [Zjc fun v hv=>(List.nodup_cons.mp nd).1 (List.of_mem_zip hv).1,if_neg hk]
    simp
  | p::P,w::vs,i+1,m,nd,h1,h2,hk=>by
    show bindC kindOf ((p,w)::P.zip vs) m x=_
    unfold bindC
    exact Zjd (i:=i) (List.nodup_cons.mp nd).2 (by simpa using h1) (by simpa using h2) hk
def Zes (N:List Str) (vs:List V):St:=vs.map some++List.replicate (N.length-vs.length) none
def Zh7 (CX:CXT) (P:Program) (w:World) (K:PySem.W.Frag) (mg:Str→Option Value) (base:Heap) (N:List Str) (qual:Str) (scope:Scope) (f:Addr) (cd:Value) (A:Around) (outer:List Env) (s:Shared) (H:Hp) (E:XK):Cx where
  prog:=P
  w:=w
  K:=K
  mg:=mg
  base:=base
  A:=A.deeper (envOfC qual scope s.heap.objs.size f cd)
  N:=N
  s₀:=s
  H₀:=H
  env:=envOfC qual scope s.heap.objs.size f cd
  outer:=outer
  stack:=envOfC qual scope s.heap.objs.size f cd::outer
  ex:=[]
  calm:=true
  fn:=fun _=>true
  pn:=[]
  xe:=fun e s'=>wpAny (model P w) (A.deeper (envOfC qual scope s.heap.objs.size f cd)) (leaving (envOfC qual scope s.heap.objs.size f cd) e) (fun _ s''=>CX outer H s E e s'') (fun e' s''=>CX outer H s E e' s'') s'
theorem Zl3 {sc:Scope} {n:Nat} {x:Str} (h:sc.names.lookup x=some .cell):∃c,(cellsFrom n sc.names []).lookup x=some c:=by
  have q:=PySem.W.cellsFrom_some sc.names n [] (.inl h)
  exact Option.isSome_iff_exists.mp q
theorem ZnX {CX:CXT} {P:Program} {w:World} {K:PySem.W.Frag} {mg:Str→Option Value} {base:Heap} {N ps:List Str} {qual:Str} {scope:Scope} {f:Addr} {cd:Value} {A:Around} {outer:List Env} {s s1:Shared} {H:Hp} {E:XK} {us:List Value} {vs:List V}
    (S:Zs N ps scope) (hd:A.handled=none) (e0:Env0 P w K mg base A outer s H) (hl:vs.length=ps.length) (r:Vals vs us)
    (x:InCallC s s.heap.objs.size (bindL (envOfC qual scope s.heap.objs.size f cd).kindOf (ps.zip us) fun _=>none) (cellsFrom (s.heap.objs.size+1) scope.names []) (bindC (envOfC qual scope s.heap.objs.size f cd).kindOf (ps.zip us) fun _=>none) s1) :
    Inv (Zh7 CX P w K mg base N qual scope f cd A outer s H E) [] (Zes N vs) H s1:=by
  have hpl:ps.length≤N.length:=by have:=congrArg List.length S.pre; rw [List.length_take] at this; omega
  obtain ⟨h1,tk,rfl,hk⟩:=x.done
  have noA:∀b:Addr,b∉(Zh7 CX P w K mg base N qual scope f cd A outer s H E).ex:=fun b z=>absurd (show b∈([]:List Addr) from z) (by simp)
  refine ⟨⟨e0.mod,S.kind,rfl,rfl,Nat.le_refl _,fun y z c h1 h2=>?_,fun y hy=>?_,fun y c _ h=>?_,fun _=>hd,Around.frames_deeper e0.frames,.inr ⟨rfl,rfl⟩,fun b z=>absurd z (noA b),e0.bs,e0.bsz,fun b _ _=>noA b,fun b z=>absurd z (noA b),e0.funs,e0.frf⟩,
    rfl,e0.bare,Un.kept hk,⟨_,x.toInCall.ns,fun i y v h1 h2 h3=>?_⟩,fun y c h=>⟨_,x.cell y c h⟩,e0.hok.fresh (Nat.le_refl _),fun y c h=>?_,fun p hp=>absurd (show p∈([]:List (Addr×Obj)) from hp) (by simp),e0.hok.kept hk,?_⟩
  · exact name_of_addr x.apart (PySem.mem_of_lookup h1) (PySem.mem_of_lookup h2)
  · have hy:scope.names.lookup y=some .cell∨scope.names.lookup y=some .free:=hy
    rcases hy with hy | hy
    · exact Zl3 hy
    · exact absurd rfl (S.nofree _ (PySem.mem_of_lookup hy))
  · exact Nat.le_of_lt (x.above y c (PySem.mem_of_lookup h))
  · have hi:i<vs.length:=by
      unfold Zes at h2
      by_cases hi:i<vs.length
      · exact hi
      · rw [List.getElem?_append_right (by simpa using hi)] at h2
        rw [List.getElem?_replicate] at h2
        split at h2<;>cases h2
    have ha:vs[i]?=some v:=by
      unfold Zes at h2
      rw [List.getElem?_append_left (by simpa using hi),List.getElem?_map] at h2
      cases e:vs[i]? with
      | none=>rw [e] at h2; cases h2
      | some a=>rw [e] at h2; cases h2; rfl
    obtain ⟨u,hu,rv⟩:=r.get ha
    have hp:ps[i]?=some y:=by
      rw [←S.pre,List.getElem?_take_of_lt (by omega)]; exact h1
    have ndP:ps.Nodup:=by rw [←S.pre]; exact S.nd.sublist (List.take_sublist _ _)
    refine ⟨u,rv,?_⟩
    rcases S.par y (List.mem_of_getElem? hp) with k | k
    · exact .inl ⟨k,Zjb ndP hp hu k⟩
    · obtain ⟨c,e⟩:=Zl3 (n:=s.heap.objs.size+1) k
      refine .inr ⟨.inl k,c,e,?_⟩
      have q:=x.cell y c e
      rw [Zjd ndP hp hu (by show scope.names.lookup y≠_; rw [k]; decide)] at q
      exact q
  · exact e0.hok.fresh (Nat.le_of_lt (x.above y c (PySem.mem_of_lookup h)))
  · unfold Zes
    show _=N.length
    rw [List.length_append,List.length_map,List.length_replicate]
    omega
theorem Zwn {CX:CXT} {P:Program} {w:World} {K:PySem.W.Frag} {mg:Str→Option Value} {base:Heap} {k:Nat} {f:Addr} {name qual:Str} {params:Arguments} {body:List Stmt} {scope:Scope} {dV kV doc pm cdv ct oc:Value} {an od:Option Addr}
    {osl:Array (Option Value)} {N ps:List Str} {sp:Sp} (lk:K.lookup f=some ⟨oc,od,.func (PySem.W.fnOf name qual params body scope dV kV doc pm an cdv ct),osl⟩) (hcd:PySem.W.codeIn K cdv qual=true) (S:Zs N ps scope)
    (len:∀vs H Q E,sp vs H Q E→vs.length=ps.length)
    (hbody:∀(A:Around) (outer:List Env) (s:Shared) (H:Hp) (vs:List V) (Q:VK) (E:XK),Room k (A.deeper (envOfC qual scope s.heap.objs.size f cdv))→sp vs H Q E→
      ∃t,PSs (Zh7 CX P w K mg base N qual scope f cdv A outer s H E) body t∧t { nx:=fun _ H'=>Q .non H',rt:=Q } (Zes N vs) H) :
    FnOk P w K mg base CX (k+1) f (PySem.W.fnOf name qual params body scope dV kV doc pm an cdv ct) ps sp:=by
  refine ⟨len,fun A outer s H args us vs Q E hr e0 hb r hsp=>?_⟩
  have hl:=len _ _ _ _ hsp
  have KX:K.In s.heap:=e0.mod.kin.keeps fun b o e=>(e0.bs b o e).1
  have lim:s.heap.NoLimit:=e0.mod.nolimit.keeps fun b o e=>(e0.bs b o e).1
  have hkind:∀y∈ps.zip us,scope.names.lookup y.1=some .local∨(scope.names.lookup y.1=some .cell∧((cellsFrom (s.heap.objs.size+1) scope.names []).lookup y.1).isSome=true):=fun ⟨n,v⟩ hy=>by
    rcases S.par n (List.of_mem_zip hy).1 with q | q
    · exact .inl q
    · exact .inr ⟨q,PySem.W.cellsFrom_some _ _ _ (.inl q)⟩
  refine codeAny_call_function hr.depth (KX _ _ lk) rfl S.co S.gen rfl (PySem.W.codeRec_of KX hcd) (hb _ _ _ _ ?_)
  refine wpAny_newFunctionEnv_cells S.kind hkind fun env he s1 x=>?_
  subst he
  refine ⟨lim.keeps x.toInCall.keep,codeAny_func ?_⟩
  obtain ⟨t,ht,hq⟩:=hbody A outer s H vs Q E (hr.deeper _) hsp
  have I:Inv (Zh7 CX P w K mg base N qual scope f cdv A outer s H E) [] (Zes N vs) H s1:=ZnX S hr.hd e0 hl r x
  refine wpAny_mono (ht [] s1 (Zes N vs) H _ I hq) (fun fl s' hs=>?_) fun e s' hs=>hs
  have fin:∀{σ':St} {H':Hp} {v:V} {u:Value},Inv (Zh7 CX P w K mg base N qual scope f cdv A outer s H E) [] σ' H' s'→RelV v u→Q v H'→CE outer P w H s Q u s':=
    fun {σ' H' v u} J rv q=>⟨v,H',J.os,J.bare,J.base,J.hok,rv,q⟩
  cases fl with
  | ret u=>
    obtain ⟨v,σ',H',J,rv,q⟩:=hs
    exact fin J rv q
  | next=>
    obtain ⟨σ',H',J,q⟩:=hs
    exact fin (v:=V.non) (u:=Value.none) J rfl q
  | brk=>
    obtain ⟨_,_,_,q⟩:=hs
    exact False.elim q
  | cont=>
    obtain ⟨_,_,_,q⟩:=hs
    exact False.elim q
end L2
namespace L2
open PySem PySem.Spec PyProof.Rows
section
variable {X:Cx} {x:Str} {p pos:Pos} {e:Expr} {es:List Expr} {t:TA} {id T:String} {r:List V→Hp→VK→Prop}
def tCB (r:List V→Hp→VK→Prop) (t:TA):TE:=fun σ H Q=>t σ H fun vs H1=>r vs H1 Q
theorem Zqc (hc:CallR X (.builtin id) r) (hg:Gl X x) (hm:X.mg x=none) (hv:bootBuiltins x=some (.builtin id)) (ha:PA X (e::es) t) (hn:x≠"__name__":=by decide) (hdb:(x == ("__debug__":Str))=false:=by decide)
    (he:starEach (e::es) X.env=(false,eval e X.env)::starEach es X.env:=by rfl) (hpl:(backTo pos (starEach es X.env)).any (·.1)=false:=by rfl):PE X (.Call (.Name x p) (e::es) [] pos) (tCB r t):=by
  intro pins s σ H Q I h
  refine wpAny_Call_Name_kw (ZhV I hg hm hv ?_ hn hdb)
  exact PyProof.Rows.callWith_builtin1 (thn (ha pos pins s σ H _ I h) fun us s1 ⟨vs,H1,I1,r1,q1⟩=>hc pins s1 σ H1 vs us Q I1 r1 q1) he hpl
theorem ZnN (hc:CallR X (.type T) r) (hg:Gl X x) (hm:X.mg x=none) (hv:bootBuiltins x=some (.type T)) (ha:PA X (e::es) t) (hn:x≠"__name__":=by decide) (hdb:(x == ("__debug__":Str))=false:=by decide)
    (he:starEach (e::es) X.env=(false,eval e X.env)::starEach es X.env:=by rfl) (hpl:(backTo pos (starEach es X.env)).any (·.1)=false:=by rfl):PE X (.Call (.Name x p) (e::es) [] pos) (tCB r t):=by
  intro pins s σ H Q I h
  refine wpAny_Call_Name_kw (ZhV I hg hm hv ?_ hn hdb)
  exact PyProof.Rows.callWith_type1 (thn (ha pos pins s σ H _ I h) fun us s1 ⟨vs,H1,I1,r1,q1⟩=>hc pins s1 σ H1 vs us Q I1 r1 q1) he hpl
end
end L2
namespace HT
open PySem PyProof.Rows
section
open PySem.SeqAt
open PySem.AutoSeq1 (wpAny_loadPart')
open PySem.MeetsSeq PySem.MeetsSeq2 PySem.MeetsSeq3
end
section
variable {prog:Program} {w:World} {A:Around} {E:Value→Shared→Prop} {s:Shared}
theorem cat_tup {t b:Addr} {vs ws:List Value} {Q:Value→Shared→Prop} (ht:IsTup s.heap t vs.toArray) (hb:IsTup s.heap b ws.toArray) (hv:vs≠[])
    (h1:ws=[]→Q (.ref t) s) (h2:ws≠[]→Q (.ref s.heap.objs.size) { s with heap:=s.heap.push { cls:=.type "tuple",data:=.seq (vs++ws).toArray } })
    (hsz:vs.length+ws.length≤sizeLine):wpAny (model prog w) A (binaryOp .Add (.ref t) (.ref b)) Q E s:=by
  obtain ⟨⟨cls,dd,data,sl⟩,ho,hc,n,hd⟩:=id ht
  obtain ⟨⟨cls2,dd2,data2,sl2⟩,ho2,hc2,n2,hd2⟩:=id hb
  simp only at hc hd hc2 hd2
  subst hc hd hc2 hd2
  have e:vs.toArray++ws.toArray=(vs++ws).toArray:=by simp
  by_cases hw:ws=[]
  · exact concat_meets ⟨_,ho,rfl⟩ ⟨_,ho2,rfl⟩ noFill_tuple_add seq_tuple_add PySem.F.slot_tuple_add PySem.F.entry_tuple_add (PySem.F.args_tuple_add_2 _ _)
      (tuple_addW1 t b vs.toArray ws.toArray n n2 dd dd2 sl sl2 (by simpa using hv) (by simp [hw])) ⟨ho,ho2,h1 hw⟩
  · refine concat_meets ⟨_,ho,rfl⟩ ⟨_,ho2,rfl⟩ noFill_tuple_add seq_tuple_add PySem.F.slot_tuple_add PySem.F.entry_tuple_add (PySem.F.args_tuple_add_2 _ _)
      (tuple_addW2 t b vs.toArray ws.toArray n n2 dd dd2 sl sl2 (by simpa using hv) (by simpa using hw) (by rw [List.size_toArray,List.size_toArray]; exact hsz)) ⟨ho,ho2,?_⟩
    rw [e]
    exact h2 hw
def sIx (n d:Nat):Option Int→Nat
  | none=>d
  | some v=>if v<0 then (v+(n:Int)).toNat else min v.toNat n
theorem sIx_none (n d:Nat):sIx n d none=d:=rfl
theorem sIx_nat (n d k:Nat):sIx n d (some (k:Int))=min k n:=by
  show (if (k:Int)<0 then ((k:Int)+(n:Int)).toNat else min (k:Int).toNat n)=min k n
  rw [if_neg (by omega),Int.toNat_natCast]
theorem ZtU (n d:Nat) (hd:d≤n) (o:Option Int):sIx n d o≤n:=by
  cases o with
  | none=>exact hd
  | some v=>
    show (if v<0 then (v+(n:Int)).toNat else min v.toNat n)≤n
    by_cases hv:v<0
    · rw [if_pos hv]; omega
    · rw [if_neg hv]; exact Nat.min_le_right _ _
theorem Zno (v:Int) (n d:Nat):(if v<0 then max (v+(n:Int)) 0 else min v (n:Int))=((sIx n d (some v):Nat):Int):=by
  show (if v<0 then max (v+(n:Int)) 0 else min v (n:Int))=(((if v<0 then (v+(n:Int)).toNat else min v.toNat n):Nat):Int)
  by_cases hv:v<0
  · simp only [if_pos hv]; omega
  · simp only [if_neg hv]; omega
theorem ZmK (lo hi:Option Int) (n:Nat):Builtin.Slice.sliceAdjust lo hi 1 (n:Int)=(((sIx n 0 lo:Nat):Int),((sIx n n hi:Nat):Int)):=by
  have h1:¬((1:Int)<0):=by omega
  unfold Builtin.Slice.sliceAdjust
  simp only [h1,if_false]
  refine Prod.ext ?_ ?_
  · cases lo with
    | none=>rfl
    | some v=>exact Zno v n 0
  · cases hi with
    | none=>rfl
    | some v=>exact Zno v n n
theorem Zmm (i j:Nat):Builtin.Slice.slicePlaces (i:Int) (j:Int) 1=j-i:=by
  unfold Builtin.Slice.slicePlaces
  have h1:(1:Int) > 0:=by omega
  simp only [h1,if_true,Int.ediv_one]
  split<;>omega
theorem ZhD {v:Value} {o:Option Int} {Q:Option Int→Shared→Prop} (p:IsPart v o) (h:Q o s):wpAny (model prog w) A (Builtin.Slice.slicePartIndex v) Q E s:=by
  cases p with
  | none=>exact slicePart_none h
  | int i t=>exact slicePart_int h
theorem Zgr {sl:Addr} {vl vu:Value} {lo hi:Option Int} {n:Nat} {Q:Int×Int×Nat→Shared→Prop} (hs:s.heap.IsSliceOf sl vl vu .none) (pl:IsPart vl lo) (pu:IsPart vu hi)
    (h:Q (((sIx n 0 lo:Nat):Int),1,sIx n n hi-sIx n 0 lo) s):wpAny (model prog w) A (Builtin.Slice.sliceApplied (.ref sl) (pure (n:Int))) Q E s:=by
  obtain ⟨os,hos,hcs,hds⟩:=id hs
  unfold Builtin.Slice.sliceApplied Builtin.Slice.sliceFields
  refine wpAny_bind (wpAny_bind (wpAny_field hos hds (x:=vl) rfl (wpAny_bind (wpAny_field hos hds (x:=vu) rfl (wpAny_bind (wpAny_field hos hds (x:=.none) rfl (wpAny_pure ?_)))))))
  refine wpAny_bind (slicePart_none ?_)
  show wpAny _ _ (if ((1:Int) == 0)=true then _ else _) _ _ s
  rw [if_neg (by decide)]
  refine wpAny_bind (ZhD pl (wpAny_bind (ZhD pu (wpAny_bind (wpAny_pure ?_)))))
  show wpAny _ _ (match Builtin.Slice.sliceAdjust lo hi 1 (n:Int) with | (lo,hi)=>pure (lo,(1:Int),Builtin.Slice.slicePlaces lo hi 1)) _ _ s
  rw [ZmK lo hi n]
  show wpAny _ _ (pure (((sIx n 0 lo:Nat):Int),(1:Int),Builtin.Slice.slicePlaces ((sIx n 0 lo:Nat):Int) ((sIx n n hi:Nat):Int) 1)) _ _ s
  rw [Zmm]
  exact wpAny_pure h
theorem Zp1 (xs:Array Value) (i k:Nat):((List.range k).filterMap fun (m:Nat)=>xs[((i:Int)+(m:Int)*1).toNat]?).toArray=((xs.toList.drop i).take k).toArray:=by
  have e:(fun (m:Nat)=>xs[((i:Int)+(m:Int)*1).toNat]?)=fun m=>xs[i+m]?:=by
    funext m
    have:((i:Int)+(m:Int)*1).toNat=i+m:=by omega
    rw [this]
  rw [e]
  have:=pick_run xs i k
  rw [List.filterMap_map] at this
  have e2:((fun x=>xs[x]?)∘fun x=>i+x)=fun m=>xs[i+m]?:=rfl
  rw [e2] at this
  rw [this]
theorem getItem_tuple_cut {t sl:Addr} {items:Array Value} {vl vu:Value} {lo hi:Option Int} {Q:Value→Shared→Prop} (ht:IsTup s.heap t items) (hs:s.heap.IsSliceOf sl vl vu .none) (pl:IsPart vl lo) (pu:IsPart vu hi)
    (hw:¬(sIx items.size 0 lo=0∧sIx items.size items.size hi=items.size))
    (h:Q (.ref s.heap.objs.size) { s with heap:=s.heap.push { cls:=.type "tuple",data:=.seq ((items.toList.drop (sIx items.size 0 lo)).take (sIx items.size items.size hi-sIx items.size 0 lo)).toArray } })
    (hsz:items.size≤sizeLine):wpAny (model prog w) A (getItem (.ref t) (.ref sl)) Q E s:=by
  have htake:sizeOk (.seq ((items.toList.drop (sIx items.size 0 lo)).take (sIx items.size items.size hi-sIx items.size 0 lo)).toArray):=by
    show ((items.toList.drop (sIx items.size 0 lo)).take (sIx items.size items.size hi-sIx items.size 0 lo)).toArray.size≤sizeLine
    rw [List.size_toArray,List.length_take,List.length_drop,Array.length_toList]
    omega
  have hj:sIx items.size items.size hi≤items.size:=ZtU _ _ (Nat.le_refl _) hi
  obtain ⟨os,hos,hcs,hds⟩:=id hs
  have hTs:s.TypeIs (.ref sl) "slice":=⟨os,hos,hcs⟩
  unfold getItem
  try with_reducible refine wpAny_holding ?_
  first | refine wpAny_bind (wpAny_pure ?_) | skip
  refine wpAny_bind (wpAny_sequenceKey ht.typeIs (by decide) ?_)
  refine wpAny_bind (wpAny_callSpecial?_slot (name:=Str.ofString "__getitem__") ht.typeIs PyProof.Rows.slot_tuple_getitem
    (wpAny_call_entry PyProof.Rows.slot_tuple_getitem ht.typeIs entry_tuple_getitem ?_ (args_tuple_getitem _ _)))
  show wpAny _ _ (Builtin.Tuple.tupleItemsOf (.ref t) >>= _) _ _ s
  refine wpAny_bind (tupleItemsOf_ ht ?_)
  refine wpAny_bind (wpAny_typeOf hTs ?_)
  rw [if_pos (by decide)]
  refine wpAny_bind (Zgr hs pl pu ?_)
  have hno:¬((((sIx items.size 0 lo:Nat):Int) == 0 && (1:Int) == 1 && (sIx items.size items.size hi-sIx items.size 0 lo) == items.size)=true):=by
    intro q
    rw [Bool.and_eq_true,Bool.and_eq_true] at q
    have q1:((sIx items.size 0 lo:Nat):Int)=0:=eq_of_beq q.1.1
    have q2:sIx items.size items.size hi-sIx items.size 0 lo=items.size:=eq_of_beq q.2
    exact hw ⟨by omega,by omega⟩
  show wpAny _ _ (if (((sIx items.size 0 lo:Nat):Int) == 0 && (1:Int) == 1 && (sIx items.size items.size hi-sIx items.size 0 lo) == items.size)=true then _ else _) _ _ s
  rw [if_neg hno,Zp1]
  first
    | exact wpAny_bind (m:=Builtin.Tuple.tupleExact _) (wpAny_newObj_type (wpAny_pure ⟨_,rfl,wpAny_pure h⟩) htake)
    | exact wpAny_bind (m:=Builtin.Tuple.tupleExact _) (wpAny_newObj_type (wpAny_bind (wpAny_pure (wpAny_pure ⟨_,rfl,wpAny_pure h⟩))) htake)
    | exact wpAny_bind (wpAny_bind (m:=Builtin.Tuple.tupleExact _) (wpAny_newObj_type (wpAny_pure (wpAny_pure ⟨_,rfl,wpAny_pure h⟩)) htake))
    | exact wpAny_bind (wpAny_bind (m:=Builtin.Tuple.tupleExact _) (wpAny_newObj_type (wpAny_pure ⟨_,rfl,wpAny_pure h⟩) htake))
end
end HT
namespace L2
open PySem PySem.Spec PyProof.Rows
abbrev TO:=St→Hp→(Option Int→Hp→Prop)→Prop
def PO (X:Cx) (e:Option Expr) (t:TO):Prop:=
  ∀(pins:List (Addr×Obj)) (s:Shared) (σ:St) (H:Hp) (Q:Option Int→Hp→Prop),Inv X pins σ H s→t σ H Q→
    wpAny (model X.prog X.w) X.A (evalPart e X.env) (fun u s'=>∃o H',Inv X pins σ H' s'∧IsPart u o∧Q o H') X.xe s
def ZrL:TO:=fun _ H Q=>Q none H
def Zvw (t:TE):TO:=fun σ H Q=>t σ H fun x H1=>∃i,x=.int i∧Q (some i) H1
section
variable {X:Cx} {e:Expr} {te:TE} {lo hi:Option Expr} {tl th:TO} {pos p2:Pos}
theorem Zr1:PO X none ZrL:=by
  intro pins s σ H Q I h
  rw [evalPart_none]
  exact wpAny_pure ⟨none,H,I,.none,h⟩
theorem Zr0 (h:PE X e te):PO X (some e) (Zvw te):=by
  intro pins s σ H Q I hw
  rw [evalPart_some]
  refine thn (h pins s σ H _ I hw) fun u s1 ⟨x,H1,I1,r1,q1⟩=>?_
  obtain ⟨i,rfl,q⟩:=q1
  obtain ⟨t,rfl⟩:=r1
  exact ⟨some i,H1,I1,.int i t,q⟩
def SlR (X:Cx) (r:V→Option Int→Option Int→Hp→VK→Prop):Prop:=
  ∀(pins:List (Addr×Obj)) (s:Shared) (σ:St) (H:Hp) (x:V) (v vl vu:Value) (lo hi:Option Int) (sl:Addr) (Q:VK),Inv X pins σ H s→RelV x v→s.heap.IsSliceOf sl vl vu .none→IsPart vl lo→IsPart vu hi→r x lo hi H Q→
    ∃T id,typeLookup (.type T) "__getitem__"=pure (some (.builtin id))∧s.TypeIs v T∧wpAny (model X.prog X.w) X.A (getItem v (.ref sl)) (EP X pins σ Q) X.xe s
theorem SlR.or {r r':V→Option Int→Option Int→Hp→VK→Prop} (h:SlR X r) (h':SlR X r'):SlR X (fun x lo hi H Q=>r x lo hi H Q∨r' x lo hi H Q):=by
  intro pins s σ H x v vl vu lo hi sl Q I rx hs pl pu q
  rcases q with q | q
  · exact h pins s σ H x v vl vu lo hi sl Q I rx hs pl pu q
  · exact h' pins s σ H x v vl vu lo hi sl Q I rx hs pl pu q
def tSl (r:V→Option Int→Option Int→Hp→VK→Prop) (te:TE) (tl th:TO):TE:=fun σ H Q=>te σ H fun x H1=>tl σ H1 fun l H2=>th σ H2 fun u H3=>r x l u H3 Q
theorem Zp3 {r:V→Option Int→Option Int→Hp→VK→Prop} (hr:SlR X r) (he:PE X e te) (hl:PO X lo tl) (hu:PO X hi th):PE X (.Subscript e (.Slice lo hi none p2) pos) (tSl r te tl th):=by
  intro pins s σ H Q I h
  refine Subscript_ (thn (he pins s σ H _ I h) fun v s1 ⟨x,H1,I1,r1,q1⟩=>?_)
  refine wpAny_Slice (thn (hl pins s1 σ H1 _ I1 q1) fun vl s2 ⟨l,H2,I2,pl,q2⟩=>thn (hu pins s2 σ H2 _ I2 q2) fun vu s3 ⟨u,H3,I3,pu,q3⟩=>?_)
  rw [evalPart_none]
  refine wpAny_pure ?_
  have I4:Inv X pins σ H3 { s3 with heap:=s3.heap.push { cls:=.type "slice",data:=.fields #[vl,vu,.none] } }:=I3.kept (t':=s3.toks) fun b ob q=>Heap.get?_push_of_some _ q
  obtain ⟨T,id,hT,ht,hg⟩:=hr pins { s3 with heap:=s3.heap.push { cls:=.type "slice",data:=.fields #[vl,vu,.none] } } σ H3 x v vl vu l u s3.heap.objs.size Q I4 r1 (Heap.IsSliceOf.new ..) pl pu q3
  show wpAny (model X.prog X.w) X.A (subscriptTail e (.Slice lo hi none p2) v (.ref s3.heap.objs.size)) (EP X pins σ Q) X.xe { s3 with heap:=s3.heap.push { cls:=.type "slice",data:=.fields #[vl,vu,.none] } }
  exact tail_any (ops:=[.ref s3.heap.objs.size,v]) ht hT hg (by with_unfolding_all rfl)
def Zl0 (xs:List V) (lo hi:Option Int):List V:=(xs.drop (HT.sIx xs.length 0 lo)).take (HT.sIx xs.length xs.length hi-HT.sIx xs.length 0 lo)
theorem Zg0 (xs:List V) (lo hi:Option Int):(Zl0 xs lo hi).length≤xs.length:=by
  unfold Zl0
  rw [List.length_take,List.length_drop]
  omega
def Zzu (K:PySem.W.Frag):V→Option Int→Option Int→Hp→VK→Prop:=fun x lo hi H Q=>∃a xs,x=.ref a∧SqT K H a xs∧
  ¬(HT.sIx xs.length 0 lo=0∧HT.sIx xs.length xs.length hi=xs.length)∧∀p,H p=none→Q (.ref p) (upd H p (.tup (Zl0 xs lo hi)))
theorem ZtR:SlR X (Zzu X.K):=by
  intro pins s σ H x v vl vu lo hi sl Q I rx hs pl pu h
  obtain ⟨a,xs,rfl,hx,hw,q⟩:=h
  cases rx
  obtain ⟨its,r,ht,hz⟩:=I.tuple hx
  have hlen:its.toArray.size=xs.length:=by rw [List.size_toArray]; exact r.length.symm
  refine ⟨"tuple",_,PyProof.Rows.slot_tuple_getitem.lookup,ht.typeIs,?_⟩
  refine HT.getItem_tuple_cut ht hs pl pu (by rw [hlen]; exact hw) ?_ (by rw [hlen]; exact hz)
  rw [hlen]
  refine ⟨.ref s.heap.objs.size,_,I.laid (t':=s.toks) (o:=.tup (Zl0 xs lo hi)) (fun b ob q=>Heap.get?_push_of_some _ q) (Nat.le_refl _) ?_,rfl,q _ (I.hok.fresh (Nat.le_refl _))⟩
  exact ⟨Nat.le_trans (Zg0 xs lo hi) hz,_,(r.drop (HT.sIx xs.length 0 lo)).take (HT.sIx xs.length xs.length hi-HT.sIx xs.length 0 lo),IsTup.new _ _⟩
def ZvL (K:PySem.W.Frag):R2:=fun x y H Q=>∃a b xs ys,x=.ref a∧y=.ref b∧SqT K H a xs∧SqT K H b ys∧xs≠[]∧xs.length+ys.length≤sizeLine∧
  (ys=[]→Q (.ref a) H)∧(ys≠[]→∀p,H p=none→Q (.ref p) (upd H p (.tup (xs++ys))))
theorem Vals.nil_iff {xs:List V} {us:List Value} (r:Vals xs us):us=[]↔xs=[]:=by
  cases r with
  | nil=>simp
  | cons _ _=>simp
theorem op_catT:OpR X (binaryOp .Add) (ZvL X.K):=by
  intro pins s σ H x y v u Q I rx ry h
  obtain ⟨a,b,xs,ys,rfl,rfl,ha,hb,hx,hz,q1,q2⟩:=h
  cases rx
  cases ry
  obtain ⟨its,r1,p1,_⟩:=I.tuple ha
  obtain ⟨its2,r2,p2,_⟩:=I.tuple hb
  refine HT.cat_tup p1 p2 (fun z=>hx (r1.nil_iff.mp z)) (fun z=>⟨.ref a,H,I,rfl,q1 (r2.nil_iff.mp z)⟩) (fun z=>?_) (by rw [←r1.length,←r2.length]; exact hz)
  refine ⟨.ref s.heap.objs.size,_,I.laid (t':=s.toks) (o:=.tup (xs++ys)) (fun b ob q=>Heap.get?_push_of_some _ q) (Nat.le_refl _) ?_,rfl,q2 (fun w=>z (r2.nil_iff.mpr w)) _ (I.hok.fresh (Nat.le_refl _))⟩
  exact ⟨by rw [List.length_append]; exact hz,_,r1.append r2,IsTup.new _ _⟩
end
end L2
namespace L2
open PySem PySem.Spec PyProof.Rows
def ixN (n:Nat) (i:Int):Option Nat:=if 0≤i then (if i<n then some i.toNat else none) else if -(n:Int)≤i then some (i+n).toNat else none
def atI {α:Type} (xs:List α) (i:Int):Option α:=(ixN xs.length i).bind fun j=>xs[j]?
theorem Zsr {n:Nat} {i:Int} {j:Nat} (h:ixN n i=some j):seqIndex? i n=some j∧j<n∧-(n:Int)≤i∧i<n:=by
  unfold ixN at h
  by_cases h0:0≤i
  · rw [if_pos h0] at h
    by_cases h1:i<n
    · rw [if_pos h1] at h
      have e:i.toNat=j:=Option.some.inj h
      exact ⟨by rw [seqIndex_of h0 h1,e],by omega,by omega,h1⟩
    · rw [if_neg h1] at h; cases h
  · rw [if_neg h0] at h
    by_cases h1 : -(n:Int)≤i
    · rw [if_pos h1] at h
      have e:(i+n).toNat=j:=Option.some.inj h
      exact ⟨by rw [seqIndex_neg (by omega) h1,e],by omega,h1,by omega⟩
    · rw [if_neg h1] at h; cases h
theorem ZjP {α:Type} {xs:List α} {i:Int} {v:α} (h:atI xs i=some v):∃j,seqIndex? i xs.length=some j∧xs[j]?=some v∧j<xs.length∧-(xs.length:Int)≤i∧i<xs.length:=by
  unfold atI at h
  cases e:ixN xs.length i with
  | none=>rw [e] at h; cases h
  | some j=>
    rw [e] at h
    obtain ⟨h1,h2,h3,h4⟩:=Zsr e
    exact ⟨j,h1,h,h2,h3,h4⟩
theorem Zhr {α:Type} {xs:List α} {j:Nat} {v:α} (h:xs[j]?=some v):atI xs (j:Int)=some v:=by
  have hj:j<xs.length:=(List.getElem?_eq_some_iff.mp h).1
  have e:ixN xs.length (j:Int)=some j:=by
    unfold ixN
    rw [if_pos (by omega),if_pos (by omega)]; simp
  unfold atI; rw [e]; exact h
def Znx (b:Expr):Prop:=∀o i,subscripted b false o i=operate [o,i] (getItem o i)
def IxR (X:Cx) (r:R2):Prop:=
  ∀(value slice:Expr) (pins:List (Addr×Obj)) (s:Shared) (σ:St) (H:Hp) (x y:V) (v u:Value) (Q:VK),Inv X pins σ H s→RelV x v→RelV y u→r x y H Q→
    subscripted slice false v u=operate [v,u] (getItem v u)→wpAny (model X.prog X.w) X.A (subscriptTail value slice v u) (EP X pins σ Q) X.xe s
def MtR (X:Cx) (id:String) (r:V→List V→Hp→VK→Prop):Prop:=
  ∀(pins:List (Addr×Obj)) (s:Shared) (σ:St) (H:Hp) (x:V) (xs:List V) (v:Value) (us:List Value) (Q:VK),Inv X pins σ H s→RelV x v→Vals xs us→r x xs H Q→
    wpAny (model X.prog X.w) X.A (call (.builtin id) (v::us)) (EP X pins σ Q) X.xe s
section
variable {X:Cx} {a b:Expr} {ta tb:TE} {pos:Pos}
theorem IxR.or {r r':R2} (h:IxR X r) (h':IxR X r'):IxR X (fun x y H Q=>r x y H Q∨r' x y H Q):=by
  intro value slice pins s σ H x y v u Q I rx ry q hs
  rcases q with q | q
  · exact h value slice pins s σ H x y v u Q I rx ry q hs
  · exact h' value slice pins s σ H x y v u Q I rx ry q hs
theorem ZvV {r:R2} (hr:IxR X r) (ha:PE X a ta) (hb:PE X b tb) (hs:Znx b):PE X (.Subscript a b pos) (tOp r ta tb):=by
  intro pins s σ H Q I h
  exact Subscript_ (ZuI ha hb I h fun v u s2 x y H2 I2 rx ry q=>hr a b pins s2 σ H2 x y v u Q I2 rx ry q (hs _ _))
def ZvK (K:PySem.W.Frag):R2:=fun x y H Q=>∃p xs i v,x=.ref p∧y=.int i∧SqL K H p xs∧atI xs i=some v∧Q v H
def ZvI (K:PySem.W.Frag):R2:=fun x y H Q=>∃p xs i v,x=.ref p∧y=.int i∧SqT K H p xs∧atI xs i=some v∧Q v H
def ZvJ:R2:=fun x y H Q=>∃z i c,x=.str z∧y=.int i∧z.length≤sizeLine∧atI z.cps.toList i=some c∧Q (.str ⟨#[c]⟩) H
theorem ix_list:IxR X (ZvK X.K):=by
  intro value slice pins s σ H x y v u Q I rx ry h hs
  obtain ⟨p,xs,i,z,rfl,rfl,hq,he,q⟩:=h
  cases rx
  obtain ⟨t,rfl⟩:=ry
  obtain ⟨its,r,pl,hz⟩:=I.list hq
  obtain ⟨j,h1,h2,h3,h4,h5⟩:=ZjP he
  obtain ⟨w,ew,rw'⟩:=r.get h2
  have hl:=r.length
  have hn:=Zgz
  have fin:EP X pins σ Q w s:=⟨z,H,I,rw',q⟩
  by_cases h0:0≤i
  · have hj:i.toNat=j:=by
      rw [seqIndex_of h0 h5] at h1
      exact Option.some.inj h1
    exact item_listR pl.isList h0 (by omega) (by rw [hj]; simpa using ew) fin hs
  · have hj:(i+(its.toArray.size:Int)).toNat=j:=by
      rw [seqIndex_neg (by omega) h4] at h1
      rw [List.size_toArray,←hl]
      exact Option.some.inj h1
    exact subscriptTail_builtinR (x:=w) pl.isList.typeIs slot_list_getitem.lookup
      (wpAny_getItem_list_neg (Q:=fun r s'=>r=w∧EP X pins σ Q r s') pl.isList (by omega) (by rw [List.size_toArray]<;>omega) (by omega) (by rw [hj]; simpa using ew) ⟨rfl,fin⟩) hs
theorem ix_tup:IxR X (ZvI X.K):=by
  intro value slice pins s σ H x y v u Q I rx ry h hs
  obtain ⟨p,xs,i,z,rfl,rfl,hq,he,q⟩:=h
  cases rx
  obtain ⟨t,rfl⟩:=ry
  obtain ⟨its,r,pl,hz⟩:=I.tuple hq
  obtain ⟨j,h1,h2,h3,h4,h5⟩:=ZjP he
  obtain ⟨w,ew,rw'⟩:=r.get h2
  have hl:=r.length
  have hn:=Zgz
  have fin:EP X pins σ Q w s:=⟨z,H,I,rw',q⟩
  exact subscriptTail_builtinR (x:=w) pl.typeIs slot_tuple_getitem.lookup
    (getItem_tuple (j:=j) (Q:=fun r s'=>r=w∧EP X pins σ Q r s') pl (by omega) (by omega) (by rw [List.size_toArray,←hl]; exact h1) (by simpa using ew) ⟨rfl,fin⟩) hs
theorem ZuA:IxR X ZvJ:=by
  intro value slice pins s σ H x y v u Q I rx ry h hs
  obtain ⟨z,i,c,rfl,rfl,hz,he,q⟩:=h
  obtain ⟨t,rfl⟩:=rx
  obtain ⟨t',rfl⟩:=ry
  obtain ⟨j,h1,h2,h3,h4,h5⟩:=ZjP he
  have hl:z.cps.toList.length=z.length:=by simp [Str.length]
  rw [hl] at h1 h4 h5
  have hn:=Zgz
  exact tail_any (typeIs_str s z t) slot_str_getitem.lookup (getItem_str (c:=c) (by
    have e1:decide (i < -(2 ^ 63:Int))=false:=decide_eq_false (by omega)
    have e2:decide (i≥2 ^ 63)=false:=decide_eq_false (by omega)
    rw [e1,e2,Bool.or_false]) (by rw [h1]; simpa using h2) ⟨.str ⟨#[c]⟩,H,I.tok _,⟨_,rfl⟩,q⟩) hs
def rIx (K:PySem.W.Frag):R2:=fun x y H Q=>ZvK K x y H Q∨ZvI K x y H Q∨ZvJ x y H Q
theorem ZuB:IxR X (rIx X.K):=ix_list.or (ix_tup.or ZuA)
theorem Zjn (lo hi:Option Int) (n:Nat):(sliceBounds lo hi none n).1=((HT.sIx n 0 lo:Nat):Int)∧(sliceBounds lo hi none n).2.1=((HT.sIx n n hi:Nat):Int)∧(sliceBounds lo hi none n).2.2=1:=by
  refine ⟨?_,?_,rfl⟩
  · cases lo with
    | none=>simp [sliceBounds,HT.sIx]
    | some i=>
      simp only [sliceBounds,HT.sIx,Option.getD_none,show (1:Int) > 0 by decide,if_true]
      by_cases h:i<0
      · simp only [h,if_true]<;>omega
      · simp only [h,if_false]<;>omega
  · cases hi with
    | none=>simp [sliceBounds,HT.sIx]
    | some i=>
      simp only [sliceBounds,HT.sIx,Option.getD_none,show (1:Int) > 0 by decide,if_true]
      by_cases h:i<0
      · simp only [h,if_true]<;>omega
      · simp only [h,if_false]<;>omega
theorem Zix (its:List Value) (lo hi:Option Int):slicePick its.toArray lo hi none=((its.drop (HT.sIx its.length 0 lo)).take (HT.sIx its.length its.length hi-HT.sIx its.length 0 lo)).toArray:=by
  obtain ⟨h1,h2,h3⟩:=Zjn lo hi its.toArray.size
  unfold slicePick
  rw [h1,h2,h3]
  simp only [sliceRange_one,pick_run,List.size_toArray]<;>rfl
def ZvG (K:PySem.W.Frag):V→Option Int→Option Int→Hp→VK→Prop:=fun x lo hi H Q=>∃a xs,x=.ref a∧SqL K H a xs∧∀p,H p=none→Q (.ref p) (upd H p (.lst (Zl0 xs lo hi)))
theorem sl_list:SlR X (ZvG X.K):=by
  intro pins s σ H x v vl vu lo hi sl Q I rx hs pl pu h
  obtain ⟨a,xs,rfl,hx,q⟩:=h
  cases rx
  obtain ⟨its,r,ht,hz⟩:=I.list hx
  have hlen:=r.length
  refine ⟨"list",_,slot_list_getitem.lookup,ht.isList.typeIs,?_⟩
  refine wpAny_getItem_list_slice ht.isList hs pl pu .none (by simp) ?_ (by rw [List.size_toArray]<;>omega)
  rw [Zix,←hlen]
  refine ⟨.ref s.heap.objs.size,_,I.laid (t':=s.toks) (o:=.lst (Zl0 xs lo hi)) (fun b ob q=>Heap.get?_push_of_some _ q) (Nat.le_refl _) ?_,rfl,q _ (I.hok.fresh (Nat.le_refl _))⟩
  exact ⟨Nat.le_trans (Zg0 xs lo hi) hz,_,0,(r.drop (HT.sIx xs.length 0 lo)).take (HT.sIx xs.length xs.length hi-HT.sIx xs.length 0 lo),Heap.get?_push_size _ rfl⟩
def Zdu:V→Bool
  | .non=>true
  | .bl _=>true
  | .int _=>true
  | .str _=>true
  | _=>false
def eqV:V→V→Bool
  | .non,.non=>true
  | .bl a,.bl b=>a == b
  | .bl a,.int b=>(if a then 1 else 0) == b
  | .int a,.bl b=>a == (if b then 1 else 0)
  | .int a,.int b=>a == b
  | .str a,.str b=>a == b
  | _,_=>false
theorem ZuF {A:Around} {s:Shared} {y x:V} {u v:Value} (ry:RelV y u) (rx:RelV x v) (fy:Zdu y=true) (fx:Zdu x=true):SeqAt.EqAt A s u v (eqV y x):=by
  cases y with
  | non=>
    cases ry
    cases x with
    | non=>cases rx; exact SeqAt.EqAt.same _
    | bl b=>cases rx; exact SeqAt.EqAt.none_bool b
    | int b=>obtain ⟨t,rfl⟩:=rx; exact SeqAt.EqAt.none_int b t
    | str b=>obtain ⟨t,rfl⟩:=rx; exact SeqAt.EqAt.none_str b t
    | _=>exact absurd (show false=true from fx) Bool.false_ne_true
  | bl a=>
    cases ry
    cases x with
    | non=>cases rx; exact SeqAt.EqAt.bool_none a
    | bl b=>cases rx; exact SeqAt.EqAt.bool_bool a b
    | int b=>obtain ⟨t,rfl⟩:=rx; exact SeqAt.EqAt.bool_int a b t
    | str b=>obtain ⟨t,rfl⟩:=rx; exact SeqAt.EqAt.bool_str a b t
    | _=>exact absurd (show false=true from fx) Bool.false_ne_true
  | int a=>
    obtain ⟨t',rfl⟩:=ry
    cases x with
    | non=>cases rx; exact SeqAt.EqAt.int_none a t'
    | bl b=>cases rx; exact SeqAt.EqAt.int_bool a t' b
    | int b=>obtain ⟨t,rfl⟩:=rx; exact SeqAt.EqAt.int_int a t' b t
    | str b=>obtain ⟨t,rfl⟩:=rx; exact SeqAt.EqAt.int_str a t' b t
    | _=>exact absurd (show false=true from fx) Bool.false_ne_true
  | str a=>
    obtain ⟨t',rfl⟩:=ry
    cases x with
    | non=>cases rx; exact SeqAt.EqAt.str_none a t'
    | bl b=>cases rx; exact SeqAt.EqAt.str_bool a t' b
    | int b=>obtain ⟨t,rfl⟩:=rx; exact SeqAt.EqAt.str_int a t' b t
    | str b=>obtain ⟨t,rfl⟩:=rx; exact SeqAt.EqAt.str_str a t' b t
    | _=>exact absurd (show false=true from fx) Bool.false_ne_true
  | _=>exact absurd (show false=true from fy) Bool.false_ne_true
def eqU (x:V) (u:Value):Bool:=match u with
  | .none=>eqV .non x
  | .bool b=>eqV (.bl b) x
  | .int i _=>eqV (.int i) x
  | .str z _=>eqV (.str z) x
  | _=>false
theorem ZqV {x y:V} {u:Value} (r:RelV y u) (f:Zdu y=true):eqU x u=eqV y x:=by
  cases y with
  | non=>cases r; rfl
  | bl b=>cases r; rfl
  | int i=>obtain ⟨t,rfl⟩:=r; rfl
  | str z=>obtain ⟨t,rfl⟩:=r; rfl
  | _=>exact absurd (show false=true from f) Bool.false_ne_true
theorem Zgm {x:V}:∀{xs:List V} {us:List Value},Vals xs us→xs.all Zdu=true→us.any (eqU x)=xs.any fun y=>eqV y x
  | _,_,.nil,_=>rfl
  | y::xs,u::us,.cons r t,f=>by
    rw [List.all_cons,Bool.and_eq_true] at f
    rw [List.any_cons,List.any_cons,ZqV r f.1,Zgm t f.2]
theorem ZeM {A:Around} {s:Shared} {x:V} {v:Value} (rx:RelV x v) (fx:Zdu x=true):∀{xs:List V} {us:List Value},Vals xs us→xs.all Zdu=true→∀u∈us,SeqAt.EqAt A s u v (eqU x u)
  | _,_,.nil,_=>fun u hu=>by cases hu
  | y::xs,u::us,.cons r t,f=>fun u' hu=>by
    rw [List.all_cons,Bool.and_eq_true] at f
    rcases List.mem_cons.mp hu with rfl | hu
    · rw [ZqV r f.1]; exact ZuF r rx f.1 fx
    · exact ZeM rx fx t f.2 u' hu
def inV (x:V) (xs:List V):Bool:=xs.any fun y=>eqV y x
def rIn (K:PySem.W.Frag) (neg:Bool):R2:=fun x y H Q=>∃p xs,y=.ref p∧(SqL K H p xs∨SqT K H p xs)∧Zdu x=true∧xs.all Zdu=true∧Q (.bl (if neg then !inV x xs else inV x xs)) H
theorem ZnO:OpR X (compareOp .In) (rIn X.K false):=by
  intro pins s σ H x y v u Q I rx ry h
  obtain ⟨p,xs,rfl,hq,fx,fs,q⟩:=h
  cases ry
  rcases hq with hq | hq
  · obtain ⟨its,r,pl,hz⟩:=I.list hq
    refine SeqAt.in_listAt (eqU x) pl.isList (fun w hw=>ZeM rx fx r fs w (by simpa using hw)) ⟨.bl _,H,I,rfl,?_⟩
    rw [show its.toArray.any (eqU x)=its.any (eqU x) by simp,Zgm r fs]
    exact q
  · obtain ⟨its,r,pl,hz⟩:=I.tuple hq
    refine SeqAt.in_tupleAt (eqU x) pl (fun w hw=>ZeM rx fx r fs w (by simpa using hw)) ⟨.bl _,H,I,rfl,?_⟩
    rw [show its.toArray.any (eqU x)=its.any (eqU x) by simp,Zgm r fs]
    exact q
theorem Zjt:OpR X (compareOp .NotIn) (rIn X.K true):=by
  intro pins s σ H x y v u Q I rx ry h
  obtain ⟨p,xs,rfl,hq,fx,fs,q⟩:=h
  cases ry
  rcases hq with hq | hq
  · obtain ⟨its,r,pl,hz⟩:=I.list hq
    refine SeqAt.notIn_listAt (eqU x) pl.isList (fun w hw=>ZeM rx fx r fs w (by simpa using hw)) ⟨.bl _,H,I,rfl,?_⟩
    rw [show its.toArray.any (eqU x)=its.any (eqU x) by simp,Zgm r fs]
    exact q
  · obtain ⟨its,r,pl,hz⟩:=I.tuple hq
    refine SeqAt.notIn_tupleAt (eqU x) pl (fun w hw=>ZeM rx fx r fs w (by simpa using hw)) ⟨.bl _,H,I,rfl,?_⟩
    rw [show its.toArray.any (eqU x)=its.any (eqU x) by simp,Zgm r fs]
    exact q
theorem ZjK:CallR X (.builtin "len") (fun xs H Q=>∃p ys,xs=[.ref p]∧(SqL X.K H p ys∨SqT X.K H p ys)∧Q (.int ys.length) H):=by
  intro pins s σ H xs us Q I r h
  obtain ⟨p,ys,rfl,hq,q⟩:=h
  obtain ⟨u,rfl,rx⟩:=ZfM r
  cases rx
  have hn:=Zgz
  rcases hq with hq | hq
  · obtain ⟨its,r',pl,hz⟩:=I.list hq
    have hlen:=r'.length
    exact Calls.call_len_list pl.isList (by simp only [List.size_toArray]<;>omega) ⟨.int ys.length,H,I.tok _,⟨s.toks+1,by rw [List.size_toArray,hlen]⟩,q⟩
  · obtain ⟨its,r',pl,hz⟩:=I.tuple hq
    have hlen:=r'.length
    exact len_tuple pl (by simp only [List.size_toArray]<;>omega) ⟨.int ys.length,H,I.tok _,⟨s.toks+1,by rw [List.size_toArray,hlen]⟩,q⟩
theorem call_len_str:CallR X (.builtin "len") (fun xs H Q=>∃z,xs=[.str z]∧z.length≤sizeLine∧Q (.int z.length) H):=by
  intro pins s σ H xs us Q I r h
  obtain ⟨z,rfl,hz,q⟩:=h
  obtain ⟨u,rfl,t,rfl⟩:=ZfM r
  have hn:=Zgz
  exact len_str (by omega) ⟨.int z.length,H,I.tok _,⟨_,rfl⟩,q⟩
theorem CallR.or {f:Value} {r r':List V→Hp→VK→Prop} (h:CallR X f r) (h':CallR X f r'):CallR X f (fun xs H Q=>r xs H Q∨r' xs H Q):=by
  intro pins s σ H xs us Q I rs q
  rcases q with q | q
  · exact h pins s σ H xs us Q I rs q
  · exact h' pins s σ H xs us Q I rs q
theorem ZjJ:CallR X (.type "list") (fun xs H Q=>∃p ys,xs=[.ref p]∧(SqL X.K H p ys∨SqT X.K H p ys)∧∀l,H l=none→Q (.ref l) (upd H l (.lst ys))):=by
  intro pins s σ H xs us Q I r h
  obtain ⟨p,ys,rfl,hq,q⟩:=h
  obtain ⟨u,rfl,rx⟩:=ZfM r
  cases rx
  have fin:∀(its:List Value),Vals ys its→ys.length≤sizeLine→∀(h':Heap) (c':Nat),(∀b o',s.heap.get? b=some o'→h'.get? b=some o')→
      h'.get? s.heap.objs.size=some { cls:=.type "list",dict:=none,data:=.seq its.toArray c',slots:=#[] }→EP X pins σ Q (.ref s.heap.objs.size) { s with heap:=h' }:=fun its r' hz h' c' kp e=>
    ⟨.ref s.heap.objs.size,_,I.laid (t':=s.toks) kp (Nat.le_refl _) (show ObjOk X.prog X.w _ h' _ (.lst ys) from ⟨hz,its,c',r',e⟩),rfl,q _ (I.hok.fresh (Nat.le_refl _))⟩
  rcases hq with hq | hq
  · obtain ⟨its,r',pl,hz⟩:=I.list hq
    have hlen:=r'.length
    obtain ⟨o,ho,hc,n,hd⟩:=pl.isList
    exact call_list_seq p (.inl rfl) ho hc hd (fun h' c' kp e=>fin its r' hz h' c' kp e) (by simp only [List.size_toArray]<;>omega)
  · obtain ⟨its,r',pl,hz⟩:=I.tuple hq
    have hlen:=r'.length
    obtain ⟨o,ho,hc,n,hd⟩:=pl
    exact call_list_seq p (.inr rfl) ho hc hd (fun h' c' kp e=>fin its r' hz h' c' kp e) (by simp only [List.size_toArray]<;>omega)
theorem ZiB:CallR X (.type "tuple") (fun xs H Q=>∃p ys,xs=[.ref p]∧((SqL X.K H p ys∧∀l,H l=none→Q (.ref l) (upd H l (.tup ys)))∨(SqT X.K H p ys∧Q (.ref p) H))):=by
  intro pins s σ H xs us Q I r h
  obtain ⟨p,ys,rfl,h⟩:=h
  obtain ⟨u,rfl,rx⟩:=ZfM r
  cases rx
  rcases h with ⟨hq,q⟩ | ⟨hq,q⟩
  · obtain ⟨its,r',pl,hz⟩:=I.list hq
    have hlen:=r'.length
    refine call_tuple_list pl.isList (fun h' kp=>?_) (by simp only [List.size_toArray]<;>omega)
    have I1:Inv X pins σ H { s with heap:=h' }:=I.kept (t':=s.toks) kp
    have I2:Inv X pins σ (upd H h'.objs.size (.tup ys)) { s with heap:=h'.push { cls:=.type "tuple",data:=.seq its.toArray } }:=
      I1.laid (t':=s.toks) (fun b o e=>Heap.get?_push_of_some _ e) (Nat.le_refl _) (show ObjOk X.prog X.w _ _ _ (.tup ys) from ⟨hz,its,r',IsTup.new _ _⟩)
    exact ⟨.ref h'.objs.size,_,I2,rfl,q _ (I1.hok.fresh (Nat.le_refl _))⟩
  · obtain ⟨its,r',pl,hz⟩:=I.tuple hq
    exact call_tuple_same pl ⟨.ref p,H,I,rfl,q⟩
def tyV (K:PySem.W.Frag) (T:String) (x:V) (H:Hp):Prop:=match x with
  | .str _=>T = "str"
  | .int _=>T = "int"
  | .ref p=>(T = "list"∧∃xs,SqL K H p xs)∨(T = "tuple"∧∃o,K.lookup p=some o∧o.cls=.type "tuple"∧o.dict=none)∨
      (T = "dict"∧((∃kvs,H p=some (.dK kvs))∨∃kvs,H p=some (.dT kvs)))∨(T = "set"∧∃S n,H p=some (.set S n))
  | _=>False
theorem Ztv {pins:List (Addr×Obj)} {σ:St} {H:Hp} {s:Shared} {T:String} {x:V} {v:Value} (I:Inv X pins σ H s) (r:RelV x v) (ty:tyV X.K T x H) :
    s.TypeIs v T∧∀a,v=.ref a→∃ob,s.heap.get? a=some ob∧ob.dict=none:=by
  cases x with
  | str z=>
    obtain ⟨t,rfl⟩:=r
    cases (show T = "str" from ty)
    exact ⟨typeIs_str s z t,fun _ e=>nomatch e⟩
  | int i=>
    obtain ⟨t,rfl⟩:=r
    cases (show T = "int" from ty)
    exact ⟨typeIs_int s i t,fun _ e=>nomatch e⟩
  | ref p=>
    cases r
    rcases ty with ⟨rfl,xs,hq⟩ | ⟨rfl,o,hk,hc,hd⟩ | ⟨rfl,hk⟩ | ⟨rfl,S,n,hk⟩
    · obtain ⟨its,_,pl,_⟩:=I.list hq
      refine ⟨pl.isList.typeIs,fun a e=>?_⟩
      cases e
      obtain ⟨o,n,e,c,hd,_⟩:=pl
      exact ⟨o,e,hd⟩
    · refine ⟨⟨o,I.kIn p o hk,hc⟩,fun a e=>?_⟩
      cases e
      exact ⟨o,I.kIn _ o hk,hd⟩
    · have z:∃o,s.heap.get? p=some o∧o.ExactDict:=by
        rcases hk with ⟨kvs,hk⟩ | ⟨kvs,hk⟩
        · obtain ⟨_,_,_,_,o,_,_,e,ex,_⟩:=I.hok p _ hk
          exact ⟨o,e,ex⟩
        · obtain ⟨_,_,_,_,o,_,_,e,ex,_⟩:=I.hok p _ hk
          exact ⟨o,e,ex⟩
      obtain ⟨o,e,ex⟩:=z
      refine ⟨⟨o,e,ex.1⟩,fun a e2=>?_⟩
      cases e2
      exact ⟨o,e,ex.2.1⟩
    · obtain ⟨o,_,_,_,e,ex,_⟩:=I.hok p _ hk
      refine ⟨⟨o,e,ex.1⟩,fun a e2=>?_⟩
      cases e2
      exact ⟨o,e,ex.2.1⟩
  | _=>exact False.elim ty
def tBM (K:PySem.W.Frag) (T:String) (r:V→List V→Hp→VK→Prop) (to:TE) (t:TA):TE:=fun σ H Q=>to σ H fun x H1=>tyV K T x H1∧t σ H1 fun xs H2=>r x xs H2 Q
variable {o e:Expr} {es:List Expr} {to:TE} {t:TA} {name:Str} {apos cpos:Pos} {T id:String} {r:V→List V→Hp→VK→Prop}
theorem Zs8 (pa:PlainAttrs T) (slot:Slot T name id) (hty:typeOf (.builtin id)=pure (.type "method_descriptor")) (hm:MtR X id r) (ho:PE X o to) (ha:PA X (e::es) t)
    (hbase:attributeBase o name X.env (eval o X.env)=eval o X.env:=by rfl)
    (hfew:((backTo cpos (starEach (e::es) X.env)).all (fun x=>!x.1) && (backToKw cpos (keywordEach [] X.env)).all (fun x=>x.1.isSome)
      && decide ((e::es).length+([]:List Keyword).length+(if ([]:List Keyword).isEmpty then 0 else 1)<30))=true:=by rfl)
    (hline:(apos.endLine == cpos.line)=true:=by rfl) (hs:starEach (e::es) X.env=(false,eval e X.env)::starEach es X.env:=by rfl) (hplain:(backTo cpos (starEach es X.env)).any (·.1)=false:=by rfl) :
    PE X (.Call (.Attribute o name apos) (e::es) [] cpos) (tBM X.K T r to t):=by
  intro pins s σ H Q I h
  refine wpAny_Call_method_late hbase hfew hline rfl (thn (ho pins s σ H _ I h) fun v s1 ⟨x,H1,I1,r1,ty,q1⟩=>?_)
  obtain ⟨h1,h2⟩:=Ztv I1 r1 ty
  refine ⟨T,id,pa,slot,hty,h1,h2,?_⟩
  have hA:=ha cpos pins s1 σ H1 _ I1 q1
  rw [hs] at hA ⊢
  refine Calls.callWith_builtin (by show (false || (backTo cpos (starEach es X.env)).any (·.1))=false; rw [hplain]<;>rfl) (Calls.evalArgs_plain ?_)
  exact thn hA fun us s2 ⟨vs,H2,I2,r2,q2⟩=>hm pins s2 σ H2 x vs v us Q I2 r1 r2 q2
end
end L2
namespace L2
open PySem PySem.Spec PyProof.Rows
def MtM (X:Cx) (id:String) (r:V→List V→Hp→VK→Prop):Prop:=
  ∀(pins:List (Addr×Obj)) (s:Shared) (σ:St) (H:Hp) (x:V) (xs:List V) (v:Value) (us:List Value) (Q:VK),Inv X pins σ H s→RelV x v→Vals xs us→r x xs H Q→
    wpAny (model X.prog X.w) X.A (call (.builtin id) (v::us)) (EP X pins σ Q) X.xe s
theorem Vals.one:∀{x:V} {us:List Value},Vals [x] us→∃u,us=[u]∧RelV x u
  | _,_,.cons r .nil=>⟨_,rfl,r⟩
theorem Vals.rep {xs:List V} {us:List Value} (h:Vals xs us):∀k:Nat,Vals (List.replicate k xs).flatten (List.replicate k us).flatten
  | 0=>.nil
  | k+1=>by
    rw [List.replicate_succ,List.replicate_succ,List.flatten_cons,List.flatten_cons]
    exact Vals.append h (Vals.rep h k)
theorem Zfg (its:List Value):∀(k:Nat) (acc:List Value),
    List.foldl (fun x1 x2=>x1++x2) acc.toArray (List.replicate k its.toArray)=(acc++(List.replicate k its).flatten).toArray
  | 0,acc=>by simp
  | k+1,acc=>by
    have e:acc.toArray++its.toArray=(acc++its).toArray:=by simp
    have e2:(acc++its)++(List.replicate k its).flatten=acc++(List.replicate (k+1) its).flatten:=by
      rw [List.replicate_succ,List.flatten_cons,List.append_assoc]
    rw [←e2,←Zfg its k (acc++its),←e,List.replicate_succ,List.foldl_cons]
section
variable {X:Cx} {pins:List (Addr×Obj)} {σ:St} {H:Hp} {s:Shared} {l b:Addr} {xs ys zs:List V}
theorem Inv.lset {its its':List Value} {n:Nat} {f:Array Value→Array Value} {t':Nat} (I:Inv X pins σ H s) (hH:H l=some (.lst xs))
    (e:s.heap.get? l=some { cls:=.type "list",data:=.seq its.toArray n }) (hf:f its.toArray=its'.toArray) (hv:Vals ys its') (hz:ys.length≤sizeLine) :
    Inv X pins σ (upd H l (.lst ys)) { s with heap:=s.heap.update l (Obj.mapSeq f),toks:=t' }:=by
  have q:=PySem.IsL.update e f
  rw [hf] at q
  refine I.write (x:=l) (e:=l) (by rw [hH]; exact trivial) (.inl rfl) (fun b' u hb hu=>(Heap.get?_update_other s.heap (Obj.mapSeq f) (Ne.symm hb)).trans hu) ⟨_,q⟩ ?_
  exact ⟨hz,its',_,hv,q⟩
theorem Inv.lnew {its:List Value} {t':Nat} (I:Inv X pins σ H s) (hv:Vals ys its) (hz:ys.length≤sizeLine) :
    Inv X pins σ (upd H s.heap.objs.size (.lst ys)) { s with heap:=s.heap.push { cls:=.type "list",data:=.seq its.toArray },toks:=t' }:=
  I.laid (fun _ _ q=>Heap.get?_push_of_some _ q) (Nat.le_refl _) ⟨hz,its,0,hv,Heap.get?_push_size _ rfl⟩
theorem Inv.fresh (I:Inv X pins σ H s):H s.heap.objs.size=none:=I.hok.fresh (Nat.le_refl _)
theorem Inv.lstM (I:Inv X pins σ H s) (hH:H l=some (.lst xs)):xs.length≤sizeLine∧∃(its:List Value) (n:Nat),Vals xs its∧xs.length=its.length∧s.heap.get? l=some { cls:=.type "list",data:=.seq its.toArray n }:=by
  obtain ⟨z,its,n,r,e⟩:=I.hok l _ hH
  exact ⟨z,its,n,r,r.length,e⟩
theorem Zf1 {n:Nat} (h:n≤sizeLine):Builtin.List.listTooLong n=false:=by
  unfold Builtin.List.listTooLong
  exact decide_eq_false (by omega)
end
section
variable {X:Cx}
def ZmY:V→List V→Hp→VK→Prop:=fun x vs H Q=>∃l xs y,x=.ref l∧vs=[y]∧H l=some (.lst xs)∧xs.length<sizeLine∧Q .non (upd H l (.lst (xs++[y])))
theorem ZiV:MtM X "list.append" ZmY:=by
  intro pins s σ H x vs v us Q I rx rv h
  obtain ⟨l,xs,y,rfl,rfl,hH,hz,q⟩:=h
  cases rx
  obtain ⟨u,rfl,ru⟩:=rv.one
  obtain ⟨z,its,n,r,hl,e⟩:=I.lstM hH
  refine call_meets F.slot_list_append ⟨_,e,rfl⟩ F.entry_list_append (F.args_list_append_2 _ _) (PySem.list_append l its.toArray n u (by rw [List.size_toArray]; omega)) ⟨e,?_⟩
  refine ⟨.non,_,I.lset (its':=its++[u]) hH e (by simp) (r.append (.cons ru .nil)) ?_,rfl,q⟩
  rw [List.length_append,List.length_singleton]
  omega
def ZrS:V→List V→Hp→VK→Prop:=fun x vs H Q=>∃l b xs zs,x=.ref l∧vs=[.ref b]∧H l=some (.lst xs)∧H b=some (.lst zs)∧xs.length+zs.length≤sizeLine∧Q .non (upd H l (.lst (xs++zs)))
theorem Zu4:MtM X "list.extend" ZrS:=by
  intro pins s σ H x vs v us Q I rx rv h
  obtain ⟨l,b,xs,zs,rfl,rfl,hH,hB,hz,q⟩:=h
  cases rx
  obtain ⟨u,rfl,ru⟩:=rv.one
  cases ru
  obtain ⟨z,its,n,r,hl,e⟩:=I.lstM hH
  obtain ⟨z2,its2,n2,r2,hl2,e2⟩:=I.lstM hB
  have hsz:its.toArray.size+its2.toArray.size≤sizeLine:=by rw [List.size_toArray,List.size_toArray]; omega
  have hlong:¬(!its.toArray.isEmpty && Builtin.List.listTooLong (its.toArray.size+its2.toArray.size))=true:=by
    rw [Zf1 hsz,Bool.and_false]
    exact Bool.false_ne_true
  refine call_meets F.slot_list_extend ⟨_,e,rfl⟩ F.entry_list_extend (F.args_list_extend_2 _ _)
    (AutoSeq1.list_extend_list_list_0 l its.toArray n b its2.toArray n2 hlong (by rw [List.size_toArray]; omega) (by omega)) ⟨e,e2,?_⟩
  refine ⟨.non,_,I.lset (its':=its++its2) hH e (by simp) (r.append r2) ?_,rfl,q⟩
  rw [List.length_append]
  omega
def Zzw:R2:=fun x y H Q=>∃l b xs zs,x=.ref l∧y=.ref b∧H l=some (.lst xs)∧H b=some (.lst zs)∧xs.length+zs.length≤sizeLine∧∀p,H p=none→Q (.ref p) (upd H p (.lst (xs++zs)))
theorem Zup:OpR X (binaryOp .Add) Zzw:=by
  intro pins s σ H x y v u Q I rx ry h
  obtain ⟨l,b,xs,zs,rfl,rfl,hH,hB,hz,q⟩:=h
  cases rx
  cases ry
  obtain ⟨z,its,n,r,hl,e⟩:=I.lstM hH
  obtain ⟨z2,its2,n2,r2,hl2,e2⟩:=I.lstM hB
  refine PySem.P.add_list e e2 ?_ (by rw [List.size_toArray,List.size_toArray]; omega)
  have ea:its.toArray++its2.toArray=(its++its2).toArray:=by simp
  rw [ea]
  exact ⟨.ref _,_,I.lnew (t':=s.toks) (r.append r2) (by rw [List.length_append]; omega),rfl,q _ I.fresh⟩
def Zzv:R2:=fun x y H Q=>∃l k xs,x=.ref l∧y=.int k∧H l=some (.lst xs)∧-(2 ^ 63)≤k∧k<2 ^ 63∧xs.length*k.toNat≤sizeLine∧
  ∀p,H p=none→Q (.ref p) (upd H p (.lst (List.replicate k.toNat xs).flatten))
theorem Zjw {α:Type} (xs:List α) (k:Nat):(List.replicate k xs).flatten.length=k*xs.length:=by
  induction k with
  | zero=>simp
  | succ k ih=>rw [List.replicate_succ,List.flatten_cons,List.length_append,ih,Nat.succ_mul,Nat.add_comm]
theorem Zuk:OpR X (binaryOp .Mult) Zzv:=by
  intro pins s σ H x y v u Q I rx ry h
  obtain ⟨l,k,xs,rfl,rfl,hH,h1,h2,hz,q⟩:=h
  cases rx
  obtain ⟨t,rfl⟩:=ry
  obtain ⟨z,its,n,r,hl,e⟩:=I.lstM hH
  have hlen:its.toArray.size*k.toNat≤sizeLine:=by rw [List.size_toArray,←hl]; exact hz
  have hcap:¬its.toArray.size*k.toNat > (2 ^ 63-1)/8:=by
    have:(sizeLine:Nat)≤(2 ^ 63-1)/8:=by decide
    omega
  have hfit:¬(!Builtin.List.listFitsIndex k)=true:=by
    rw [fitsIndex_both h1 h2]
    exact Bool.false_ne_true
  have hlong:¬Builtin.List.listTooLong (its.toArray.size*k.toNat)=true:=by
    rw [Zf1 hlen]
    exact Bool.false_ne_true
  have hnew:List.foldl (fun x1 x2=>x1++x2) #[] (List.replicate (if its.toArray.isEmpty=true then 0 else k.toNat) its.toArray)=(List.replicate k.toNat its).flatten.toArray:=by
    have f0:∀m:Nat,List.foldl (fun x1 x2=>x1++x2) #[] (List.replicate m its.toArray)=(List.replicate m its).flatten.toArray:=fun m=>by
      have:=Zfg its m []
      rw [List.nil_append] at this
      exact this
    rw [f0]
    cases its with
    | nil=>simp
    | cons a r'=>rw [if_neg (by simp)]
  refine wpAny_binaryOp_repeat_ref (T:="list") (U:="int") (by decide) ⟨_,e,rfl⟩ (fun s'=>typeIs_int s' k t) noFill_list_mul F.fills_int_mul F.slot_int_rmul repeat_list F.slot_int_index.lookup
    (call_meets F.slot_int_rmul (typeIs_int s k t) F.entry_int_rmul (F.args_int_rmul_2 _ _) (int___rmul___int_list k t l its.toArray n)
      ⟨e,rfl,⟨_,e,rfl⟩,call_meets F.slot_list_mul ⟨_,e,rfl⟩ F.entry_list_mul (F.args_list_mul_2 _ _) (AutoListH.list___mul___list_int_3 l its.toArray n k t hfit hcap hlong) ⟨e,?_⟩⟩)
  rw [hnew]
  exact ⟨.ref _,_,I.lnew (t':=s.toks) (r.rep k.toNat) (by rw [Zjw,Nat.mul_comm]; exact hz),rfl,q _ I.fresh⟩
end
section
variable {prog:Program} {w:World} {A:Around} {E:Value→Shared→Prop} {s:Shared}
theorem ZmI {a c n:Nat} (hac:a≤c) (hc:c≤n):sliceBounds (some (a:Int)) (some (c:Int)) none n=((a:Int),(c:Int),1):=by
  simp only [sliceBounds,Option.getD_none]
  have h1:¬((a:Int)<0):=by omega
  have h2:¬((c:Int)<0):=by omega
  simp only [h1,h2,if_false,show (1:Int) > 0 by decide,if_true]
  congr 1
  · omega
  · congr 1; omega
set_option maxRecDepth 100000 in
theorem Zrt {l b sl:Addr} {items new:Array Value} {n n2:Nat} {vl vu:Value} {a c:Nat} {Q:Unit→Shared→Prop}
    (e:s.heap.get? l=some { cls:=.type "list",data:=.seq items n }) (e2:s.heap.get? b=some { cls:=.type "list",data:=.seq new n2 }) (hne:l≠b)
    (hs:s.heap.IsSliceOf sl vl vu .none) (pl:IsPart vl (some (a:Int))) (pu:IsPart vu (some (c:Int))) (hac:a≤c) (hc:c≤items.size)
    (hsz:items.size+new.size≤sizeLine) (h:Q () { s with heap:=s.heap.update l (Obj.mapSeq fun xs=>xs.extract 0 a++new++xs.extract c xs.size) }) :
    wpAny (model prog w) A (setItem (.ref l) (.ref sl) (.ref b)) Q E s:=by
  have hl:s.heap.IsList l items:=PySem.IsL.isList e
  have hb:s.heap.IsList b new:=PySem.IsL.isList e2
  obtain ⟨os,hos,hcs,hds⟩:=id hs
  have hTs:s.TypeIs (.ref sl) "slice":=⟨os,hos,hcs⟩
  have hstep:¬((rawPart none == rawInt 0)=true):=Bool.false_ne_true
  have hsame:Builtin.List.listSameRef (.ref l) (.ref b)=false:=by
    unfold Builtin.List.listSameRef
    exact beq_eq_false_iff_ne.mpr hne
  have hmax:(max (a:Int) (c:Int)).toNat=c:=by omega
  have hz':((fun xs:Array Value=>xs.extract 0 a++new++xs.extract c xs.size) items).size≤sizeLine+1:=by
    simp only [Array.size_append,Array.size_extract]
    omega
  unfold setItem
  try with_reducible refine wpAny_holding ?_
  first | refine wpAny_bind (wpAny_pure ?_) | skip
  refine wpAny_bind (wpAny_sequenceKey hl.typeIs (by decide) ?_)
  refine wpAny_bind (wpAny_callSpecial?_slot (name:=Str.ofString "__setitem__") hl.typeIs slot_list_setitem
    (wpAny_call_entry slot_list_setitem hl.typeIs entry_list_setitem ?_ (args_list_setitem _ _ _)))
  show wpAny _ _ (Builtin.List.listSubscript? (.ref sl) >>= _) _ _ s
  refine wpAny_bind ?_
  unfold Builtin.List.listSubscript?
  refine wpAny_bind (wpAny_specialOf hTs slice_no_index ?_)
  simp only [Option.isNone_none,if_true]
  refine wpAny_pure ?_
  show wpAny _ _ (typeOf (.ref sl) >>= _) _ _ s
  refine wpAny_bind (wpAny_typeOf hTs ?_)
  first
    | rw [if_neg (by decide)]
    | refine PySem.W.KFB.if_not (by decide) ?_
  rw [listSliceParts_eq]
  refine wpAny_bind (wpAny_bind (wpAny_field hos hds (x:=.none) rfl (wpAny_bind (wpAny_listPart .none ?_))))
  rw [if_neg hstep]
  refine wpAny_bind (wpAny_field hos hds (x:=vl) rfl (wpAny_bind (wpAny_listPart pl ?_)))
  refine wpAny_bind (wpAny_field hos hds (x:=vu) rfl (wpAny_bind (wpAny_listPart pu (wpAny_pure ?_))))
  first
    | simp only [hsame,Bool.false_eq_true,if_false]
    | refine PySem.W.KFB.if_not hsame ?_
    | (dsimp only
       rw [if_neg (by rw [hsame]; exact Bool.false_ne_true)])
  refine wpAny_bind (m:=Builtin.List.listAllItems (.ref b) "must assign iterable to extended slice") ?_
  unfold Builtin.List.listAllItems
  refine wpAny_bind (wpAny_typeOf hb.typeIs ?_)
  first
    | refine PySem.W.KFB.if_so (by decide) ?_
    | rw [if_pos (by decide)]
    | simp only [beq_self_eq_true,Bool.true_or,if_true]
  unfold Builtin.List.listItems
  refine wpAny_bind (wpAny_seqItems e2 rfl (wpAny_pure ?_))
  refine wpAny_bind (wpAny_bind (wpAny_seqItems e rfl (wpAny_pure ?_)))
  refine wpAny_bind (wpAny_of_eq ((sliceIndices_raw (some (a:Int)) (some (c:Int)) none items.size (by simp)).trans (congrArg (pure:Int×Int×Int→Sem (Int×Int×Int)) (ZmI hac hc))) ?_)
  show wpAny _ _ (if ((1:Int) == 1)=true then _ else _) _ _ s
  rw [if_pos (by decide)]
  refine wpAny_bind (wpAny_rule ?_)
  first
    | simp only [Zf1 hsz,Bool.false_eq_true,if_false]
    | refine PySem.W.KFB.if_not (Zf1 hsz) ?_
  first | refine wpAny_bind (wpAny_pure ?_) | skip
  show wpAny _ _ (updateSeq l (fun xs=>xs.extract 0 ((a:Int)).toNat++new++xs.extract (max (a:Int) (c:Int)).toNat xs.size) >>= _) _ _ s
  rw [hmax,Int.toNat_natCast]
  refine wpAny_bind (wpAny_updateSeq (hz:=Nat.le_trans (Nat.le_add_right _ _) hsz) (_hz':=hz') e rfl ?_)
  refine wpAny_bind (wpAny_letGo ?_)
  first
    | exact wpAny_bind (wpAny_pure (wpAny_pure ⟨.none,rfl,wpAny_pure h⟩))
    | exact wpAny_pure ⟨.none,rfl,wpAny_pure h⟩
end
section
variable {X:Cx}
end
end L2
namespace Att
open PySem PySem.W PySem.Calls PyProof.Rows
theorem Zhj {P:Params} {h:Heap}:∀(ns:List Int) (vs:List Value),WellAll P h vs (ns.map WData.int)→IntsAre vs ns:=by
  intro ns
  induction ns with
  | nil=>
    intro vs w
    rw [List.map_nil] at w
    cases w
    exact .nil
  | cons n ns ih=>
    intro vs w
    rw [List.map_cons] at w
    cases w with
    | cons a b=>
      cases a
      exact .cons _ _ (ih _ b)
theorem ZnI {l:OpenLaw} {n:Nat} (hn:l.most=some n) {P:Params} {h:Heap} {args:List WData} {vals:List Value}
    (hpre:l.row.toRowW.claim.pre args=true) (hwl:WellAll P h vals args) :
    ∃a vs ns,vals=[Value.ref a]∧args=[WData.list (ns.map WData.int)]∧h.get? a=some { cls:=.type "list",data:=.seq vs.toArray }∧IntsAre vs ns∧ns.length≤n:=by
  have hsh:WShape.hasAll [] args [.list .int]=true:=(pre_splitW hpre).1
  have hc:l.pre.holds [] { args:=args }=true:=(pre_splitW hpre).2
  obtain ⟨d,r,rfl,h1,h2⟩:=hasAllW_cons hsh
  obtain rfl:=hasAllW_nil h2
  obtain ⟨xs,rfl,h3⟩:=hasW_list h1
  obtain ⟨ns,rfl⟩:=items_int h3
  have hlen:ns.length≤n:=by
    unfold OpenLaw.pre at hc
    have h4:(WTm.not (.lt (.lit (.int (n:Int))) (.len (.arg 0)))).holds [] { args:=[.list (ns.map .int)] }=true:=by
      have h4:=(holds_andW hc).1
      rw [hn] at h4
      exact h4
    have h5:=condW_of h4 (w_not (w_lt w_lit (w_len_list (w_arg rfl))))
    rw [List.length_map] at h5
    refine Nat.le_of_not_lt fun q=>?_
    have q':(n:Int)<((ns.length:Nat):Int):=by omega
    first
      | (rw [decide_eq_true q'] at h5; exact absurd h5 (by decide))
      | (simp at h5; omega)
  cases hwl with
  | cons w1 w2=>
    cases w2
    cases w1 with
    | list ho hall=>exact ⟨_,_,ns,rfl,rfl,ho,Zhj ns _ hall,hlen⟩
theorem ZnJ (l:OpenLaw) (args:List WData):l.row.toRowW.claim.post args (.bool true) args=true:=
  postW_of (r:=l.row.toRowW) (X:=(true == true))
    (show WShape.has [] (.bool true) .bool=true by first | rfl | decide | simp [WShape.has,WShape.arms,WShape.armsAll])
    (show (WTm.eq .res (.lit (.bool true))).value [] { args:=args,res:=some (.bool true),after:=args }=some (.bool (true == true)) from w_eq_bool (w_res rfl) w_lit) rfl
theorem attach_call {l:OpenLaw} {n:Nat} {q:Program} {loose:List Str} {XP:(Str→Option Value)→Heap→Prop} {YP:World→Heap→Prop} {d:DefRec}
    (hn:l.most=some n) (hdf:d.params.defaults=[])
    (call:∀(w:World) (s₀ s₁:Shared) (mg mb:Str→Option Value) (fa:Addr) (o:Obj) (pm cd doc:Value) (a:Addr) (vs:List Value) (ns:List Int),
      Ground q loose [] XP w s₀ mg mb s₁.heap→YP w s₁.heap→
      s₁.heap.get? fa=some o→o.data=.func (docDef d.name d.params d.body d.scope pm cd doc)→s₁.heap.CodeRec cd d.name→mg d.name=some (.ref fa)→
      s₁.heap.get? a=some { cls:=.type "list",data:=.seq vs.toArray }→IntsAre vs ns→ns.length≤n→s₁.gens=#[]→
      codeAny (model l.prog w) callerA (.call (.ref fa) ⟨[.ref a],[]⟩) (fun r s'=>r=.ok (.ret (.bool true))∧OldK s₁.heap s'.heap∧s'.os=s₁.os∧AllBare s'.gens) s₁) :
    WalkO q loose XP YP l.row.toRowW d [] (fun f vs=>PySem.call f vs):=by
  intro w s₀ s₁ mg mb G Y fa o pm cd doc dV kV ho hd hcd hD hmg hg args vals as hpre hlay hrd hwl hlo
  obtain rfl:dV=.none:=Dflts.none hD hdf
  obtain rfl:kV=.none:=Dflts.noKw hD
  obtain ⟨a,vs,ns,rfl,rfl,hobj,hints,hlen⟩:=ZnI hn hpre hwl
  refine enter_call (codeAny_mono (call w s₀ s₁ mg mb fa o pm cd doc a vs ns G Y ho (fd_plain hd) hcd hmg hobj hints hlen hg) fun r s' hq=>?_)
  obtain ⟨rfl,h2,h3,h4⟩:=hq
  exact ⟨.inl ⟨.bool true,.bool true,[],rfl,fun _=>rfl,.bool true,ZnJ l _,fun _=>⟨List.Pairwise.nil,fun _ hm=>(nomatch hm)⟩⟩,h2,h3,h4⟩
section
variable {prog:Program} {w:World} {A:Around} {E:Value→Shared→Prop} {s:Shared} {K:Frag}
end
end Att
namespace L2
open PySem PySem.Spec PyProof.Rows
theorem ZiE:∀{vs:List Value} {ns:List Int},IntsAre vs ns→Vals (ns.map V.int) vs
  | _,_,.nil=>.nil
  | _,_,.cons n t h=>.cons ⟨t,rfl⟩ (ZiE h)
def ZsM (H:Hp):Prop:=∀b,H b=none∨∃o xs,H b=some (.frz o (.lst xs))
theorem ZqD {P:Program} {w:World} {K:PySem.W.Frag} {mg mb:Str→Option Value} {CX:CXT} {k:Nat} {fa a:Addr} {fd:FuncData} {x:Str} {sp:Sp} {s₁:Shared} {vs:List Value} {ns:List Int}
    (KX:K.In s₁.heap) (hns:s₁.heap.Ns mainGlobals mg) (hb:s₁.heap.Ns builtinsNs mb) (hbb:∀x:Str,x≠"__name__"→mb x=bootBuiltins x) (hlim:s₁.heap.NoLimit) (hg:s₁.gens=#[])
    (ha:s₁.heap.get? a=some { cls:=.type "list",data:=.seq vs.toArray }) (hi:IntsAre vs ns) (hl:ns.length≤sizeLine) (hr:Room k callerA)
    (F:∀base:Heap,K.In base→base.Ns mainGlobals mg→FnOk P w K mg base CX k fa fd [x] sp) (hbind:∀(s:Shared) (u:Value),BindsTo s fd ⟨[u],[]⟩ [(x,u)])
    (hsp:∀H:Hp,ZsM H→SqL K H a (ns.map V.int)→sp [.ref a] H (fun v _=>v=.bl true) fun _ _ _=>False)
    (hCX:∀H e s',CX [] H s₁ (fun _ _ _=>False) e s'→False) :
    codeAny (model P w) callerA (.call (.ref fa) ⟨[.ref a],[]⟩) (fun r s'=>r=.ok (.ret (.bool true))∧OldK s₁.heap s'.heap∧s'.os=s₁.os∧AllBare s'.gens) s₁:=by
  have rv:=ZiE hi
  have lenV:=hi.length
  have core:∀H:Hp,ZsM H→SqL K H a (ns.map V.int)→HOk P w H s₁.heap→(∀b,H b≠none→b=a)→(H a≠none→K.lookup a=none)→
      codeAny (model P w) callerA (.call (.ref fa) ⟨[.ref a],[]⟩) (fun r s'=>r=.ok (.ret (.bool true))∧OldK s₁.heap s'.heap∧s'.os=s₁.os∧AllBare s'.gens) s₁:=by
    intro H hO hS hok hA hK
    have base_of:∀{b:Addr} {o:Obj},s₁.heap.get? b=some o→H b=none→(ZjC s₁.heap H).get? b=some o:=fun e n=>ZqJ e n
    have noA:∀{b:Addr} {o:Obj} {es:Array DictEntry} {ep:Nat},s₁.heap.get? b=some o→o.data=.dict es ep→H b=none:=fun {b o es ep} e d=>by
      cases q:H b with
      | none=>rfl
      | some u=>
        have e':b=a:=hA b (by rw [q]; simp)
        subst e'
        rw [ha] at e; cases e
        have d':Data.seq vs.toArray _=Data.dict es ep:=d
        cases d'
    have nsK:∀{b:Addr} {m:Str→Option Value},s₁.heap.Ns b m→(ZjC s₁.heap H).Ns b m:=fun {b m} ⟨o,es,ep,e,d,r⟩=>⟨o,es,ep,base_of e (noA e d),d,r⟩
    have hKb:K.In (ZjC s₁.heap H):=fun b o e=>base_of (KX b o e) (by
      cases q:H b with
      | none=>rfl
      | some u=>
        have e':b=a:=hA b (by rw [q]; simp)
        subst e'
        rw [hK (by rw [q]; simp)] at e; cases e)
    have hM:Mod K mg (ZjC s₁.heap H):=⟨hKb,nsK hns,⟨mb,nsK hb,hbb⟩,let ⟨mc,h1,h2⟩:=hlim; ⟨mc,nsK h1,h2⟩⟩
    have e0:Env0 P w K mg (ZjC s₁.heap H) callerA [] s₁ H:=⟨rfl,hM,fun b o e=>Zsc e,Nat.le_of_eq (Zn0 _ _),trivial,fun b hb=>absurd (show b∈([]:List Addr) from hb) (by simp),hok,.of_eq hg⟩
    refine codeAny_mono ((F _ hKb (nsK hns)).run callerA [] s₁ H ⟨[.ref a],[]⟩ [.ref a] [.ref a] _ _ hr e0 (hbind s₁ (.ref a)) (.cons rfl .nil) (hsp H hO hS)) fun r s' h=>?_
    cases r with
    | error e=>exact (hCX H e s' h).elim
    | ok fl=>
      cases fl with
      | next=>exact False.elim h
      | brk=>exact False.elim h
      | cont=>exact False.elim h
      | ret u=>
        obtain ⟨v,H',os,bare,un,hok',r',q⟩:=h
        have q':v=.bl true:=q
        subst q'
        obtain rfl:u=Value.bool true:=r'
        refine ⟨rfl,OldK.of_keep fun b o e=>?_,os,bare⟩
        cases q:H b with
        | none=>exact un.keep b o e q (by intro z; exact absurd (show b∈([]:List Addr) from z) (by simp)) (by simp)
        | some u=>
          rcases hO b with z | ⟨ob,xs,z⟩
          · rw [q] at z; cases z
          · have z2:=un.frzs b ob _ z
            obtain ⟨e1,_⟩:=hok b _ z
            obtain ⟨e2,_⟩:=hok' b _ z2
            rw [e] at e1; cases e1
            exact e2
  cases hk:K.lookup a with
  | some o=>
    have e:=KX a o hk
    rw [ha] at e
    cases e
    refine core (fun _=>none) (fun _=>.inl rfl) (.inr ⟨_,vs.toArray,_,hk,rfl,rfl,rfl,by rw [List.size_toArray,lenV]; exact hl,by simpa using rv⟩) (fun b u z=>by have z':(none:Option HO)=some u:=z; cases z') (fun b z=>absurd rfl z) fun z=>absurd rfl z
  | none=>
    refine core (fun b=>if b=a then some (.frz { cls:=.type "list",data:=.seq vs.toArray } (.lst (ns.map V.int))) else none) (fun b=>?_) (.inl (.inr ⟨{ cls:=.type "list",data:=.seq vs.toArray },if_pos rfl⟩)) (fun b u z=>?_) (fun b z=>?_) fun _=>hk
    · by_cases hb:b=a
      · exact .inr ⟨_,_,if_pos hb⟩
      · exact .inl (if_neg hb)
    · by_cases hb:b=a
      · have z':=(if_pos hb).symm.trans z
        cases z'
        subst hb
        exact ⟨ha,by rw [List.length_map]; exact hl,vs,_,rv,ha⟩
      · have z':=(if_neg hb).symm.trans z
        cases z'
    · by_cases hb:b=a
      · exact hb
      · exact absurd (if_neg hb) z
end L2
namespace L2
open PySem PySem.Spec PyProof.Rows
theorem Zrw {l:PySem.W.OpenLaw} {n k:Nat} {q:Program} {loose:List Str} {XP:(Str→Option Value)→Heap→Prop} {YP:World→Heap→Prop} {d:DefRec} {K:Params→PySem.W.Frag} {CX:World→CXT} {sp:World→Sp} {x:Str}
    (hn:l.most=some n) (hn2:n≤sizeLine) (hdf:d.params.defaults=[]) (hr:Room k callerA)
    (hY:∀(w:World) (h:Heap),YP w h→(K w.params).In h)
    (F:∀(w:World) (mg:Str→Option Value) (fa:Addr) (h:Heap),(K w.params).In h→h.Ns mainGlobals mg→mg d.name=some (.ref fa)→
      ∃fd:FuncData,(∀(s:Shared) (u:Value),BindsTo s fd ⟨[u],[]⟩ [(x,u)])∧
        ∀base:Heap,(K w.params).In base→base.Ns mainGlobals mg→FnOk l.prog w (K w.params) mg base (CX w) k fa fd [x] (sp w))
    (hsp:∀(w:World) (H:Hp) (a:Addr) (ns:List Int),ns.length≤n→ZsM H→SqL (K w.params) H a (ns.map V.int)→sp w [.ref a] H (fun v _=>v=.bl true) fun _ _ _=>False)
    (hCX:∀(w:World) (H:Hp) (s:Shared) (e:Value) (s':Shared),CX w [] H s (fun _ _ _=>False) e s'→False) :
    PySem.W.WalkO q loose XP YP l.row.toRowW d [] (fun f vs=>PySem.call f vs):=by
  refine Att.attach_call hn hdf fun w s₀ s₁ mg mb fa o pm cd doc a vs ns G Y ho hd hcd hmg hobj hints hlen hg=>?_
  have KX:=hY w _ Y
  obtain ⟨fd,hb,hF⟩:=F w mg fa _ KX G.T.g hmg
  exact ZqD KX G.T.g G.T.b G.T.builtins G.T.nolimit hg hobj hints (Nat.le_trans hlen hn2) hr hF hb (fun H hO hS=>hsp w H a ns hlen hO hS) fun H e s'=>hCX w H s₁ e s'
end L2
namespace L2
open PySem PySem.Spec PyProof.Rows
def Znh (s:Stmt) (j:Nat):Stmt:=match s with
  | .ClassDef _ _ _ body _ _ _ _ _ _ _=>body.getD j (.Pass ⟨0,0,0,0⟩)
  | _=>.Pass ⟨0,0,0,0⟩
def Zt (s:Stmt):Arguments:=match s with
  | .FunctionDef _ a _ _ _ _ _ _ _ _=>a
  | _=>{ posonlyargs:=[],args:=[],vararg:=none,kwonlyargs:=[],kw_defaults:=[],kwarg:=none,defaults:=[] }
def Zp (s:Stmt):List Stmt:=match s with
  | .FunctionDef _ _ b _ _ _ _ _ _ _=>b
  | _=>[]
def Zg (s:Stmt):Scope:=match s with
  | .FunctionDef _ _ _ _ _ _ sc _ _ _=>sc
  | _=>{ kind:=.function,names:=[],isGenerator:=false,isCoroutine:=false }
abbrev CX0:CXT:=fun _ _ _ _ _ _=>False
abbrev E0:XK:=fun _ _ _=>False
theorem Zqd {X:Cx}:ZgQ CX0 X E0:=fun _ _ _ _ _ _ _ h=>h.elim
structure Fun (K:PySem.W.Frag) (x qual:Str) (st:Stmt) (f:Addr) (fd:FuncData):Prop where
  ex:∃(oc:Value) (od:Option Addr) (kV doc pm:Value) (an:Option Addr) (cdv ct:Value) (osl:Array (Option Value)),
    fd=PySem.W.fnOf x qual (Zt st) (Zp st) (Zg st) .none kV doc pm an cdv ct∧K.lookup f=some ⟨oc,od,.func fd,osl⟩∧PySem.W.codeIn K cdv qual=true
  kp:PySem.W.keepIn K (.ref f)=true
section
variable {P:Program} {w:World} {K:PySem.W.Frag} {mg:Str→Option Value} {base:Heap}
theorem Fun.ok {x qual:Str} {st:Stmt} {f:Addr} {fd:FuncData} {N ps:List Str} {k:Nat} {sp:Sp} (F:Fun K x qual st f fd) (S:Zs N ps (Zg st)) (len:∀vs H Q E,sp vs H Q E→vs.length=ps.length)
    (hbody:∀(cdv:Value) (A:Around) (outer:List Env) (s:Shared) (H:Hp) (vs:List V) (Q:VK) (E:XK),Room k (A.deeper (envOfC qual (Zg st) s.heap.objs.size f cdv))→sp vs H Q E→
      ∃t,PSs (Zh7 CX0 P w K mg base N qual (Zg st) f cdv A outer s H E).nox (Zp st) t∧t { nx:=fun _ H'=>Q .non H',rt:=Q } (Zes N vs) H):FnOk P w K mg base CX0 (k+1) f fd ps sp:=by
  obtain ⟨oc,od,kV,doc,pm,an,cdv,ct,osl,rfl,lk,hcd⟩:=F.ex
  refine Zwn lk hcd S len fun A outer s H vs Q E hr hsp=>?_
  obtain ⟨t,h,q⟩:=hbody cdv A outer s H vs Q E hr hsp
  exact ⟨t,h.nox,q⟩
theorem Fun.binds {x qual:Str} {st:Stmt} {f:Addr} {fd:FuncData} {ps:List Str} (F:Fun K x qual st f fd)
    (h:∀(kV doc pm:Value) (an:Option Addr) (cdv ct:Value) (us:List Value),us.length=ps.length→bindArgs (PySem.W.fnOf x qual (Zt st) (Zp st) (Zg st) .none kV doc pm an cdv ct) ⟨us,[]⟩=pure (ps.zip us)):Binds K fd ps []:=by
  obtain ⟨oc,od,kV,doc,pm,an,cdv,ct,osl,rfl,lk,hcd⟩:=F.ex
  exact .all (h kV doc pm an cdv ct)
theorem Zz {x qual:Str} {st:Stmt} {f:Addr} {oc:Value} {od an:Option Addr} {osl:Array (Option Value)} {kV doc pm cdv ct:Value} (l:K.lookup f=some ⟨oc,od,.func (PySem.W.fnOf x qual (Zt st) (Zp st) (Zg st) .none kV doc pm an cdv ct),osl⟩)
    (c:PySem.W.codeIn K cdv qual=true) (k:PySem.W.keepIn K (.ref f)=true):Fun K x qual st f (PySem.W.fnOf x qual (Zt st) (Zp st) (Zg st) .none kV doc pm an cdv ct):=⟨⟨oc,od,kV,doc,pm,an,cdv,ct,osl,rfl,l,c⟩,k⟩
end
section
variable {X:Cx}
end
end L2
namespace L2
open PySem PySem.Spec PyProof.Rows
section
variable {P:Program} {w:World} {K:PySem.W.Frag} {mg:Str→Option Value} {base:Heap}
def Zl (K:PySem.W.Frag) (mg:Str→Option Value) (x:Str) (st:Stmt) (ps:List Str):Prop:=
  ∃(f:Addr) (fd:FuncData),Fun K x x st f fd∧Binds K fd ps []∧mg x=some (.ref f)
def Def (P:Program) (w:World) (K:PySem.W.Frag) (mg:Str→Option Value) (base:Heap) (k:Nat) (x:Str) (ps:List Str) (sp:Sp):Prop:=
  ∃(f:Addr) (fd:FuncData),FnOk P w K mg base CX0 k f fd ps sp∧Binds K fd ps []∧PySem.W.keepIn K (.ref f)=true∧mg x=some (.ref f)
end
section
variable {X:Cx} {k:Nat} {x:Str} {ps:List Str} {sp:Sp} {p pos:Pos} {e:Expr} {es:List Expr} {t:TA}
theorem Zqb {j:Nat} (D:Def X.prog X.w X.K X.mg X.base k x ps sp) (hr:Room j X.A) (hj:k≤j) (ha:PA X (e::es) t) (hg:Gl X x:=by rfl) (hdb:(x == ("__debug__":Str))=false:=by decide)
    (he:starEach (e::es) X.env=(false,eval e X.env)::starEach es X.env:=by rfl) (hpl:(backTo pos (starEach es X.env)).any (·.1)=false:=by rfl):PE X (.Call (.Name x p) (e::es) [] pos) (Zs2 sp [] E0 t):=by
  obtain ⟨f,fd,F,b,kp,m⟩:=D
  exact Zr8 F (hr.mono hj) hg m kp b .nil Zqd ha hdb he hpl
theorem Zr6 {i:Int} (h:∃t,X.mg x=some (.int i t)) (hg:Gl X x:=by rfl) (hd:(x == ("__debug__":Str))=false:=by decide):PE X (.Name x pos) (tC (.int i)):=by
  obtain ⟨t,h⟩:=h
  exact Zm3 hg h ⟨t,rfl⟩ hd
def Zwy (_ j:Int):Prop:=0<j∧j.natAbs.log2<9000
theorem Zqe:OpR X (binaryOp .FloorDiv) (rI Zwy fun i j=>.int (i/j)):=opI fun i j _ _ _ _ _ hc q=>by
  have h1:(0:Int)<j:=hc.1
  exact floordiv_int (by omega) (by rw [Int.fdiv_eq_ediv_of_nonneg i (by omega)]; exact q) (.inl (PyProof.noPylong_of_log2 hc.2))
theorem Zl4:CallR X (.builtin "isinstance") (fun xs H Q=>∃(x:V) (n:String) (t:Value) (b:Bool),xs=[x,.ty n]∧Zgn X.K H x t∧PySem.W.kitOne X.K t (.type n)=some b∧Q (.bl b) H):=by
  intro pins s σ H xs us Q I r h
  obtain ⟨x,n,t,b,rfl,ty,e,q⟩:=h
  cases r with
  | cons rx rr=>
    cases rr with
    | cons ry rr=>
      cases rr
      cases ry
      exact ZnW I rx ty e fun tk=>⟨.bl b,H,I.tok tk,rfl,q⟩
theorem ZvR {x:Str} {n:String} {pos:Pos} (hm:X.mg x=none) (hv:bootBuiltins x=some (.type n)) (hg:Gl X x:=by rfl) (hn:x≠"__name__":=by decide) (hd:(x == ("__debug__":Str))=false:=by decide):PE X (.Name x pos) (tC (.ty n)):=
  Zr9 hg hm hv rfl hn hd
end
end L2
set_option maxHeartbeats 4000000
namespace L2
open PySem PySem.Spec PyProof.Rows
theorem Zgc {scope:Scope} {env:Env} (h:∀x∈scope.names,x.2=.free→∃c,env.cells.lookup x.1=some c) :
    ∃cl:List (Str×Addr),closureFor scope env=pure cl∧(∀n c,(n,c)∈cl→env.cells.lookup n=some c)∧∀x∈scope.names,x.2=.free→∃c,(x.1,c)∈cl:=by
  have key:∀(names:List (Str×NameKind)) (acc:List (Str×Addr)),(∀x∈names,x.2=.free→∃c,env.cells.lookup x.1=some c)→(∀n c,(n,c)∈acc→env.cells.lookup n=some c)→
      ∃cl:List (Str×Addr),(forIn names acc fun (x:Str×NameKind) (cs:List (Str×Addr))=>if (x.2 == NameKind.free)=true then (do let c ←cellOf env x.1; pure (ForInStep.yield ((x.1,c)::cs)):Sem _) else pure (ForInStep.yield cs))=(pure cl:Sem _)∧
        (∀n c,(n,c)∈cl→env.cells.lookup n=some c)∧(∀p∈acc,p∈cl)∧∀x∈names,x.2=.free→∃c,(x.1,c)∈cl:=by
    intro names
    induction names with
    | nil=>intro acc _ ha; exact ⟨acc,rfl,ha,fun _ p=>p,fun x hx=>nomatch hx⟩
    | cons y r ih=>
      intro acc hx ha
      obtain ⟨n,k⟩:=y
      by_cases hk:k=.free
      · subst hk
        obtain ⟨c,hc⟩:=hx (n,.free) List.mem_cons_self rfl
        obtain ⟨cl,e,h1,h2,h3⟩:=ih ((n,c)::acc) (fun x z=>hx x (List.mem_cons_of_mem _ z)) (fun m d z=>by
          rcases List.mem_cons.mp z with z | z
          · cases z; exact hc
          · exact ha m d z)
        refine ⟨cl,?_,h1,fun p z=>h2 p (List.mem_cons_of_mem _ z),fun x z zf=>?_⟩
        · have ec:cellOf env n=pure c:=by unfold cellOf; rw [hc]
          rw [List.forIn_cons]
          simp only [beq_self_eq_true,if_true,ec,pure_bind]
          exact e
        · rcases List.mem_cons.mp z with z | z
          · cases z; exact ⟨c,h2 _ List.mem_cons_self⟩
          · exact h3 x z zf
      · obtain ⟨cl,e,h1,h2,h3⟩:=ih acc (fun x z=>hx x (List.mem_cons_of_mem _ z)) ha
        refine ⟨cl,?_,h1,h2,fun x z zf=>?_⟩
        · have hb:(k == NameKind.free)=false:=by simpa using hk
          rw [List.forIn_cons]
          simp only [hb,Bool.false_eq_true,if_false,pure_bind]
          exact e
        · rcases List.mem_cons.mp z with z | z
          · cases z; exact absurd zf hk
          · exact h3 x z zf
  obtain ⟨cl,e,h1,_,h3⟩:=key scope.names [] h (fun n c z=>nomatch z)
  refine ⟨cl,?_,h1,h3⟩
  simp only [closureFor]
  rw [e]
  rfl
def Cx.comp (X:Cx) (scope:Scope) (N':List Str) (cl:List (Str×Addr)) (C:Addr) (s₀:Shared) (H₀:Hp) (fp:List Addr):Cx where
  prog:=X.prog
  w:=X.w
  K:=X.K
  mg:=X.mg
  base:=X.base
  A:=X.A
  N:=N'
  s₀:=s₀
  H₀:=H₀
  env:=compEnvC scope cl C X.env
  outer:=X.stack
  stack:=X.stack
  ex:=fp
  fn:=fun _=>false
  calm:=X.calm
  pn:=[]
  xe:=fun _ _=>False
def inner (src:List Nat) (σ:St) (x:Option V):St:=x::src.map fun j=>(σ[j]?).join
theorem ZhT {α:Type} {l:List (Str×α)} {n:Str} {c:α} (h:(n,c)∈l):∃d,l.lookup n=some d:=by
  induction l with
  | nil=>cases h
  | cons y r ih=>
    obtain ⟨m,d⟩:=y
    by_cases e:n == m
    · exact ⟨d,by rw [List.lookup_cons,e]⟩
    · rcases List.mem_cons.mp h with z | z
      · cases z; exact absurd (beq_self_eq_true n) e
      · obtain ⟨d',q⟩:=ih z
        exact ⟨d',by rw [List.lookup_cons,Bool.eq_false_iff.mpr e]; exact q⟩
theorem Zd5 {env:Env} {n:Str}:∀{names:List (Str×NameKind)} {k:NameKind},(∀y∈names,y.2≠.cell)→
    (names.map fun (n,k)=>if (k == NameKind.free && env.scope.kind == .function && env.kindOf n == some .cell) then (n,NameKind.cell) else (n,k)).lookup n=some k→(k=.cell∨k=.free)→(n,NameKind.free)∈names
  | [],_,_,h,_=>by simp at h
  | (m,j)::r,k,hc,h,hk=>by
    have nc:j≠.cell:=hc (m,j) List.mem_cons_self
    rw [List.map_cons] at h
    by_cases e:n == m
    · have en:n=m:=by simpa using e
      subst en
      by_cases cnd:(j == NameKind.free && env.scope.kind == .function && env.kindOf n == some .cell)=true
      · have:j=.free:=by
          simp only [Bool.and_eq_true,beq_iff_eq] at cnd
          exact cnd.1.1
        rw [this]
        exact List.mem_cons_self
      · simp only [cnd] at h
        rw [if_neg (by simp),List.lookup_cons,beq_self_eq_true] at h
        cases h
        rcases hk with rfl | rfl
        · exact absurd rfl nc
        · exact List.mem_cons_self
    · refine List.mem_cons_of_mem _ (Zd5 (env:=env) (k:=k) (fun y hy=>hc y (List.mem_cons_of_mem _ hy)) ?_ hk)
      rw [List.lookup_cons] at h
      have e2:(n == (if (j == NameKind.free && env.scope.kind == .function && env.kindOf m == some .cell)=true then (m,NameKind.cell) else (m,j)).1)=false:=by
        split<;>exact Bool.eq_false_iff.mpr e
      rw [e2] at h
      exact h
theorem ZfT {env:Env}:∀{names:List (Str×NameKind)} {x:Str},names.lookup x=some .free→
    (names.map fun (n,k)=>if (k == NameKind.free && env.scope.kind == .function && env.kindOf n == some .cell) then (n,NameKind.cell) else (n,k)).lookup x=some .cell∨
    (names.map fun (n,k)=>if (k == NameKind.free && env.scope.kind == .function && env.kindOf n == some .cell) then (n,NameKind.cell) else (n,k)).lookup x=some .free
  | [],_,h=>by simp at h
  | (n,k)::r,x,h=>by
    have ih:=@ZfT env r x
    rw [List.map_cons]
    cases hx:x == n with
    | true=>
      simp only [List.lookup_cons,hx] at h
      cases h
      by_cases hc:(NameKind.free == NameKind.free && env.scope.kind == .function && env.kindOf n == some .cell)=true
      · left
        show List.lookup x ((if (NameKind.free == NameKind.free && env.scope.kind == .function && env.kindOf n == some .cell)=true then (n,NameKind.cell) else (n,NameKind.free))::_)=_
        rw [if_pos hc,List.lookup_cons,hx]
      · right
        show List.lookup x ((if (NameKind.free == NameKind.free && env.scope.kind == .function && env.kindOf n == some .cell)=true then (n,NameKind.cell) else (n,NameKind.free))::_)=_
        rw [if_neg hc,List.lookup_cons,hx]
    | false=>
      simp only [List.lookup_cons,hx] at h
      have e:∀t,List.lookup x ((if (k == NameKind.free && env.scope.kind == .function && env.kindOf n == some .cell)=true then (n,NameKind.cell) else (n,k))::t)=List.lookup x t:=fun t=>by
        split<;>rw [List.lookup_cons,hx]
      rcases ih h with q | q
      · exact .inl ((e _).trans q)
      · exact .inr ((e _).trans q)
section
variable {X:Cx} {x:Str} {px:Pos} {iter elt:Expr} {scope:Scope} {pos:Pos} {N':List Str} {src:List Nat} {wi:TI} {te:TE}
structure ZbB (scope sc:Scope) (x:Str) (N N':List Str) (src:List Nat):Prop where
  kind:scope.kind=.function
  cell:∀y∈scope.names,y.2≠.cell
  loc:∀y∈scope.names,y.2=.local→scope.names.lookup y.1=some .local
  own:scope.names.lookup x=some .local
  free:∀y∈scope.names,y.2=.free→sc.names.lookup y.1=some .cell
  nd:N'.Nodup
  names:N'=x::src.map fun j=>N.getD j x
  all:∀j∈src,j<N.length
  fr:∀j∈src,sc.names.lookup (N.getD j x)=some .cell∧scope.names.lookup (N.getD j x)=some .free
theorem ZmF {pins:List (Addr×Obj)} {σ:St} {H:Hp} {s s':Shared} {C:Addr} {cl:List (Str×Addr)} {fp:List Addr} (I:Inv X pins σ H s) (S:ZbB scope X.env.scope x X.N N' src)
    (hcl:∀n c,(n,c)∈cl→X.env.cells.lookup n=some c) (hcl2:∀y∈scope.names,y.2=.free→∃c,(y.1,c)∈cl) (hC:s.heap.objs.size≤C) (hfp:∀b∈fp,ZiC X pins H b) (hfl:∀b∈fp,b<s.heap.objs.size)
    (hn:∃m,s'.heap.Ns C m) (hk:∀b o,s.heap.get? b=some o→s'.heap.get? b=some o) (ho:s'.os=s.os) (hg:s'.gens=s.gens) :
    Inv (X.comp scope N' cl C s H fp) [] (inner src σ none) H s':=by
  have cll:∀n c,cl.lookup n=some c→X.env.cells.lookup n=some c:=fun n c e=>hcl n c (PySem.mem_of_lookup e)
  refine ⟨⟨I.ok.mod,S.kind,I.ok.glob,I.ok.blt,hC,fun y z c h1 h2=>I.ok.inj y z c (cll _ _ h1) (cll _ _ h2),fun y hy=>?_,fun y c h=>absurd (show false=true from h) (by decide),I.ok.hd,I.ok.frames,.inl rfl,fun b hb=>⟨Nat.ne_of_lt (Nat.lt_of_lt_of_le (hfl b hb) hC),fun y c e=>(hfp b hb).2.2.2.2.1 y c (cll y c e)⟩,
    I.bs,Nat.le_trans I.ok.bsz I.sz,fun b o e hb=>?_,fun b hb=>?_,I.stack,I.stkFree⟩,ho,?_,Un.kept hk,?_,fun y c e=>?_,I.hok.fresh hC,fun y c e=>I.freeC y c (cll y c e),fun p hp=>absurd (show p∈([]:List (Addr×Obj)) from hp) (by simp),I.hok.kept hk,?_⟩
  · have hy':(relabel scope X.env).names.lookup y=some .cell∨(relabel scope X.env).names.lookup y=some .free:=hy
    have:(y,NameKind.free)∈scope.names:=by
      rcases hy' with h | h
      · exact Zd5 S.cell h (.inl rfl)
      · exact Zd5 S.cell h (.inr rfl)
    obtain ⟨c,hc⟩:=hcl2 _ this rfl
    exact ZhT hc
  · rcases (hfp b hb).2.2.2.1 with z | z
    · exact I.ok.noex b o e z
    · exact absurd (Nat.lt_of_lt_of_le (Heap.lt_size e) (Nat.le_trans I.ok.bsz z)) (Nat.lt_irrefl _)
  · intro hs
    rcases List.mem_cons.mp (I.stkSub b hs) with z | z
    · exact (hfp b hb).2.1 z
    · exact (hfp b hb).2.2.1 z
  · rw [hg]; exact I.bare
  · obtain ⟨m,hm⟩:=hn
    refine ⟨m,hm,fun i y v h1 h2 h3=>?_⟩
    have h1':N'[i]?=some y:=h1
    rw [S.names] at h1'
    cases i with
    | zero=>cases (show (some none:Option (Option V))=some (some v) from h2)
    | succ k=>
      rw [List.getElem?_cons_succ,List.getElem?_map] at h1'
      have h2':(src.map fun j=>(σ[j]?).join)[k]?=some (some v):=h2
      rw [List.getElem?_map] at h2'
      cases e:src[k]? with
      | none=>rw [e] at h1'; cases h1'
      | some j=>
        rw [e] at h1' h2'
        have hj:=List.mem_of_getElem? e
        have ey:X.N.getD j x=y:=Option.some.inj h1'
        have ev:(σ[j]?).join=some v:=Option.some.inj h2'
        have eN:X.N[j]?=some y:=by
          have:=S.all j hj
          rw [List.getElem?_eq_getElem this]
          rw [List.getD_eq_getElem?_getD,List.getElem?_eq_getElem this] at ey
          exact congrArg some ey
        have eσ:σ[j]?=some (some v):=by
          cases q:σ[j]? with
          | none=>rw [q] at ev; cases ev
          | some z=>rw [q] at ev; exact congrArg some ev
        obtain ⟨k1,k2⟩:=S.fr j hj
        rw [ey] at k1 k2
        obtain ⟨mo,hmo,hl⟩:=I.loc
        obtain ⟨u,r,l⟩:=hl j y v eN eσ (.inr (.inl k1))
        refine ⟨u,r,?_⟩
        rcases l with ⟨z,_⟩ | ⟨_,c,hc,hcell⟩
        · have z':X.env.scope.names.lookup y=some .local:=z
          rw [k1] at z'; cases z'
        · obtain ⟨c',hc'⟩:=hcl2 _ (PySem.mem_of_lookup k2) rfl
          obtain ⟨d,hd⟩:=ZhT hc'
          have ed:d=c:=by
            have:=cll _ _ hd
            rw [hc] at this
            exact (Option.some.inj this).symm
          subst ed
          obtain ⟨o,e1,e2⟩:=hcell
          refine .inr ⟨?_,d,hd,o,hk _ _ e1,e2⟩
          rcases h3 with z | z | z
          · have z':(relabel scope X.env).names.lookup y=some .local:=z
            rcases ZfT (env:=X.env) k2 with w | w
            · have w':(relabel scope X.env).names.lookup y=some .cell:=w
              rw [w'] at z'; cases z'
            · have w':(relabel scope X.env).names.lookup y=some .free:=w
              rw [w'] at z'; cases z'
          · exact .inl z
          · exact .inr z
  · obtain ⟨v,o,e1,e2⟩:=I.cell y c (cll y c e)
    exact ⟨v,o,hk _ _ e1,e2⟩
  · show (inner src σ none).length=N'.length
    rw [S.names]
    unfold inner
    rw [List.length_cons,List.length_cons,List.length_map,List.length_map]
theorem Zl1 {prog:Program} {w:World} {A:Around} {R:Result→Shared→Prop} {s:Shared} {elt target iter:Expr} {scope:Scope} {pos:Pos} {it acc:Value} {env:Env} (I:Nat→Shared→Prop)
    (turn:∀n s,I n s→wpAny (model prog w) A (pyNext it) (fun r s₁=>match r with
      | none=>R (.ok .next) s₁
      | some v=>wpAny (model prog w) A (letOwnedTupleGo target it v) (fun _ s₂=>wpAny (model prog w) A (assign target env v) (fun _ s₃=>wpAny (model prog w) A (eval elt env) (fun x s₄=>
          wpAny (model prog w) A (call (.builtin "list.append") [acc,x]) (fun _ s₅=>∃m,m<n∧I m s₅) (notedBy (model prog w) A env fun e s'=>R (.error e) s') s₄) (notedBy (model prog w) A env fun e s'=>R (.error e) s') s₃)
          (notedBy (model prog w) A env fun e s'=>R (.error e) s') s₂) (notedBy (model prog w) A env fun e s'=>R (.error e) s') s₁) (notedBy (model prog w) A env fun e s'=>R (.error e) s') s)
    (n:Nat) (h:I n s):codeAny (model prog w) A (.compLoop (.ListComp elt [⟨target,iter,[],0⟩] scope pos) 0 it acc env) R s:=by
  refine codeAny_loop rfl I (fun n s hI=>?_) n h
  show wpAny _ A ((compTurn (.ListComp elt [⟨target,iter,[],0⟩] scope pos) 0 it acc env).onRaise (fun x=>do noteFrame x env; theTreesLotGoes x)) _ _ s
  refine wpAny_noted ?_
  rw [compTurn_list1]
  refine wpAny_bind (wpAny_standAt (wpAny_bind (thn (turn n s hI) fun r s₁ h₁=>?_)))
  cases r with
  | none=>exact wpAny_pure h₁
  | some v=>
    refine wpAny_bind (thn h₁ fun _ s₂ h₂=>wpAny_bind (thn h₂ fun _ s₃ h₃=>?_))
    exact wpAny_bind (wpAny_bind (thn h₃ fun x s₄ h₄=>wpAny_bind (thn h₄ fun _ s₅ h₅=>wpAny_pure (wpAny_pure ⟨rfl,h₅⟩))))
def lcR (J:It) (src:List Nat) (σ:St) (te:TE) (H1:Hp) (Q:VK):Prop:=∃(n:Nat) (Pv:Nat→List V→Hp→Prop),n≤sizeLine∧Pv 0 [] H1∧
  (∀i ys H,i<n→Pv i ys H→J.go i H∧∀y H',J.yld i H y H'→te (inner src σ (some y)) H' fun z H2=>Pv (i+1) (ys++[z]) H2)∧
  ∀ys H,Pv n ys H→J.stop n H∧∀p,H p=none→Q (.ref p) (upd H p (.lst ys))
def tLc (wi:TI) (src:List Nat) (te:TE):TE:=fun σ H Q=>wi σ H fun J H1=>lcR J src σ te H1 Q
theorem HOk.lay {P:Program} {w:World} {H:Hp} {h:Heap} {a:Addr} {o:HO} (x:HOk P w H h) (hn:H a=none) (new:ObjOk P w (upd H a o) h a o):HOk P w (upd H a o) h:=fun b u e=>by
  by_cases hb:b=a
  · subst hb; rw [zJ] at e; cases e; exact new
  · rw [ZT hb] at e
    exact (x b u e).stay (fun c v _ q=>q) (fun c q=>by rw [ZT (zl q hn)]; exact q) fun c xs q=>by rw [ZT (zl q hn)]; exact q
theorem Un.lay {fs ex:List Addr} {H H1:Hp} {h h1:Heap} {a:Addr} {o:HO} (u:Un fs ex H H1 h h1) (hn:H1 a=none) (hh:h.get? a=none):Un fs ex H (upd H1 a o) h h1 where
  keep:=u.keep
  slot:=u.slot
  free:=fun b ob q n hx=>by rw [ZT (fun z=>by rw [z,hh] at q; cases q)]; exact u.free b ob q n hx
  there:=u.there
  tups:=fun b xs q=>by rw [ZT (zl (u.tups b xs q) hn)]; exact u.tups b xs q
  frzs:=fun b ob xs q=>by rw [ZT (zl (u.frzs b ob xs q) hn)]; exact u.frzs b ob xs q
  tbls:=fun b ps q=>by
    obtain ⟨m,e⟩:=u.tbls b ps q
    exact ⟨m,by rw [ZT (zl e hn)]; exact e⟩
theorem ZqB {pins:List (Addr×Obj)} {σ:St} {H:Hp} {s:Shared} {cl:List (Str×Addr)} {it:Addr} {fp:List Addr} {tn:Nat→Heap→Prop} {J:It} {n:Nat} {Pv:Nat→List V→Hp→Prop} {RR:Value→Addr→Result→Shared→Prop} {E:Value→Shared→Prop}
    (I:Inv X pins σ H s) (hcm:X.calm=true) (S:ZbB scope X.env.scope x X.N N' src) (hcl:∀n c,(n,c)∈cl→X.env.cells.lookup n=some c) (hcl2:∀y∈scope.names,y.2=.free→∃c,(y.1,c)∈cl)
    (T:Zoa X.prog X.w X.K (.Name x px) J fp it tn) (t0:tn 0 s.heap) (hfp:∀b∈fp,ZiC X pins H b)
    (helt:∀(cl:List (Str×Addr)) (C:Addr) (s₀:Shared) (H₀:Hp) (fp:List Addr),PE (X.comp scope N' cl C s₀ H₀ fp) elt te)
    (hn:n≤sizeLine) (p0:Pv 0 [] H) (turn:∀i ys H,i<n→Pv i ys H→J.go i H∧∀y H',J.yld i H y H'→te (inner src σ (some y)) H' fun z H2=>Pv (i+1) (ys++[z]) H2) (stop:∀ys H,Pv n ys H→J.stop n H)
    (hR:∀(D C:Addr) (o:Obj) (ys:List V) (H':Hp) (s':Shared),Pv n ys H'→H' D=none→Inv X (pins++[(C,o)]) σ (upd H' D (.lst ys)) s'→(∃m,s'.heap.Ns C m)→ZiC X pins (upd H' D (.lst ys)) C→RR (.ref D) C (.ok .next) s') :
    wpAny (model X.prog X.w) X.A (newList []) (fun acc s₃=>wpAny (model X.prog X.w) X.A (newFunctionEnv scope X.env.globals cl [] X.env.qual none .none (some X.env)) (fun cenv s₄=>
      codeAny (model X.prog X.w) X.A (.compStart (.ListComp elt [⟨.Name x px,iter,[],0⟩] scope pos) 0 (.ref it) acc { cenv with scope:=relabel scope X.env }) (RR acc cenv.locals) s₄) E s₃) E s:=by
  refine wpAny_newObj_type (wpAny_newFunctionEnv S.cell (by intro y hy; simp at hy) (fun h₁ hns₁ hsb₁=>?_) S.kind)
  dsimp only at hns₁ hsb₁ ⊢
  generalize hH2:s.heap.push { cls:=.type "list",dict:=none,data:=.seq ([]:List Value).toArray }=H2 at hns₁ hsb₁ ⊢
  have hC:H2.objs.size=s.heap.objs.size+1:=by rw [←hH2,Heap.size_push]
  have hDC:s.heap.objs.size≠H2.objs.size:=by rw [hC]; exact Nat.ne_of_lt (Nat.lt_succ_self _)
  have hCle:s.heap.objs.size≤H2.objs.size:=by rw [hC]; exact Nat.le_succ _
  have below:∀b,b<s.heap.objs.size→b≠H2.objs.size∧b≠s.heap.objs.size:=fun b hb=>⟨by rw [hC]; exact Nat.ne_of_lt (Nat.lt_succ_of_lt hb),Nat.ne_of_lt hb⟩
  have old:∀b o,s.heap.get? b=some o→h₁.get? b=some o:=fun b o e=>hsb₁.extBut b o (below b (Heap.lt_size e)).1 (Heap.get?_push_of_some _ (hH2 ▸ Heap.get?_push_of_some _ e))
  have hacc:h₁.PlainList s.heap.objs.size #[]:=⟨_,hsb₁.extBut _ _ hDC (Heap.get?_push_of_some _ (hH2 ▸ Heap.get?_push_size _ rfl))⟩
  have hfl:∀b∈fp,b<s.heap.objs.size:=fun b hb=>by
    obtain ⟨o,e,_⟩:=T.obj 0 _ t0 b hb
    exact Heap.lt_size e
  have fresh:∀a,s.heap.objs.size≤a→s.heap.get? a=none:=fun a ha=>by
    cases e:s.heap.get? a with
    | none=>rfl
    | some o'=>exact absurd (Heap.lt_size e) (Nat.not_lt.mpr ha)
  generalize eD:s.heap.objs.size=D at hDC hacc hCle below fresh hfl hC ⊢
  generalize eC:H2.objs.size=C at hDC hCle below hC hns₁ hsb₁ ⊢
  have I1:Inv (X.comp scope N' cl C s H fp) [] (inner src σ none) H { s with heap:=h₁,toks:=s.toks+([]:List (Str×Value)).length }:=
    ZmF I S hcl hcl2 (by rw [eD]; exact hCle) hfp (by rw [eD]; exact hfl) ⟨_,hns₁⟩ old rfl rfl
  have stat:∀{H':Hp} {pl:List (Addr×Obj)},(∀p∈pl,p.1=D)→(∀b∈fp,H' b=none)→∀b∈fp,ZiC (X.comp scope N' cl C s H fp) pl H' b:=fun {H' pl} hp hn b hb=>
    ⟨hn b hb,(below b (hfl b hb)).1,fun z=>by
      rcases List.mem_cons.mp (I.stkSub b z) with q | q
      · exact (hfp b hb).2.1 q
      · exact (hfp b hb).2.2.1 q,.inl hb,fun y c e=>(hfp b hb).2.2.2.2.1 y c (hcl y c (PySem.mem_of_lookup e)),fun p hq=>by
      rw [hp p (by rcases List.mem_append.mp hq with z | z; exact absurd (show p∈([]:List (Addr×Obj)) from z) (by simp); exact z)]
      exact Ne.symm (below b (hfl b hb)).2⟩
  have nD:D∉frs X.stack:=fun z=>by
    rcases List.mem_cons.mp (I.stkSub D z) with q | q
    · have:=I.lt; rw [←q,eD] at this; exact Nat.lt_irrefl _ this
    · exact I.nofs (a:=D) (by rw [eD]; exact Nat.le_refl _) q
  have nC:C∉X.fs:=I.nofs (by rw [eD]; exact hCle)
  have cellD:∀y c,cl.lookup y=some c→c<D:=fun y c e=>by
    obtain ⟨v,q⟩:=I.cell y c (hcl y c (PySem.mem_of_lookup e))
    have:=q.lt
    rw [eD] at this
    exact this
  have loop:∀s₃:Shared,s₃={ s with heap:=h₁,toks:=s.toks+([]:List (Str×Value)).length }→
      codeAny (model X.prog X.w) X.A (.compLoop (.ListComp elt [⟨.Name x px,iter,[],0⟩] scope pos) 0 (.ref it) (.ref D) (compEnvC scope cl C X.env)) (RR (.ref D) C) s₃:=by
    rintro s₃ rfl
    refine Zl1 (fun k s'=>∃(i:Nat) (ys:List V) (its:List Value) (H':Hp) (xo:Option V),Inv (X.comp scope N' cl C s H fp) [] (inner src σ xo) H' s'∧tn i s'.heap∧(∀b∈fp,H' b=none)∧s'.heap.PlainList D its.toArray∧Vals ys its∧H' D=none∧
      Pv i ys H'∧ys.length=i∧i≤n∧k=n+1-i) ?_ (n+1) ⟨0,[],[],H,none,I1,T.keep _ _ _ t0 (fun b _ o e=>old b o e),fun b hb=>(hfp b hb).1,hacc,.nil,I.hok.fresh (by rw [eD]; exact Nat.le_refl _),p0,rfl,Nat.zero_le _,rfl⟩
    rintro k s' ⟨i,ys,its,H',xo,I3,t3,f3,l3,v3,d3,p3,e3,le3,rfl⟩
    by_cases hlt:i<n
    · obtain ⟨go,step⟩:=turn i ys H' hlt p3
      obtain ⟨nn,oD⟩:=id l3
      have I3p:Inv (X.comp scope N' cl C s H fp) [(D,{ cls:=.type "list",data:=.seq its.toArray nn })] (inner src σ xo) H' s':=
        I3.pins_of fun p hp=>by
          have ep:p=(D,{ cls:=.type "list",data:=.seq its.toArray nn }):=by simpa using hp
          subst ep
          exact ⟨oD,d3,hDC,nD,fun v z=>by cases z⟩
      refine thn (T.item (X.comp scope N' cl C s H fp) rfl rfl rfl hcm i _ s' _ H' _ I3p (stat (by simp) f3) t3 go) fun r s4 ⟨u,hr,h4⟩=>?_
      subst hr
      refine thn h4 fun _ s5 ⟨y,H5,I5,r5,y5,st5,fr5⟩=>?_
      have I5':=I5.pinned (stat (by simp) fr5) (T.obj _ _ st5)
      have hg:PG (X.comp scope N' cl C s H fp) (.Name x px) (ZlU 0):=
        ZfU S.nd (by show N'[0]?=some x; rw [S.names]; rfl) (.inl (lookup_relabel_local S.own)) (.inr (lookup_relabel_local S.own))
      refine wpAny_mono (hg _ s5 _ H5 y u (fun σ2 H2=>σ2=inner src σ (some y)∧H2=H5) I5' r5 ⟨rfl,rfl⟩) (fun _ s6 ⟨σ6,H6,I6,e6,e6'⟩=>?_) fun _ _ z=>False.elim z
      subst e6 e6'
      refine wpAny_mono (helt cl C s H fp _ s6 _ _ _ I6 (step y _ y5)) (fun v s7 ⟨z,H7,I7,r7,q7⟩=>?_) fun _ _ z=>False.elim z
      have o7:=I7.pin (D,{ cls:=.type "list",data:=.seq its.toArray nn }) (by simp)
      have hys:its.toArray.size≤sizeLine:=by
        have:=v3.length
        rw [List.size_toArray]
        omega
      refine wpAny_list_append_plain (hsz:=hys) (items:=its.toArray) (s:=s7) ⟨nn,o7.1⟩ fun h8 hl8 hs8=>?_
      refine ⟨n+1-(i+1),by omega,i+1,ys++[z],its++[v],H7,some y,?_,?_,?_,?_,v3.append (.cons r7 .nil),o7.2.1,q7,by rw [List.length_append,e3]<;>rfl,hlt,rfl⟩
      · have I7':Inv (X.comp scope N' cl C s H fp) [] (inner src σ (some y)) H7 s7:=I7.pins_of fun p hp=>absurd hp (by simp)
        exact I7'.turned (t':=s7.toks) (it:=D) (fun b o hb e=>(hs8.2 b hb).trans e) o7.2.1 hDC (.inr (by show s.heap.objs.size≤D; rw [eD]; exact Nat.le_refl _)) (fun y c e=>Nat.ne_of_lt (cellD y c e)) fun p hp=>absurd (show p∈([]:List (Addr×Obj)) from hp) (by simp)
      · refine T.keep _ _ _ st5 fun b hb o e=>(hs8.2 b (below b (hfl b hb)).2).trans ?_
        exact (I7.pin (b,o) (List.mem_append_right _ (List.mem_append_right _ (Zec hb e)))).1
      · intro b hb
        obtain ⟨o,e,_⟩:=T.obj _ _ st5 b hb
        exact (I7.pin (b,o) (List.mem_append_right _ (List.mem_append_right _ (Zec hb e)))).2.1
      · have:(its++[v]).toArray=its.toArray.push v:=by simp
        rw [this]; exact hl8
    · have ein:i=n:=by omega
      subst ein
      obtain ⟨nn,oD⟩:=id l3
      have I3p:Inv (X.comp scope N' cl C s H fp) [(D,{ cls:=.type "list",data:=.seq its.toArray nn })] (inner src σ xo) H' s':=
        I3.pins_of fun p hp=>by
          have ep:p=(D,{ cls:=.type "list",data:=.seq its.toArray nn }):=by simpa using hp
          subst ep
          exact ⟨oD,d3,hDC,nD,fun v z=>by cases z⟩
      refine thn (T.done (X.comp scope N' cl C s H fp) rfl rfl rfl hcm i _ s' _ H' _ I3p (stat (by simp) f3) t3 (stop ys H' p3)) fun r s4 ⟨hr,I4⟩=>?_
      subst hr
      have o4:=I4.pin (D,{ cls:=.type "list",data:=.seq its.toArray nn }) (by simp)
      have newI:Inv X pins σ (upd H' D (.lst ys)) s4:=I.call' (ch:=fp) I4.os (I4.base.lay d3 (fresh D (Nat.le_refl _))) (I4.hok.lay d3 ⟨by omega,its,nn,v3,o4.1⟩) I4.bare (fun b hb=>
        ⟨(hfp b hb).2.2.2.1,(hfp b hb).2.1,(hfp b hb).2.2.2.2.1,(hfp b hb).2.2.2.2.2⟩)
      obtain ⟨m,hm,_⟩:=I4.loc
      obtain ⟨o,es,ep,ho,hd,_⟩:=id hm
      refine hR D C o ys H' s4 p3 d3 (newI.pins_of fun p hp=>?_) ⟨m,hm⟩ (I.fpOk (by rw [eD]; exact hCle) (by rw [ZT (Ne.symm hDC)]; exact I4.free))
      rcases List.mem_append.mp hp with z | z
      · exact newI.pin p (List.mem_append_right _ z)
      · have ep:p=(C,o):=by simpa using z
        subst ep
        refine ⟨ho,by rw [ZT (Ne.symm hDC)]; exact I4.free,fun z=>?_,nC,fun v z=>?_⟩
        · have:=I.lt
          rw [eD,←z] at this
          exact absurd (Nat.lt_of_lt_of_le this hCle) (Nat.lt_irrefl _)
        · have z':o.data=.cell v:=z
          rw [hd] at z'; cases z'
  exact codeAny_compStart_list (loop _ rfl) (T.self _ 0 _ _ _ (T.keep _ _ _ t0 (fun b _ o e=>old b o e)) (loop _ rfl))
theorem ZvU {sc:Scope} {N:List Str} (S:ZbB scope sc x N N' src) (hsc:X.env.scope=sc) (hN:X.N=N) (hi:PI X (.Name x px) iter wi)
    (helt:∀(cl:List (Str×Addr)) (C:Addr) (s₀:Shared) (H₀:Hp) (fp:List Addr),PE (X.comp scope N' cl C s₀ H₀ fp) elt te) (hcm:X.calm=true:=by rfl) (hs:∀v,foldedSetIterable iter X.env v=pure v:=by intro _; rfl) :
    PE X (.ListComp elt [⟨.Name x px,iter,[],0⟩] scope pos) (tLc wi src te):=by
  subst hsc hN
  intro pins s σ H Q I h
  obtain ⟨cl,hclos,hcl,hcl2⟩:=Zgc (scope:=scope) (env:=X.env) fun y hy hf=>I.ok.has y.1 (.inl (S.free y hy hf))
  rw [eval_ListComp]
  refine wpAny_comprehension_free (use:=none) rfl hs hclos S.kind S.loc ?_
  refine thn (hi pins s σ H _ I h) fun v s1 h1=>thn h1 fun itv s2 h2=>?_
  obtain ⟨it,fp,tn,J,H2,e,I2,T,st2,f2,n,Pv,hn,p0,turn,done⟩:=h2
  subst e
  refine ZqB I2 hcm S hcl hcl2 T st2 f2 helt hn p0 turn (fun ys H p=>(done ys H p).1) fun D C o ys H' s' p d J' hm ho=>?_
  obtain ⟨m,hm⟩:=hm
  refine ⟨m,hm,fun h' hs'=>?_⟩
  have J2:Inv X pins σ (upd H' D (.lst ys)) s':=J'.pins_of fun q hq=>J'.pin q (List.mem_append_right _ (List.mem_append_left _ hq))
  obtain ⟨f0,f1,f2,f3,f4,f5⟩:=ho
  exact ⟨.ref D,_,J2.turned (t':=s'.toks) (it:=C) (fun b o hb e=>(hs'.2 b hb).trans e) f0 f1 f3 f4 f5,rfl,(done ys H' p).2 D d⟩
theorem ZvN {sc:Scope} {N:List Str} {i:Nat} {y:Str} {py spos:Pos} (hnd:X.N.Nodup) (hi':X.N[i]?=some y) (S:ZbB scope sc x N N' src) (hsc:X.env.scope=sc) (hN:X.N=N) (hi:PI X (.Name x px) iter wi)
    (helt:∀(cl:List (Str×Addr)) (C:Addr) (s₀:Shared) (H₀:Hp) (fp:List Addr),PE (X.comp scope N' cl C s₀ H₀ fp) elt te) (hsw:swapsWith (.ListComp elt [⟨.Name x px,iter,[],0⟩] scope pos) (some (.Name y py)) spos.line X.env=pure true:=by rfl)
    (hy:X.env.scope.names.lookup y=some .local:=by rfl) (hcm:X.calm=true:=by rfl) (hs:∀v,foldedSetIterable iter X.env v=pure v:=by intro _; rfl) :
    PS X (.Assign [.Name y py] (.ListComp elt [⟨.Name x px,iter,[],0⟩] scope pos) spos) (ZvA (tLc wi src te) (ZlU i)):=by
  subst hsc hN
  intro pins s σ H Dn I h
  obtain ⟨cl,hclos,hcl,hcl2⟩:=Zgc (scope:=scope) (env:=X.env) fun y hy hf=>I.ok.has y.1 (.inl (S.free y hy hf))
  rw [exec_Assign_Name_used _ _ _ _ hsw]
  refine wpAny_bind (wpAny_standAt (wpAny_bind ?_))
  show wpAny _ X.A (do let _ ←comprehension (.ListComp elt [⟨.Name x px,iter,[],0⟩] scope pos) scope X.env _ (newList []) false (eval iter X.env) (some (assign (.Name y py) X.env))) _ _ s
  refine wpAny_bind (wpAny_mono (wpAny_comprehension_free (use:=some (assign (.Name y py) X.env)) (Q:=fun _ s'=>SP X pins Dn .next s') rfl hs hclos S.kind S.loc ?_) (fun _ s' hq=>wpAny_pure (wpAny_pure hq)) fun _ _ e=>e)
  refine thn (hi pins s σ H _ I h) fun v s1 h1=>thn h1 fun itv s2 h2=>?_
  obtain ⟨it,fp,tn,J,H2,e,I2,T,st2,f2,n,Pv,hn,p0,turn,done⟩:=h2
  subst e
  refine ZqB I2 hcm S hcl hcl2 T st2 f2 helt hn p0 turn (fun ys H p=>(done ys H p).1) fun D C o ys H' s' p d J' hm ho=>?_
  show wpAny _ X.A (assign (.Name y py) X.env (.ref D)) _ _ _
  obtain ⟨m,hm⟩:=hm
  have hg:PG X (.Name y py) (ZlU i):=ZfU hnd hi' (.inl hy) (.inr hy)
  refine thn (hg _ s' σ _ (.ref D) (.ref D) (fun σ2 H3=>σ2=σ.set i (some (.ref D))∧H3=upd H' D (.lst ys)) J' rfl ⟨rfl,rfl⟩) fun _ s6 ⟨σ6,H6,I6,e6,e7⟩=>?_
  subst e6 e7
  have pc:=I6.pin (C,o) (by simp)
  have pc':=J'.pin (C,o) (by simp)
  refine ⟨m,hm.at fun q e=>?_,fun h' hs'=>?_⟩
  · rw [pc'.1] at e; cases e; exact pc.1
  have J2:Inv X pins (σ.set i (some (.ref D))) (upd H' D (.lst ys)) s6:=I6.pins_of fun q hq=>I6.pin q (List.mem_append_right _ (List.mem_append_left _ hq))
  obtain ⟨f0,f1,f2,f3,f4,f5⟩:=ho
  exact ⟨_,_,J2.turned (t':=s6.toks) (it:=C) (fun b o hb e=>(hs'.2 b hb).trans e) f0 f1 f3 f4 f5,(done ys H' p).2 D d⟩
end
end L2
namespace L2
open PySem PySem.Spec PyProof.Rows PySem.SeqAt
section
variable {X:Cx}
theorem Zn9 {bs:List Bool}:(List.range bs.length).all (fun i=>bs.getD i false)=bs.all id:=by
  induction bs with
  | nil=>rfl
  | cons b r ih=>
    rw [List.length_cons,List.range_succ_eq_map,List.all_cons,List.all_map,List.all_cons]
    have:((fun i=>(b::r).getD i false)∘Nat.succ)=fun i=>r.getD i false:=by funext i; rfl
    rw [this,ih]
    rfl
theorem Zrc (hc:X.calm=true):CallR X (.builtin "all") (fun xs H Q=>∃(p:Addr) (bs:List Bool),xs=[.ref p]∧SqL X.K H p (bs.map V.bl)∧Q (.bl (bs.all id)) H):=by
  intro pins s σ H xs us Q I r h
  obtain ⟨p,bs,rfl,hq,q⟩:=h
  obtain ⟨u,rfl,rx⟩:=ZfM r
  cases rx
  obtain ⟨its,r',pl,hz⟩:=I.list hq
  have hl:=r'.length
  rw [List.length_map] at hl
  refine call_all_walk (wpAny_pyIter_list pl.isList ?_)
  have hne:p≠s.heap.objs.size:=by
    obtain ⟨o,n,e,_⟩:=pl
    exact Nat.ne_of_lt (Heap.lt_size e)
  refine ⟨s.heap.objs.size,_,_,_,_,_,fun i=>bs.getD i false,rfl,Walks.list (A:=X.A.in1) (I.ok.hd hc) _ p hne its.toArray,⟨⟨_,Heap.get?_push_size _ rfl,rfl,rfl⟩,?_⟩,?_,fun h' tk hk=>?_⟩
  · obtain ⟨o,n,e,hc',hd,hs⟩:=pl
    exact ⟨o,Heap.get?_push_of_some _ e,hc',n,hs⟩
  · intro i v s2 Q2 E2 hp q2
    have hp':its[i]?=some v:=by simpa using hp
    have hi:i<bs.length:=by rw [hl]; exact (List.getElem?_eq_some_iff.mp hp').1
    obtain ⟨u,hu,ru⟩:=r'.get (i:=i) (x:=.bl (bs.getD i false)) (by rw [List.getElem?_map,List.getElem?_eq_getElem hi,List.getD_eq_getElem?_getD,List.getElem?_eq_getElem hi]; rfl)
    rw [hp'] at hu; cases hu
    cases ru
    exact wpAny_truthy_bool q2
  · refine ⟨.bl (bs.all id),H,(I.kept (t':=s.toks) fun b o e=>Heap.get?_push_of_some _ e).turned (it:=s.heap.objs.size) (fun b o hb e=>hk b o (by simpa using hb) e) (I.hok.fresh (Nat.le_refl _)) (Nat.ne_of_gt I.lt) (.inr I.sz) (fun x c e z=>?_) (fun q hq z=>?_),?_,q⟩
    · obtain ⟨v,w'⟩:=I.cell x c e
      exact absurd w'.lt (by rw [z]; exact Nat.lt_irrefl _)
    · exact absurd (Heap.lt_size (I.pin q hq).1) (by rw [z]; exact Nat.lt_irrefl _)
    · show Value.bool _=Value.bool _
      rw [List.size_toArray,←hl,Zn9]
theorem ZiP {ns:List Int}:∀k,k≤ns.length→preSum (fun i=>ns.getD i 0) k=(ns.take k).sum
  | 0,_=>by simp [preSum]
  | k+1,h=>by
    have hk:k<ns.length:=by omega
    rw [preSum,ZiP k (by omega),List.take_add_one,List.getElem?_eq_getElem hk,List.getD_eq_getElem?_getD,List.getElem?_eq_getElem hk]
    show _=(ns.take k++[ns[k]]).sum
    rw [List.sum_append,List.sum_cons,List.sum_nil,Int.add_zero]
    rfl
theorem Zra (hc:X.calm=true):CallR X (.builtin "sum") (fun xs H Q=>∃(p:Addr) (ns:List Int),xs=[.ref p]∧SqL X.K H p (ns.map V.int)∧Q (.int ns.sum) H):=by
  intro pins s σ H xs us Q I r h
  obtain ⟨p,ns,rfl,hq,q⟩:=h
  obtain ⟨u,rfl,rx⟩:=ZfM r
  cases rx
  obtain ⟨its,r',pl,hz⟩:=I.list hq
  have hl:=r'.length
  rw [List.length_map] at hl
  refine call_sum_walkG (wpAny_pyIter_list pl.isList ?_)
  have hne:p≠s.heap.objs.size:=by
    obtain ⟨o,n,e,_⟩:=pl
    exact Nat.ne_of_lt (Heap.lt_size e)
  refine ⟨s.heap.objs.size,_,_,_,_,_,fun i=>ns.getD i 0,rfl,Walks.list (A:=X.A.in1) (I.ok.hd hc) _ p hne its.toArray,⟨⟨_,Heap.get?_push_size _ rfl,rfl,rfl⟩,?_⟩,?_,?_,fun h' tk t' hk=>?_⟩
  · obtain ⟨o,n,e,hc',hd,hs⟩:=pl
    exact ⟨o,Heap.get?_push_of_some _ e,hc',n,hs⟩
  · intro b hb
    have hb':b=s.heap.objs.size∨b=p:=by simpa using hb
    rcases hb' with rfl | rfl
    · show _<(s.heap.push _).objs.size
      rw [Heap.size_push]; exact Nat.lt_succ_self _
    · obtain ⟨o,n,e,_⟩:=pl
      show _<(s.heap.push _).objs.size
      rw [Heap.size_push]; exact Nat.lt_succ_of_lt (Heap.lt_size e)
  · intro i v hp
    have hp':its[i]?=some v:=by simpa using hp
    have hi:i<ns.length:=by rw [hl]; exact (List.getElem?_eq_some_iff.mp hp').1
    obtain ⟨u,hu,ru⟩:=r'.get (i:=i) (x:=.int (ns.getD i 0)) (by rw [List.getElem?_map,List.getElem?_eq_getElem hi,List.getD_eq_getElem?_getD,List.getElem?_eq_getElem hi]; rfl)
    rw [hp'] at hu; cases hu
    exact ru
  · refine ⟨.int ns.sum,H,(I.kept (t':=s.toks) fun b o e=>Heap.get?_push_of_some _ e).turned (it:=s.heap.objs.size) (fun b o hb e=>hk b o (by simpa using hb) e) (I.hok.fresh (Nat.le_refl _)) (Nat.ne_of_gt I.lt) (.inr I.sz) (fun x c e z=>?_) (fun q hq z=>?_),⟨t',?_⟩,q⟩
    · obtain ⟨v,w'⟩:=I.cell x c e
      exact absurd w'.lt (by rw [z]; exact Nat.lt_irrefl _)
    · exact absurd (Heap.lt_size (I.pin q hq).1) (by rw [z]; exact Nat.lt_irrefl _)
    · rw [List.size_toArray,←hl,ZiP _ (Nat.le_refl _),List.take_length]
mutual
inductive RdV (K:PySem.W.Frag) (H:Hp):V→PyData→Prop
  | non:RdV K H .non .none
  | bl (b:Bool):RdV K H (.bl b) (.bool b)
  | int (i:Int):RdV K H (.int i) (.int i)
  | str (x:Str):RdV K H (.str x) (.str x)
  | lst {a:Addr} {xs:List V} {ds:List PyData}:SqL K H a xs→RdVs K H xs ds→RdV K H (.ref a) (.list ds)
  | tup {a:Addr} {xs:List V} {ds:List PyData}:SqT K H a xs→RdVs K H xs ds→RdV K H (.ref a) (.tuple ds)
inductive RdVs (K:PySem.W.Frag) (H:Hp):List V→List PyData→Prop
  | nil:RdVs K H [] []
  | cons {x:V} {xs:List V} {d:PyData} {ds:List PyData}:RdV K H x d→RdVs K H xs ds→RdVs K H (x::xs) (d::ds)
end
mutual
theorem RdV.reads {pins:List (Addr×Obj)} {σ:St} {H:Hp} {s:Shared} (I:Inv X pins σ H s):∀{x:V} {d:PyData} {u:Value},RdV X.K H x d→RelV x u→∃as,Reads s.heap u d as
  | _,_,_,.non,r=>by cases r; exact ⟨_,.none⟩
  | _,_,_,.bl b,r=>by cases r; exact ⟨_,.bool b⟩
  | _,_,_,.int i,r=>by obtain ⟨t,rfl⟩:=r; exact ⟨_,.int i t⟩
  | _,_,_,.str x,r=>by obtain ⟨t,rfl⟩:=r; exact ⟨_,.str x t⟩
  | _,_,_,.lst h hs,r=>by
    cases r
    obtain ⟨its,rv,⟨o,n,e,hc,hd,hq⟩,_⟩:=I.list h
    obtain ⟨as,q⟩:=RdVs.reads I hs rv
    exact ⟨_,.list e hc hq (by simpa using q)⟩
  | _,_,_,.tup h hs,r=>by
    cases r
    obtain ⟨its,rv,⟨o,e,hc,n,hq⟩,_⟩:=I.tuple h
    obtain ⟨as,q⟩:=RdVs.reads I hs rv
    exact ⟨_,.tuple e hc hq (by simpa using q)⟩
theorem RdVs.reads {pins:List (Addr×Obj)} {σ:St} {H:Hp} {s:Shared} (I:Inv X pins σ H s):∀{xs:List V} {ds:List PyData} {us:List Value},RdVs X.K H xs ds→Vals xs us→∃as,ReadsAll s.heap us ds as
  | _,_,_,.nil,r=>by cases r; exact ⟨_,.nil⟩
  | _,_,_,.cons h hs,r=>by
    cases r with
    | cons r rr=>
      obtain ⟨as,q⟩:=RdV.reads I h r
      obtain ⟨bs,q2⟩:=RdVs.reads I hs rr
      exact ⟨_,.cons q q2⟩
end
theorem Zuo (hu:X.A.units+64<cLine):OpR X (compareOp .Eq) (fun x y H Q=>∃d e:PyData,RdV X.K H x d∧RdV X.K H y e∧shaped d=true∧shaped e=true∧noMix d e=true∧Q (.bl (same d e)) H):=by
  intro pins s σ H x y v u Q I rx ry h
  obtain ⟨d,e,hd,he,sd,se,hm,q⟩:=h
  obtain ⟨as,ra⟩:=hd.reads I rx
  obtain ⟨bs,rb⟩:=he.reads I ry
  exact eq_dataH_same ra rb sd se hu hm ⟨.bl _,H,I,rfl,q⟩
theorem Zul (hu:X.A.units+64<cLine):OpR X (compareOp .NotEq) (fun x y H Q=>∃d e:PyData,RdV X.K H x d∧RdV X.K H y e∧shaped d=true∧shaped e=true∧noMix d e=true∧Q (.bl (!same d e)) H):=by
  intro pins s σ H x y v u Q I rx ry h
  obtain ⟨d,e,hd,he,sd,se,hm,q⟩:=h
  obtain ⟨as,ra⟩:=hd.reads I rx
  obtain ⟨bs,rb⟩:=he.reads I ry
  exact ne_dataH_same ra rb sd se hu hm ⟨.bl _,H,I,rfl,q⟩
theorem Zsa:OpR X (compareOp .IsNot) (fun x y H Q=>∃b c:Bool,x=.bl b∧y=.bl c∧Q (.bl (!(b == c))) H):=by
  intro pins s σ H x y v u Q I rx ry h
  obtain ⟨b,c,rfl,rfl,q⟩:=h
  cases rx
  cases ry
  have e:(Value.bool b == Value.bool c)=(b == c):=by cases b<;>cases c<;>rfl
  exact wpAny_isNot_plain rfl ⟨.bl _,H,I,rfl,by rw [e]; exact q⟩
def ZeE (xs:List V) (lo hi st:Option Int):List V:=(sliceRange (sliceBounds lo hi st xs.length).1 (sliceBounds lo hi st xs.length).2.1 (sliceBounds lo hi st xs.length).2.2).filterMap (xs[·]?)
theorem Vals.pick {xs:List V} {us:List Value} (r:Vals xs us):∀ks:List Nat,Vals (ks.filterMap (xs[·]?)) (ks.filterMap (us[·]?))
  | []=>.nil
  | k::ks=>by
    cases e:xs[k]? with
    | none=>
      have e':=r.none_of e
      rw [List.filterMap_cons_none e,List.filterMap_cons_none e']
      exact r.pick ks
    | some x=>
      obtain ⟨u,e',q⟩:=r.get e
      rw [List.filterMap_cons_some e,List.filterMap_cons_some e']
      exact .cons q (r.pick ks)
def Zze (K:PySem.W.Frag) (te:TE) (tl th ts:TO):TE:=fun σ H Q=>te σ H fun x H1=>tl σ H1 fun l H2=>th σ H2 fun u H3=>ts σ H3 fun st H4=>∃a xs,x=.ref a∧SqL K H4 a xs∧st≠some 0∧(ZeE xs l u st).length≤sizeLine∧
  ∀p,H4 p=none→Q (.ref p) (upd H4 p (.lst (ZeE xs l u st)))
theorem ZnM {e sp:Expr} {te:TE} {lo hi:Option Expr} {tl th ts:TO} {pos p2:Pos} (he:PE X e te) (hl:PO X lo tl) (hu:PO X hi th) (hs:PO X (some sp) ts):PE X (.Subscript e (.Slice lo hi (some sp) p2) pos) (Zze X.K te tl th ts):=by
  intro pins s σ H Q I h
  refine Subscript_ (thn (he pins s σ H _ I h) fun v s1 ⟨x,H1,I1,r1,q1⟩=>?_)
  refine wpAny_Slice (thn (hl pins s1 σ H1 _ I1 q1) fun vl s2 ⟨l,H2,I2,pl,q2⟩=>thn (hu pins s2 σ H2 _ I2 q2) fun vu s3 ⟨u,H3,I3,pu,q3⟩=>thn (hs pins s3 σ H3 _ I3 q3) fun vs s4 ⟨st,H4,I4,ps,q4⟩=>?_)
  obtain ⟨a,xs,rfl,hx,h0,hz',q⟩:=q4
  cases r1
  have I5:Inv X pins σ H4 { s4 with heap:=s4.heap.push { cls:=.type "slice",data:=.fields #[vl,vu,vs] } }:=I4.kept (t':=s4.toks) fun b ob q=>Heap.get?_push_of_some _ q
  obtain ⟨its,r,ht,hz⟩:=I5.list hx
  have hlen:=r.length
  show wpAny (model X.prog X.w) X.A (subscriptTail e (.Slice lo hi (some sp) p2) (.ref a) (.ref s4.heap.objs.size)) (EP X pins σ Q) X.xe { s4 with heap:=s4.heap.push { cls:=.type "slice",data:=.fields #[vl,vu,vs] } }
  refine tail_any (ops:=[.ref a,.ref s4.heap.objs.size]) ht.isList.typeIs slot_list_getitem.lookup (wpAny_getItem_list_slice ht.isList (Heap.IsSliceOf.new ..) pl pu ps h0 ?_ (by rw [List.size_toArray]<;>omega)) (by with_unfolding_all rfl)
  have ep:slicePick its.toArray l u st=((sliceRange (sliceBounds l u st xs.length).1 (sliceBounds l u st xs.length).2.1 (sliceBounds l u st xs.length).2.2).filterMap (its[·]?)).toArray:=by
    unfold slicePick
    rw [List.size_toArray,←hlen]
    simp
  rw [ep]
  refine ⟨.ref _,_,I5.laid (t':=s4.toks) (o:=.lst (ZeE xs l u st)) (fun b ob q=>Heap.get?_push_of_some _ q) (Nat.le_refl _) ?_,rfl,q _ (I5.hok.fresh (Nat.le_refl _))⟩
  exact ⟨hz',_,0,r.pick _,Heap.get?_push_size _ rfl⟩
theorem Zgw:fillsNumberSlot (.type "tuple") "mul"=pure false:=
  PySem.fillsNumberSlot_seq (id:="tuple.__mul__") (r:=some (.builtin "tuple.__rmul__")) F.slot_tuple_mul.lookup (by decide +kernel) F.slot_tuple_rmul.lookup (by decide +kernel)
theorem Zjq:seqRepeat? (.type "tuple")=pure (some (.builtin "tuple.__mul__")):=by
  unfold seqRepeat?
  rw [PySem.seqSlot_of (T:="tuple") (name:="__mul__") (id:="tuple.__mul__") F.slot_tuple_mul.lookup (by decide +kernel),PySem.seqSlot_of (T:="tuple") (name:="__rmul__") (id:="tuple.__rmul__") F.slot_tuple_rmul.lookup (by decide +kernel)]
  rfl
end
end L2
namespace L2
open PySem PySem.Spec PyProof.Rows Builtin
theorem Zh0 (a:Int) (t:Tok) (l:Addr) (items:Array Value) (n:Nat) (dd:Option Addr) (sl:Array (Option Value)) :
    Meets (Builtin.«int.__rmul__» ⟨[.int a t,.ref l],[]⟩) (fun _ R s=>s.heap.get? l=some { cls:=.type "tuple",dict:=dd,data:=.seq items n,slots:=sl }∧R (.ok (.ret Value.notImplemented)) s):=
  .of_wp fun prog w A R s h=>by obtain ⟨hp,g,d,tk,os⟩:=s; obtain ⟨hl,h⟩:=h; wp_walk; exact ⟨_,rfl,h⟩
theorem Ziu (l:Addr) (items:Array Value) (n:Nat) (dd:Option Addr) (sl:Array (Option Value)) (u:Tok) :
    Meets (Builtin.«tuple.__mul__» ⟨[.ref l,.int 1 u],[]⟩) (fun _ R s=>s.heap.get? l=some { cls:=.type "tuple",dict:=dd,data:=.seq items n,slots:=sl }∧R (.ok (.ret (Value.ref l))) s):=
  .of_wp fun prog w A R s h=>by
    obtain ⟨hp,g,d,tk,os⟩:=s; obtain ⟨hl,h⟩:=h
    wp_walk
    exact ⟨_,rfl,h⟩
theorem Zhv (l:Addr) (items:Array Value) (n:Nat) (dd:Option Addr) (sl:Array (Option Value)) (u:Tok) (h0:items.isEmpty=false) :
    Meets (Builtin.«tuple.__mul__» ⟨[.ref l,.int 0 u],[]⟩) (fun _ R s=>s.heap.get? l=some { cls:=.type "tuple",dict:=dd,data:=.seq items n,slots:=sl }∧R (.ok (.ret (Value.ref s.heap.objs.size))) { s with heap:=s.heap.push { cls:=.type "tuple",data:=.seq #[] } }):=
  .of_wp fun prog w A R s h=>by
    obtain ⟨hp,g,d,tk,os⟩:=s; obtain ⟨hl,h⟩:=h
    wp_walk
    exact ⟨_,rfl,h⟩
theorem Zhw (l:Addr) (items:Array Value) (n:Nat) (dd:Option Addr) (sl:Array (Option Value)) (x:Int) (u:Tok) (h0:items.isEmpty=false) (h1:2≤x) (h2:x<1000) (h3:items.size*x≤1000) :
    Meets (Builtin.«tuple.__mul__» ⟨[.ref l,.int x u],[]⟩) (fun _ R s=>s.heap.get? l=some { cls:=.type "tuple",dict:=dd,data:=.seq items n,slots:=sl }∧R (.ok (.ret (Value.ref s.heap.objs.size))) { s with heap:=s.heap.push { cls:=.type "tuple",data:=.seq (List.foldl (fun x1 x2=>x1++x2) #[] (List.replicate x.toNat items)) } }):=
  .of_wp fun prog w A R s h=>by
    obtain ⟨hp,g,d,tk,os⟩:=s; obtain ⟨hl,h⟩:=h
    have c1:¬(decide (x < -(2 ^ 63)) || decide (x≥2 ^ 63))=true:=by rw [decide_eq_false (by omega),decide_eq_false (by omega)]; decide
    have c2:¬(items.isEmpty || x == 1)=true:=by
      have:(x == 1)=false:=by simp; omega
      rw [h0,this]; decide
    have c3:¬(decide (x≤0) || items.isEmpty)=true:=by rw [h0,decide_eq_false (by omega)]; decide
    have c4:¬((items.size:Int)*x > (2 ^ 63-1)/8):=by omega
    have c5:¬Tuple.tupleTooMany ((items.size:Int)*x)=true:=by
      unfold Tuple.tupleTooMany
      rw [decide_eq_false (by rw [sizeLine_eq]; omega)]
      decide
    wp_walk
    rw [if_neg c1]
    wp_walk
    rw [if_neg c2]
    show wpAny (model prog w) A.in1 (if (decide (x≤0) || items.isEmpty)=true then _ else if (items.size:Int)*x > (2 ^ 63-1)/8 then _ else if Tuple.tupleTooMany ((items.size:Int)*x)=true then _ else _) _ _ _
    rw [if_neg c3,if_neg c4,if_neg c5]
    have hz:(List.foldl (fun x1 x2=>x1++x2) #[] (List.replicate x.toNat items)).size≤sizeLine:=by
      have:(List.replicate x.toNat items).foldl (fun x1 x2=>x1++x2) #[]=(List.replicate x.toNat items.toList).flatten.toArray:=by
        have:=Zfg items.toList x.toNat []
        simpa using this
      rw [this,List.size_toArray,Zjw,sizeLine_eq]
      have e:items.toList.length=items.size:=by simp
      rw [e]
      have e2:((x.toNat*items.size:Nat):Int)=(items.size:Int)*x:=by
        rw [Int.natCast_mul,Int.mul_comm]
        congr 1
        omega
      omega
    wp_walk
    exact ⟨_,rfl,h⟩
section
variable {X:Cx}
def ZvH (K:PySem.W.Frag):R2:=fun x y H Q=>∃(a:Addr) (k:Int) (xs:List V),x=.ref a∧y=.int k∧SqT K H a xs∧xs≠[]∧0≤k∧k<1000∧(xs.length:Int)*k≤1000∧
  (k=1→Q (.ref a) H)∧(k≠1→∀p,H p=none→Q (.ref p) (upd H p (.tup (List.replicate k.toNat xs).flatten)))
theorem op_repT:OpR X (binaryOp .Mult) (ZvH X.K):=by
  intro pins s σ H x y v u Q I rx ry h
  obtain ⟨a,k,xs,rfl,rfl,hH,hne,h0,h1,h2,q1,q2⟩:=h
  cases rx
  obtain ⟨t,rfl⟩:=ry
  obtain ⟨its,r,pl,hz⟩:=I.tuple hH
  obtain ⟨⟨oc,dd,data,sl⟩,e,hc,n,hd⟩:=pl
  simp only at hc hd
  subst hc hd
  have hl:=r.length
  have he:its.toArray.isEmpty=false:=by
    cases r with
    | nil=>exact absurd rfl hne
    | cons _ _=>rfl
  refine wpAny_binaryOp_repeat_ref (T:="tuple") (U:="int") (by decide) ⟨_,e,rfl⟩ (fun s'=>typeIs_int s' k t) Zgw F.fills_int_mul F.slot_int_rmul Zjq F.slot_int_index.lookup
    (call_meets F.slot_int_rmul (typeIs_int s k t) F.entry_int_rmul (F.args_int_rmul_2 _ _) (Zh0 k t a its.toArray n dd sl) ⟨e,rfl,⟨_,e,rfl⟩,?_⟩)
  by_cases k1:k=1
  · subst k1
    exact call_meets F.slot_tuple_mul ⟨_,e,rfl⟩ F.entry_tuple_mul (F.args_tuple_mul_2 _ _) (Ziu a its.toArray n dd sl t) ⟨e,.ref a,H,I,rfl,q1 rfl⟩
  · by_cases k0:k=0
    · subst k0
      refine call_meets F.slot_tuple_mul ⟨_,e,rfl⟩ F.entry_tuple_mul (F.args_tuple_mul_2 _ _) (Zhv a its.toArray n dd sl t he) ⟨e,.ref s.heap.objs.size,_,I.laid (t':=s.toks) (o:=.tup []) (fun b ob q=>Heap.get?_push_of_some _ q) (Nat.le_refl _) ?_,rfl,?_⟩
      · exact ⟨Nat.zero_le _,[],.nil,IsTup.new _ _⟩
      · exact q2 k1 _ (I.hok.fresh (Nat.le_refl _))
    · refine call_meets F.slot_tuple_mul ⟨_,e,rfl⟩ F.entry_tuple_mul (F.args_tuple_mul_2 _ _) (Zhw a its.toArray n dd sl k t he (by omega) h1 (by rw [List.size_toArray,←hl]; exact h2)) ⟨e,?_⟩
      have hnew:List.foldl (fun x1 x2=>x1++x2) #[] (List.replicate k.toNat its.toArray)=(List.replicate k.toNat its).flatten.toArray:=by
        have:=Zfg its k.toNat []
        rw [List.nil_append] at this
        exact this
      rw [hnew]
      refine ⟨.ref s.heap.objs.size,_,I.laid (t':=s.toks) (o:=.tup (List.replicate k.toNat xs).flatten) (fun b ob q=>Heap.get?_push_of_some _ q) (Nat.le_refl _) ?_,rfl,q2 k1 _ (I.hok.fresh (Nat.le_refl _))⟩
      refine ⟨?_,_,r.rep k.toNat,IsTup.new _ _⟩
      rw [Zjw,sizeLine_eq]
      have e2:((k.toNat*xs.length:Nat):Int)=(xs.length:Int)*k:=by
        rw [Int.natCast_mul,Int.mul_comm]
        congr 1
        omega
      omega
end
end L2
namespace My
open PySem L2
def ZaY (t:Int):Int:=if t=0 then 0 else (t-1) % 65535+1
theorem Znk {t:Int} (h:0≤t):0≤ZaY t∧ZaY t≤65535∧(ZaY t-t) % 65535=0∧(ZaY t=0↔t=0):=by
  unfold ZaY; split<;>omega
theorem ZfF {t:Int} (h:0≤t) (h1:t≤65535):ZaY t=t:=by
  unfold ZaY; split<;>omega
theorem Zi7 {t:Int} (h:65535<t):ZaY (t % 65536+t/65536)=ZaY t∧0≤t % 65536+t/65536∧t % 65536+t/65536<t:=by
  unfold ZaY
  rw [if_neg (by omega),if_neg (by omega)]
  omega
def zw:List Int→Int
  | []=>0
  | [a]=>256*a
  | a::b::r=>256*a+b+zw r
def Zeu:List Int→List Int
  | []=>[]
  | [a]=>[a]
  | a::_::r=>a::Zeu r
def ZhJ:List Int→List Int
  | []=>[]
  | [_]=>[]
  | _::b::r=>b::ZhJ r
theorem ZmN:∀ns:List Int,256*(Zeu ns).sum+(ZhJ ns).sum=zw ns
  | []=>rfl
  | [a]=>by simp [Zeu,ZhJ,zw]
  | a::b::r=>by
    have:=ZmN r
    simp only [Zeu,ZhJ,zw,List.sum_cons]
    omega
theorem ZmL:∀{ns:List Int},(∀z∈ns,0≤z)→0≤zw ns
  | [],_=>by simp [zw]
  | [a],h=>by have:=h a (by simp); simp only [zw]; omega
  | a::b::r,h=>by
    have h1:=h a (by simp)
    have h2:=h b (by simp)
    have h3:=ZmL (ns:=r) fun z hz=>h z (by simp [hz])
    simp only [zw]; omega
theorem Zht:∀{ns ms:List Int},ns.length % 2=0→zw (ns++ms)=zw ns+zw ms
  | [],ms,_=>by simp [zw]
  | [a],ms,h=>by simp at h
  | a::b::r,ms,h=>by
    have:=Zht (ns:=r) (ms:=ms) (by simp only [List.length_cons] at h; omega)
    show zw (a::b::(r++ms))=_
    simp only [zw,this]
    omega
theorem ZmB {w:Int} (h:0≤w):ZaY (w+(256*((65535-ZaY w)/256)+(65535-ZaY w) % 256))=65535:=by
  have e:256*((65535-ZaY w)/256)+(65535-ZaY w) % 256=65535-ZaY w:=by omega
  rw [e]
  unfold ZaY
  split<;>split<;>omega
theorem Zde:∀(m:Nat) (ns:List Int),ns.length≤2*m→((List.range m).map fun k=>2*k).filterMap (fun i=>(ns.map V.int)[i]?)=(Zeu ns).map V.int
  | 0,ns,h=>by
    have:ns=[]:=List.length_eq_zero_iff.mp (by omega)
    subst this; rfl
  | m+1,ns,h=>by
    rw [List.range_succ_eq_map,List.map_cons,List.map_map]
    have shift:∀(xs:List Int),(List.map ((fun k=>2*k)∘Nat.succ) (List.range m)).filterMap (fun i=>(xs.map V.int)[i]?)=((List.range m).map fun k=>2*k).filterMap (fun i=>((xs.drop 2).map V.int)[i]?):=fun xs=>by
      rw [List.filterMap_map,List.filterMap_map]
      congr 1
      funext k
      show (xs.map V.int)[2*(k+1)]?=((xs.drop 2).map V.int)[2*k]?
      rw [List.getElem?_map,List.getElem?_map,List.getElem?_drop]
      congr 2
      omega
    match ns,h with
    | [],_=>
      have:=shift []
      rw [List.filterMap_cons_none (by rfl),this,Zde m _ (by simp)]
      rfl
    | [a],_=>
      have:=shift [a]
      rw [List.filterMap_cons_some (b:=V.int a) (by rfl),this,Zde m _ (by simp)]
      rfl
    | a::b::r,h=>
      have:=shift (a::b::r)
      rw [List.filterMap_cons_some (b:=V.int a) (by rfl),this,Zde m _ (by simp only [List.length_cons] at h; simp; omega)]
      rfl
theorem Zm5:∀ns:List Int,ZhJ ns=Zeu (ns.drop 1)
  | []=>rfl
  | [_]=>rfl
  | [_,_]=>rfl
  | _::b::c::r=>by
    have:=Zm5 (c::r)
    simp only [ZhJ,List.drop,Zeu] at *
    rw [this]
theorem Zn4 (ns:List Int):ZeE (ns.map V.int) none none (some 2)=(Zeu ns).map V.int:=by
  unfold ZeE sliceBounds sliceRange
  simp only [Option.getD_some,List.length_map,show ((2:Int) > 0)=True from eq_true (by decide),if_true]
  have e:(if (0:Int)<(ns.length:Int) then ((ns.length:Int)-0+2-1)/2 else 0).toNat=(ns.length+1)/2:=by split<;>omega
  rw [e]
  have e2:(fun k:Nat=>((0:Int)+2*(k:Int)).toNat)=fun k=>2*k:=by funext k; omega
  rw [e2]
  exact Zde _ ns (by omega)
theorem Zq6 (ns:List Int):ZeE (ns.map V.int) (some 1) none (some 2)=(ZhJ ns).map V.int:=by
  unfold ZeE sliceBounds sliceRange
  simp only [Option.getD_some,List.length_map,show ((2:Int) > 0)=True from eq_true (by decide),show ((1:Int)<0)=False from eq_false (by decide),if_true,if_false]
  rw [Zm5]
  by_cases h:ns.length=0
  · have:ns=[]:=List.length_eq_zero_iff.mp h
    subst this; rfl
  · have e0:max (0:Int) (min 1 (ns.length:Int))=1:=by omega
    rw [e0]
    have e:(if (1:Int)<(ns.length:Int) then ((ns.length:Int)-1+2-1)/2 else 0).toNat=ns.length/2:=by split<;>omega
    rw [e,←Zde (ns.length/2) (ns.drop 1) (by rw [List.length_drop]; omega),List.filterMap_map,List.filterMap_map]
    congr 1
    funext k
    show (ns.map V.int)[((1:Int)+2*(k:Int)).toNat]?=((ns.drop 1).map V.int)[2*k]?
    rw [List.getElem?_map,List.getElem?_map,List.getElem?_drop]
    congr 2
theorem Zi8:∀ns:List Int,(Zeu ns).length≤ns.length
  | []=>Nat.le_refl _
  | [_]=>Nat.le_refl _
  | _::_::r=>by have:=Zi8 r; simp only [Zeu,List.length_cons]; omega
theorem Zlz:∀ns:List Int,(ZhJ ns).length≤ns.length
  | []=>Nat.le_refl _
  | [_]=>Nat.zero_le _
  | _::_::r=>by have:=Zlz r; simp only [ZhJ,List.length_cons]; omega
def wpre (ns:List Int):Nat→Int
  | 0=>0
  | i+1=>wpre ns i+ns.getD i 0*(if i % 2=0 then 256 else 1)
theorem Zlf (a b:Int) (r:List Int):∀i,wpre (a::b::r) (i+2)=256*a+b+wpre r i
  | 0=>by simp [wpre]; omega
  | i+1=>by
    have e:(i+2) % 2=i % 2:=by omega
    rw [wpre,Zlf a b r i]
    show _+r.getD i 0*(if (i+2) % 2=0 then 256 else 1)=256*a+b+(wpre r i+r.getD i 0*(if i % 2=0 then 256 else 1))
    rw [e]
    omega
theorem Zlg:∀ns:List Int,wpre ns ns.length=zw ns
  | []=>rfl
  | [a]=>by simp [wpre,zw]; omega
  | a::b::r=>by
    show wpre (a::b::r) (r.length+2)=_
    rw [Zlf,Zlg r]
    rfl
end My
namespace L2
open PySem PySem.Spec PyProof.Rows
section
variable {κ:Type} [DecidableEq κ]
def valV (kvs:List (κ×V)) (k:κ):Option V:=(kvs.find? fun kv=>decide (kv.1=k)).map (·.2)
def ZhG (kvs:List (κ×V)) (k:κ) (v:V):List (κ×V):=
  if (kvs.any fun kv=>decide (kv.1=k))=true then kvs.map (fun kv=>if kv.1=k then (kv.1,v) else kv) else kvs++[(k,v)]
def Zfx (kvs:List (κ×V)) (k:κ):List (κ×V):=kvs.filter fun kv=>decide (kv.1≠k)
theorem Zlh {p:κ×V} {r:List (κ×V)} {k:κ} (e:p.1=k):valV (p::r) k=some p.2:=by simp [valV,List.find?_cons,e]
theorem Zli {p:κ×V} {r:List (κ×V)} {k:κ} (e:¬p.1=k):valV (p::r) k=valV r k:=by simp [valV,List.find?_cons,e]
theorem ZlL (kvs:List (κ×V)) (k:κ) (v:V):(ZhG kvs k v).length≤kvs.length+1:=by
  unfold ZhG
  split
  · rw [List.length_map]; omega
  · rw [List.length_append,List.length_cons,List.length_nil]; omega
theorem RelO.isSome_eq {o:Option V} {u:Option Value} (r:RelO o u):o.isSome=u.isSome:=by
  cases o with
  | none=>cases u with
    | none=>rfl
    | some _=>exact (show False from r).elim
  | some _=>cases u with
    | none=>exact (show False from r).elim
    | some _=>rfl
theorem KV.val {kvs:List (κ×V)} {vs:List (κ×Value)} (r:KV kvs vs) (k:κ):RelO (valV kvs k) (valueAt vs k):=by
  unfold KV at r
  induction r with
  | nil=>exact True.intro
  | @cons p q ps qs h t ih=>
    obtain ⟨h1,h2⟩:=h
    by_cases e:p.1=k
    · have e':q.1=k:=h1.symm.trans e
      have b:valueAt (q::qs) k=some q.2:=by simp [valueAt,List.find?_cons,e']
      rw [Zlh e,b]; exact h2
    · have e':¬q.1=k:=fun z=>e (h1.trans z)
      have b:valueAt (q::qs) k=valueAt qs k:=by simp [valueAt,List.find?_cons,e']
      rw [Zli e,b]; exact ih
theorem KV.any {kvs:List (κ×V)} {vs:List (κ×Value)} (r:KV kvs vs) (k:κ):(kvs.any fun kv=>decide (kv.1=k))=vs.any fun kv=>decide (kv.1=k):=by
  unfold KV at r
  induction r with
  | nil=>rfl
  | cons h t ih=>rw [List.any_cons,List.any_cons,ih,h.1]
theorem KV.repl {kvs:List (κ×V)} {vs:List (κ×Value)} (r:KV kvs vs) (k:κ) {y:V} {u:Value} (ry:RelV y u) :
    KV (kvs.map fun kv=>if kv.1=k then (kv.1,y) else kv) (vs.map fun kv=>if kv.1=k then (kv.1,u) else kv):=by
  unfold KV at r ⊢
  induction r with
  | nil=>exact .nil
  | @cons p q ps qs h t ih=>
    rw [List.map_cons,List.map_cons]
    refine .cons ?_ ih
    obtain ⟨h1,h2⟩:=h
    by_cases e:p.1=k
    · rw [if_pos e,if_pos (h1.symm.trans e)]; exact ⟨h1,ry⟩
    · rw [if_neg e,if_neg (fun z=>e (h1.trans z))]; exact ⟨h1,h2⟩
theorem KV.put {kvs:List (κ×V)} {vs:List (κ×Value)} (r:KV kvs vs) (k:κ) {y:V} {u:Value} (ry:RelV y u):KV (ZhG kvs k y) (stored vs k u):=by
  unfold ZhG stored
  rw [r.any k]
  by_cases e:(vs.any fun kv=>decide (kv.1=k))=true
  · rw [if_pos e,if_pos e]; exact r.repl k ry
  · rw [if_neg e,if_neg e]; exact Paired.snoc r ⟨rfl,ry⟩
theorem KV.drop {kvs:List (κ×V)} {vs:List (κ×Value)} (r:KV kvs vs) (k:κ):KV (Zfx kvs k) (without vs k):=by
  unfold KV at r ⊢
  unfold Zfx without
  induction r with
  | nil=>exact .nil
  | @cons p q ps qs h t ih=>
    obtain ⟨h1,h2⟩:=h
    rw [List.filter_cons,List.filter_cons]
    by_cases e:p.1=k
    · have a:¬decide (p.1≠k)=true:=by simp [e]
      have b:¬decide (q.1≠k)=true:=by simp [h1.symm.trans e]
      rw [if_neg a,if_neg b]; exact ih
    · have e':¬q.1=k:=fun z=>e (h1.trans z)
      have a:decide (p.1≠k)=true:=by simp [e]
      have b:decide (q.1≠k)=true:=by simp [e']
      rw [if_pos a,if_pos b]; exact .cons ⟨h1,h2⟩ ih
theorem KV.length {kvs:List (κ×V)} {vs:List (κ×Value)} (r:KV kvs vs):kvs.length=vs.length:=Paired.length r
theorem ZlX (kvs:List (κ×V)) (k:κ):(Zfx kvs k).length≤kvs.length:=List.length_filter_le _ _
end
theorem ZlO {P:Program} {w:World} {k:Key} {u:Value} (r:RelV (kV k) u):(ZaN P w).is k u=true:=by
  cases k with
  | inl i=>obtain ⟨t,e⟩:=(show ∃t,u=Value.int i t from r); subst e; exact ZlH P w i t
  | inr x=>obtain ⟨t,e⟩:=(show ∃t,u=Value.str x t from r); subst e; exact ZlG P w x t
theorem Zi3 {P:Program} {w:World}:∀{ks:List Key} {us:List Value},Vals (ks.map kV) us→ItemsAre (ZaN P w) ks us
  | [],_,r=>by rw [List.map_nil] at r; cases r; exact .nil
  | k::ks,_,r=>by
    rw [List.map_cons] at r
    cases r with
    | cons h t=>exact .cons (ZlO h) (Zi3 t)
abbrev KT (H:Hp):List (List Key×V)→List (List Key×Addr×Value)→Prop:=Paired fun p q=>p.1=q.1∧H q.2.1=some (.tup (p.1.map kV))∧RelV p.2 q.2.2
theorem KT.val {H:Hp} {kvs:List (List Key×V)} {xs:List (List Key×Addr×Value)} (r:KT H kvs xs) (k:List Key):RelO (valV kvs k) ((atKey xs k).map (·.2)):=by
  induction r with
  | nil=>exact True.intro
  | @cons p q ps qs h t ih=>
    obtain ⟨h1,_,h2⟩:=h
    by_cases e:p.1=k
    · have e':q.1=k:=h1.symm.trans e
      have b:atKey (q::qs) k=some q.2:=by simp [atKey,List.find?_cons,e']
      rw [Zlh e,b]; exact h2
    · have e':¬q.1=k:=fun z=>e (h1.trans z)
      have b:atKey (q::qs) k=atKey qs k:=by simp [atKey,List.find?_cons,e']
      rw [Zli e,b]; exact ih
section
variable {P:Program} {w:World} {H:Hp} {h:Heap} {a:Addr}
theorem Zs6 {u:HO} (ok:HOk P w H h) (e:Rd H a u):ObjOk P w H h a u:=e.ok ok
theorem Zq2 {kvs:List (Key×V)} (ok:HOk P w H h) (e:Rd H a (.dK kvs)):kvs.length≤sizeLine∧(a == sysModules)=false∧∃vs,KV kvs vs∧h.DictOf (ZaN P w) a vs:=
  show ObjOk P w H h a (.dK kvs) from Zs6 ok e
theorem Zq3 {kvs:List (Key×V)} (ok:HOk P w H h) (e:H a=some (.dK kvs)):kvs.length≤sizeLine∧(a == sysModules)=false∧∃vs,KV kvs vs∧h.DictOf (ZaN P w) a vs:=Zq2 ok (.inl e)
theorem ZqE {ks:List Key} (ok:HOk P w H h) (e:H a=some (.tup (ks.map kV))):(tupleKind (ZaN P w)).is h ks a:=by
  obtain ⟨_,its,r,o,h1,h2,n,h3⟩:=(show ObjOk P w H h a (.tup (ks.map kV)) from ok a _ e)
  exact ⟨o,its.toArray,n,h1,h2,h3,by simpa using Zi3 r⟩
theorem Zti {kvs:List (List Key×V)} (ok:HOk P w H h) (e:Rd H a (.dT kvs)):kvs.length≤sizeLine∧(a == sysModules)=false∧
    ∃xs,KT H kvs xs∧h.DictOfH (tupleKind (ZaN P w)) a xs:=by
  obtain ⟨z,y,xs,r,o,es,ep,h1,h2,h3,h4,h5⟩:=(show ObjOk P w H h a (.dT kvs) from Zs6 ok e)
  refine ⟨z,y,xs,r,o,es,ep,h1,h2,h3,h4,fun x hx=>?_,h5⟩
  have all:∀{l:List (List Key×V)} {m:List (List Key×Addr×Value)},KT H l m→∀x∈m,(tupleKind (ZaN P w)).is h x.1 x.2.1:=by
    intro l m q
    induction q with
    | nil=>intro x hx; exact nomatch hx
    | @cons p q ps qs hq t ih=>
      intro x hx
      rcases List.mem_cons.mp hx with e | hx
      · subst e
        exact ZqE ok (by rw [←hq.1]; exact hq.2.1)
      · exact ih x hx
  exact all r x hx
end
def DGet (H:Hp) (a:Addr) (y:V) (r:Option V):Prop:=
  (∃kvs k,Rd H a (.dK kvs)∧y=kV k∧r=valV kvs k)∨∃kvs k b,Rd H a (.dT kvs)∧y=.ref b∧H b=some (.tup (k.map kV))∧r=valV kvs k
theorem DGet.k {H:Hp} {a:Addr} {kvs:List (Key×V)} {k:Key} (e:H a=some (.dK kvs)):DGet H a (kV k) (valV kvs k):=.inl ⟨kvs,k,.inl e,rfl,rfl⟩
section
variable {X:Cx} {pins:List (Addr×Obj)} {σ:St} {H:Hp} {s:Shared} {a:Addr} {y v:V} {u r:Value} {o:Option V} {A:Around} {E:Value→Shared→Prop}
theorem Inv.big (I:Inv X pins σ H s):sysModules<s.heap.objs.size:=by
  have h:mainGlobals<s.heap.objs.size:=(I.mod.glob.keeps I.bk).lt
  exact Nat.lt_trans (by decide) h
theorem ZzV {Q:Value→Shared→Prop} (hu:A.units+1<cLine) (I:Inv X pins σ H s) (g:DGet H a y o) (ry:RelV y u) (h:∀s',Inv X pins σ H s'→Q (.bool o.isSome) s') :
    wpAny (model X.prog X.w) A (compareOp .In u (.ref a)) Q E s:=by
  rcases g with ⟨kvs,k,e,ey,l⟩ | ⟨kvs,k,b,e,ey,eb,l⟩
  · subst ey
    obtain ⟨z,hd,vs,rel,dd⟩:=Zq2 I.hok e
    refine wpAny_in_of (ZlO ry) hd dd.mapOf ?_
    rw [←(rel.val k).isSome_eq,←l]
    exact h _ (I.tok _)
  · subst ey
    cases (show u=Value.ref b from ry)
    obtain ⟨z,hd,xs,rel,dd⟩:=Zti I.hok e
    refine wpAny_in_heap (tupleKind_room_in1 hu) (ZqE I.hok eb) hd dd ?_
    have q:=(rel.val k).isSome_eq
    rw [Option.isSome_map] at q
    rw [←q,←l]
    exact h _ (I.tok _)
theorem ZjH {h':Heap} {t':Nat} {ob:HO} (I:Inv X pins σ H s) (mu:Mut (H a)) (hs:Heap.SameBut a s.heap h') (he:∃q,h'.get? a=some q) (new:ObjOk X.prog X.w (upd H a ob) h' a ob) :
    Inv X pins σ (upd H a ob) { s with heap:=h',toks:=t' }:=
  I.write (x:=a) (e:=a) mu (.inl rfl) (fun b q hb z=>(hs.2 b hb).trans z) he new
theorem ZmE {P:Program} {w:World} {H':Hp} {h':Heap} {kvs:List (Key×V)} {vs:List (Key×Value)} (z:kvs.length≤sizeLine) (hd:(a == sysModules)=false) (rel:KV kvs vs) (dd:h'.DictOf (ZaN P w) a vs) :
    ObjOk P w H' h' a (.dK kvs):=⟨z,hd,vs,rel,dd⟩
end
section
variable {X:Cx} {pins:List (Addr×Obj)} {σ:St} {H:Hp} {s:Shared} {a:Addr} {kvs:List (Key×V)} {k:Key} {u:Value} {A:Around} {E:Value→Shared→Prop}
theorem Zva {Q:Unit→Shared→Prop} (I:Inv X pins σ H s) (e:H a=some (.dK kvs)) (ry:RelV (kV k) u) (l:(valV kvs k).isSome=true) (h:∀s',Inv X pins σ (upd H a (.dK (Zfx kvs k))) s'→Q () s') :
    wpAny (model X.prog X.w) A (delItem (.ref a) u) Q E s:=by
  obtain ⟨z,hd,vs,rel,dd⟩:=Zq3 I.hok e
  refine wpAny_delItem_slot dd.typeIs (by decide) PySem.F.slot_dict_delitem
    (call_meetsIn PySem.F.slot_dict_delitem dd.typeIs PySem.F.entry_dict_delitem (PySem.F.args_dict_delitem_2 _ _) (meets_dict_delitem_pairs (ZaN X.prog X.w) a (ZlO ry)) ⟨vs,dd,by rw [←rel.length]; exact z,by rw [←(rel.val k).isSome_eq]; exact l,fun h' dd' hs=>h _ ?_⟩)
  have he:∃q,h'.get? a=some q:=let ⟨q,_,_,hq,_⟩:=dd'; ⟨q,hq⟩
  exact ZjH I (by rw [e]; exact True.intro) hs he (ZmE (Nat.le_trans (ZlX kvs k) z) hd (rel.drop k) dd')
theorem Zwq {v:V} {more:List Value} {Q:Value→Shared→Prop} (I:Inv X pins σ H s) (e:H a=some (.dK kvs)) (ry:RelV (kV k) u) (l:valV kvs k=some v) (hm:more=[]∨∃x,more=[x])
    (h:∀w' s',Inv X pins σ (upd H a (.dK (Zfx kvs k))) s'→RelV v w'→Q w' s'):wpAny (model X.prog X.w) A (call (.builtin "dict.pop") (.ref a::u::more)) Q E s:=by
  obtain ⟨z,hd,vs,rel,dd⟩:=Zq3 I.hok e
  obtain ⟨w',hw,rw'⟩:=RelO.some_of (v:=v) (o:=valueAt vs k) (by rw [←l]; exact rel.val k)
  have hp:(keyPart u).isSome=true:=by
    cases k with
    | inl i=>obtain ⟨t,q⟩:=(show ∃t,u=Value.int i t from ry); subst q; rfl
    | inr x=>obtain ⟨t,q⟩:=(show ∃t,u=Value.str x t from ry); subst q; rfl
  have ha:argsOk "dict.pop" ⟨.ref a::u::more,[]⟩:=by
    rcases hm with q | ⟨x,q⟩
    · subst q; exact PySem.F.args_dict_pop_2 _ _
    · subst q; exact PySem.F.args_dict_pop_3 _ _ _
  refine call_meetsIn PySem.F.slot_dict_pop dd.typeIs PySem.F.entry_dict_pop ha (meets_dict_pop_there (ZaN X.prog X.w) a (ZlO ry) more hm hp)
    ⟨vs,w',dd,by rw [←rel.length]; exact z,hw,fun h' dd' hs=>h w' _ ?_ rw'⟩
  have he:∃q,h'.get? a=some q:=let ⟨q,_,_,hq,_⟩:=dd'; ⟨q,hq⟩
  exact ZjH I (by rw [e]; exact True.intro) hs he (ZmE (Nat.le_trans (ZlX kvs k) z) hd (rel.drop k) dd')
end
def Zvz (ty td:TE):TE:=fun σ H Q=>ty σ H fun y H1=>td σ H1 fun x H2=>∃a o,x=.ref a∧DGet H2 a y o∧Q (.bl o.isSome) H2
section
variable {X:Cx} {o i e value:Expr} {pos pos' tpos:Pos} {td ty tv:TE}
theorem Zui (hu:X.A.units+1<cLine) (hi:PE X i ty) (ho:PE X o td):PC X .In i o (Zvz ty td):=by
  intro pins s σ H Q I h
  refine thn (hi pins s σ H _ I h) fun iv s1 ⟨y,H1,I1,ry,q1⟩=>thn (ho pins s1 σ H1 _ I1 q1) fun u s2 ⟨x,H2,I2,rx,a,ov,ex,g,q2⟩=>?_
  subst ex
  obtain rfl:u=Value.ref a:=rx
  exact ZzV hu I2 g ry fun s3 I3=>⟨.bl ov.isSome,H2,I3,rfl,q2⟩
end
theorem Zq4 {P:Program} {w:World} {H:Hp} (h:Heap) (hb:sysModules<h.objs.size):ObjOk P w H (h.push { cls:=.type "dict",data:=.dict #[] }) h.objs.size (.dK []):=
  ⟨Nat.zero_le _,beq_eq_false_iff_ne.mpr (Ne.symm (Nat.ne_of_lt hb)),[],.nil,Heap.DictOf.new h⟩
def ZtQ:TE:=fun _ H Q=>∀p,H p=none→Q (.ref p) (upd H p (.dK []))
section
variable {X:Cx} {pos:Pos}
theorem Zp9:PE X (.Dict [] [] pos) ZtQ:=fun pins s σ H Q I h=>
  wpAny_Dict_empty ⟨.ref s.heap.objs.size,_,I.laid (a:=s.heap.objs.size) (o:=.dK []) (t':=s.toks) (fun _ _ q=>Heap.get?_push_of_some _ q) (Nat.le_refl _) (Zq4 s.heap I.big),rfl,h _ (I.hok.fresh (Nat.le_refl _))⟩
end
structure M1 (X:Cx) (o:Expr) (m:Str) (apos:Pos) (e:Expr) (cpos:Pos):Prop where
  base:attributeBase o m X.env (eval o X.env)=eval o X.env
  few:((backTo cpos (starEach [e] X.env)).all (fun x=>!x.1) && (backToKw cpos (keywordEach [] X.env)).all (fun x=>x.1.isSome)
    && decide (([e]:List Expr).length+([]:List Keyword).length+(if ([]:List Keyword).isEmpty then 0 else 1)<30))=true
  line:(apos.endLine == cpos.line)=true
  trees:backTo cpos (starEach [e] X.env)=[(false,eval e X.env)]
structure M2 (X:Cx) (o:Expr) (m:Str) (apos:Pos) (e f:Expr) (cpos:Pos):Prop where
  base:attributeBase o m X.env (eval o X.env)=eval o X.env
  few:((backTo cpos (starEach [e,f] X.env)).all (fun x=>!x.1) && (backToKw cpos (keywordEach [] X.env)).all (fun x=>x.1.isSome)
    && decide (([e,f]:List Expr).length+([]:List Keyword).length+(if ([]:List Keyword).isEmpty then 0 else 1)<30))=true
  line:(apos.endLine == cpos.line)=true
  trees:backTo cpos (starEach [e,f] X.env)=[(false,eval e X.env),(false,eval f X.env)]
def IsD (H:Hp) (a:Addr):Prop:=(∃kvs,Rd H a (.dK kvs))∨∃kvs,Rd H a (.dT kvs)
theorem ZqF {X:Cx} {pins:List (Addr×Obj)} {σ:St} {H:Hp} {s:Shared} {a:Addr} (I:Inv X pins σ H s) (d:IsD H a) :
    s.TypeIs (.ref a) "dict"∧(∀b,Value.ref a=.ref b→∃ob,s.heap.get? b=some ob∧ob.dict=none)∧(a == sysModules)=false:=by
  rcases d with ⟨kvs,e⟩ | ⟨kvs,e⟩
  · obtain ⟨_,hd,vs,_,dd⟩:=Zq2 I.hok e
    refine ⟨dd.typeIs,fun b q=>?_,hd⟩
    cases q
    obtain ⟨ob,_,_,h1,h2,_⟩:=dd
    exact ⟨ob,h1,h2.2.1⟩
  · obtain ⟨_,hd,xs,_,dd⟩:=Zti I.hok e
    refine ⟨dd.typeIs,fun b q=>?_,hd⟩
    cases q
    obtain ⟨ob,_,_,h1,h2,_⟩:=dd
    exact ⟨ob,h1,h2.2.1⟩
section
variable {X:Cx} {pins:List (Addr×Obj)} {σ:St} {H:Hp} {s:Shared} {a:Addr} {y d:V} {u r:Value} {o:Option V} {A:Around} {E:Value→Shared→Prop}
end
def ZtP (td ty:TE):TE:=fun σ H Q=>td σ H fun x H1=>∃a,x=.ref a∧IsD H1 a∧ty σ H1 fun y H2=>∃kvs k v,H2 a=some (.dK kvs)∧y=kV k∧valV kvs k=some v∧Q v (upd H2 a (.dK (Zfx kvs k)))
section
variable {X:Cx} {o e f:Expr} {apos cpos:Pos} {td ty tx:TE}
theorem Zp8 (ho:PE X o td) (he:PE X e ty) (m:M1 X o "pop" apos e cpos):PE X (.Call (.Attribute o "pop" apos) [e] [] cpos) (ZtP td ty):=by
  intro pins s σ H Q I h
  refine wpAny_Call_method m.base m.few m.line PySem.F.plainAttrs_dict PySem.F.slot_dict_pop PySem.F.type_dict_pop (thn (ho pins s σ H _ I h) fun u s1 ⟨x,H1,I1,rx,a,ex,d,q1⟩=>?_)
  subst ex
  obtain rfl:u=Value.ref a:=rx
  obtain ⟨t1,t2,_⟩:=ZqF I1 d
  refine ⟨t1,t2,?_⟩
  rw [m.trees]
  refine Calls.callWith_builtin rfl (Calls.evalArgs_plain (Calls.spliced_cons (thn (he pins s1 σ H1 _ I1 q1) fun iv s2 ⟨y,H2,I2,ry,kvs,k,v,ea,ey,l,q2⟩=>Calls.spliced_nil ?_)))
  subst ey
  exact Zwq I2 ea ry l (.inl rfl) fun w' s3 I3 rw'=>⟨v,_,I3,rw',q2⟩
end
section
variable {X:Cx} {pins:List (Addr×Obj)} {σ:St} {H:Hp} {s:Shared} {a:Addr} {kvs:List (Key×V)} {A:Around} {E:Value→Shared→Prop}
end
section
variable {X:Cx} {pins:List (Addr×Obj)} {σ:St} {H:Hp} {s:Shared} {a:Addr} {y:V} {u:Value} {A:Around} {E:Value→Shared→Prop}
end
end L2
namespace L2.MM
open PySem PySem.Spec PyProof.Rows
theorem nr {α:Sort _} {a b:α} (h:a=b):a=b:=h
inductive D where
  | non | bl (b:Bool) | int (i:Int) | str (x:Str) | ty (n:String)
  | scr (ns:List Int) | tup (xs:List D) | lst (xs:List D) | ref (l:Nat)
  deriving Inhabited
inductive Cell where
  | lst (xs:List D) | dK (kvs:List (Key×D)) | dT (kvs:List (List Key×D)) | ins (C:Str) (fs:List (Str×D))
abbrev Sto:=List Cell
structure Bx where
  n:Nat
  m:Nat→Addr
  F:Addr→Prop
  os:List Addr
  ks:Addr→List Int→Prop
def Bx.ok (B:Bx) (a:Addr):Prop:=(∀i,i<B.n→B.m i≠a)∧¬B.F a∧a∉B.os
mutual
def RepV (B:Bx) (H:Hp):D→V→Prop
  | .non,v=>v=.non
  | .bl b,v=>v=.bl b
  | .int i,v=>v=.int i
  | .str x,v=>v=.str x
  | .ty n,v=>v=.ty n
  | .scr ns,v=>∃a,v=.ref a∧((∃o,H a=some (.frz o (.lst (ns.map V.int)))∧B.ok a)∨B.ks a ns)
  | .tup xs,v=>∃a vs,v=.ref a∧H a=some (.tup vs)∧B.ok a∧RepL B H xs vs
  | .lst xs,v=>∃a vs,v=.ref a∧H a=some (.lst vs)∧B.ok a∧RepL B H xs vs
  | .ref l,v=>l<B.n∧v=.ref (B.m l)
def RepL (B:Bx) (H:Hp):List D→List V→Prop
  | [],vs=>vs=[]
  | d::ds,vs=>∃v r,vs=v::r∧RepV B H d v∧RepL B H ds r
end
abbrev RepKV {κ:Type} (B:Bx) (H:Hp):List (κ×D)→List (κ×V)→Prop:=Paired fun p q=>p.1=q.1∧RepV B H p.2 q.2
structure ExtS (B B':Bx) (H H':Hp):Prop where
  n:B.n≤B'.n
  m:∀i,i<B.n→B'.m i=B.m i
  fr:∀i,B.n≤i→i<B'.n→H (B'.m i)=none
  keep:∀a o,H a=some o→(∀i,i<B.n→B.m i≠a)→a∉B.os→H' a=some o
  sm:∀a,H a≠none→H' a≠none
  os:∀a,a∈B'.os→a∈B.os∨H a=none
  F:B'.F=B.F
  ks:B'.ks=B.ks
structure ExtE (B B':Bx) (H H':Hp):Prop extends ExtS B B' H H' where
  osE:B'.os=B.os
  ko:∀a o,a∈B.os→(∀i,i<B.n→B.m i≠a)→H a=some o→H' a=some o
theorem ExtS.refl (B:Bx) (H:Hp):ExtS B B H H:=⟨Nat.le_refl _,fun _ _=>rfl,fun i h h'=>absurd h' (Nat.not_lt.mpr h),fun _ _ h _ _=>h,fun _ h=>h,fun _ h=>.inl h,rfl,rfl⟩
theorem ExtE.refl (B:Bx) (H:Hp):ExtE B B H H:=⟨ExtS.refl B H,rfl,fun _ _ _ _ h=>h⟩
section
variable {B B' B'':Bx} {H H' H'':Hp}
theorem Bx.ok.ext {a:Addr} {o:HO} (k:B.ok a) (E:ExtS B B' H H') (h:H a=some o):B'.ok a∧H' a=some o:=by
  refine ⟨⟨fun i hi e=>?_,by rw [E.F]; exact k.2.1,fun z=>?_⟩,E.keep a o h k.1 k.2.2⟩
  · by_cases q:i<B.n
    · rw [E.m i q] at e; exact k.1 i q e
    · have:=E.fr i (Nat.not_lt.mp q) hi
      rw [e,h] at this; cases this
  · rcases E.os a z with z | z
    · exact k.2.2 z
    · rw [h] at z; cases z
theorem ExtS.trans (E:ExtS B B' H H') (E':ExtS B' B'' H' H''):ExtS B B'' H H'' where
  n:=Nat.le_trans E.n E'.n
  m:=fun i hi=>(E'.m i (Nat.lt_of_lt_of_le hi E.n)).trans (E.m i hi)
  fr:=fun i h1 h2=>by
    by_cases q:i<B'.n
    · rw [E'.m i q]; exact E.fr i h1 q
    · cases z:H (B''.m i) with
      | none=>rfl
      | some o=>exact absurd (E'.fr i (Nat.not_lt.mp q) h2) (E.sm _ (by rw [z]; simp))
  keep:=fun a o h h1 h2=>by
    have h':=E.keep a o h h1 h2
    refine E'.keep a o h' (fun i hi e=>?_) (fun z=>?_)
    · by_cases q:i<B.n
      · rw [E.m i q] at e; exact h1 i q e
      · have:=E.fr i (Nat.not_lt.mp q) hi
        rw [e,h] at this; cases this
    · rcases E.os a z with z | z
      · exact h2 z
      · rw [h] at z; cases z
  sm:=fun a h=>E'.sm a (E.sm a h)
  os:=fun a h=>by
    rcases E'.os a h with z | z
    · exact E.os a z
    · right
      cases q:H a with
      | none=>rfl
      | some o=>exact absurd z (E.sm a (by rw [q]; simp))
  F:=E'.F.trans E.F
  ks:=E'.ks.trans E.ks
theorem ExtE.trans (E:ExtE B B' H H') (E':ExtE B' B'' H' H''):ExtE B B'' H H'' where
  toExtS:=E.toExtS.trans E'.toExtS
  osE:=E'.osE.trans E.osE
  ko:=fun a o ha h1 h=>by
    have h':=E.ko a o ha h1 h
    refine E'.ko a o (by rw [E.osE]; exact ha) (fun i hi e=>?_) h'
    by_cases q:i<B.n
    · rw [E.m i q] at e; exact h1 i q e
    · have:=E.fr i (Nat.not_lt.mp q) hi
      rw [e,h] at this; cases this
mutual
theorem RepV.ext (E:ExtS B B' H H'):∀{d:D} {v:V},RepV B H d v→RepV B' H' d v
  | .non,_,h=>h
  | .bl _,_,h=>h
  | .int _,_,h=>h
  | .str _,_,h=>h
  | .ty _,_,h=>h
  | .scr _,_,h=>by
    obtain ⟨a,e,h⟩:=h
    refine ⟨a,e,?_⟩
    rcases h with ⟨o,h,k⟩ | h
    · obtain ⟨k',h'⟩:=k.ext E h
      exact .inl ⟨o,h',k'⟩
    · exact .inr (by rw [E.ks]; exact h)
  | .tup _,_,h=>by
    obtain ⟨a,vs,e,h,k,l⟩:=h
    obtain ⟨k',h'⟩:=k.ext E h
    exact ⟨a,vs,e,h',k',RepL.ext E l⟩
  | .lst _,_,h=>by
    obtain ⟨a,vs,e,h,k,l⟩:=h
    obtain ⟨k',h'⟩:=k.ext E h
    exact ⟨a,vs,e,h',k',RepL.ext E l⟩
  | .ref l,_,h=>⟨Nat.lt_of_lt_of_le h.1 E.n,by rw [h.2,E.m l h.1]⟩
theorem RepL.ext (E:ExtS B B' H H'):∀{ds:List D} {vs:List V},RepL B H ds vs→RepL B' H' ds vs
  | [],_,h=>h
  | _::_,_,h=>by
    obtain ⟨v,r,e,hv,hr⟩:=h
    exact ⟨v,r,e,RepV.ext E hv,RepL.ext E hr⟩
end
theorem RepL.len:∀{ds:List D} {vs:List V},RepL B H ds vs→vs.length=ds.length
  | [],_,h=>by cases (show _=[] from h); rfl
  | _::_,_,h=>by
    obtain ⟨v,r,rfl,_,hr⟩:=h
    simp [RepL.len hr]
theorem RepL.app:∀{ds es:List D} {vs us:List V},RepL B H ds vs→RepL B H es us→RepL B H (ds++es) (vs++us)
  | [],_,_,_,h,q=>by cases (show _=[] from h); exact q
  | _::_,_,_,_,h,q=>by
    obtain ⟨v,r,rfl,hv,hr⟩:=h
    exact ⟨v,_,rfl,hv,RepL.app hr q⟩
theorem RepL.get:∀{ds:List D} {vs:List V} {i:Nat} {d:D},RepL B H ds vs→ds[i]?=some d→∃v,vs[i]?=some v∧RepV B H d v
  | [],_,_,_,_,e=>by simp at e
  | _::_,_,0,_,h,e=>by
    obtain ⟨v,r,rfl,hv,_⟩:=h
    simp at e; subst e
    exact ⟨v,rfl,hv⟩
  | _::_,_,i+1,_,h,e=>by
    obtain ⟨v,r,rfl,_,hr⟩:=h
    obtain ⟨w,q1,q2⟩:=RepL.get (i:=i) hr (by simpa using e)
    exact ⟨w,by simpa using q1,q2⟩
theorem RepL.take:∀{ds:List D} {vs:List V} (n:Nat),RepL B H ds vs→RepL B H (ds.take n) (vs.take n)
  | _,_,0,_=>by rw [List.take_zero,List.take_zero]; exact rfl
  | [],_,n+1,h=>by cases (show _=[] from h); exact rfl
  | _::_,_,n+1,h=>by
    obtain ⟨v,r,rfl,hv,hr⟩:=h
    exact ⟨v,_,rfl,hv,RepL.take n hr⟩
theorem RepL.drop:∀{ds:List D} {vs:List V} (n:Nat),RepL B H ds vs→RepL B H (ds.drop n) (vs.drop n)
  | _,_,0,h=>h
  | [],_,n+1,h=>by cases (show _=[] from h); exact rfl
  | _::_,_,n+1,h=>by
    obtain ⟨v,r,rfl,hv,hr⟩:=h
    exact RepL.drop n hr
theorem RepL.map {α:Type} {f:α→D} {g:α→V} (q:∀a,RepV B H (f a) (g a)):∀l:List α,RepL B H (l.map f) (l.map g)
  | []=>rfl
  | a::l=>⟨_,_,rfl,q a,RepL.map q l⟩
theorem RepKV.ext {κ:Type} (E:ExtS B B' H H'):∀{ks:List (κ×D)} {vs:List (κ×V)},RepKV B H ks vs→RepKV B' H' ks vs
  | _,_,.nil=>.nil
  | _,_,.cons h t=>.cons ⟨h.1,RepV.ext E h.2⟩ (RepKV.ext E t)
end
structure Mo where
  cl:Str→Addr
  K:PySem.W.Frag
def KL (K:PySem.W.Frag) (a:Addr) (ns:List Int):Prop:=∃(o:Obj) (its:Array Value) (n:Nat),K.lookup a=some o∧o.cls=.type "list"∧o.dict=none∧o.data=.seq its n∧its.size≤sizeLine∧Vals (ns.map V.int) its.toList
def CellOk (cl:Mo) (B:Bx) (H:Hp) (a:Addr):Cell→Prop
  | .lst xs=>∃vs,H a=some (.lst vs)∧RepL B H xs vs
  | .dK kvs=>∃vs,H a=some (.dK vs)∧RepKV B H kvs vs
  | .dT kvs=>∃vs,H a=some (.dT vs)∧RepKV B H kvs vs
  | .ins C fs=>∃dx vs,H a=some (.ins (cl.cl C) dx vs)∧RepKV B H fs vs
structure Good (cl:Mo) (B:Bx) (θ:Sto) (H:Hp):Prop where
  len:θ.length=B.n
  inj:∀i j,i<B.n→j<B.n→B.m i=B.m j→i=j
  cel:∀i c,θ[i]?=some c→CellOk cl B H (B.m i) c
  cF:∀i,i<B.n→¬B.F (B.m i)∧B.m i∉B.os
  Fs:∀a,B.F a→H a≠none
  oS:∀a,a∈B.os→H a≠none
  oF:∀a,a∈B.os→¬B.F a
  kc:∀a ns,B.ks a ns→KL cl.K a ns
section
variable {cl:Mo} {B B' B'':Bx} {H H' H'':Hp} {θ θ':Sto}
theorem CellOk.ext {a:Addr} {c:Cell} (k:CellOk cl B H a c) (E:ExtS B B' H H') (h:∀o,H a=some o→H' a=some o):CellOk cl B' H' a c:=by
  cases c with
  | lst xs=>obtain ⟨vs,e,r⟩:=k; exact ⟨vs,h _ e,r.ext E⟩
  | dK kvs=>obtain ⟨vs,e,r⟩:=k; exact ⟨vs,h _ e,r.ext E⟩
  | dT kvs=>obtain ⟨vs,e,r⟩:=k; exact ⟨vs,h _ e,r.ext E⟩
  | ins C fs=>obtain ⟨dx,vs,e,r⟩:=k; exact ⟨dx,vs,h _ e,r.ext E⟩
theorem CellOk.there {a:Addr} {c:Cell} (k:CellOk cl B H a c):H a≠none:=by
  cases c with
  | lst xs=>obtain ⟨vs,e,r⟩:=k; rw [e]; simp
  | dK kvs=>obtain ⟨vs,e,r⟩:=k; rw [e]; simp
  | dT kvs=>obtain ⟨vs,e,r⟩:=k; rw [e]; simp
  | ins C fs=>obtain ⟨dx,vs,e,r⟩:=k; rw [e]; simp
theorem Good.there (G:Good cl B θ H) {i:Nat} (hi:i<B.n):H (B.m i)≠none:=by
  have:i < θ.length:=by rw [G.len]; exact hi
  exact (G.cel i _ (List.getElem?_eq_getElem this)).there
theorem Good.okNone (G:Good cl B θ H) {p:Addr} (h:H p=none):B.ok p:=
  ⟨fun i hi e=>G.there hi (by rw [e]; exact h),fun z=>G.Fs p z h,fun z=>G.oS p z h⟩
theorem Zc3 (G:Good cl B θ H) {p:Addr} (h:H p=none) (o:HO):ExtE B B H (upd H p o):=by
  have ne:∀a u,H a=some u→upd H p o a=some u:=fun a u e=>by rw [ZT (zl e h)]; exact e
  exact ⟨⟨Nat.le_refl _,fun _ _=>rfl,fun i h h'=>absurd h' (Nat.not_lt.mpr h),fun a u e _ _=>ne a u e,fun a e=>by
    cases q:H a with
    | none=>exact absurd q e
    | some u=>rw [ne a u q]; simp,fun _ h=>.inl h,rfl,rfl⟩,rfl,fun a u _ _ e=>ne a u e⟩
theorem ZeR (G:Good cl B θ H) {p:Addr} (h:H p=none) (o:HO):Good cl B θ (upd H p o):=by
  have E:=Zc3 G h o
  exact ⟨G.len,G.inj,fun i c e=>(G.cel i c e).ext E.toExtS fun u q=>by rw [ZT (zl q h)]; exact q,G.cF,fun a z=>E.sm a (G.Fs a z),fun a z=>E.sm a (G.oS a z),G.oF,G.kc⟩
theorem ZrQ (G:Good cl B θ H) {p:Addr} (h:H p=none) {xs:List D} {vs:List V} (r:RepL B H xs vs):RepV B (upd H p (.lst vs)) (.lst xs) (.ref p):=
  ⟨p,vs,rfl,zJ,G.okNone h,r.ext (Zc3 G h _).toExtS⟩
theorem ZrP (G:Good cl B θ H) {p:Addr} (h:H p=none) {xs:List D} {vs:List V} (r:RepL B H xs vs):RepV B (upd H p (.tup vs)) (.tup xs) (.ref p):=
  ⟨p,vs,rfl,zJ,G.okNone h,r.ext (Zc3 G h _).toExtS⟩
def Bx.push (B:Bx) (p:Addr):Bx:={ B with n:=B.n+1,m:=fun i=>if i=B.n then p else B.m i }
theorem Zh5 (G:Good cl B θ H) {p:Addr} (h:H p=none) (o:HO):ExtE B (B.push p) H (upd H p o):=by
  have E:=Zc3 G h o
  refine ⟨⟨Nat.le_succ _,fun i hi=>if_neg (Nat.ne_of_lt hi),fun i h1 h2=>?_,E.keep,E.sm,fun _ h=>.inl h,rfl,rfl⟩,rfl,E.ko⟩
  have e:i=B.n:=Nat.le_antisymm (Nat.le_of_lt_succ h2) h1
  show H (if i=B.n then p else B.m i)=none
  rw [if_pos e]; exact h
theorem Zi5 (G:Good cl B θ H) {p:Addr} (h:H p=none) {o:HO} {c:Cell} (k:CellOk cl (B.push p) (upd H p o) p c):Good cl (B.push p) (θ++[c]) (upd H p o):=by
  have E:=Zh5 G h o
  have hm:∀i,i<B.n→(B.push p).m i=B.m i:=fun i hi=>if_neg (Nat.ne_of_lt hi)
  have hn:(B.push p).m B.n=p:=if_pos rfl
  have cs:∀i,i<(B.push p).n→i<B.n∨i=B.n:=fun i hi=>Nat.lt_succ_iff_lt_or_eq.mp hi
  have ok:=G.okNone h
  refine ⟨by rw [List.length_append,G.len]; rfl,fun i j hi hj e=>?_,fun i c' e=>?_,fun i hi=>?_,fun a z=>E.sm a (G.Fs a z),fun a z=>E.sm a (G.oS a z),G.oF,G.kc⟩
  · rcases cs i hi with a | a<;>rcases cs j hj with b | b
    · rw [hm i a,hm j b] at e; exact G.inj i j a b e
    · rw [hm i a,b,hn] at e; exact absurd e (ok.1 i a)
    · rw [hm j b,a,hn] at e; exact absurd e.symm (ok.1 j b)
    · rw [a,b]
  · by_cases q:i < θ.length
    · rw [List.getElem?_append_left q] at e
      rw [hm i (by rw [←G.len]; exact q)]
      exact (G.cel i c' e).ext E.toExtS fun u z=>by rw [ZT (zl z h)]; exact z
    · have q':=Nat.not_lt.mp q
      rw [List.getElem?_append_right q'] at e
      have:i - θ.length=0:=by
        cases z:i - θ.length with
        | zero=>rfl
        | succ k=>rw [z] at e; simp at e
      rw [this] at e
      simp at e
      subst e
      have:i=B.n:=by rw [←G.len]; omega
      rw [this,hn]; exact k
  · rcases cs i hi with a | a
    · rw [hm i a]; exact G.cF i a
    · rw [a,hn]; exact ⟨ok.2.1,ok.2.2⟩
theorem Zhq (G:Good cl B θ H) {l:Nat} (hl:l<B.n) (o:HO):ExtE B B H (upd H (B.m l) o):=by
  have ne:∀a u,(∀i,i<B.n→B.m i≠a)→H a=some u→upd H (B.m l) o a=some u:=fun a u k e=>by rw [ZT (Ne.symm (k l hl))]; exact e
  exact ⟨⟨Nat.le_refl _,fun _ _=>rfl,fun i h h'=>absurd h' (Nat.not_lt.mpr h),fun a u e k _=>ne a u k e,fun a e=>by
    by_cases q:a=B.m l
    · rw [q,zJ]; simp
    · rw [ZT q]; exact e,fun _ h=>.inl h,rfl,rfl⟩,rfl,fun a u _ k e=>ne a u k e⟩
theorem Zh1 (G:Good cl B θ H) {l:Nat} (hl:l<B.n) {o:HO} {c:Cell} (k:CellOk cl B (upd H (B.m l) o) (B.m l) c):Good cl B (θ.set l c) (upd H (B.m l) o):=by
  have E:=Zhq G hl o
  refine ⟨by rw [List.length_set]; exact G.len,G.inj,fun i c' e=>?_,G.cF,fun a z=>E.sm a (G.Fs a z),fun a z=>E.sm a (G.oS a z),G.oF,G.kc⟩
  by_cases q:i=l
  · subst q
    rw [List.getElem?_set_self (by rw [G.len]; exact hl)] at e
    cases e; exact k
  · rw [List.getElem?_set_ne (Ne.symm q)] at e
    have hi:i<B.n:=by rw [←G.len]; exact (List.getElem?_eq_some_iff.mp e).1
    exact (G.cel i c' e).ext E.toExtS fun u z=>by rw [ZT (fun z'=>q (G.inj i l hi hl z'))]; exact z
end
inductive R (α:Type) where
  | ok (a:α) (θ:Sto) | ex (c:Str) (θ:Sto) | bad
def R.bind {α β:Type} (r:R α) (k:α→Sto→R β):R β:=match r with
  | .ok a θ=>k a θ
  | .ex c θ=>.ex c θ
  | .bad=>.bad
@[simp] theorem R.bind_ok {α β:Type} (a:α) (θ:Sto) (k:α→Sto→R β):(R.ok a θ).bind k=k a θ:=nr rfl
@[simp] theorem R.bind_bad {α β:Type} (k:α→Sto→R β):(R.bad:R α).bind k=.bad:=nr rfl
inductive Sl where
  | no | val (d:D) | own (xs:List D)
structure Frm (cl:Mo) (B:Bx) (θ:Sto) (ρ:List Sl) (σ:St) (H:Hp):Prop where
  good:Good cl B θ H
  len:ρ.length=σ.length
  val:∀(i:Nat) (d:D),ρ[i]?=some (Sl.val d)→∃v,σ[i]?=some (some v)∧RepV B H d v
  own:∀(i:Nat) (xs:List D),ρ[i]?=some (Sl.own xs)→∃a vs,σ[i]?=some (some (.ref a))∧a∈B.os∧H a=some (.lst vs)∧RepL B H xs vs
  ne:∀(i j:Nat) (xs ys:List D) (a:Addr),i≠j→ρ[i]?=some (Sl.own xs)→ρ[j]?=some (Sl.own ys)→σ[i]?=some (some (.ref a))→σ[j]?≠some (some (.ref a))
theorem Frm.ext {cl:Mo} {B B':Bx} {θ θ':Sto} {ρ:List Sl} {σ:St} {H H':Hp} (F:Frm cl B θ ρ σ H) (E:ExtE B B' H H') (G:Good cl B' θ' H'):Frm cl B' θ' ρ σ H' where
  good:=G
  len:=F.len
  val:=fun i d e=>let ⟨v,h1,h2⟩:=F.val i d e; ⟨v,h1,h2.ext E.toExtS⟩
  own:=fun i xs e=>by
    obtain ⟨a,vs,h1,h2,h3,h4⟩:=F.own i xs e
    exact ⟨a,vs,h1,by rw [E.osE]; exact h2,E.ko a _ h2 (fun i hi z=>(F.good.cF i hi).2 (by rw [z]; exact h2)) h3,h4.ext E.toExtS⟩
  ne:=F.ne
def Zad (mg:Str→Option Value) (x:Str):Addr:=match mg x with
  | some (.ref a)=>a
  | _=>0
abbrev _root_.L2.Cx.cl (X:Cx):Mo:=⟨Zad X.mg,X.K⟩
def XE (X:Cx) (σ:St) (B:Bx) (H:Hp) (c:Str) (θ':Sto):Prop:=False
theorem XE.trans {X:Cx} {σ:St} {B B':Bx} {H H':Hp} {c:Str} {θ':Sto} (h:XE X σ B H c θ') (E:ExtE B B' H H'):XE X σ B' H' c θ':=h
def wpR (X:Cx) (σ:St) {α β:Type} (Rel:Bx→Hp→α→β→Prop) (B:Bx) (H:Hp) (r:R α) (Q:β→Hp→Prop):Prop:=match r with
  | .ok a θ'=>∀B' H' b,ExtE B B' H H'→Good X.cl B' θ' H'→Rel B' H' a b→Q b H'
  | .ex c θ'=>XE X σ B H c θ'
  | .bad=>False
section
variable {X:Cx} {σ:St} {α β γ δ:Type} {Rel:Bx→Hp→α→β→Prop} {Rel':Bx→Hp→γ→δ→Prop} {B B':Bx} {H H':Hp}
theorem wpR.mono {r:R α} {Q Q':β→Hp→Prop} (h:wpR X σ Rel B H r Q) (hQ:∀b H',Q b H'→Q' b H'):wpR X σ Rel B H r Q':=by
  cases r with
  | ok a θ'=>exact fun B' H' b e g q=>hQ _ _ (h B' H' b e g q)
  | ex c θ'=>exact h
  | bad=>exact h
theorem wpR.trans {r:R α} {Q:β→Hp→Prop} (h:wpR X σ Rel B H r Q) (E:ExtE B B' H H'):wpR X σ Rel B' H' r Q:=by
  cases r with
  | ok a θ'=>exact fun B2 H2 b e g q=>h B2 H2 b (E.trans e) g q
  | ex c θ'=>exact XE.trans (c:=c) (θ':=θ') (σ:=σ) (X:=X) h E
  | bad=>exact h
theorem wpR.bind {r:R α} {k:α→Sto→R γ} {Q:δ→Hp→Prop} (h:wpR X σ Rel' B H (r.bind k) Q) :
    wpR X σ Rel B H r (fun b H1=>∃B1 θ1 a,ExtE B B1 H H1∧Good X.cl B1 θ1 H1∧Rel B1 H1 a b∧wpR X σ Rel' B1 H1 (k a θ1) Q):=by
  cases r with
  | ok a θ'=>exact fun B1 H1 b E g q=>⟨B1,θ',a,E,g,q,wpR.trans h E⟩
  | ex c θ'=>exact h
  | bad=>exact h
end
abbrev EM:=List Sl→Sto→R D
abbrev TMr:=List Sl→Sto→R Bool
abbrev AM:=List Sl→Sto→R (List D)
def EqB (_:Bx) (_:Hp) (a b:Bool):Prop:=a=b
def tM (X:Cx) (f:EM):TE:=fun σ H Q=>∃B θ ρ,Frm X.cl B θ ρ σ H∧wpR X σ RepV B H (f ρ θ) Q
def tMT (X:Cx) (f:TMr):TT:=fun σ H Q=>∃B θ ρ,Frm X.cl B θ ρ σ H∧wpR X σ EqB B H (f ρ θ) Q
def tMA (X:Cx) (f:AM):TA:=fun σ H Q=>∃B θ ρ,Frm X.cl B θ ρ σ H∧wpR X σ RepL B H (f ρ θ) Q
def ME (X:Cx) (e:Expr) (f:EM):Prop:=PE X e (tM X f)
def MT (X:Cx) (e:Expr) (f:TMr):Prop:=PT X e (tMT X f)
def MW (X:Cx) (e:Expr) (f:TMr):Prop:=PW X e (tMT X f)
def MA (X:Cx) (es:List Expr) (f:AM):Prop:=PA X es (tMA X f)
section
variable {X:Cx} {σ:St} {H:Hp} {γ δ:Type} {Rel':Bx→Hp→γ→δ→Prop}
theorem zd {f:EM} {Q Q':VK} (h:tM X f σ H Q) (hQ:∀v H',Q v H'→Q' v H'):tM X f σ H Q':=let ⟨B,θ,ρ,F,w⟩:=h; ⟨B,θ,ρ,F,w.mono hQ⟩
theorem ZdK {f:TMr} {Q Q':Bool→Hp→Prop} (h:tMT X f σ H Q) (hQ:∀v H',Q v H'→Q' v H'):tMT X f σ H Q':=let ⟨B,θ,ρ,F,w⟩:=h; ⟨B,θ,ρ,F,w.mono hQ⟩
theorem Zb2 {f:AM} {Q Q':List V→Hp→Prop} (h:tMA X f σ H Q) (hQ:∀v H',Q v H'→Q' v H'):tMA X f σ H Q':=let ⟨B,θ,ρ,F,w⟩:=h; ⟨B,θ,ρ,F,w.mono hQ⟩
variable {B:Bx} {θ:Sto} {ρ:List Sl}
theorem step {f:EM} {k:D→Sto→R γ} {Q:δ→Hp→Prop} (F:Frm X.cl B θ ρ σ H) (h:wpR X σ Rel' B H ((f ρ θ).bind k) Q) :
    tM X f σ H (fun v H1=>∃B1 θ1 d,ExtE B B1 H H1∧Frm X.cl B1 θ1 ρ σ H1∧RepV B1 H1 d v∧wpR X σ Rel' B1 H1 (k d θ1) Q):=
  ⟨B,θ,ρ,F,(wpR.bind (Rel:=RepV) h).mono fun v H1 ⟨B1,θ1,d,E,G,r,w⟩=>⟨B1,θ1,d,E,F.ext E G,r,w⟩⟩
theorem ZmV {f:TMr} {k:Bool→Sto→R γ} {Q:δ→Hp→Prop} (F:Frm X.cl B θ ρ σ H) (h:wpR X σ Rel' B H ((f ρ θ).bind k) Q) :
    tMT X f σ H (fun c H1=>∃B1 θ1,ExtE B B1 H H1∧Frm X.cl B1 θ1 ρ σ H1∧wpR X σ Rel' B1 H1 (k c θ1) Q):=
  ⟨B,θ,ρ,F,(wpR.bind (Rel:=EqB) h).mono fun v H1 ⟨B1,θ1,d,E,G,r,w⟩=>by cases (show d=v from r); exact ⟨B1,θ1,E,F.ext E G,w⟩⟩
theorem ZhC {f:AM} {k:List D→Sto→R γ} {Q:δ→Hp→Prop} (F:Frm X.cl B θ ρ σ H) (h:wpR X σ Rel' B H ((f ρ θ).bind k) Q) :
    tMA X f σ H (fun v H1=>∃B1 θ1 d,ExtE B B1 H H1∧Frm X.cl B1 θ1 ρ σ H1∧RepL B1 H1 d v∧wpR X σ Rel' B1 H1 (k d θ1) Q):=
  ⟨B,θ,ρ,F,(wpR.bind (Rel:=RepL) h).mono fun v H1 ⟨B1,θ1,d,E,G,r,w⟩=>⟨B1,θ1,d,E,F.ext E G,r,w⟩⟩
theorem ZS {α β:Type} {Rel:Bx→Hp→α→β→Prop} {a:α} {b:β} {Q:β→Hp→Prop} (G:Good X.cl B θ H) (r:Rel B H a b) (h:wpR X σ Rel B H (.ok a θ) Q):Q b H:=h B H b (ExtE.refl B H) G r
end
theorem PE.imp {X:Cx} {e:Expr} {t t':TE} (h:PE X e t) (hi:∀σ H Q,t' σ H Q→t σ H Q):PE X e t':=fun pins s σ H Q I q=>h pins s σ H Q I (hi σ H Q q)
theorem PT.imp {X:Cx} {e:Expr} {t t':TT} (h:PT X e t) (hi:∀σ H Q,t' σ H Q→t σ H Q):PT X e t':=fun pins s σ H Q I q=>h pins s σ H Q I (hi σ H Q q)
theorem PW.imp {X:Cx} {e:Expr} {t t':TT} (h:PW X e t) (hi:∀σ H Q,t' σ H Q→t σ H Q):PW X e t':=fun wh pins s σ H Q I q=>h wh pins s σ H Q I (hi σ H Q q)
theorem PA.imp {X:Cx} {es:List Expr} {t t':TA} (h:PA X es t) (hi:∀σ H Q,t' σ H Q→t σ H Q):PA X es t':=fun pos pins s σ H Q I q=>h pos pins s σ H Q I (hi σ H Q q)
theorem OpR.imp {X:Cx} {f:Value→Value→Sem Value} {r r':R2} (h:OpR X f r) (hi:∀x y H Q,r' x y H Q→r x y H Q):OpR X f r':=fun pins s σ H x y v u Q I rx ry q=>h pins s σ H x y v u Q I rx ry (hi x y H Q q)
theorem IxR.imp {X:Cx} {r r':R2} (h:IxR X r) (hi:∀x y H Q,r' x y H Q→r x y H Q):IxR X r':=fun pins s σ H x y v u Q v1 s1 I rx ry q=>h pins s σ H x y v u Q v1 s1 I rx ry (hi _ _ _ _ q)
theorem CallR.imp {X:Cx} {f:Value} {r r':List V→Hp→VK→Prop} (h:CallR X f r) (hi:∀xs H Q,r' xs H Q→r xs H Q):CallR X f r':=fun pins s σ H xs us Q I r q=>h pins s σ H xs us Q I r (hi _ _ _ q)
end L2.MM
namespace L2.MM
open PySem PySem.Spec PyProof.Rows
noncomputable section
variable {X:Cx}
def Za2 (θ:Sto):D→Option (List D)
  | .lst xs=>some xs
  | .ref l=>match θ[l]? with
    | some (.lst xs)=>some xs
    | _=>none
  | _=>none
def seqOf (θ:Sto):D→Option (List D)
  | .tup xs=>some xs
  | .scr ns=>some (ns.map D.int)
  | d=>Za2 θ d
theorem Zap {cl:Mo} {B:Bx} {θ:Sto} {H:Hp} (G:Good cl B θ H) {d:D} {v:V} {xs:List D} (r:RepV B H d v) (h:Za2 θ d=some xs):∃a vs,v=.ref a∧H a=some (.lst vs)∧RepL B H xs vs:=by
  cases d with
  | lst ys=>
    obtain ⟨a,vs,e,h1,_,h2⟩:=r
    cases h
    exact ⟨a,vs,e,h1,h2⟩
  | ref l=>
    obtain ⟨hl,rfl⟩:=r
    simp only [Za2] at h
    split at h
    · rename_i ys e
      cases h
      obtain ⟨vs,q1,q2⟩:=G.cel l _ e
      exact ⟨_,vs,rfl,q1,q2⟩
    · cases h
  | _=>cases h
theorem Zdc {cl:Mo} {B:Bx} {θ:Sto} {H:Hp} (G:Good cl B θ H) {d:D} {v:V} {xs:List D} (r:RepV B H d v) (h:seqOf θ d=some xs) :
    ∃a vs,v=.ref a∧(SqL cl.K H a vs∨SqT cl.K H a vs)∧RepL B H xs vs:=by
  cases d with
  | tup ys=>
    obtain ⟨a,vs,e,h1,_,h2⟩:=r
    cases h
    exact ⟨a,vs,e,.inr (SqT.of h1),h2⟩
  | scr ns=>
    obtain ⟨a,e,h1⟩:=r
    cases h
    refine ⟨a,ns.map V.int,e,.inl ?_,RepL.map (f:=D.int) (g:=V.int) (fun _=>rfl) ns⟩
    rcases h1 with ⟨o,h1,_⟩ | h1
    · exact .inl (.inr ⟨o,h1⟩)
    · exact .inr (G.kc a ns h1)
  | lst ys=>
    obtain ⟨a,vs,e,h1,h2⟩:=Zap G r (show Za2 θ (.lst ys)=some xs from h)
    exact ⟨a,vs,e,.inl (SqL.of h1),h2⟩
  | ref l=>
    obtain ⟨a,vs,e,h1,h2⟩:=Zap G r (show Za2 θ (.ref l)=some xs from h)
    exact ⟨a,vs,e,.inl (SqL.of h1),h2⟩
  | _=>cases h
abbrev BIG:Nat:=100000
theorem ZaA {n:Nat} (h:n≤BIG):n≤sizeLine:=Nat.le_trans h (by rw [sizeLine_eq]; decide)
def Zd (i:Nat):EM:=fun ρ θ=>match ρ[i]? with
  | some (Sl.val d)=>.ok d θ
  | _=>.bad
def mC (d:D):EM:=fun _ θ=>.ok d θ
section
variable {a b c e:Expr} {pos:Pos} {fa fb fc:EM} {ft fu:TMr}
theorem Zb (i:Nat) {x:Str} {pos:Pos} (hN:X.N[i]?=some x:=by rfl) (hv:Vis X.env.scope x:=by first | exact Or.inl rfl | exact Or.inr (Or.inl rfl) | exact Or.inr (Or.inr rfl))
    (hd:(x == ("__debug__":Str))=false:=by decide) (hcd:(x == ("__classdict__":Str))=false:=by decide):ME X (.Name x pos) (Zd i):=by
  refine PE.imp (Zp2 hN hv hd hcd) fun σ H Q h=>?_
  obtain ⟨B,θ,ρ,F,w⟩:=h
  unfold Zd at w
  split at w
  · rename_i d e
    obtain ⟨v,h1,h2⟩:=F.val i d e
    exact ⟨v,h1,ZS F.good h2 w⟩
  · exact w.elim
theorem Zmr {d:D} {v:V} (h:PE X e (tC v)) (r:∀B H,RepV B H d v):ME X e (mC d):=by
  refine PE.imp h fun σ H Q h=>?_
  obtain ⟨B,θ,ρ,F,w⟩:=h
  exact ZS F.good (r B H) w
theorem Zh {i j pos}:ME X (.Constant (.int i) j pos) (mC (.int i)):=Zmr Zuf fun _ _=>rfl
theorem zP {i j pos}:ME X (.Constant (.bool i) j pos) (mC (.bl i)):=Zmr ZvW fun _ _=>rfl
theorem ZaP {j pos}:ME X (.Constant .none j pos) (mC .non):=Zmr Zue fun _ _=>rfl
theorem Zqv {i j pos}:ME X (.Constant (.str i) j pos) (mC (.str i)):=Zmr Zuc fun _ _=>rfl
theorem Zm {x:Str} {i:Int} (h:∃t,X.mg x=some (.int i t)) (hg:Gl X x:=by rfl) (hd:(x == ("__debug__":Str))=false:=by decide):ME X (.Name x pos) (mC (.int i)):=Zmr (Zr6 h hg hd) fun _ _=>rfl
theorem ZB {x:Str} {y:Str} (h:∃t,X.mg x=some (.str y t)) (hg:Gl X x:=by rfl) (hd:(x == ("__debug__":Str))=false:=by decide):ME X (.Name x pos) (mC (.str y)):=by
  obtain ⟨t,h⟩:=h
  exact Zmr (Zm3 hg h (v:=.str y) ⟨t,rfl⟩ hd) fun _ _=>rfl
theorem Zqu {x:Str} {n:String} {pos:Pos} (hm:X.mg x=none) (hv:bootBuiltins x=some (.type n)) (hg:Gl X x:=by rfl) (hn:x≠"__name__":=by decide) (hd:(x == ("__debug__":Str))=false:=by decide):ME X (.Name x pos) (mC (.ty n)):=
  Zmr (ZvR hm hv hg hn hd) fun _ _=>rfl
abbrev OM:=D→D→Sto→R D
def mOp (g:OM) (fa fb:EM):EM:=fun ρ θ=>(fa ρ θ).bind fun x θ=>(fb ρ θ).bind fun y θ=>g x y θ
def rM (X:Cx) (g:OM):R2:=fun x y H Q=>∃σ B θ d e,Good X.cl B θ H∧RepV B H d x∧RepV B H e y∧wpR X σ RepV B H (g d e θ) Q
theorem ZmT {g:OM} (σ:St) (H:Hp) (Q:VK) (h:tM X (mOp g fa fb) σ H Q):tOp (rM X g) (tM X fa) (tM X fb) σ H Q:=by
  obtain ⟨B,θ,ρ,F,w⟩:=h
  refine zd (step F w) ?_
  rintro x' H1 ⟨B1,θ1,x,E1,F1,rx,w1⟩
  refine zd (step F1 w1) ?_
  rintro y' H2 ⟨B2,θ2,y,E2,F2,ry,w2⟩
  exact ⟨σ,B2,θ2,x,y,F2.good,rx.ext E2.toExtS,ry,w2⟩
theorem Zu {op:Operator} {g:OM} (ho:OpR X (binaryOp op) (rM X g)) (ha:ME X a fa) (hb:ME X b fb):ME X (.BinOp a op b pos) (mOp g fa fb):=PE.imp (ZvT ho ha hb) ZmT
theorem zD {op:CmpOp} {g:OM} (ho:OpR X (compareOp op) (rM X g)) (ha:ME X a fa) (hb:ME X b fb) (hm:behindInMarks op b=false:=by first | exact Zqn _ | rfl):ME X (.Compare a [op] [b] pos) (mOp g fa fb):=PE.imp (Zr7 ho ha hb hm) ZmT
theorem ZC {g:OM} (hr:IxR X (rM X g)) (ha:ME X a fa) (hb:ME X b fb) (hs:Znx b:=by intro _ _; rfl):ME X (.Subscript a b pos) (mOp g fa fb):=PE.imp (ZvV hr ha hb hs) ZmT
def ZK (f:EM):TMr:=fun ρ θ=>(f ρ θ).bind fun x θ=>match x with
  | .bl k=>.ok k θ
  | _=>.bad
theorem ZhA {f:EM} (σ:St) (H:Hp) (Q:Bool→Hp→Prop) (h:tMT X (ZK f) σ H Q):tM X f σ H (fun v H1=>∃k,v=.bl k∧Q k H1):=by
  obtain ⟨B,θ,ρ,F,w⟩:=h
  refine zd (step F w) ?_
  rintro v H1 ⟨B1,θ1,x,E1,F1,rx,w1⟩
  cases x with
  | bl k=>exact ⟨k,rx,ZS (Rel:=EqB) F1.good rfl w1⟩
  | _=>exact w1.elim
theorem ZF {op:CmpOp} {g:OM} (ho:OpR X (compareOp op) (rM X g)) (ha:ME X a fa) (hb:ME X b fb) (hm:behindInMarks op b=false:=by first | exact Zqn _ | rfl):MT X (.Compare a [op] [b] pos) (ZK (mOp g fa fb)):=by
  refine PT.imp (ZrV ho ha hb hm) fun σ H Q h=>?_
  have q:=ZhA σ H Q h
  exact ZmT σ H _ q
def Zef (g g':OM) (fa fb fc:EM):EM:=fun ρ θ=>(fa ρ θ).bind fun x θ=>(fb ρ θ).bind fun y θ=>(g x y θ).bind fun z θ=>match z with
  | .bl true=>(fc ρ θ).bind fun w θ=>g' y w θ
  | .bl false=>.ok (.bl false) θ
  | _=>.bad
theorem Zlm {g g':OM} (σ:St) (H:Hp) (Q:VK) (h:tM X (Zef g g' fa fb fc) σ H Q):Zmi (rM X g) (rM X g') (tM X fa) (tM X fb) (tM X fc) σ H Q:=by
  obtain ⟨B,θ,ρ,F,w⟩:=h
  refine zd (step F w) ?_
  rintro x' H1 ⟨B1,θ1,x,E1,F1,rx,w1⟩
  refine zd (step F1 w1) ?_
  rintro y' H2 ⟨B2,θ2,y,E2,F2,ry,w2⟩
  refine ⟨σ,B2,θ2,x,y,F2.good,rx.ext E2.toExtS,ry,(wpR.bind (Rel:=RepV) w2).mono ?_⟩
  rintro z' H3 ⟨B3,θ3,z,E3,G3,rz,w3⟩
  have F3:=F2.ext E3 G3
  cases z with
  | bl k=>
    refine ⟨k,rz,?_⟩
    cases k with
    | true=>
      rw [if_pos rfl]
      refine zd (step F3 w3) ?_
      rintro w' H4 ⟨B4,θ4,u,E4,F4,ru,w4⟩
      exact ⟨σ,B4,θ4,y,u,F4.good,ry.ext (E3.trans E4).toExtS,ru,w4⟩
    | false=>
      rw [if_neg Bool.false_ne_true]
      exact ZS G3 (show RepV B3 H3 (.bl false) (.bl false) from rfl) w3
  | _=>exact w3.elim
theorem Zf2 {op op':CmpOp} {g g':OM} (ho:OpR X (compareOp op) (rM X g)) (ho':OpR X (compareOp op') (rM X g')) (ha:ME X a fa) (hb:ME X b fb) (hc:ME X c fc)
    (hm:lastMarks [op,op'] [b,c]=false:=by with_unfolding_all rfl):ME X (.Compare a [op,op'] [b,c] pos) (Zef g g' fa fb fc):=PE.imp (Zqa ho ho' ha hb hc hm) Zlm
theorem Zqr {op op':CmpOp} {g g':OM} (ho:OpR X (compareOp op) (rM X g)) (ho':OpR X (compareOp op') (rM X g')) (ha:ME X a fa) (hb:ME X b fb) (hc:ME X c fc)
    (hm:lastMarks [op,op'] [b,c]=false:=by with_unfolding_all rfl):MT X (.Compare a [op,op'] [b,c] pos) (ZK (Zef g g' fa fb fc)):=by
  refine PT.imp (ZpV ho ho' ha hb hc hm) fun σ H Q h=>?_
  have q:=ZhA σ H Q h
  exact Zlm σ H _ q
def Zfn (θ:Sto):D→Option Bool
  | .non=>some false
  | .bl b=>some b
  | .int i=>some (i != 0)
  | .str x=>if x.length≤BIG then some ((x.length:Int) != 0) else none
  | d=>(seqOf θ d).map fun xs=>!xs.isEmpty
def zY (f:EM):TMr:=fun ρ θ=>(f ρ θ).bind fun x θ=>match Zfn θ x with
  | some k=>.ok k θ
  | none=>.bad
theorem RepL.emp {B:Bx} {H:Hp} {xs:List D} {vs:List V} (r:RepL B H xs vs):vs.isEmpty=xs.isEmpty:=by
  cases xs with
  | nil=>cases (show vs=[] from r); rfl
  | cons _ _=>obtain ⟨v,q,rfl,_,_⟩:=r; rfl
theorem ZmO {cl:Mo} {B:Bx} {θ:Sto} {H:Hp} (G:Good cl B θ H) {d:D} {v:V} {k:Bool} (r:RepV B H d v) (h:Zfn θ d=some k):TruV cl.K v H k:=by
  have sq:∀xs,seqOf θ d=some xs→((seqOf θ d).map fun xs=>!xs.isEmpty)=some k→TruV cl.K v H k:=fun xs e q=>by
    rw [e] at q
    cases q
    obtain ⟨a,vs,rfl,h1,h2⟩:=Zdc G r e
    show TruV cl.K (V.ref a) H (!xs.isEmpty)
    rw [←h2.emp]
    rcases h1 with h1 | h1
    · exact .inl ⟨vs,h1,rfl⟩
    · exact .inr (.inl ⟨vs,h1,rfl⟩)
  cases d with
  | non=>cases (show v=.non from r); cases h; rfl
  | bl b=>cases (show v=.bl b from r); cases h; rfl
  | int i=>cases (show v=.int i from r); cases h; rfl
  | str x=>
    cases (show v=.str x from r)
    simp only [Zfn] at h
    split at h
    · rename_i hz; cases h; exact ⟨ZaA hz,rfl⟩
    · cases h
  | ty n=>simp [Zfn,seqOf,Za2] at h
  | scr ns=>exact sq _ rfl h
  | tup xs=>exact sq _ rfl h
  | lst xs=>exact sq _ rfl h
  | ref l=>
    cases e:seqOf θ (.ref l) with
    | none=>simp only [Zfn,e] at h; cases h
    | some xs=>exact sq xs e h
theorem ZG (ha:ME X a fa) (he:∀whole,isTrue a X.env whole=(do let v ←whole; standAt a.pos; holding [v] (truthy v)):=by intro _; rfl):MT X a (zY fa):=by
  refine PT.imp (ZpU ha he) fun σ H Q h=>?_
  obtain ⟨B,θ,ρ,F,w⟩:=h
  refine zd (step F w) ?_
  rintro v H1 ⟨B1,θ1,x,E1,F1,rx,w1⟩
  cases e:Zfn θ1 x with
  | none=>rw [e] at w1; exact w1.elim
  | some k=>rw [e] at w1; exact ⟨k,ZmO F1.good rx e,ZS (Rel:=EqB) F1.good rfl w1⟩
def ZhS (f g:TMr):TMr:=fun ρ θ=>(f ρ θ).bind fun k θ=>if k=true then g ρ θ else .ok false θ
def mOr (f g:TMr):TMr:=fun ρ θ=>(f ρ θ).bind fun k θ=>if k=true then .ok true θ else g ρ θ
def Zed (f:TMr):TMr:=fun ρ θ=>(f ρ θ).bind fun k θ=>.ok (!k) θ
theorem ZbT (ha:MT X a ft):MW X (.BoolOp .And [a] pos) ft:=ZrT ha
theorem z9 (ha:MT X a ft):MW X (.BoolOp .Or [a] pos) ft:=ZtY ha
theorem ZeL {rest:List Expr} (ha:MT X a ft) (hb:MW X (.BoolOp .And (b::rest) pos) fu):MW X (.BoolOp .And (a::b::rest) pos) (ZhS ft fu):=by
  refine PW.imp (ZtZ ha hb) fun σ H Q h=>?_
  obtain ⟨B,θ,ρ,F,w⟩:=h
  refine ZdK (ZmV F w) ?_
  rintro k H1 ⟨B1,θ1,E1,F1,w1⟩
  cases k with
  | true=>rw [if_pos rfl] at w1 ⊢; exact ⟨B1,θ1,ρ,F1,w1⟩
  | false=>rw [if_neg Bool.false_ne_true] at w1 ⊢; exact ZS (Rel:=EqB) F1.good rfl w1
theorem ZcB {rest:List Expr} (ha:MT X a ft) (hb:MW X (.BoolOp .Or (b::rest) pos) fu):MW X (.BoolOp .Or (a::b::rest) pos) (mOr ft fu):=by
  refine PW.imp (ZvM ha hb) fun σ H Q h=>?_
  obtain ⟨B,θ,ρ,F,w⟩:=h
  refine ZdK (ZmV F w) ?_
  rintro k H1 ⟨B1,θ1,E1,F1,w1⟩
  cases k with
  | true=>rw [if_pos rfl] at w1 ⊢; exact ZS (Rel:=EqB) F1.good rfl w1
  | false=>rw [if_neg Bool.false_ne_true] at w1 ⊢; exact ⟨B1,θ1,ρ,F1,w1⟩
theorem MW.mt {e:Expr} {f:TMr} (h:MW X e f):MT X e f:=PW.pt h
theorem Zbp (ha:MT X a ft):MT X (.UnaryOp .Not a pos) (Zed ft):=by
  refine PT.imp (Zt1 ha) fun σ H Q h=>?_
  obtain ⟨B,θ,ρ,F,w⟩:=h
  refine ZdK (ZmV F w) ?_
  rintro k H1 ⟨B1,θ1,E1,F1,w1⟩
  exact ZS (Rel:=EqB) F1.good rfl w1
def ZcD (f g:EM):EM:=fun ρ θ=>(f ρ θ).bind fun x θ=>match x with
  | .bl true=>g ρ θ
  | .bl false=>.ok (.bl false) θ
  | _=>.bad
def Zmu (f g:EM):EM:=fun ρ θ=>(f ρ θ).bind fun x θ=>match x with
  | .bl true=>.ok (.bl true) θ
  | .bl false=>g ρ θ
  | _=>.bad
def ZlK (f:EM):EM:=fun ρ θ=>(f ρ θ).bind fun x θ=>match Zfn θ x with
  | some k=>.ok (.bl (!k)) θ
  | none=>.bad
theorem ZcO {op} (h:ME X a fa):ME X (.BoolOp op [a] pos) fa:=Zud h
theorem ZbU {rest:List Expr} (ha:ME X a fa) (hb:ME X (.BoolOp .And (b::rest) pos) fb):ME X (.BoolOp .And (a::b::rest) pos) (ZcD fa fb):=by
  refine PE.imp (Zuh ha hb) fun σ H Q h=>?_
  obtain ⟨B,θ,ρ,F,w⟩:=h
  refine zd (step F w) ?_
  rintro v H1 ⟨B1,θ1,x,E1,F1,rx,w1⟩
  cases x with
  | bl k=>
    refine ⟨k,rx,?_⟩
    cases k with
    | true=>rw [if_pos rfl]; exact ⟨B1,θ1,ρ,F1,w1⟩
    | false=>rw [if_neg Bool.false_ne_true]; exact ZS F1.good (show RepV B1 H1 (.bl false) (.bl false) from rfl) w1
  | _=>exact w1.elim
theorem ZlI {rest:List Expr} (ha:ME X a fa) (hb:ME X (.BoolOp .Or (b::rest) pos) fb):ME X (.BoolOp .Or (a::b::rest) pos) (Zmu fa fb):=by
  refine PE.imp (ZvS ha hb) fun σ H Q h=>?_
  obtain ⟨B,θ,ρ,F,w⟩:=h
  refine zd (step F w) ?_
  rintro v H1 ⟨B1,θ1,x,E1,F1,rx,w1⟩
  cases x with
  | bl k=>
    refine ⟨k,rx,?_⟩
    cases k with
    | true=>rw [if_pos rfl]; exact ZS F1.good (show RepV B1 H1 (.bl true) (.bl true) from rfl) w1
    | false=>rw [if_neg Bool.false_ne_true]; exact ⟨B1,θ1,ρ,F1,w1⟩
  | _=>exact w1.elim
theorem Zmq (ha:ME X a fa):ME X (.UnaryOp .Not a pos) (ZlK fa):=by
  intro pins s σ H Q I h
  obtain ⟨B,θ,ρ,F,w⟩:=h
  refine UnaryOp_ (thn (ha pins s σ H _ I (step F w)) fun v s1 ⟨x,H1,I1,r1,q1⟩=>?_)
  obtain ⟨B1,θ1,d,E1,F1,rx,w1⟩:=q1
  cases e:Zfn θ1 d with
  | none=>rw [e] at w1; exact w1.elim
  | some k=>
    rw [e] at w1
    refine not_of (thn (ZpG pins s1 σ H1 x v (fun k' H'=>Q (.bl (!k')) H') I1 r1 ⟨k,ZmO F1.good rx e,ZS F1.good (show RepV B1 H1 (.bl (!k)) (.bl (!k)) from rfl) w1⟩) fun b s2 ⟨H2,I2,q2⟩=>?_)
    exact ⟨.bl (!b),H2,I2,rfl,q2⟩
def Zf4 (t:TMr) (f g:EM):EM:=fun ρ θ=>(t ρ θ).bind fun k θ=>if k=true then f ρ θ else g ρ θ
theorem ZcP {c:Expr} (hc:MT X c ft) (ha:ME X a fa) (hb:ME X b fb):ME X (.IfExp c a b pos) (Zf4 ft fa fb):=by
  refine PE.imp (Zp6 hc ha hb) fun σ H Q h=>?_
  obtain ⟨B,θ,ρ,F,w⟩:=h
  refine ZdK (ZmV F w) ?_
  rintro k H1 ⟨B1,θ1,E1,F1,w1⟩
  cases k with
  | true=>rw [if_pos rfl] at w1 ⊢; exact ⟨B1,θ1,ρ,F1,w1⟩
  | false=>rw [if_neg Bool.false_ne_true] at w1 ⊢; exact ⟨B1,θ1,ρ,F1,w1⟩
def Zk:AM:=fun _ θ=>.ok [] θ
def Zc (f:EM) (g:AM):AM:=fun ρ θ=>(f ρ θ).bind fun x θ=>(g ρ θ).bind fun xs θ=>.ok (x::xs) θ
theorem Zf:MA X [] Zk:=PA.imp Zmn fun σ H Q h=>by
  obtain ⟨B,θ,ρ,F,w⟩:=h
  exact ZS (Rel:=RepL) F.good (show RepL B H [] [] from rfl) w
theorem Za {es:List Expr} {fs:AM} (ha:ME X e fa) (hr:MA X es fs) (hs:starEach (e::es) X.env=(false,eval e X.env)::starEach es X.env:=by rfl):MA X (e::es) (Zc fa fs):=by
  refine PA.imp (Zjs ha hr hs) fun σ H Q h=>?_
  obtain ⟨B,θ,ρ,F,w⟩:=h
  refine zd (step F w) ?_
  rintro x' H1 ⟨B1,θ1,x,E1,F1,rx,w1⟩
  refine Zb2 (ZhC F1 w1) ?_
  rintro xs' H2 ⟨B2,θ2,xs,E2,F2,rxs,w2⟩
  exact ZS (Rel:=RepL) F2.good (show RepL B2 H2 (x::xs) (x'::xs') from ⟨x',xs',rfl,rx.ext E2.toExtS,rxs⟩) w2
def ZaM (f:AM):EM:=fun ρ θ=>(f ρ θ).bind fun xs θ=>if xs.length≤BIG then .ok (.tup xs) θ else .bad
def Zb7 (f:AM):EM:=fun ρ θ=>(f ρ θ).bind fun xs θ=>if xs.length≤BIG then .ok (.lst xs) θ else .bad
theorem Zhu {σ:St} {B:Bx} {θ:Sto} {H:Hp} {xs:List D} {vs:List V} {Q:VK} (G:Good X.cl B θ H) (r:RepL B H xs vs) (w:wpR X σ RepV B H (.ok (.tup xs) θ) Q):∀p,H p=none→Q (.ref p) (upd H p (.tup vs)):=
  fun p hp=>w B _ _ (Zc3 G hp _) (ZeR G hp _) (ZrP G hp r)
theorem ZfA {σ:St} {B:Bx} {θ:Sto} {H:Hp} {xs:List D} {vs:List V} {Q:VK} (G:Good X.cl B θ H) (r:RepL B H xs vs) (w:wpR X σ RepV B H (.ok (.lst xs) θ) Q):∀p,H p=none→Q (.ref p) (upd H p (.lst vs)):=
  fun p hp=>w B _ _ (Zc3 G hp _) (ZeR G hp _) (ZrQ G hp r)
theorem Z3 {es:List Expr} {fs:AM} {x1} (h:MA X es fs):ME X (.Tuple es x1 pos) (ZaM fs):=by
  refine PE.imp (Zub h) fun σ H Q h=>?_
  obtain ⟨B,θ,ρ,F,w⟩:=h
  refine Zb2 (ZhC F w) ?_
  rintro xs' H2 ⟨B2,θ2,xs,E2,F2,rxs,w2⟩
  split at w2
  · rename_i hz
    exact ⟨by rw [rxs.len]; exact ZaA hz,Zhu F2.good rxs w2⟩
  · exact w2.elim
theorem zX {es:List Expr} {fs:AM} (h:MA X es fs):ME X (.List es pos) (Zb7 fs):=by
  refine PE.imp (Zp5 h) fun σ H Q h=>?_
  obtain ⟨B,θ,ρ,F,w⟩:=h
  refine Zb2 (ZhC F w) ?_
  rintro xs' H2 ⟨B2,θ2,xs,E2,F2,rxs,w2⟩
  split at w2
  · rename_i hz
    exact ⟨by rw [rxs.len]; exact ZaA hz,ZfA F2.good rxs w2⟩
  · exact w2.elim
abbrev GM:=List D→Sto→R D
def mCB (g:GM) (f:AM):EM:=fun ρ θ=>(f ρ θ).bind fun xs θ=>g xs θ
def rC (X:Cx) (g:GM):List V→Hp→VK→Prop:=fun xs H Q=>∃σ B θ ds,Good X.cl B θ H∧RepL B H ds xs∧wpR X σ RepV B H (g ds θ) Q
theorem Zs0 {g:GM} {fs:AM} (σ:St) (H:Hp) (Q:VK) (h:tM X (mCB g fs) σ H Q):tCB (rC X g) (tMA X fs) σ H Q:=by
  obtain ⟨B,θ,ρ,F,w⟩:=h
  refine Zb2 (ZhC F w) ?_
  rintro xs' H2 ⟨B2,θ2,xs,E2,F2,rxs,w2⟩
  exact ⟨σ,B2,θ2,xs,F2.good,rxs,w2⟩
theorem Z4 {x:Str} {id:String} {p:Pos} {es:List Expr} {fs:AM} {g:GM} (hc:CallR X (.builtin id) (rC X g)) (hm:X.mg x=none) (hv:bootBuiltins x=some (.builtin id)) (ha:MA X (e::es) fs) (hg:Gl X x:=by rfl) (hn:x≠"__name__":=by decide) (hdb:(x == ("__debug__":Str))=false:=by decide)
    (he:starEach (e::es) X.env=(false,eval e X.env)::starEach es X.env:=by rfl) (hpl:(backTo pos (starEach es X.env)).any (·.1)=false:=by rfl):ME X (.Call (.Name x p) (e::es) [] pos) (mCB g fs):=
  PE.imp (Zqc hc hg hm hv ha hn hdb he hpl) Zs0
theorem ZaQ {x:Str} {T:String} {p:Pos} {es:List Expr} {fs:AM} {g:GM} (hc:CallR X (.type T) (rC X g)) (hm:X.mg x=none) (hv:bootBuiltins x=some (.type T)) (ha:MA X (e::es) fs) (hg:Gl X x:=by rfl) (hn:x≠"__name__":=by decide) (hdb:(x == ("__debug__":Str))=false:=by decide)
    (he:starEach (e::es) X.env=(false,eval e X.env)::starEach es X.env:=by rfl) (hpl:(backTo pos (starEach es X.env)).any (·.1)=false:=by rfl):ME X (.Call (.Name x p) (e::es) [] pos) (mCB g fs):=
  PE.imp (ZnN hc hg hm hv ha hn hdb he hpl) Zs0
end
end
end L2.MM
namespace L2.MM
open PySem PySem.Spec PyProof.Rows PySem.SeqAt
noncomputable section
variable {X:Cx}
section
open Classical in
def opI (C:Int→Int→Prop) (g:Int→Int→D):OM:=fun x y θ=>match x,y with
  | .int i,.int j=>if C i j then .ok (g i j) θ else .bad
  | _,_=>.bad
open Classical in
@[simp] theorem Zm4 (C:Int→Int→Prop) (g:Int→Int→D) (i j:Int) (θ:Sto):opI C g (.int i) (.int j) θ=if C i j then .ok (g i j) θ else .bad:=nr rfl
open Classical in
theorem ZeJ {f:Value→Value→Sem Value} {C:Int→Int→Prop} {g:Int→Int→D} {gV:Int→Int→V} (h:OpR X f (rI C gV)) (r:∀B H i j,RepV B H (g i j) (gV i j)):OpR X f (rM X (opI C g)):=by
  refine OpR.imp h fun x y H Q q=>?_
  obtain ⟨σ,B,θ,d,e,G,rd,re,w⟩:=q
  unfold opI at w
  split at w
  · rename_i i j
    split at w
    · rename_i hc
      exact ⟨i,j,rd,re,hc,ZS G (r B H i j) w⟩
    · exact w.elim
  · exact w.elim
theorem ZiM {f:Value→Value→Sem Value} {g:Int→Int→V} (h:OpR X f (rI0 g)):OpR X f (rI (fun _ _=>True) g):=OpR.imp h fun x y H Q ⟨i,j,a,b,_,q⟩=>⟨i,j,a,b,q⟩
abbrev Zfo:OM:=opI (fun _ _=>True) fun i j=>.int (i-j)
abbrev Zfp:OM:=opI (fun _ j=>0<j∧j<18446744073709551616) fun i j=>.int (i/j)
abbrev Zbd:OM:=opI (fun _ j=>0<j) fun i j=>.int (i % j)
abbrev Zww:OM:=opI (fun _ _=>True) fun i j=>.int (Builtin.bitAnd i j)
abbrev ltM:OM:=opI (fun _ _=>True) fun i j=>.bl (decide (i<j))
abbrev leM:OM:=opI (fun _ _=>True) fun i j=>.bl (decide (i≤j))
abbrev gtM:OM:=opI (fun _ _=>True) fun i j=>.bl (decide (j<i))
abbrev geM:OM:=opI (fun _ _=>True) fun i j=>.bl (decide (j≤i))
theorem Zdt:OpR X (binaryOp .Sub) (rM X Zfo):=ZeJ (ZiM Zuj) fun _ _ _ _=>rfl
theorem ZdQ:OpR X (binaryOp .FloorDiv) (rM X Zfp):=ZeJ (OpR.imp Zqe fun x y H Q ⟨i,j,a,b,c,q⟩=>⟨i,j,a,b,⟨c.1,by
  have h:j.natAbs<2 ^ 64:=by have:=c.1; have:=c.2; omega
  have h0:j.natAbs≠0:=by have:=c.1; omega
  have:=(Nat.log2_lt h0).mpr h
  omega⟩,q⟩) fun _ _ _ _=>rfl
theorem Zav:OpR X (binaryOp .Mod) (rM X Zbd):=ZeJ Zum fun _ _ _ _=>rfl
theorem Zv5:OpR X (binaryOp .BitAnd) (rM X Zww):=ZeJ (ZiM Zuq) fun _ _ _ _=>rfl
theorem Zsd:OpR X (compareOp .Lt) (rM X ltM):=ZeJ (ZiM Zv1) fun _ _ i j=>by show _=V.bl _; congr
theorem ZhL:OpR X (compareOp .LtE) (rM X leM):=ZeJ (ZiM Zv2) fun _ _ i j=>by show _=V.bl _; congr
theorem ZhM:OpR X (compareOp .Gt) (rM X gtM):=ZeJ (ZiM Zv3) fun _ _ i j=>by show _=V.bl _; congr
theorem Zsg:OpR X (compareOp .GtE) (rM X geM):=ZeJ (ZiM Zv4) fun _ _ i j=>by show _=V.bl _; congr
def ZO:OM:=fun x y θ=>match x,y with
  | .int i,.int j=>.ok (.int (i+j)) θ
  | .str i,.str j=>if i.length+j.length≤BIG then .ok (.str (i++j)) θ else .bad
  | .tup xs,.tup ys=>if xs.isEmpty=false∧xs.length+ys.length≤BIG then .ok (.tup (xs++ys)) θ else .bad
  | x,y=>match Za2 θ x,Za2 θ y with
    | some xs,some ys=>if xs.length+ys.length≤BIG then .ok (.lst (xs++ys)) θ else .bad
    | _,_=>.bad
@[simp] theorem Zrn (i j:Int) (θ:Sto):ZO (.int i) (.int j) θ=.ok (.int (i+j)) θ:=nr rfl
@[simp] theorem Zrm (xs ys:List D) (θ:Sto):ZO (.lst xs) (.lst ys) θ=if xs.length+ys.length≤BIG then .ok (.lst (xs++ys)) θ else .bad:=nr rfl
@[simp] theorem Zwx (xs ys:List D) (θ:Sto):ZO (.tup xs) (.tup ys) θ=if xs.isEmpty=false∧xs.length+ys.length≤BIG then .ok (.tup (xs++ys)) θ else .bad:=nr rfl
theorem ZL:OpR X (binaryOp .Add) (rM X ZO):=by
  refine OpR.imp (op_add.or (op_add_str.or (op_catT.or Zup))) fun x y H Q q=>?_
  obtain ⟨σ,B,θ,d,e,G,rd,re,w⟩:=q
  unfold ZO at w
  split at w
  · exact .inl ⟨_,_,rd,re,ZS G (show RepV B H (.int _) (.int _) from rfl) w⟩
  · split at w
    · rename_i hz
      exact .inr (.inl ⟨_,_,rd,re,ZaA hz,ZS G (show RepV B H (.str _) (.str _) from rfl) w⟩)
    · exact w.elim
  · split at w
    · rename_i xs ys hz
      obtain ⟨a,vs,rfl,h1,k1,l1⟩:=rd
      obtain ⟨b,us,rfl,h2,k2,l2⟩:=re
      refine .inr (.inr (.inl ⟨a,b,vs,us,rfl,rfl,SqT.of h1,SqT.of h2,?_,?_,fun z=>?_,fun _=>Zhu G (l1.app l2) w⟩))
      · intro z
        have:=l1.emp
        rw [z,hz.1] at this
        simp at this
      · rw [l1.len,l2.len]; exact ZaA hz.2
      · have e0:ys=[]:=by
          have:=l2.emp
          rw [z] at this
          cases ys with
          | nil=>rfl
          | cons _ _=>simp at this
        subst e0
        rw [List.append_nil] at w
        exact ZS G (show RepV B H (.tup xs) (.ref a) from ⟨a,vs,rfl,h1,k1,l1⟩) w
    · exact w.elim
  · split at w
    · rename_i xs ys e1 e2
      split at w
      · rename_i hz
        obtain ⟨a,vs,rfl,h1,l1⟩:=Zap G rd e1
        obtain ⟨b,us,rfl,h2,l2⟩:=Zap G re e2
        exact .inr (.inr (.inr ⟨a,b,vs,us,rfl,rfl,h1,h2,by rw [l1.len,l2.len]; exact ZaA hz,ZfA G (l1.app l2) w⟩))
      · exact w.elim
    · exact w.elim
def Zd0 (i j:Int):Prop:=(-18446744073709551616<i∧i<18446744073709551616)∨(-18446744073709551616<j∧j<18446744073709551616)
instance {i j:Int}:Decidable (Zd0 i j):=by unfold Zd0; infer_instance
def Zcq:OM:=fun x y θ=>match x,y with
  | .int i,.int j=>if Zd0 i j then .ok (.int (i*j)) θ else .bad
  | .tup xs,.int k=>if xs.isEmpty=false∧0≤k∧k<1000∧(xs.length:Int)*k≤1000 then .ok (.tup (List.replicate k.toNat xs).flatten) θ else .bad
  | x,.int k=>match Za2 θ x with
    | some xs=>if -1000000≤k∧k≤1000000∧xs.length*k.toNat≤BIG then .ok (.lst (List.replicate k.toNat xs).flatten) θ else .bad
    | _=>.bad
  | _,_=>.bad
@[simp] theorem Zqq (i j:Int) (θ:Sto):Zcq (.int i) (.int j) θ=if Zd0 i j then .ok (.int (i*j)) θ else .bad:=nr rfl
theorem RepL.rep {B:Bx} {H:Hp} {xs:List D} {vs:List V} (r:RepL B H xs vs):∀k:Nat,RepL B H (List.replicate k xs).flatten (List.replicate k vs).flatten
  | 0=>rfl
  | k+1=>by
    rw [List.replicate_succ,List.replicate_succ,List.flatten_cons,List.flatten_cons]
    exact r.app (RepL.rep r k)
theorem Zb5:OpR X (binaryOp .Mult) (rM X Zcq):=by
  refine OpR.imp (op_mul.or (op_repT.or Zuk)) fun x y H Q q=>?_
  obtain ⟨σ,B,θ,d,e,G,rd,re,w⟩:=q
  unfold Zcq at w
  split at w
  · split at w
    · rename_i hc
      exact .inl ⟨_,_,rd,re,hc.imp (fun h=>⟨by have:=h.1; omega,by have:=h.2; omega⟩) (fun h=>⟨by have:=h.1; omega,by have:=h.2; omega⟩),ZS G (show RepV B H (.int _) (.int _) from rfl) w⟩
    · exact w.elim
  · split at w
    · rename_i xs k hz
      obtain ⟨a,vs,rfl,h1,k1,l1⟩:=rd
      obtain ⟨z1,z2,z3,z4⟩:=hz
      refine .inr (.inl ⟨a,k,vs,rfl,re,SqT.of h1,?_,z2,z3,by rw [l1.len]; exact z4,fun z=>?_,fun _=>Zhu G (l1.rep _) w⟩)
      · intro z
        have:=l1.emp
        rw [z,z1] at this
        simp at this
      · subst z
        have e0:(List.replicate (1:Int).toNat xs).flatten=xs:=by simp
        rw [e0] at w
        exact ZS G (show RepV B H (.tup xs) (.ref a) from ⟨a,vs,rfl,h1,k1,l1⟩) w
    · exact w.elim
  · split at w
    · rename_i xs e1
      split at w
      · rename_i hz
        obtain ⟨a,vs,rfl,h1,l1⟩:=Zap G rd e1
        exact .inr (.inr ⟨a,_,vs,rfl,re,h1,by have:=hz.1; omega,by have:=hz.2.1; omega,by rw [l1.len]; exact ZaA hz.2.2,ZfA G (l1.rep _) w⟩)
      · exact w.elim
    · exact w.elim
  · exact w.elim
def Zuv (f:EM):EM:=fun ρ θ=>(f ρ θ).bind fun x θ=>match x with
  | .int i=>.ok (.int (-i)) θ
  | _=>.bad
theorem Zuu {a:Expr} {fa:EM} {pos:Pos} (ha:ME X a fa):ME X (.UnaryOp .USub a pos) (Zuv fa):=by
  refine PE.imp (ZvQ Ztu ha) fun σ H Q h=>?_
  obtain ⟨B,θ,ρ,F,w⟩:=h
  refine zd (step F w) ?_
  rintro v H1 ⟨B1,θ1,x,E1,F1,rx,w1⟩
  cases x with
  | int i=>exact ⟨i,rx,ZS F1.good (show RepV B1 H1 (.int (-i)) (.int (-i)) from rfl) w1⟩
  | _=>exact w1.elim
mutual
def dat:D→PyData
  | .bl b=>.bool b
  | .int i=>.int i
  | .str x=>.str x
  | .tup xs=>.tuple (ZeT xs)
  | .lst xs=>.list (ZeT xs)
  | _=>.none
def ZeT:List D→List PyData
  | []=>[]
  | d::r=>dat d::ZeT r
end
mutual
def plain:D→Bool
  | .non=>true
  | .bl _=>true
  | .int _=>true
  | .str _=>true
  | .tup xs=>Zb4 xs
  | .lst xs=>Zb4 xs
  | _=>false
def Zb4:List D→Bool
  | []=>true
  | d::r=>plain d && Zb4 r
end
mutual
theorem rdv {B:Bx} {H:Hp} {K:PySem.W.Frag}:∀{d:D} {v:V},plain d=true→RepV B H d v→RdV K H v (dat d)
  | .non,_,_,r=>by cases (show _=V.non from r); exact .non
  | .bl b,_,_,r=>by cases (show _=V.bl b from r); exact .bl b
  | .int i,_,_,r=>by cases (show _=V.int i from r); exact .int i
  | .str x,_,_,r=>by cases (show _=V.str x from r); exact .str x
  | .tup xs,_,p,r=>by
    obtain ⟨a,vs,rfl,h,_,l⟩:=r
    exact .tup (SqT.of h) (ZrR p l)
  | .lst xs,_,p,r=>by
    obtain ⟨a,vs,rfl,h,_,l⟩:=r
    exact .lst (SqL.of h) (ZrR p l)
  | .ty _,_,p,_=>nomatch p
  | .scr _,_,p,_=>nomatch p
  | .ref _,_,p,_=>nomatch p
theorem ZrR {B:Bx} {H:Hp} {K:PySem.W.Frag}:∀{ds:List D} {vs:List V},Zb4 ds=true→RepL B H ds vs→RdVs K H vs (ZeT ds)
  | [],_,_,r=>by cases (show _=[] from r); exact .nil
  | d::ds,_,p,r=>by
    obtain ⟨v,q,rfl,hv,hq⟩:=r
    have p':plain d=true∧Zb4 ds=true:=by simpa [Zb4] using p
    exact .cons (rdv p'.1 hv) (ZrR p'.2 hq)
end
mutual
theorem Zlq:∀{d e:D},plain d=true→plain e=true→(same (dat d) (dat e)=true↔d=e):=fun {d e} p q=>by
  cases d with
  | ty _=>exact nomatch p
  | scr _=>exact nomatch p
  | ref _=>exact nomatch p
  | non=>cases e<;>simp_all [plain,dat,same]
  | bl _=>cases e<;>simp_all [plain,dat,same]
  | int _=>cases e<;>simp_all [plain,dat,same]
  | str _=>cases e<;>simp_all [plain,dat,same]
  | tup xs=>
    cases e with
    | tup ys=>
      simp only [dat,same,D.tup.injEq]
      exact Zgs p q
    | ty _=>exact nomatch q
    | scr _=>exact nomatch q
    | ref _=>exact nomatch q
    | _=>simp [dat,same]
  | lst xs=>
    cases e with
    | lst ys=>
      simp only [dat,same,D.lst.injEq]
      exact Zgs p q
    | ty _=>exact nomatch q
    | scr _=>exact nomatch q
    | ref _=>exact nomatch q
    | _=>simp [dat,same]
theorem Zgs:∀{ds es:List D},Zb4 ds=true→Zb4 es=true→(sameAll (ZeT ds) (ZeT es)=true↔ds=es)
  | [],[],_,_=>by simp [ZeT,sameAll]
  | [],_::_,_,_=>by simp [ZeT,sameAll]
  | _::_,[],_,_=>by simp [ZeT,sameAll]
  | d::ds,e::es,p,q=>by
    have p':plain d=true∧Zb4 ds=true:=by simpa [Zb4] using p
    have q':plain e=true∧Zb4 es=true:=by simpa [Zb4] using q
    simp only [ZeT,sameAll,Bool.and_eq_true,List.cons.injEq]
    rw [Zlq p'.1 q'.1,Zgs p'.2 q'.2]
end
def look (θ:Sto) (d:D):D:=match d with
  | .ref l=>match θ[l]? with
    | some (.lst xs)=>.lst xs
    | _=>.ref l
  | d=>d
theorem Zf5 {B:Bx} {θ:Sto} {H:Hp} {K:PySem.W.Frag} (G:Good X.cl B θ H) {d:D} {v:V} (r:RepV B H d v) (p:plain (look θ d)=true):RdV K H v (dat (look θ d)):=by
  cases d with
  | ref l=>
    unfold look at p ⊢
    simp only at p ⊢
    split at p
    · rename_i xs e
      obtain ⟨hl,rfl⟩:=r
      obtain ⟨vs,h1,h2⟩:=G.cel l _ e
      exact .lst (SqL.of h1) (ZrR p h2)
    · exact nomatch p
  | _=>exact rdv p r
structure Zmc (x y:D):Prop where
  px:plain x=true
  py:plain y=true
  sx:shaped (dat x)=true
  sy:shaped (dat y)=true
  nm:noMix (dat x) (dat y)=true
open Classical in
def eqM:OM:=fun x y θ=>if Zmc (look θ x) (look θ y) then .ok (.bl (decide (look θ x=look θ y))) θ else .bad
open Classical in
def neM:OM:=fun x y θ=>if Zmc (look θ x) (look θ y) then .ok (.bl (!decide (look θ x=look θ y))) θ else .bad
open Classical in
theorem Zlr {d e:D} (p:plain d=true) (q:plain e=true):same (dat d) (dat e)=decide (d=e):=by
  rw [Bool.eq_iff_iff,Zlq p q,decide_eq_true_iff]
open Classical in
theorem z7 (hu:X.A.units+64<cLine):OpR X (compareOp .Eq) (rM X eqM):=by
  refine OpR.imp (Zuo hu) fun x y H Q q=>?_
  obtain ⟨σ,B,θ,d,e,G,rd,re,w⟩:=q
  unfold eqM at w
  split at w
  · rename_i c
    refine ⟨_,_,Zf5 G rd c.px,Zf5 G re c.py,c.sx,c.sy,c.nm,?_⟩
    rw [Zlr c.px c.py]
    exact ZS G (show RepV B H (.bl _) (.bl _) from rfl) w
  · exact w.elim
open Classical in
theorem ZeK (hu:X.A.units+64<cLine):OpR X (compareOp .NotEq) (rM X neM):=by
  refine OpR.imp (Zul hu) fun x y H Q q=>?_
  obtain ⟨σ,B,θ,d,e,G,rd,re,w⟩:=q
  unfold neM at w
  split at w
  · rename_i c
    refine ⟨_,_,Zf5 G rd c.px,Zf5 G re c.py,c.sx,c.sy,c.nm,?_⟩
    rw [Zlr c.px c.py]
    exact ZS G (show RepV B H (.bl _) (.bl _) from rfl) w
  · exact w.elim
def ZjQ:List D→Bool
  | []=>true
  | .int _::r=>ZjQ r
  | _=>false
def Zir:List D→Bool
  | []=>true
  | .str _::r=>Zir r
  | _=>false
def memI (i:Int):List D→Bool
  | .int j::r=>decide (j=i) || memI i r
  | _=>false
def memS (x:Str):List D→Bool
  | .str y::r=>decide (y=x) || memS x r
  | _=>false
def inD (θ:Sto) (x y:D):Option Bool:=match seqOf θ y with
  | none=>none
  | some ys=>match x with
    | .int i=>if ZjQ ys=true then some (memI i ys) else none
    | .str z=>if Zir ys=true then some (memS z ys) else none
    | _=>none
def inM:OM:=fun x y θ=>match inD θ x y with
  | some k=>.ok (.bl k) θ
  | none=>.bad
def ZbS:OM:=fun x y θ=>match inD θ x y with
  | some k=>.ok (.bl (!k)) θ
  | none=>.bad
theorem Zhd {B:Bx} {H:Hp}:∀{ys:List D} {vs:List V},ZjQ ys=true→RepL B H ys vs→vs.all Zdu=true∧∀i:Int,inV (.int i) vs=memI i ys
  | [],_,_,r=>by cases (show _=[] from r); exact ⟨rfl,fun _=>rfl⟩
  | d::ys,_,h,r=>by
    cases d with
    | int j=>
      obtain ⟨v,q,rfl,hv,hq⟩:=r
      cases (show v=V.int j from hv)
      obtain ⟨h1,h2⟩:=Zhd (show ZjQ ys=true from h) hq
      refine ⟨by simp [Zdu] at h1 ⊢; exact h1,fun i=>?_⟩
      have:=h2 i
      unfold inV at this ⊢
      rw [List.any_cons,this]
      show (j == i || memI i ys)=(decide (j=i) || memI i ys)
      rw [Bool.beq_eq_decide_eq]
    | _=>exact nomatch h
theorem Zhc {B:Bx} {H:Hp}:∀{ys:List D} {vs:List V},Zir ys=true→RepL B H ys vs→vs.all Zdu=true∧∀i:Str,inV (.str i) vs=memS i ys
  | [],_,_,r=>by cases (show _=[] from r); exact ⟨rfl,fun _=>rfl⟩
  | d::ys,_,h,r=>by
    cases d with
    | str j=>
      obtain ⟨v,q,rfl,hv,hq⟩:=r
      cases (show v=V.str j from hv)
      obtain ⟨h1,h2⟩:=Zhc (show Zir ys=true from h) hq
      refine ⟨by simp [Zdu] at h1 ⊢; exact h1,fun i=>?_⟩
      have:=h2 i
      unfold inV at this ⊢
      rw [List.any_cons,this]
      show (j == i || memS i ys)=(decide (j=i) || memS i ys)
      rw [Bool.beq_eq_decide_eq]
    | _=>exact nomatch h
theorem ZqH {cl:Mo} {B:Bx} {θ:Sto} {H:Hp} (G:Good cl B θ H) {d e:D} {x y:V} {k:Bool} (rd:RepV B H d x) (re:RepV B H e y) (h:inD θ d e=some k) :
    ∃p xs,y=.ref p∧(SqL cl.K H p xs∨SqT cl.K H p xs)∧Zdu x=true∧xs.all Zdu=true∧inV x xs=k:=by
  unfold inD at h
  split at h
  · cases h
  · rename_i ys e1
    obtain ⟨a,vs,rfl,h1,h2⟩:=Zdc G re e1
    split at h
    · split at h
      · rename_i i hz
        cases h
        cases (show x=V.int i from rd)
        obtain ⟨q1,q2⟩:=Zhd hz h2
        exact ⟨a,vs,rfl,h1,rfl,q1,q2 i⟩
      · cases h
    · split at h
      · rename_i i hz
        cases h
        cases (show x=V.str i from rd)
        obtain ⟨q1,q2⟩:=Zhc hz h2
        exact ⟨a,vs,rfl,h1,rfl,q1,q2 i⟩
      · cases h
    · cases h
theorem ZlC:OpR X (compareOp .In) (rM X inM):=by
  refine OpR.imp ZnO fun x y H Q q=>?_
  obtain ⟨σ,B,θ,d,e,G,rd,re,w⟩:=q
  unfold inM at w
  split at w
  · rename_i k e1
    obtain ⟨p,xs,h1,h2,h3,h4,h5⟩:=ZqH G rd re e1
    exact ⟨p,xs,h1,h2,h3,h4,by rw [h5]; exact ZS G (show RepV B H (.bl _) (.bl _) from rfl) w⟩
  · exact w.elim
theorem ZfZ:OpR X (compareOp .NotIn) (rM X ZbS):=by
  refine OpR.imp Zjt fun x y H Q q=>?_
  obtain ⟨σ,B,θ,d,e,G,rd,re,w⟩:=q
  unfold ZbS at w
  split at w
  · rename_i k e1
    obtain ⟨p,xs,h1,h2,h3,h4,h5⟩:=ZqH G rd re e1
    exact ⟨p,xs,h1,h2,h3,h4,by rw [h5]; exact ZS G (show RepV B H (.bl _) (.bl _) from rfl) w⟩
  · exact w.elim
def ZcF:D→Bool
  | .non=>true
  | _=>false
theorem ZlP {B:Bx} {H:Hp} {d:D} {v:V} (r:RepV B H d v):ZcF d=decide (v=.non):=by
  cases d with
  | non=>cases (show v=.non from r); simp [ZcF]
  | bl b=>cases (show v=.bl b from r); simp [ZcF]
  | int i=>cases (show v=.int i from r); simp [ZcF]
  | str x=>cases (show v=.str x from r); simp [ZcF]
  | ty n=>cases (show v=.ty n from r); simp [ZcF]
  | scr ns=>obtain ⟨a,rfl,_⟩:=r; simp [ZcF]
  | tup xs=>obtain ⟨a,o,rfl,_⟩:=r; simp [ZcF]
  | lst xs=>obtain ⟨a,o,rfl,_⟩:=r; simp [ZcF]
  | ref l=>obtain ⟨_,rfl⟩:=r; simp [ZcF]
def isM:OM:=fun x y θ=>match y with
  | .non=>.ok (.bl (ZcF x)) θ
  | .bl c=>match x with
    | .bl b=>.ok (.bl (b == c)) θ
    | _=>.bad
  | _=>.bad
def Zjz:OM:=fun x y θ=>match y with
  | .non=>.ok (.bl (!ZcF x)) θ
  | .bl c=>match x with
    | .bl b=>.ok (.bl (!(b == c))) θ
    | _=>.bad
  | _=>.bad
theorem Zun:OpR X (compareOp .Is) (fun x y H Q=>∃b c:Bool,x=.bl b∧y=.bl c∧Q (.bl (b == c)) H):=by
  intro pins s σ H x y v u Q I rx ry h
  obtain ⟨b,c,rfl,rfl,q⟩:=h
  cases rx
  cases ry
  have e:(Value.bool b == Value.bool c)=(b == c):=by cases b<;>cases c<;>rfl
  exact wpAny_is_plain rfl ⟨.bl _,H,I,rfl,by rw [e]; exact q⟩
theorem Zsf:OpR X (compareOp .Is) (rM X isM):=by
  refine OpR.imp (op_isN.or Zun) fun x y H Q q=>?_
  obtain ⟨σ,B,θ,d,e,G,rd,re,w⟩:=q
  unfold isM at w
  split at w
  · refine .inl ⟨re,?_⟩
    have q:=ZS G (show RepV B H (.bl _) (.bl _) from rfl) w
    rw [ZlP rd] at q
    exact q
  · split at w
    · exact .inr ⟨_,_,rd,re,ZS G (show RepV B H (.bl _) (.bl _) from rfl) w⟩
    · exact w.elim
  · exact w.elim
theorem Zse:OpR X (compareOp .IsNot) (rM X Zjz):=by
  refine OpR.imp (op_notN.or Zsa) fun x y H Q q=>?_
  obtain ⟨σ,B,θ,d,e,G,rd,re,w⟩:=q
  unfold Zjz at w
  split at w
  · refine .inl ⟨re,?_⟩
    have q:=ZS G (show RepV B H (.bl _) (.bl _) from rfl) w
    rw [ZlP rd] at q
    exact q
  · split at w
    · exact .inr ⟨_,_,rd,re,ZS G (show RepV B H (.bl _) (.bl _) from rfl) w⟩
    · exact w.elim
  · exact w.elim
end
end
end L2.MM
namespace L2.MM
open PySem PySem.Spec PyProof.Rows PySem.SeqAt
noncomputable section
variable {X:Cx}
section
def ixD (θ:Sto) (x:D) (i:Int):Option D:=match x with
  | .str z=>if z.length≤BIG then (atI z.cps.toList i).map fun c=>.str ⟨#[c]⟩ else none
  | x=>(seqOf θ x).bind (atI · i)
def ixM:OM:=fun x y θ=>match y with
  | .int i=>match ixD θ x i with
    | some d=>.ok d θ
    | none=>.bad
  | _=>.bad
theorem RepL.atI {B:Bx} {H:Hp} {xs:List D} {vs:List V} {i:Int} {d:D} (r:RepL B H xs vs) (h:atI xs i=some d):∃v,atI vs i=some v∧RepV B H d v:=by
  unfold L2.atI at h ⊢
  rw [r.len]
  cases e:ixN xs.length i with
  | none=>rw [e] at h; cases h
  | some j=>
    rw [e] at h
    exact r.get h
theorem ZD:IxR X (rM X ixM):=by
  refine IxR.imp ZuB fun x y H Q q=>?_
  obtain ⟨σ,B,θ,d,e,G,rd,re,w⟩:=q
  unfold ixM at w
  split at w
  · rename_i i
    split at w
    · rename_i r e1
      have sq:(seqOf θ d).bind (L2.atI · i)=some r→rIx X.K x y H Q:=fun h=>by
        cases e2:seqOf θ d with
        | none=>rw [e2] at h; cases h
        | some xs=>
          rw [e2] at h
          obtain ⟨a,vs,rfl,h1,h2⟩:=Zdc G rd e2
          obtain ⟨v,h3,h4⟩:=h2.atI h
          have q:=ZS G h4 w
          rcases h1 with h1 | h1
          · exact .inl ⟨a,vs,i,v,rfl,re,h1,h3,q⟩
          · exact .inr (.inl ⟨a,vs,i,v,rfl,re,h1,h3,q⟩)
      cases d with
      | str z=>
        simp only [ixD] at e1
        split at e1
        · rename_i hz
          cases e2:L2.atI z.cps.toList i with
          | none=>rw [e2] at e1; cases e1
          | some c=>
            rw [e2] at e1
            cases e1
            exact .inr (.inr ⟨z,i,c,rd,re,ZaA hz,e2,ZS G (show RepV B H (.str _) (.str _) from rfl) w⟩)
        · cases e1
      | non=>exact sq e1
      | bl _=>exact sq e1
      | int _=>exact sq e1
      | ty _=>exact sq e1
      | scr _=>exact sq e1
      | tup _=>exact sq e1
      | lst _=>exact sq e1
      | ref _=>exact sq e1
    · exact w.elim
  · exact w.elim
abbrev PM:=List Sl→Sto→R (Option Int)
def EqO (_:Bx) (_:Hp) (a b:Option Int):Prop:=a=b
def tMO (X:Cx) (f:PM):TO:=fun σ H Q=>∃B θ ρ,Frm X.cl B θ ρ σ H∧wpR X σ EqO B H (f ρ θ) Q
def MO (X:Cx) (e:Option Expr) (f:PM):Prop:=PO X e (tMO X f)
theorem ZeC {f:PM} {σ:St} {H:Hp} {Q Q':Option Int→Hp→Prop} (h:tMO X f σ H Q) (hQ:∀v H',Q v H'→Q' v H'):tMO X f σ H Q':=let ⟨B,θ,ρ,F,w⟩:=h; ⟨B,θ,ρ,F,w.mono hQ⟩
theorem Zlo {σ:St} {H:Hp} {γ δ:Type} {Rel':Bx→Hp→γ→δ→Prop} {B:Bx} {θ:Sto} {ρ:List Sl} {f:PM} {k:Option Int→Sto→R γ} {Q:δ→Hp→Prop} (F:Frm X.cl B θ ρ σ H) (h:wpR X σ Rel' B H ((f ρ θ).bind k) Q) :
    tMO X f σ H (fun c H1=>∃B1 θ1,ExtE B B1 H H1∧Frm X.cl B1 θ1 ρ σ H1∧wpR X σ Rel' B1 H1 (k c θ1) Q):=
  ⟨B,θ,ρ,F,(wpR.bind (Rel:=EqO) h).mono fun v H1 ⟨B1,θ1,d,E,G,r,w⟩=>by cases (show d=v from r); exact ⟨B1,θ1,E,F.ext E G,w⟩⟩
def Zas:PM:=fun _ θ=>.ok none θ
def Za1 (f:EM):PM:=fun ρ θ=>(f ρ θ).bind fun x θ=>match x with
  | .int i=>.ok (some i) θ
  | _=>.bad
theorem PO.imp {e:Option Expr} {t t':TO} (h:PO X e t) (hi:∀σ H Q,t' σ H Q→t σ H Q):PO X e t':=fun pins s σ H Q I q=>h pins s σ H Q I (hi σ H Q q)
theorem Zbg:MO X none Zas:=PO.imp Zr1 fun σ H Q h=>by
  obtain ⟨B,θ,ρ,F,w⟩:=h
  exact ZS (Rel:=EqO) F.good rfl w
theorem zH {e:Expr} {f:EM} (h:ME X e f):MO X (some e) (Za1 f):=PO.imp (Zr0 h) fun σ H Q h=>by
  obtain ⟨B,θ,ρ,F,w⟩:=h
  refine zd (step F w) ?_
  rintro v H1 ⟨B1,θ1,x,E1,F1,rx,w1⟩
  cases x with
  | int i=>exact ⟨i,rx,ZS (Rel:=EqO) F1.good rfl w1⟩
  | _=>exact w1.elim
def Zbe {α:Type} (xs:List α) (lo hi:Option Int):List α:=(xs.drop (HT.sIx xs.length 0 lo)).take (HT.sIx xs.length xs.length hi-HT.sIx xs.length 0 lo)
theorem RepL.cut {B:Bx} {H:Hp} {xs:List D} {vs:List V} (r:RepL B H xs vs) (lo hi:Option Int):RepL B H (Zbe xs lo hi) (Zl0 vs lo hi):=by
  unfold Zbe Zl0
  rw [r.len]
  exact (r.drop _).take _
def Zdb (θ:Sto) (x:D) (lo hi:Option Int):Option D:=match x with
  | .tup xs=>if HT.sIx xs.length 0 lo=0∧HT.sIx xs.length xs.length hi=xs.length then none else some (.tup (Zbe xs lo hi))
  | x=>(Za2 θ x).map fun xs=>.lst (Zbe xs lo hi)
def mSl (f:EM) (lo hi:PM):EM:=fun ρ θ=>(f ρ θ).bind fun x θ=>(lo ρ θ).bind fun l θ=>(hi ρ θ).bind fun h θ=>match Zdb θ x l h with
  | some d=>.ok d θ
  | none=>.bad
theorem Zao {e:Expr} {lo hi:Option Expr} {f:EM} {fl fh:PM} {pos p2:Pos} (he:ME X e f) (hl:MO X lo fl) (hh:MO X hi fh):ME X (.Subscript e (.Slice lo hi none p2) pos) (mSl f fl fh):=by
  refine PE.imp (Zp3 (sl_list.or ZtR) he hl hh) fun σ H Q h=>?_
  obtain ⟨B,θ,ρ,F,w⟩:=h
  refine zd (step F w) ?_
  rintro v H1 ⟨B1,θ1,x,E1,F1,rx,w1⟩
  refine ZeC (Zlo F1 w1) ?_
  rintro l H2 ⟨B2,θ2,E2,F2,w2⟩
  refine ZeC (Zlo F2 w2) ?_
  rintro u H3 ⟨B3,θ3,E3,F3,w3⟩
  have rx3:=rx.ext (E2.trans E3).toExtS
  have lst:∀d,(Za2 θ3 x).map (fun xs=>D.lst (Zbe xs l u))=some d→wpR X σ RepV B3 H3 (R.ok d θ3) Q→ZvG X.K v l u H3 Q:=fun d h w=>by
    cases e2:Za2 θ3 x with
    | none=>rw [e2] at h; cases h
    | some xs=>
      rw [e2] at h
      cases h
      obtain ⟨a,vs,rfl,h1,h2⟩:=Zap F3.good rx3 e2
      exact ⟨a,vs,rfl,SqL.of h1,ZfA F3.good (h2.cut l u) w⟩
  split at w3
  · rename_i d e1
    cases x with
    | tup xs=>
      simp only [Zdb] at e1
      split at e1
      · cases e1
      · rename_i hw
        cases e1
        obtain ⟨a,vs,rfl,h1,k1,l1⟩:=rx3
        exact .inr ⟨a,vs,rfl,SqT.of h1,by rw [l1.len]; exact hw,Zhu F3.good (l1.cut l u) w3⟩
    | non=>exact .inl (lst d e1 w3)
    | bl _=>exact .inl (lst d e1 w3)
    | int _=>exact .inl (lst d e1 w3)
    | str _=>exact .inl (lst d e1 w3)
    | ty _=>exact .inl (lst d e1 w3)
    | scr _=>exact .inl (lst d e1 w3)
    | lst _=>exact .inl (lst d e1 w3)
    | ref _=>exact .inl (lst d e1 w3)
  · exact w3.elim
def ZdN {α:Type} (xs:List α) (lo hi st:Option Int):List α:=(sliceRange (sliceBounds lo hi st xs.length).1 (sliceBounds lo hi st xs.length).2.1 (sliceBounds lo hi st xs.length).2.2).filterMap (xs[·]?)
theorem RepL.none_of:∀{B:Bx} {H:Hp} {xs:List D} {vs:List V} {i:Nat},RepL B H xs vs→xs[i]?=none→vs[i]?=none:=fun {B H xs vs i} r e=>by
  have h1:=r.len
  have h2:xs.length≤i:=List.getElem?_eq_none_iff.mp e
  exact List.getElem?_eq_none_iff.mpr (by omega)
theorem RepL.pick {B:Bx} {H:Hp} {xs:List D} {vs:List V} (r:RepL B H xs vs):∀ks:List Nat,RepL B H (ks.filterMap (xs[·]?)) (ks.filterMap (vs[·]?))
  | []=>rfl
  | k::ks=>by
    cases e:xs[k]? with
    | none=>rw [List.filterMap_cons_none e,List.filterMap_cons_none (r.none_of e)]; exact r.pick ks
    | some x=>
      obtain ⟨u,e',q⟩:=r.get e
      rw [List.filterMap_cons_some e,List.filterMap_cons_some e']
      exact ⟨_,_,rfl,q,r.pick ks⟩
def Zso (f:EM) (lo hi st:PM):EM:=fun ρ θ=>(f ρ θ).bind fun x θ=>(lo ρ θ).bind fun l θ=>(hi ρ θ).bind fun h θ=>(st ρ θ).bind fun s θ=>match Za2 θ x with
  | some xs=>if s≠some 0∧(ZdN xs l h s).length≤BIG then .ok (.lst (ZdN xs l h s)) θ else .bad
  | none=>.bad
theorem ZiZ {e sp:Expr} {lo hi:Option Expr} {f:EM} {fl fh fs:PM} {pos p2:Pos} (he:ME X e f) (hl:MO X lo fl) (hh:MO X hi fh) (hs:MO X (some sp) fs):ME X (.Subscript e (.Slice lo hi (some sp) p2) pos) (Zso f fl fh fs):=by
  refine PE.imp (ZnM he hl hh hs) fun σ H Q h=>?_
  obtain ⟨B,θ,ρ,F,w⟩:=h
  refine zd (step F w) ?_
  rintro v H1 ⟨B1,θ1,x,E1,F1,rx,w1⟩
  refine ZeC (Zlo F1 w1) ?_
  rintro l H2 ⟨B2,θ2,E2,F2,w2⟩
  refine ZeC (Zlo F2 w2) ?_
  rintro u H3 ⟨B3,θ3,E3,F3,w3⟩
  refine ZeC (Zlo F3 w3) ?_
  rintro s H4 ⟨B4,θ4,E4,F4,w4⟩
  split at w4
  · rename_i xs e1
    split at w4
    · rename_i hz
      obtain ⟨a,vs,rfl,h1,h2⟩:=Zap F4.good (rx.ext ((E2.trans E3).trans E4).toExtS) e1
      have p:RepL B4 H4 (ZdN xs l u s) (ZeE vs l u s):=by
        unfold ZdN ZeE
        rw [h2.len]
        exact h2.pick _
      exact ⟨a,vs,rfl,SqL.of h1,hz.1,by rw [p.len]; exact ZaA hz.2,ZfA F4.good p w4⟩
    · exact w4.elim
  · exact w4.elim
def Zc1:GM:=fun ds θ=>match ds with
  | [.str z]=>if z.length≤BIG then .ok (.int z.length) θ else .bad
  | [d]=>match seqOf θ d with
    | some xs=>.ok (.int xs.length) θ
    | none=>.bad
  | _=>.bad
theorem RepL.one {B:Bx} {H:Hp} {d:D} {vs:List V} (r:RepL B H [d] vs):∃v,vs=[v]∧RepV B H d v:=by
  obtain ⟨v,q,rfl,hv,hq⟩:=r
  cases (show q=[] from hq)
  exact ⟨v,rfl,hv⟩
theorem RepL.two {B:Bx} {H:Hp} {d e:D} {vs:List V} (r:RepL B H [d,e] vs):∃v u,vs=[v,u]∧RepV B H d v∧RepV B H e u:=by
  obtain ⟨v,q,rfl,hv,hq⟩:=r
  obtain ⟨u,rfl,hu⟩:=hq.one
  exact ⟨v,u,rfl,hv,hu⟩
theorem Zdk:CallR X (.builtin "len") (rC X Zc1):=by
  refine CallR.imp (call_len_str.or ZjK) fun vs H Q q=>?_
  obtain ⟨σ,B,θ,ds,G,r,w⟩:=q
  unfold Zc1 at w
  split at w
  · split at w
    · rename_i z hz
      obtain ⟨v,rfl,rv⟩:=r.one
      cases (show v=V.str z from rv)
      exact .inl ⟨z,rfl,ZaA hz,ZS G (show RepV B H (.int _) (.int _) from rfl) w⟩
    · exact w.elim
  · split at w
    · rename_i xs e1
      obtain ⟨v,rfl,rv⟩:=r.one
      obtain ⟨a,us,rfl,h1,h2⟩:=Zdc G rv e1
      exact .inr ⟨a,us,rfl,h1,by rw [h2.len]; exact ZS G (show RepV B H (.int _) (.int _) from rfl) w⟩
    · exact w.elim
  · exact w.elim
def Zf7:List D→Option (List Int)
  | []=>some []
  | .int i::r=>(Zf7 r).map (i::·)
  | _=>none
@[simp] theorem ZqG (ns:List Int):Zf7 (ns.map D.int)=some ns:=by
  induction ns with
  | nil=>rfl
  | cons n r ih=>simp [Zf7,ih]
theorem Zng:∀{ds:List D} {ns:List Int},Zf7 ds=some ns→ds=ns.map D.int
  | [],_,h=>by cases h; rfl
  | d::r,ns,h=>by
    cases d with
    | int i=>
      simp only [Zf7] at h
      cases e:Zf7 r with
      | none=>rw [e] at h; cases h
      | some ms=>rw [e] at h; cases h; rw [Zng e]; rfl
    | _=>cases h
theorem ZlQ {B:Bx} {H:Hp}:∀{ns:List Int} {vs:List V},RepL B H (ns.map D.int) vs→vs=ns.map V.int
  | [],_,r=>r
  | n::ns,_,r=>by
    obtain ⟨v,q,rfl,hv,hq⟩:=r
    cases (show v=V.int n from hv)
    rw [ZlQ hq]; rfl
def ZjL:List D→Option (List Bool)
  | []=>some []
  | .bl i::r=>(ZjL r).map (i::·)
  | _=>none
theorem Zrf:∀{ds:List D} {ns:List Bool},ZjL ds=some ns→ds=ns.map D.bl
  | [],_,h=>by cases h; rfl
  | d::r,ns,h=>by
    cases d with
    | bl i=>
      simp only [ZjL] at h
      cases e:ZjL r with
      | none=>rw [e] at h; cases h
      | some ms=>rw [e] at h; cases h; rw [Zrf e]; rfl
    | _=>cases h
theorem Znr {B:Bx} {H:Hp}:∀{ns:List Bool} {vs:List V},RepL B H (ns.map D.bl) vs→vs=ns.map V.bl
  | [],_,r=>r
  | n::ns,_,r=>by
    obtain ⟨v,q,rfl,hv,hq⟩:=r
    cases (show v=V.bl n from hv)
    rw [Znr hq]; rfl
def ZnD:GM:=fun ds θ=>match ds with
  | [d]=>match (Za2 θ d).bind Zf7 with
    | some ns=>.ok (.int ns.sum) θ
    | none=>.bad
  | _=>.bad
theorem Ztj (hc:X.calm=true:=by rfl):CallR X (.builtin "sum") (rC X ZnD):=by
  refine CallR.imp (Zra hc) fun vs H Q q=>?_
  obtain ⟨σ,B,θ,ds,G,r,w⟩:=q
  unfold ZnD at w
  split at w
  · rename_i d
    split at w
    · rename_i ns e1
      obtain ⟨v,rfl,rv⟩:=r.one
      cases e2:Za2 θ d with
      | none=>rw [e2] at e1; cases e1
      | some xs=>
        rw [e2] at e1
        obtain ⟨a,us,rfl,h1,h2⟩:=Zap G rv e2
        rw [Zng (show Zf7 xs=some ns from e1)] at h2
        rw [ZlQ h2] at h1
        exact ⟨a,ns,rfl,SqL.of h1,ZS G (show RepV B H (.int _) (.int _) from rfl) w⟩
    · exact w.elim
  · exact w.elim
def Zrk:GM:=fun ds θ=>match ds with
  | [d]=>match (Za2 θ d).bind ZjL with
    | some ns=>.ok (.bl (ns.all id)) θ
    | none=>.bad
  | _=>.bad
theorem Zws (hc:X.calm=true:=by rfl):CallR X (.builtin "all") (rC X Zrk):=by
  refine CallR.imp (Zrc hc) fun vs H Q q=>?_
  obtain ⟨σ,B,θ,ds,G,r,w⟩:=q
  unfold Zrk at w
  split at w
  · rename_i d
    split at w
    · rename_i ns e1
      obtain ⟨v,rfl,rv⟩:=r.one
      cases e2:Za2 θ d with
      | none=>rw [e2] at e1; cases e1
      | some xs=>
        rw [e2] at e1
        obtain ⟨a,us,rfl,h1,h2⟩:=Zap G rv e2
        rw [Zrf (show ZjL xs=some ns from e1)] at h2
        rw [Znr h2] at h1
        exact ⟨a,ns,rfl,SqL.of h1,ZS G (show RepV B H (.bl _) (.bl _) from rfl) w⟩
    · exact w.elim
  · exact w.elim
def Ziy:GM:=fun ds θ=>match ds with
  | [.int i,.int j]=>.ok (.int (if j<i then j else i)) θ
  | [.int i,.int j,.int k]=>.ok (.int (if j<i then (if k<j then k else j) else (if k<i then k else i))) θ
  | _=>.bad
def Zsn:GM:=fun ds θ=>match ds with
  | [.int i,.int j]=>.ok (.int (if j > i then j else i)) θ
  | _=>.bad
theorem RepL.three {B:Bx} {H:Hp} {d e f:D} {vs:List V} (r:RepL B H [d,e,f] vs):∃v u w,vs=[v,u,w]∧RepV B H d v∧RepV B H e u∧RepV B H f w:=by
  obtain ⟨v,q,rfl,hv,hq⟩:=r
  obtain ⟨u,w,rfl,hu,hw⟩:=hq.two
  exact ⟨v,u,w,rfl,hv,hu,hw⟩
theorem Zn5 (hc:X.calm=true):CallR X (.builtin "min") (fun xs H Q=>∃i j k,xs=[.int i,.int j,.int k]∧Q (.int (if j<i then (if k<j then k else j) else (if k<i then k else i))) H):=by
  intro pins s σ H xs us Q I r h
  obtain ⟨i,j,k,rfl,q⟩:=h
  cases r with
  | cons r1 rr=>
    obtain ⟨u2,u3,e,r2,r3⟩:=ZpE rr
    subst e
    obtain ⟨t1,rfl⟩:=r1
    obtain ⟨t2,rfl⟩:=r2
    obtain ⟨t3,rfl⟩:=r3
    refine min_three_ints (I.ok.hd hc) fun h' tk kk=>⟨_,H,I.kept kk,?_,q⟩
    by_cases c1:j<i
    · by_cases c2:k<j
      · simp only [c1,c2,if_true]; exact ⟨_,rfl⟩
      · simp only [c1,c2,if_true,if_false]; exact ⟨_,rfl⟩
    · by_cases c2:k<i
      · simp only [c1,c2,if_true,if_false]; exact ⟨_,rfl⟩
      · simp only [c1,c2,if_false]; exact ⟨_,rfl⟩
theorem Zl5 (hc:X.calm=true:=by rfl):CallR X (.builtin "min") (rC X Ziy):=by
  refine CallR.imp ((Zn6 hc).or (Zn5 hc)) fun vs H Q q=>?_
  obtain ⟨σ,B,θ,ds,G,r,w⟩:=q
  unfold Ziy at w
  split at w
  · rename_i i j
    obtain ⟨v,u,rfl,rv,ru⟩:=r.two
    cases (show v=V.int i from rv)
    cases (show u=V.int j from ru)
    exact .inl ⟨i,j,rfl,ZS G (show RepV B H (.int _) (.int _) from rfl) w⟩
  · rename_i i j k
    obtain ⟨v,u,z,rfl,rv,ru,rz⟩:=r.three
    cases (show v=V.int i from rv)
    cases (show u=V.int j from ru)
    cases (show z=V.int k from rz)
    exact .inr ⟨i,j,k,rfl,ZS G (show RepV B H (.int _) (.int _) from rfl) w⟩
  · exact w.elim
theorem Zwr (hc:X.calm=true:=by rfl):CallR X (.builtin "max") (rC X Zsn):=by
  refine CallR.imp (Zn7 hc) fun vs H Q q=>?_
  obtain ⟨σ,B,θ,ds,G,r,w⟩:=q
  unfold Zsn at w
  split at w
  · rename_i i j
    obtain ⟨v,u,rfl,rv,ru⟩:=r.two
    cases (show v=V.int i from rv)
    cases (show u=V.int j from ru)
    exact ⟨i,j,rfl,ZS G (show RepV B H (.int _) (.int _) from rfl) w⟩
  · exact w.elim
def ZnY:GM:=fun ds θ=>match ds with
  | [.int i]=>.ok (.int i) θ
  | [.bl k]=>.ok (.int (if k then 1 else 0)) θ
  | _=>.bad
theorem Zrd:CallR X (.type "int") (rC X ZnY):=by
  refine CallR.imp Zn8 fun vs H Q q=>?_
  obtain ⟨σ,B,θ,ds,G,r,w⟩:=q
  unfold ZnY at w
  split at w
  · rename_i i
    obtain ⟨v,rfl,rv⟩:=r.one
    cases (show v=V.int i from rv)
    exact .inl ⟨i,rfl,ZS G (show RepV B H (.int _) (.int _) from rfl) w⟩
  · rename_i k
    obtain ⟨v,rfl,rv⟩:=r.one
    cases (show v=V.bl k from rv)
    exact .inr ⟨k,rfl,ZS G (show RepV B H (.int _) (.int _) from rfl) w⟩
  · exact w.elim
def ZhU:GM:=fun ds θ=>match ds with
  | [d]=>match seqOf θ d with
    | some xs=>.ok (.lst xs) θ
    | none=>.bad
  | _=>.bad
theorem ZmG:CallR X (.type "list") (rC X ZhU):=by
  refine CallR.imp ZjJ fun vs H Q q=>?_
  obtain ⟨σ,B,θ,ds,G,r,w⟩:=q
  unfold ZhU at w
  split at w
  · split at w
    · rename_i xs e1
      obtain ⟨v,rfl,rv⟩:=r.one
      obtain ⟨a,us,rfl,h1,h2⟩:=Zdc G rv e1
      exact ⟨a,us,rfl,h1,ZfA G h2 w⟩
    · exact w.elim
  · exact w.elim
def ZeB:GM:=fun ds θ=>match ds with
  | [.tup xs]=>.ok (.tup xs) θ
  | [d]=>match Za2 θ d with
    | some xs=>.ok (.tup xs) θ
    | none=>.bad
  | _=>.bad
theorem Zgd:CallR X (.type "tuple") (rC X ZeB):=by
  refine CallR.imp ZiB fun vs H Q q=>?_
  obtain ⟨σ,B,θ,ds,G,r,w⟩:=q
  unfold ZeB at w
  split at w
  · rename_i xs
    obtain ⟨v,rfl,rv⟩:=r.one
    obtain ⟨a,us,rfl,h1,k1,l1⟩:=id rv
    exact ⟨a,us,rfl,.inr ⟨SqT.of h1,ZS G rv w⟩⟩
  · split at w
    · rename_i xs e1
      obtain ⟨v,rfl,rv⟩:=r.one
      obtain ⟨a,us,rfl,h1,h2⟩:=Zap G rv e1
      exact ⟨a,us,rfl,.inl ⟨SqL.of h1,Zhu G h2 w⟩⟩
    · exact w.elim
  · exact w.elim
inductive Ty | non | bl | int | str | lst | tup
def Ty.nm:Ty→String
  | .non=>"NoneType" | .bl=>"bool" | .int=>"int" | .str=>"str" | .lst=>"list" | .tup=>"tuple"
def tyD (θ:Sto):D→Option Ty
  | .non=>some .non
  | .bl _=>some .bl
  | .int _=>some .int
  | .str _=>some .str
  | .tup _=>some .tup
  | .scr _=>none
  | d=>(Za2 θ d).map fun _=>.lst
def isT:Ty→String→Option Bool
  | .non,"int"=>some false | .non,"bool"=>some false | .non,"list"=>some false | .non,"tuple"=>some false | .non,"str"=>some false
  | .bl,"int"=>some true | .bl,"bool"=>some true | .bl,"list"=>some false | .bl,"tuple"=>some false | .bl,"str"=>some false
  | .int,"int"=>some true | .int,"bool"=>some false | .int,"list"=>some false | .int,"tuple"=>some false | .int,"str"=>some false
  | .str,"int"=>some false | .str,"bool"=>some false | .str,"list"=>some false | .str,"tuple"=>some false | .str,"str"=>some true
  | .lst,"int"=>some false | .lst,"bool"=>some false | .lst,"list"=>some true | .lst,"tuple"=>some false | .lst,"str"=>some false
  | .tup,"int"=>some false | .tup,"bool"=>some false | .tup,"list"=>some false | .tup,"tuple"=>some true | .tup,"str"=>some false
  | _,_=>none
theorem ZuC {K:PySem.W.Frag} {t:Ty} {n:String} {b:Bool} (h:isT t n=some b):PySem.W.kitOne K (.type t.nm) (.type n)=some b:=by
  unfold isT at h
  split at h<;>first | (cases h; with_unfolding_all rfl) | cases h
def ZgZ:GM:=fun ds θ=>match ds with
  | [d,.ty n]=>match (tyD θ d).bind (isT · n) with
    | some b=>.ok (.bl b) θ
    | none=>.bad
  | _=>.bad
theorem Ztw {B:Bx} {θ:Sto} {H:Hp} {K:PySem.W.Frag} (G:Good X.cl B θ H) {d:D} {v:V} {t:Ty} (r:RepV B H d v) (h:tyD θ d=some t):Zgn K H v (.type t.nm):=by
  cases d with
  | non=>cases (show v=.non from r); cases h; exact .non
  | bl b=>cases (show v=.bl b from r); cases h; exact .bl b
  | int b=>cases (show v=.int b from r); cases h; exact .int b
  | str b=>cases (show v=.str b from r); cases h; exact .str b
  | tup xs=>obtain ⟨a,vs,rfl,h1,_⟩:=r; cases h; exact .tup h1
  | scr xs=>cases h
  | lst xs=>obtain ⟨a,vs,rfl,h1,_⟩:=r; cases h; exact .lst h1
  | ref l=>
    cases e:Za2 θ (.ref l) with
    | none=>simp only [tyD,e] at h; cases h
    | some xs=>
      simp only [tyD,e] at h
      cases h
      obtain ⟨a,us,rfl,h1,h2⟩:=Zap G r e
      exact .lst h1
  | ty n=>cases h
theorem ZmH:CallR X (.builtin "isinstance") (rC X ZgZ):=by
  refine CallR.imp Zl4 fun vs H Q q=>?_
  obtain ⟨σ,B,θ,ds,G,r,w⟩:=q
  unfold ZgZ at w
  split at w
  · rename_i d n
    split at w
    · rename_i b e1
      obtain ⟨v,u,rfl,rv,ru⟩:=r.two
      cases (show u=V.ty n from ru)
      cases e2:tyD θ d with
      | none=>rw [e2] at e1; cases e1
      | some t=>
        rw [e2] at e1
        exact ⟨v,n,_,b,rfl,Ztw G rv e2,ZuC e1,ZS G (show RepV B H (.bl _) (.bl _) from rfl) w⟩
    · exact w.elim
  · exact w.elim
end
end
end L2.MM
namespace L2.MM
open PySem PySem.Spec PyProof.Rows PySem.SeqAt
noncomputable section
variable {X:Cx}
inductive Src where
  | seq (d:D) | rng (lo:Int) (n:Nat)
def Src.items (θ:Sto):Src→Option (List D)
  | .seq d=>seqOf θ d
  | .rng lo n=>some ((List.range n).map fun (i:Nat)=>D.int (lo+(i:Int)))
def SrcRep (K:PySem.W.Frag) (B:Bx) (H:Hp):Src→It→Prop
  | .seq d,J=>∃a,RepV B H d (.ref a)∧J=(match d with | .tup _=>Itt K a | _=>Itl K a)
  | .rng lo n,J=>J=Itr lo n
abbrev IM:=List Sl→Sto→R Src
section
def tMI (X:Cx) (f:IM):TI:=fun σ H Q=>∃B θ ρ,Frm X.cl B θ ρ σ H∧wpR X σ (SrcRep X.K) B H (f ρ θ) Q
def MI (X:Cx) (tg iter:Expr) (f:IM):Prop:=PI X tg iter (tMI X f)
theorem PI.imp {tg iter:Expr} {t t':TI} (h:PI X tg iter t) (hi:∀σ H Q,t' σ H Q→t σ H Q):PI X tg iter t':=fun pins s σ H Q I q=>h pins s σ H Q I (hi σ H Q q)
theorem SrcRep.ext {K:PySem.W.Frag} {B B':Bx} {H H':Hp} {S:Src} {J:It} (r:SrcRep K B H S J) (E:ExtS B B' H H'):SrcRep K B' H' S J:=by
  cases S with
  | seq d=>obtain ⟨a,h,e⟩:=r; exact ⟨a,h.ext E,e⟩
  | rng lo n=>exact r
theorem Zjm {cl:Mo} {B:Bx} {θ:Sto} {H:Hp} {S:Src} {J:It} {xs:List D} (G:Good cl B θ H) (r:SrcRep cl.K B H S J) (h:S.items θ=some xs) :
    (∀i d,xs[i]?=some d→J.go i H∧∀x H',J.yld i H x H'→H'=H∧RepV B H d x)∧J.stop xs.length H:=by
  cases S with
  | rng lo n=>
    cases (show J=Itr lo n from r)
    cases h
    refine ⟨fun i d e=>?_,by show n≤_; simp⟩
    rw [List.getElem?_map] at e
    by_cases hi:i<n
    · rw [List.getElem?_range hi] at e
      cases e
      exact ⟨hi,fun x H' y=>⟨y.1,y.2⟩⟩
    · rw [List.getElem?_eq_none (by simpa using hi)] at e
      cases e
  | seq d=>
    obtain ⟨a,rv,e⟩:=r
    cases d with
    | tup ys=>
      obtain ⟨a',vs,e1,h1,_,h2⟩:=rv
      cases e1
      cases h
      simp only at e
      subst e
      refine ⟨fun i d e=>?_,⟨vs,SqT.of h1,by rw [h2.len]; exact Nat.le_refl _⟩⟩
      obtain ⟨v,q1,q2⟩:=h2.get e
      refine ⟨⟨vs,v,SqT.of h1,q1⟩,fun x H' y=>⟨y.1,?_⟩⟩
      have:=y.2 vs (SqT.of h1)
      rw [q1] at this
      cases this
      exact q2
    | scr ns=>
      cases h
      obtain ⟨a',vs',e1,h1,_⟩:=Zdc G rv (show seqOf θ (.scr ns)=some (ns.map D.int) from rfl)
      cases e1
      simp only at e
      subst e
      have hS:SqL cl.K H a (ns.map V.int):=by
        obtain ⟨a',e1,h1⟩:=rv
        cases e1
        rcases h1 with ⟨o,h1,_⟩ | h1
        · exact .inl (.inr ⟨o,h1⟩)
        · exact .inr (G.kc a ns h1)
      have h2:RepL B H (ns.map D.int) (ns.map V.int):=RepL.map (f:=D.int) (g:=V.int) (fun _=>rfl) ns
      refine ⟨fun i d e=>?_,⟨ns.map V.int,hS,by simp⟩⟩
      obtain ⟨v,q1,q2⟩:=h2.get e
      refine ⟨⟨_,v,hS,q1⟩,fun x H' y=>⟨y.1,?_⟩⟩
      have:=y.2 _ hS
      rw [q1] at this
      cases this
      exact q2
    | lst ys=>
      obtain ⟨a',vs,e1,h1,h2⟩:=Zap G rv (show Za2 θ (.lst ys)=some xs from h)
      cases e1
      simp only at e
      subst e
      refine ⟨fun i d e=>?_,⟨vs,SqL.of h1,by rw [h2.len]; exact Nat.le_refl _⟩⟩
      obtain ⟨v,q1,q2⟩:=h2.get e
      refine ⟨⟨vs,v,SqL.of h1,q1⟩,fun x H' y=>⟨y.1,?_⟩⟩
      have:=y.2 vs (SqL.of h1)
      rw [q1] at this
      cases this
      exact q2
    | ref l=>
      obtain ⟨a',vs,e1,h1,h2⟩:=Zap G rv (show Za2 θ (.ref l)=some xs from h)
      cases e1
      simp only at e
      subst e
      refine ⟨fun i d e=>?_,⟨vs,SqL.of h1,by rw [h2.len]; exact Nat.le_refl _⟩⟩
      obtain ⟨v,q1,q2⟩:=h2.get e
      refine ⟨⟨vs,v,SqL.of h1,q1⟩,fun x H' y=>⟨y.1,?_⟩⟩
      have:=y.2 vs (SqL.of h1)
      rw [q1] at this
      cases this
      exact q2
    | non=>cases h
    | bl _=>cases h
    | int _=>cases h
    | str _=>cases h
    | ty _=>cases h
def ZzH (K:PySem.W.Frag) (tl:TE):TI:=fun σ H R=>tl σ H fun x H1=>∃a,x=.ref a∧(((∃xs,SqL K H1 a xs)∧R (Itl K a) H1)∨((∃xs,SqT K H1 a xs)∧R (Itt K a) H1))
theorem Zt8 {tg l:Expr} {tl:TE} (hl:PE X l tl):PI X tg l (ZzH X.K tl):=by
  intro pins s σ H R I h
  refine thn (hl pins s σ H _ I h) fun v s1 ⟨x,H1,I1,r1,q1⟩=>?_
  obtain ⟨a,e,q1⟩:=q1
  subst e
  cases r1
  rcases q1 with ⟨⟨xs,hq⟩,q⟩ | ⟨⟨xs,hq⟩,q⟩
  · obtain ⟨its,rv,p,hz⟩:=I1.list hq
    refine wpAny_pyIter_list p.isList ?_
    refine ⟨s1.heap.objs.size,[s1.heap.objs.size],_,_,H1,rfl,I1.kept (t':=s1.toks) fun b o e=>Heap.get?_push_of_some _ e,Znz a _,⟨_,Heap.get?_push_size _ rfl,rfl,rfl⟩,fun b hb=>?_,q⟩
    have e:b=s1.heap.objs.size:=by simpa using hb
    subst e
    exact I1.fpOk (Nat.le_refl _) (I1.hok.fresh (Nat.le_refl _))
  · obtain ⟨its,rv,p,hz⟩:=I1.tuple hq
    refine wpAny_pyIter_tuple (show s1.heap.IsTuple a its.toArray from p) ?_
    refine ⟨s1.heap.objs.size,[s1.heap.objs.size],_,_,H1,rfl,I1.kept (t':=s1.toks) fun b o e=>Heap.get?_push_of_some _ e,Zmd a _,⟨_,Heap.get?_push_size _ rfl,rfl,rfl⟩,fun b hb=>?_,q⟩
    have e:b=s1.heap.objs.size:=by simpa using hb
    subst e
    exact I1.fpOk (Nat.le_refl _) (I1.hok.fresh (Nat.le_refl _))
def mIn (f:EM):IM:=fun ρ θ=>(f ρ θ).bind fun d θ=>match seqOf θ d with
  | some _=>.ok (.seq d) θ
  | none=>.bad
theorem Zmp {tg l:Expr} {f:EM} (h:ME X l f):MI X tg l (mIn f):=by
  refine PI.imp (Zt8 h) fun σ H R q=>?_
  obtain ⟨B,θ,ρ,F,w⟩:=q
  refine zd (step F w) ?_
  rintro v H1 ⟨B1,θ1,d,E1,F1,rd,w1⟩
  split at w1
  · rename_i xs e
    obtain ⟨a,vs,rfl,h1,h2⟩:=Zdc F1.good rd e
    refine ⟨a,rfl,?_⟩
    have fin:=fun J (hJ:SrcRep X.K B1 H1 (.seq d) J)=>ZS (Rel:=SrcRep X.K) F1.good hJ w1
    cases d with
    | tup ys=>
      obtain ⟨a',us,e1,g1,_,_⟩:=id rd
      cases e1
      exact .inr ⟨⟨us,SqT.of g1⟩,fin _ ⟨a,rd,rfl⟩⟩
    | scr ns=>
      have hS:SqL X.K H1 a (ns.map V.int):=by
        obtain ⟨a',e1,g1⟩:=id rd
        cases e1
        rcases g1 with ⟨o,g1,_⟩ | g1
        · exact .inl (.inr ⟨o,g1⟩)
        · exact .inr (F1.good.kc a ns g1)
      exact .inl ⟨⟨_,hS⟩,fin _ ⟨a,rd,rfl⟩⟩
    | lst ys=>
      obtain ⟨a',us,e1,g1,_⟩:=Zap F1.good rd (show Za2 θ1 (.lst ys)=some xs from e)
      cases e1
      exact .inl ⟨⟨us,SqL.of g1⟩,fin _ ⟨a,rd,rfl⟩⟩
    | ref l=>
      obtain ⟨a',us,e1,g1,_⟩:=Zap F1.good rd (show Za2 θ1 (.ref l)=some xs from e)
      cases e1
      exact .inl ⟨⟨us,SqL.of g1⟩,fin _ ⟨a,rd,rfl⟩⟩
    | non=>cases e
    | bl _=>cases e
    | int _=>cases e
    | str _=>cases e
    | ty _=>cases e
  · exact w1.elim
def ZcC (f:AM):IM:=fun ρ θ=>(f ρ θ).bind fun ds θ=>match ds with
  | [.int j]=>if -1000000≤j∧j≤1000000 then .ok (.rng 0 j.toNat) θ else .bad
  | _=>.bad
theorem Zc8 {tg a:Expr} {f:AM} {p pos:Pos} (hm:X.mg "range"=none) (ha:MA X [a] f) (hg:Gl X "range":=by rfl) (hs:starEach [a] X.env=[(false,eval a X.env)]:=by rfl):MI X tg (.Call (.Name "range" p) [a] [] pos) (ZcC f):=by
  refine PI.imp (ZnL hg hm ha hs) fun σ H R q=>?_
  obtain ⟨B,θ,ρ,F,w⟩:=q
  refine Zb2 (ZhC F w) ?_
  rintro vs H1 ⟨B1,θ1,ds,E1,F1,rd,w1⟩
  split at w1
  · rename_i j
    split at w1
    · rename_i hj
      obtain ⟨v,rfl,rv⟩:=rd.one
      cases (show v=V.int j from rv)
      exact ⟨j,rfl,by have:=hj.1; omega,by have:=hj.2; omega,ZS (Rel:=SrcRep X.K) F1.good (show SrcRep X.K B1 H1 (.rng 0 j.toNat) _ from rfl) w1⟩
    · exact w1.elim
  · exact w1.elim
def ZeQ (src:List Nat) (ρ:List Sl) (x:D):List Sl:=Sl.val x::src.map fun (j:Nat)=>match ρ[j]? with
  | some (Sl.val d)=>Sl.val d
  | _=>Sl.no
theorem Frm.inner {B:Bx} {θ:Sto} {ρ:List Sl} {σ:St} {H:Hp} (F:Frm X.cl B θ ρ σ H) (src:List Nat) {x:D} {v:V} (r:RepV B H x v):Frm X.cl B θ (ZeQ src ρ x) (L2.inner src σ (some v)) H:=by
  have key:∀(i:Nat) (s:Sl),(ZeQ src ρ x)[i]?=some s→s=.no∨∃d,s=.val d∧∃v',(L2.inner src σ (some v))[i]?=some (some v')∧RepV B H d v':=fun i s e=>by
    cases i with
    | zero=>simp [ZeQ] at e; subst e; exact .inr ⟨x,rfl,v,by simp [L2.inner],r⟩
    | succ i=>
      simp only [ZeQ,List.getElem?_cons_succ,List.getElem?_map] at e
      simp only [L2.inner,List.getElem?_cons_succ,List.getElem?_map]
      cases q:src[i]? with
      | none=>rw [q] at e; cases e
      | some j=>
        rw [q] at e
        simp only [Option.map_some,Option.some.injEq] at e
        split at e
        · rename_i d ed
          subst e
          obtain ⟨v',h1,h2⟩:=F.val j d ed
          exact .inr ⟨d,rfl,v',by simp [h1],h2⟩
        · exact .inl e.symm
  refine ⟨F.good,by simp [ZeQ,L2.inner],fun i d e=>?_,fun i xs e=>?_,fun i j xs ys a _ e _=>?_⟩
  · rcases key i _ e with z | ⟨d',z,v',h1,h2⟩
    · cases z
    · cases z; exact ⟨v',h1,h2⟩
  · rcases key i _ e with z | ⟨d',z,_⟩<;>cases z
  · rcases key i _ e with z | ⟨d',z,_⟩<;>cases z
open Classical in
def Zg1 (S:Src) (all:List D) (elt:D→Sto→R D):List D→List D→Sto→R D
  | [],acc,θ=>if S.items θ=some all∧acc.length≤BIG then .ok (.lst acc) θ else .bad
  | x::r,acc,θ=>if S.items θ=some all then (elt x θ).bind fun y θ=>Zg1 S all elt r (acc++[y]) θ else .bad
def ZeN (fi:IM) (src:List Nat) (elt:EM):EM:=fun ρ θ=>(fi ρ θ).bind fun S θ=>match S.items θ with
  | some xs=>if xs.length≤BIG then Zg1 S xs (fun x θ=>elt (ZeQ src ρ x) θ) xs [] θ else .bad
  | none=>.bad
open Classical in
theorem ZmU {fi:IM} {src:List Nat} {elt:EM} (σ:St) (H:Hp) (Q:VK) (h:tM X (ZeN fi src elt) σ H Q):tLc (tMI X fi) src (tM X elt) σ H Q:=by
  obtain ⟨B,θ,ρ,F,w⟩:=h
  refine ⟨B,θ,ρ,F,(wpR.bind (Rel:=SrcRep X.K) w).mono ?_⟩
  rintro J H1 ⟨B1,θ1,S,E1,G1,rJ,w1⟩
  split at w1
  · rename_i xs e1
    split at w1
    · rename_i hz
      refine ⟨xs.length,fun i ys H'=>∃B' θ' acc,ExtE B1 B' H1 H'∧Good X.cl B' θ' H'∧RepL B' H' acc ys∧wpR X σ RepV B' H' (Zg1 S xs (fun x θ=>elt (ZeQ src ρ x) θ) (xs.drop i) acc θ') Q,ZaA hz,?_,?_,?_⟩
      · exact ⟨B1,θ1,[],ExtE.refl _ _,G1,rfl,w1⟩
      · rintro i ys H' hi ⟨B2,θ2,acc,E2,G2,racc,w2⟩
        rw [List.drop_eq_getElem_cons hi] at w2
        unfold Zg1 at w2
        split at w2
        · rename_i e2
          obtain ⟨g1,g2⟩:=(Zjm G2 (rJ.ext E2.toExtS) e2).1 i xs[i] (List.getElem?_eq_getElem hi)
          refine ⟨g1,fun y H3 hy=>?_⟩
          obtain ⟨rfl,ry⟩:=g2 y H3 hy
          have F2:=(F.ext (E1.trans E2) G2).inner src ry
          refine ⟨B2,θ2,_,F2,(wpR.bind (Rel:=RepV) w2).mono ?_⟩
          rintro z H4 ⟨B4,θ4,d,E4,G4,rd,w4⟩
          exact ⟨B4,θ4,acc++[d],E2.trans E4,G4,(racc.ext E4.toExtS).app ⟨z,[],rfl,rd,rfl⟩,w4⟩
        · exact w2.elim
      · rintro ys H' ⟨B2,θ2,acc,E2,G2,racc,w2⟩
        rw [List.drop_length] at w2
        unfold Zg1 at w2
        split at w2
        · rename_i e2
          exact ⟨(Zjm G2 (rJ.ext E2.toExtS) e2.1).2,ZfA G2 racc w2⟩
        · exact w2.elim
    · exact w1.elim
  · exact w1.elim
theorem Zv9 {x:Str} {px pos:Pos} {iter elt:Expr} {scope:Scope} {N':List Str} {src:List Nat} {sc:Scope} {N:List Str} {fi:IM} {fe:EM} (S:ZbB scope sc x N N' src) (hsc:X.env.scope=sc) (hN:X.N=N) (hi:MI X (.Name x px) iter fi)
    (helt:∀(cl:List (Str×Addr)) (C:Addr) (s₀:Shared) (H₀:Hp) (fp:List Addr),ME (X.comp scope N' cl C s₀ H₀ fp) elt fe) (hcm:X.calm=true:=by rfl) (hs:∀v,foldedSetIterable iter X.env v=pure v:=by intro _; rfl) :
    ME X (.ListComp elt [⟨.Name x px,iter,[],0⟩] scope pos) (ZeN fi src fe):=
  PE.imp (ZvU (te:=tM X fe) S hsc hN hi (fun cl C s₀ H₀ fp=>helt cl C s₀ H₀ fp) hcm hs) ZmU
inductive Fl where
  | nx | rt (d:D) | bk | ct
abbrev SM:=List Sl→Sto→R (Fl×List Sl)
def Zth (Dn:Zfq) (B:Bx) (σ:St) (H:Hp):Fl→Prop
  | .nx=>Dn.nx σ H
  | .bk=>Dn.bk σ H
  | .ct=>Dn.ct σ H
  | .rt d=>∀v,RepV B H d v→Dn.rt v H
def wpS (X:Cx) (σ:St) (B:Bx) (H:Hp) (r:R (Fl×List Sl)) (Dn:Zfq):Prop:=match r with
  | .ok (fl,ρ') θ'=>∀B' H' σ',ExtS B B' H H'→Frm X.cl B' θ' ρ' σ' H'→Zth Dn B' σ' H' fl
  | .ex c θ'=>XE X σ B H c θ'
  | .bad=>False
def tMS (X:Cx) (f:SM):TS:=fun Dn σ H=>∃B θ ρ,Frm X.cl B θ ρ σ H∧wpS X σ B H (f ρ θ) Dn
def MS (X:Cx) (st:Stmt) (f:SM):Prop:=PS X st (tMS X f)
def MSs (X:Cx) (sts:List Stmt) (f:SM):Prop:=PSs X sts (tMS X f)
theorem PS.imp {st:Stmt} {t t':TS} (h:PS X st t) (hi:∀D σ H,t' D σ H→t D σ H):PS X st t':=fun pins s σ H D I q=>h pins s σ H D I (hi D σ H q)
theorem PSs.imp {st:List Stmt} {t t':TS} (h:PSs X st t) (hi:∀D σ H,t' D σ H→t D σ H):PSs X st t':=fun pins s σ H D I q=>h pins s σ H D I (hi D σ H q)
theorem wpS.trans {σ σ':St} {B B':Bx} {H H':Hp} {r:R (Fl×List Sl)} {Dn:Zfq} (h:wpS X σ B H r Dn) (E:ExtS B B' H H'):wpS X σ' B' H' r Dn:=by
  cases r with
  | ok a θ'=>exact fun B2 H2 σ2 e g=>h B2 H2 σ2 (E.trans e) g
  | ex c θ'=>exact h
  | bad=>exact h
theorem wpS.bind {α β:Type} {Rel:Bx→Hp→α→β→Prop} {σ:St} {B:Bx} {H:Hp} {r:R α} {k:α→Sto→R (Fl×List Sl)} {Dn:Zfq} (h:wpS X σ B H (r.bind k) Dn) :
    wpR X σ Rel B H r (fun b H1=>∃B1 θ1 a,ExtE B B1 H H1∧Good X.cl B1 θ1 H1∧Rel B1 H1 a b∧wpS X σ B1 H1 (k a θ1) Dn):=by
  cases r with
  | ok a θ'=>exact fun B1 H1 b E g q=>⟨B1,θ',a,E,g,q,wpS.trans h E.toExtS⟩
  | ex c θ'=>exact h
  | bad=>exact h
theorem ZhB {σ:St} {H:Hp} {B:Bx} {θ:Sto} {ρ:List Sl} {f:EM} {k:D→Sto→R (Fl×List Sl)} {Dn:Zfq} (F:Frm X.cl B θ ρ σ H) (h:wpS X σ B H ((f ρ θ).bind k) Dn) :
    tM X f σ H (fun v H1=>∃B1 θ1 d,ExtE B B1 H H1∧Frm X.cl B1 θ1 ρ σ H1∧RepV B1 H1 d v∧wpS X σ B1 H1 (k d θ1) Dn):=
  ⟨B,θ,ρ,F,(wpS.bind (Rel:=RepV) h).mono fun v H1 ⟨B1,θ1,d,E,G,r,w⟩=>⟨B1,θ1,d,E,F.ext E G,r,w⟩⟩
theorem ZpO {σ:St} {H:Hp} {B:Bx} {θ:Sto} {ρ:List Sl} {f:TMr} {k:Bool→Sto→R (Fl×List Sl)} {Dn:Zfq} (F:Frm X.cl B θ ρ σ H) (h:wpS X σ B H ((f ρ θ).bind k) Dn) :
    tMT X f σ H (fun c H1=>∃B1 θ1,ExtE B B1 H H1∧Frm X.cl B1 θ1 ρ σ H1∧wpS X σ B1 H1 (k c θ1) Dn):=
  ⟨B,θ,ρ,F,(wpS.bind (Rel:=EqB) h).mono fun v H1 ⟨B1,θ1,d,E,G,r,w⟩=>by cases (show d=v from r); exact ⟨B1,θ1,E,F.ext E G,w⟩⟩
theorem Zd1 {σ:St} {B:Bx} {H:Hp} {θ:Sto} {ρ:List Sl} {fl:Fl} {Dn:Zfq} (F:Frm X.cl B θ ρ σ H) (h:wpS X σ B H (.ok (fl,ρ) θ) Dn):Zth Dn B σ H fl:=h B H σ (ExtS.refl B H) F
def ZN:SM:=fun ρ θ=>.ok (.nx,ρ) θ
def Zhx (r:R (Fl×List Sl)) (k:SM):R (Fl×List Sl):=r.bind fun p θ=>match p with
  | (.nx,ρ)=>k ρ θ
  | p=>.ok p θ
def Zr (f g:SM):SM:=fun ρ θ=>Zhx (f ρ θ) g
theorem ZA:MSs X [] ZN:=PSs.imp ZrX fun D σ H h=>by
  obtain ⟨B,θ,ρ,F,w⟩:=h
  exact Zd1 F w
theorem wpS.seq {σ:St} {B:Bx} {H:Hp} {r:R (Fl×List Sl)} {g:SM} {Dn:Zfq} (w:wpS X σ B H (Zhx r g) Dn):wpS X σ B H r { Dn with nx:=tMS X g Dn }:=by
  cases r with
  | ex c θ'=>exact w
  | bad=>exact w
  | ok p θ'=>
    obtain ⟨fl,ρ'⟩:=p
    intro B' H' σ' E F
    cases fl with
    | nx=>exact ⟨B',θ',ρ',F,wpS.trans w E⟩
    | bk=>exact w B' H' σ' E F
    | ct=>exact w B' H' σ' E F
    | rt d=>exact w B' H' σ' E F
theorem Ze {st:Stmt} {rest:List Stmt} {f g:SM} (h1:MS X st f) (h2:MSs X rest g):MSs X (st::rest) (Zr f g):=PSs.imp (ZpW h1 h2) fun D σ H h=>by
  obtain ⟨B,θ,ρ,F,w⟩:=h
  exact ⟨B,θ,ρ,F,wpS.seq w⟩
theorem Zj {st:Stmt} {f:SM} (h1:MS X st f):MSs X [st] f:=ZrW h1
def Zsp:SM:=fun _ _=>.bad
theorem Zqs {st:Stmt}:MS X st Zsp:=fun _ _ _ _ _ _ h=>by obtain ⟨_,_,_,_,w⟩:=h; exact w.elim
def zn (f:EM):SM:=fun ρ θ=>(f ρ θ).bind fun _ θ=>.ok (.nx,ρ) θ
theorem ZP {e:Expr} {f:EM} {pos:Pos} (he:ME X e f) (hs:swapsWith e none pos.line X.env=pure false:=by rfl):MS X (.Expr e pos) (zn f):=PS.imp (Zm1 he hs) fun D σ H h=>by
  obtain ⟨B,θ,ρ,F,w⟩:=h
  refine zd (ZhB F w) ?_
  rintro v H1 ⟨B1,θ1,d,E1,F1,rd,w1⟩
  exact Zd1 F1 w1
def ZM (f:EM):SM:=fun ρ θ=>(f ρ θ).bind fun d θ=>.ok (.rt d,ρ) θ
theorem Zw {e:Expr} {f:EM} {pos:Pos} (he:ME X e f):MS X (.Return (some e) pos) (ZM f):=PS.imp (Zt3 he) fun D σ H h=>by
  obtain ⟨B,θ,ρ,F,w⟩:=h
  refine zd (ZhB F w) ?_
  rintro v H1 ⟨B1,θ1,d,E1,F1,rd,w1⟩
  exact Zd1 F1 w1 v rd
def Zf3:SM:=fun ρ θ=>.ok (.rt .non,ρ) θ
theorem Zeb {pos:Pos}:MS X (.Return none pos) Zf3:=PS.imp ZrY fun D σ H h=>by
  obtain ⟨B,θ,ρ,F,w⟩:=h
  exact Zd1 F w .non rfl
def mIf (t:TMr) (f g:SM):SM:=fun ρ θ=>(t ρ θ).bind fun k θ=>if k=true then f ρ θ else g ρ θ
theorem ZI {c:Expr} {a b:List Stmt} {t:TMr} {f g:SM} {pos:Pos} (hc:MT X c t) (ha:MSs X a f) (hb:MSs X b g):MS X (.If c a b pos) (mIf t f g):=PS.imp (ZvO hc ha hb) fun D σ H h=>by
  obtain ⟨B,θ,ρ,F,w⟩:=h
  refine ZdK (ZpO F w) ?_
  rintro k H1 ⟨B1,θ1,E1,F1,w1⟩
  cases k with
  | true=>rw [if_pos rfl] at w1 ⊢; exact ⟨B1,θ1,ρ,F1,w1⟩
  | false=>rw [if_neg Bool.false_ne_true] at w1 ⊢; exact ⟨B1,θ1,ρ,F1,w1⟩
theorem Frm.set {B:Bx} {θ:Sto} {ρ:List Sl} {σ:St} {H:Hp} (F:Frm X.cl B θ ρ σ H) (i:Nat) {d:D} {v:V} (r:RepV B H d v):Frm X.cl B θ (ρ.set i (.val d)) (σ.set i (some v)) H:=by
  have oth:∀(j:Nat) (s:Sl),(ρ.set i (Sl.val d))[j]?=some s→(j=i∧s=.val d∧j < σ.length)∨(j≠i∧ρ[j]?=some s):=fun j s e=>by
    by_cases q:j=i
    · subst q
      have hl:j < ρ.length:=by
        have:=(List.getElem?_eq_some_iff.mp e).1
        simpa using this
      rw [List.getElem?_set_self hl] at e
      cases e
      exact .inl ⟨rfl,rfl,by rw [←F.len]; exact hl⟩
    · rw [List.getElem?_set_ne (Ne.symm q)] at e
      exact .inr ⟨q,e⟩
  refine ⟨F.good,by simp [F.len],fun j e h=>?_,fun j xs h=>?_,fun j k xs ys a hne h1 h2 h3=>?_⟩
  · rcases oth j _ h with ⟨rfl,z,hl⟩ | ⟨q,z⟩
    · cases z; exact ⟨v,by rw [List.getElem?_set_self hl],r⟩
    · rw [List.getElem?_set_ne (Ne.symm q)]; exact F.val j e z
  · rcases oth j _ h with ⟨rfl,z,hl⟩ | ⟨q,z⟩
    · cases z
    · rw [List.getElem?_set_ne (Ne.symm q)]; exact F.own j xs z
  · rcases oth j _ h1 with ⟨_,z,_⟩ | ⟨q1,z1⟩
    · cases z
    · rcases oth k _ h2 with ⟨_,z,_⟩ | ⟨q2,z2⟩
      · cases z
      · rw [List.getElem?_set_ne (Ne.symm q1)] at h3
        rw [List.getElem?_set_ne (Ne.symm q2)]
        exact F.ne j k xs ys a hne z1 z2 h3
def ZQ (i:Nat) (f:EM):SM:=fun ρ θ=>(f ρ θ).bind fun d θ=>.ok (.nx,ρ.set i (.val d)) θ
theorem ZE (i:Nat) {x:Str} {e:Expr} {f:EM} {pos pos':Pos} (hN:X.N.Nodup) (he:ME X e f) (hi:X.N[i]?=some x:=by rfl) (hx:Loc X.env.scope x:=by first | exact Or.inl rfl | exact Or.inr rfl)
    (hs:swapsWith e (some (.Name x pos')) pos.line X.env=pure false:=by rfl) (hf:X.fn x=true∨X.env.scope.names.lookup x=some .local:=by first | exact .inl rfl | exact .inr rfl):MS X (.Assign [.Name x pos'] e pos) (ZQ i f):=
  PS.imp (ZpY hN hi hx he hs hf) fun D σ H h=>by
  obtain ⟨B,θ,ρ,F,w⟩:=h
  refine zd (ZhB F w) ?_
  rintro v H1 ⟨B1,θ1,d,E1,F1,rd,w1⟩
  exact w1 B1 H1 _ (ExtS.refl _ _) (F1.set i rd)
theorem ZlF (i:Nat) {x y:Str} {px py pos spos:Pos} {iter elt:Expr} {scope:Scope} {N':List Str} {src:List Nat} {sc:Scope} {N:List Str} {fi:IM} {fe:EM} (hnd:X.N.Nodup) (S:ZbB scope sc x N N' src) (hsc:X.env.scope=sc) (hN:X.N=N) (hi:MI X (.Name x px) iter fi)
    (helt:∀(cl:List (Str×Addr)) (C:Addr) (s₀:Shared) (H₀:Hp) (fp:List Addr),ME (X.comp scope N' cl C s₀ H₀ fp) elt fe) (hi':X.N[i]?=some y:=by rfl)
    (hsw:swapsWith (.ListComp elt [⟨.Name x px,iter,[],0⟩] scope pos) (some (.Name y py)) spos.line X.env=pure true:=by rfl)
    (hy:X.env.scope.names.lookup y=some .local:=by rfl) (hcm:X.calm=true:=by rfl) (hs:∀v,foldedSetIterable iter X.env v=pure v:=by intro _; rfl) :
    MS X (.Assign [.Name y py] (.ListComp elt [⟨.Name x px,iter,[],0⟩] scope pos) spos) (ZQ i (ZeN fi src fe)):=
  PS.imp (ZvN (te:=tM X fe) hnd hi' S hsc hN hi (fun cl C s₀ H₀ fp=>helt cl C s₀ H₀ fp) hsw hy hcm hs) fun D σ H h=>by
  obtain ⟨B,θ,ρ,F,w⟩:=h
  refine ZmU σ H _ (zd (ZhB F w) ?_)
  rintro v H1 ⟨B1,θ1,d,E1,F1,rd,w1⟩
  exact w1 B1 H1 _ (ExtS.refl _ _) (F1.set i rd)
end
end
end L2.MM
namespace L2.MM
open PySem PySem.Spec PyProof.Rows PySem.SeqAt
noncomputable section
variable {X:Cx}
def Zfu (k:SM):Fl×List Sl→Sto→R (Fl×List Sl)
  | (.nx,ρ),θ=>k ρ θ
  | (.ct,ρ),θ=>k ρ θ
  | (.bk,ρ),θ=>.ok (.nx,ρ) θ
  | (.rt d,ρ),θ=>.ok (.rt d,ρ) θ
theorem wpS.loop {σ:St} {B:Bx} {H:Hp} {r:R (Fl×List Sl)} {k:SM} {Dn:Zfq} (w:wpS X σ B H (r.bind (Zfu k)) Dn) :
    wpS X σ B H r { Dn with nx:=fun σ' H'=>∃B' θ' ρ',ExtS B B' H H'∧Frm X.cl B' θ' ρ' σ' H'∧wpS X σ' B' H' (k ρ' θ') Dn,ct:=fun σ' H'=>∃B' θ' ρ',ExtS B B' H H'∧Frm X.cl B' θ' ρ' σ' H'∧wpS X σ' B' H' (k ρ' θ') Dn,bk:=Dn.nx }:=by
  cases r with
  | ex c θ'=>exact w
  | bad=>exact w
  | ok p θ'=>
    obtain ⟨fl,ρ'⟩:=p
    intro B' H' σ' E F
    cases fl with
    | nx=>exact ⟨B',θ',ρ',E,F,wpS.trans w E⟩
    | ct=>exact ⟨B',θ',ρ',E,F,wpS.trans w E⟩
    | bk=>exact w B' H' σ' E F
    | rt d=>exact w B' H' σ' E F
abbrev TgM:=D→List Sl→Option (List Sl)
def tMG (X:Cx) (g:TgM):TG:=fun v σ H Q=>∃B θ ρ d ρ',Frm X.cl B θ ρ σ H∧RepV B H d v∧g d ρ=some ρ'∧∀σ',Frm X.cl B θ ρ' σ' H→Q σ' H
def MG (X:Cx) (tg:Expr) (g:TgM):Prop:=PG X tg (tMG X g)
theorem PG.imp {tg:Expr} {t t':TG} (h:PG X tg t) (hi:∀v σ H Q,t' v σ H Q→t v σ H Q):PG X tg t':=fun pins s σ H v u Q I r q=>h pins s σ H v u Q I r (hi v σ H Q q)
def gNm (i:Nat):TgM:=fun d ρ=>some (ρ.set i (.val d))
theorem Zfd (i:Nat) {x:Str} {pos:Pos} (hN:X.N.Nodup) (hi:X.N[i]?=some x:=by rfl) (hx:Loc X.env.scope x:=by first | exact Or.inl rfl | exact Or.inr rfl) (hf:X.fn x=true∨X.env.scope.names.lookup x=some .local:=by first | exact .inl rfl | exact .inr rfl):MG X (.Name x pos) (gNm i):=
  PG.imp (ZfU hN hi hx hf) fun v σ H Q h=>by
  obtain ⟨B,θ,ρ,d,ρ',F,r,e,q⟩:=h
  cases e
  exact q _ (F.set i r)
open Classical in
def ZcR (S:Src) (all:List D) (tg:TgM) (body:SM):List D→SM
  | []=>fun ρ θ=>if S.items θ=some all then .ok (.nx,ρ) θ else .bad
  | x::r=>fun ρ θ=>if S.items θ=some all then (match tg x ρ with
    | none=>.bad
    | some ρ1=>(body ρ1 θ).bind (Zfu (ZcR S all tg body r))) else .bad
def ZdR (fi:IM) (tg:TgM) (body:SM):SM:=fun ρ θ=>(fi ρ θ).bind fun S θ=>match S.items θ with
  | some xs=>ZcR S xs tg body xs ρ θ
  | none=>.bad
open Classical in
theorem Zgy {tg iter:Expr} {body:List Stmt} {fi:IM} {g:TgM} {fb:SM} {pos:Pos} (hp:PassesOwn (model X.prog X.w) X.A X.env X.xe) (hi:MI X tg iter fi) (hg:MG X tg g) (hb:MSs X body fb) (hc:X.calm=true:=by rfl)
    (hs:∀x,foldedSetIterable iter X.env x=pure x:=by intro _; rfl):MS X (.For tg iter body [] pos) (ZdR fi g fb):=
  PS.imp (ZpZ hp hc hi hg hb hs) fun Dn σ H h=>by
  obtain ⟨B,θ,ρ,F,w⟩:=h
  refine ⟨B,θ,ρ,F,(wpS.bind (Rel:=SrcRep X.K) w).mono ?_⟩
  rintro J H1 ⟨B1,θ1,S,E1,G1,rJ,w1⟩
  split at w1
  · rename_i xs e1
    refine ⟨fun i m σ H=>∃B θ ρ,Frm X.cl B θ ρ σ H∧SrcRep X.K B H S J∧m=xs.length-i∧i≤xs.length∧wpS X σ B H (ZcR S xs g fb (xs.drop i) ρ θ) Dn,⟨xs.length,B1,θ1,ρ,F.ext E1 G1,rJ,rfl,Nat.zero_le _,w1⟩,?_⟩
    rintro i m σ2 H2 ⟨B2,θ2,ρ2,F2,rJ2,rfl,hi2,w2⟩
    by_cases hlt:i<xs.length
    · rw [List.drop_eq_getElem_cons hlt] at w2
      unfold ZcR at w2
      split at w2
      · rename_i e2
        obtain ⟨g1,g2⟩:=(Zjm F2.good rJ2 e2).1 i xs[i] (List.getElem?_eq_getElem hlt)
        split at w2
        · exact w2.elim
        · rename_i ρ3 e3
          refine .inr ⟨g1,fun σ' H'=>∃B' θ' ρ',ExtS B2 B' H2 H'∧Frm X.cl B' θ' ρ' σ' H'∧wpS X σ' B' H' (ZcR S xs g fb (xs.drop (i+1)) ρ' θ') Dn,?_,fun x H' hy=>?_⟩
          · rintro σ' H' ⟨B',θ',ρ',E',F',w'⟩
            exact ⟨xs.length-(i+1),by omega,B',θ',ρ',F',rJ2.ext E',rfl,hlt,w'⟩
          · obtain ⟨rfl,rx⟩:=g2 x H' hy
            refine ⟨B2,θ2,ρ2,xs[i],ρ3,F2,rx,e3,fun σ' F'=>⟨B2,θ2,ρ3,F',?_⟩⟩
            have w3:=wpS.loop w2
            exact wpS.trans w3 (ExtS.refl _ _)
      · exact w2.elim
    · have e:i=xs.length:=by omega
      subst e
      rw [List.drop_length] at w2
      unfold ZcR at w2
      split at w2
      · rename_i e2
        exact .inl ⟨(Zjm F2.good rJ2 e2).2,Zd1 F2 w2⟩
      · exact w2.elim
  · exact w1.elim
def ZcK (t:TMr) (body:SM):Nat→SM
  | 0=>Zsp
  | n+1=>fun ρ θ=>(t ρ θ).bind fun k θ=>if k=true then (body ρ θ).bind (Zfu (ZcK t body n)) else .ok (.nx,ρ) θ
theorem ZhQ (n:Nat) {c:Expr} {body:List Stmt} {t:TMr} {fb:SM} {pos:Pos} (hp:PassesOwn (model X.prog X.w) X.A X.env X.xe) (hc:MT X c t) (hb:MSs X body fb):MS X (.While c body [] pos) (ZcK t fb n):=
  PS.imp (ZpX hp hc hb) fun Dn σ H h=>by
  obtain ⟨B,θ,ρ,F,w⟩:=h
  refine ⟨fun m σ H=>∃B θ ρ,Frm X.cl B θ ρ σ H∧wpS X σ B H (ZcK t fb m ρ θ) Dn,⟨n,B,θ,ρ,F,w⟩,?_⟩
  rintro m σ2 H2 ⟨B2,θ2,ρ2,F2,w2⟩
  cases m with
  | zero=>exact w2.elim
  | succ m=>
    refine ZdK (ZpO F2 w2) ?_
    rintro k H3 ⟨B3,θ3,E3,F3,w3⟩
    cases k with
    | true=>
      rw [if_pos rfl] at w3 ⊢
      refine ⟨_,?_,⟨B3,θ3,ρ2,F3,wpS.loop w3⟩⟩
      rintro σ' H' ⟨B',θ',ρ',E',F',w'⟩
      exact ⟨m,Nat.lt_succ_self _,B',θ',ρ',F',w'⟩
    | false=>
      rw [if_neg Bool.false_ne_true] at w3 ⊢
      exact Zd1 F3 w3
theorem Frm.setOwn {cl:Mo} {B:Bx} {θ:Sto} {ρ:List Sl} {σ:St} {H:Hp} (F:Frm cl B θ ρ σ H) (i:Nat) {p:Addr} (hp:H p=none) {xs:List D} {vs:List V} (r:RepL B H xs vs) :
    ExtS B { B with os:=p::B.os } H (upd H p (.lst vs))∧Frm cl { B with os:=p::B.os } θ (ρ.set i (.own xs)) (σ.set i (some (.ref p))) (upd H p (.lst vs)):=by
  have E0:=Zc3 F.good hp (.lst vs)
  have G0:=ZeR F.good hp (.lst vs)
  have ok:=F.good.okNone hp
  have E:ExtS B { B with os:=p::B.os } H (upd H p (.lst vs)):=⟨E0.n,E0.m,E0.fr,E0.keep,E0.sm,fun a h=>by
    rcases List.mem_cons.mp h with rfl | h
    · exact .inr hp
    · exact .inl h,rfl,rfl⟩
  refine ⟨E,?_⟩
  have E1:ExtS B { B with os:=p::B.os } H (upd H p (.lst vs)):=E
  have G:Good cl { B with os:=p::B.os } θ (upd H p (.lst vs)):=⟨G0.len,G0.inj,fun j c e=>(F.good.cel j c e).ext E fun u q=>by rw [ZT (zl q hp)]; exact q,fun j hj=>⟨(G0.cF j hj).1,fun z=>by
      rcases List.mem_cons.mp z with z | z
      · exact ok.1 j hj z
      · exact (G0.cF j hj).2 z⟩,G0.Fs,fun a z=>by
      rcases List.mem_cons.mp z with rfl | z
      · rw [zJ]; simp
      · exact G0.oS a z,fun a z=>by
      rcases List.mem_cons.mp z with rfl | z
      · exact ok.2.1
      · exact G0.oF a z,G0.kc⟩
  have oth:∀(j:Nat) (s:Sl),(ρ.set i (Sl.own xs))[j]?=some s→(j=i∧s=.own xs∧j < σ.length)∨(j≠i∧ρ[j]?=some s):=fun j s e=>by
    by_cases q:j=i
    · subst q
      have hl:j < ρ.length:=by
        have:=(List.getElem?_eq_some_iff.mp e).1
        simpa using this
      rw [List.getElem?_set_self hl] at e
      cases e
      exact .inl ⟨rfl,rfl,by rw [←F.len]; exact hl⟩
    · rw [List.getElem?_set_ne (Ne.symm q)] at e
      exact .inr ⟨q,e⟩
  have old:∀j ys,ρ[j]?=some (Sl.own ys)→∀a,σ[j]?=some (some (V.ref a))→a≠p:=fun j ys h a e z=>by
    obtain ⟨a',us,q1,q2,q3,q4⟩:=F.own j ys h
    rw [e] at q1
    cases q1
    rw [z,hp] at q3
    cases q3
  refine ⟨G,by simp [F.len],fun j d h=>?_,fun j ys h=>?_,fun j k ys zs a hne h1 h2 h3=>?_⟩
  · rcases oth j _ h with ⟨_,z,_⟩ | ⟨q,z⟩
    · cases z
    · rw [List.getElem?_set_ne (Ne.symm q)]
      obtain ⟨v,q1,q2⟩:=F.val j d z
      exact ⟨v,q1,q2.ext E⟩
  · rcases oth j _ h with ⟨rfl,z,hl⟩ | ⟨q,z⟩
    · cases z
      exact ⟨p,vs,by rw [List.getElem?_set_self hl],List.mem_cons_self,zJ,r.ext E⟩
    · rw [List.getElem?_set_ne (Ne.symm q)]
      obtain ⟨a,us,q1,q2,q3,q4⟩:=F.own j ys z
      exact ⟨a,us,q1,List.mem_cons_of_mem _ q2,by rw [ZT (zl q3 hp)]; exact q3,q4.ext E⟩
  · rcases oth j _ h1 with ⟨rfl,z1,hl⟩ | ⟨q1,z1⟩
    · rcases oth k _ h2 with ⟨rfl,z2,_⟩ | ⟨q2,z2⟩
      · exact absurd rfl hne
      · rw [List.getElem?_set_self hl] at h3
        cases h3
        rw [List.getElem?_set_ne (Ne.symm q2)]
        exact fun z=>old k zs z2 _ z rfl
    · rw [List.getElem?_set_ne (Ne.symm q1)] at h3
      rcases oth k _ h2 with ⟨rfl,z2,hl⟩ | ⟨q2,z2⟩
      · rw [List.getElem?_set_self hl]
        intro z
        cases z
        exact old j ys z1 _ h3 rfl
      · rw [List.getElem?_set_ne (Ne.symm q2)]
        exact F.ne j k ys zs a hne z1 z2 h3
def Zhm (i:Nat) (f:AM):SM:=fun ρ θ=>(f ρ θ).bind fun xs θ=>if xs.length≤BIG then .ok (.nx,ρ.set i (.own xs)) θ else .bad
theorem ZpP {σ:St} {H:Hp} {B:Bx} {θ:Sto} {ρ:List Sl} {f:AM} {k:List D→Sto→R (Fl×List Sl)} {Dn:Zfq} (F:Frm X.cl B θ ρ σ H) (h:wpS X σ B H ((f ρ θ).bind k) Dn) :
    tMA X f σ H (fun v H1=>∃B1 θ1 d,ExtE B B1 H H1∧Frm X.cl B1 θ1 ρ σ H1∧RepL B1 H1 d v∧wpS X σ B1 H1 (k d θ1) Dn):=
  ⟨B,θ,ρ,F,(wpS.bind (Rel:=RepL) h).mono fun v H1 ⟨B1,θ1,d,E,G,r,w⟩=>⟨B1,θ1,d,E,F.ext E G,r,w⟩⟩
theorem ZiW (i:Nat) {x:Str} {es:List Expr} {f:AM} {pos pos' lpos:Pos} (hN:X.N.Nodup) (he:MA X es f) (hi:X.N[i]?=some x:=by rfl) (hx:Loc X.env.scope x:=by first | exact Or.inl rfl | exact Or.inr rfl)
    (hs:swapsWith (.List es lpos) (some (.Name x pos')) pos.line X.env=pure false:=by rfl) (hf:X.fn x=true∨X.env.scope.names.lookup x=some .local:=by first | exact .inl rfl | exact .inr rfl):MS X (.Assign [.Name x pos'] (.List es lpos) pos) (Zhm i f):=
  PS.imp (ZpY hN hi hx (Zp5 he) hs hf) fun D σ H h=>by
  obtain ⟨B,θ,ρ,F,w⟩:=h
  refine Zb2 (ZpP F w) ?_
  rintro vs H1 ⟨B1,θ1,xs,E1,F1,rd,w1⟩
  split at w1
  · rename_i hz
    refine ⟨by rw [rd.len]; exact ZaA hz,fun p hp=>?_⟩
    obtain ⟨E2,F2⟩:=F1.setOwn i hp rd
    exact w1 _ _ _ E2 F2
  · exact w1.elim
theorem Frm.updOwn {cl:Mo} {B:Bx} {θ:Sto} {ρ:List Sl} {σ:St} {H:Hp} (F:Frm cl B θ ρ σ H) {i:Nat} {xs ys:List D} {us:List V} {a:Addr} (h:ρ[i]?=some (Sl.own xs)) (ha:σ[i]?=some (some (.ref a))) (r:RepL B H ys us) :
    ExtS B B H (upd H a (.lst us))∧Frm cl B θ (ρ.set i (.own ys)) σ (upd H a (.lst us)):=by
  obtain ⟨a',vs,q1,q2,q3,q4⟩:=F.own i xs h
  rw [ha] at q1
  cases q1
  have hc:∀j,j<B.n→B.m j≠a:=fun j hj z=>(F.good.cF j hj).2 (by rw [z]; exact q2)
  have E:ExtS B B H (upd H a (.lst us)):=⟨Nat.le_refl _,fun _ _=>rfl,fun i h h'=>absurd h' (Nat.not_lt.mpr h),fun b o e _ hb=>by rw [ZT (fun z=>hb (by rw [z]; exact q2))]; exact e,fun b e=>by
    by_cases q:b=a
    · rw [q,zJ]; simp
    · rw [ZT q]; exact e,fun _ h=>.inl h,rfl,rfl⟩
  have hl:i < ρ.length:=(List.getElem?_eq_some_iff.mp h).1
  have oth:∀(j:Nat) (s:Sl),(ρ.set i (Sl.own ys))[j]?=some s→(j=i∧s=.own ys)∨(j≠i∧ρ[j]?=some s):=fun j s e=>by
    by_cases q:j=i
    · subst q
      rw [List.getElem?_set_self hl] at e
      cases e
      exact .inl ⟨rfl,rfl⟩
    · rw [List.getElem?_set_ne (Ne.symm q)] at e
      exact .inr ⟨q,e⟩
  refine ⟨E,⟨⟨F.good.len,F.good.inj,fun j c e=>(F.good.cel j c e).ext E fun u q=>by
      have hj:j<B.n:=by rw [←F.good.len]; exact (List.getElem?_eq_some_iff.mp e).1
      rw [ZT (hc j hj)]; exact q,F.good.cF,fun b z=>E.sm b (F.good.Fs b z),fun b z=>E.sm b (F.good.oS b z),F.good.oF,F.good.kc⟩,by simp [F.len],fun j d e=>?_,fun j zs e=>?_,fun j k zs ws b hne h1 h2 h3=>?_⟩⟩
  · rcases oth j _ e with ⟨_,z⟩ | ⟨_,z⟩
    · cases z
    · obtain ⟨v,p1,p2⟩:=F.val j d z
      exact ⟨v,p1,p2.ext E⟩
  · rcases oth j _ e with ⟨rfl,z⟩ | ⟨q,z⟩
    · cases z
      exact ⟨a,us,ha,q2,zJ,r.ext E⟩
    · obtain ⟨b,ws,p1,p2,p3,p4⟩:=F.own j zs z
      refine ⟨b,ws,p1,p2,?_,p4.ext E⟩
      rw [ZT (fun z'=>F.ne i j xs zs a (Ne.symm q) h z ha (by rw [←z']; exact p1))]
      exact p3
  · have o1:∃zs',ρ[j]?=some (Sl.own zs'):=by
      rcases oth j _ h1 with ⟨rfl,_⟩ | ⟨_,z⟩
      · exact ⟨xs,h⟩
      · exact ⟨_,z⟩
    have o2:∃ws',ρ[k]?=some (Sl.own ws'):=by
      rcases oth k _ h2 with ⟨rfl,_⟩ | ⟨_,z⟩
      · exact ⟨xs,h⟩
      · exact ⟨_,z⟩
    obtain ⟨zs',o1⟩:=o1
    obtain ⟨ws',o2⟩:=o2
    exact F.ne j k zs' ws' b hne o1 o2 h3
def Zeg (i:Nat) (f:EM):SM:=fun ρ θ=>(f ρ θ).bind fun d θ=>match ρ[i]? with
  | some (Sl.own xs)=>if xs.length<BIG then .ok (.nx,ρ.set i (.own (xs++[d]))) θ else .bad
  | _=>.bad
theorem ZiX (i:Nat) {x:Str} {e:Expr} {f:EM} {p apos pos pos':Pos} (he:ME X e f) (hN:X.N[i]?=some x:=by rfl) (hv:Vis X.env.scope x:=by first | exact Or.inl rfl | exact Or.inr (Or.inl rfl) | exact Or.inr (Or.inr rfl))
    (hd:(x == ("__debug__":Str))=false:=by decide) (hcd:(x == ("__classdict__":Str))=false:=by decide)
    (hpe:∀{to:TE},PE X (.Name x p) to→PE X (.Call (.Attribute (.Name x p) "append" apos) [e] [] pos) (tBM X.K "list" ZmY to (Zs1 (tM X f) ZtN)))
    (hs:swapsWith (.Call (.Attribute (.Name x p) "append" apos) [e] [] pos) none pos'.line X.env=pure false:=by rfl):MS X (.Expr (.Call (.Attribute (.Name x p) "append" apos) [e] [] pos) pos') (Zeg i f):=
  PS.imp (Zm1 (hpe (Zp2 hN hv hd hcd)) hs) fun D σ H h=>by
  obtain ⟨B,θ,ρ,F,w⟩:=h
  have own:∃xs,ρ[i]?=some (Sl.own xs):=by
    unfold Zeg at w
    cases q:f ρ θ with
    | bad=>rw [q] at w; exact w.elim
    | ex c θ'=>rw [q] at w; exact False.elim w
    | ok d θ'=>
      rw [q] at w
      simp only [R.bind_ok] at w
      split at w
      · rename_i xs e; exact ⟨xs,e⟩
      · exact w.elim
  obtain ⟨xs,hx⟩:=own
  obtain ⟨a,vs,q1,q2,q3,q4⟩:=F.own i xs hx
  refine ⟨.ref a,q1,.inl ⟨rfl,vs,SqL.of q3⟩,?_⟩
  refine zd (ZhB F w) ?_
  rintro y H1 ⟨B1,θ1,d,E1,F1,rd,w1⟩
  rw [hx] at w1
  simp only at w1
  split at w1
  · rename_i hz
    obtain ⟨a',us,p1,p2,p3,p4⟩:=F1.own i xs hx
    rw [q1] at p1
    cases p1
    refine ⟨a,us,y,rfl,rfl,p3,by rw [p4.len]; exact Nat.lt_of_lt_of_le hz (ZaA (Nat.le_refl _)),?_⟩
    obtain ⟨E2,F2⟩:=F1.updOwn hx q1 (p4.app (show RepL B1 H1 [d] [y] from ⟨y,[],rfl,rd,rfl⟩))
    exact w1 _ _ _ E2 F2
  · exact w1.elim
def Zee (i:Nat) (f:SM):SM:=fun ρ θ=>match ρ[i]? with
  | some (Sl.own xs)=>f (ρ.set i (.val (.lst xs))) θ
  | _=>f ρ θ
theorem Zmh {i:Nat} {f:SM} {D:Zfq} {σ:St} {H:Hp} (h:tMS X (Zee i f) D σ H):tMS X f D σ H:=by
  obtain ⟨B,θ,ρ,F,w⟩:=h
  unfold Zee at w
  split at w
  · rename_i xs hx
    obtain ⟨a,vs,q1,q2,q3,q4⟩:=F.own i xs hx
    let B':Bx:={ B with os:=B.os.filter fun b=>decide (b≠a) }
    have sub:∀b,b∈B'.os→b∈B.os∧b≠a:=fun b hb=>by
      have:=List.mem_filter.mp hb
      exact ⟨this.1,of_decide_eq_true this.2⟩
    have E:ExtS B B' H H:=⟨Nat.le_refl _,fun _ _=>rfl,fun i h h'=>absurd h' (Nat.not_lt.mpr h),fun _ _ e _ _=>e,fun _ e=>e,fun b hb=>.inl (sub b hb).1,rfl,rfl⟩
    have hc:∀j,j<B.n→B.m j≠a:=fun j hj z=>(F.good.cF j hj).2 (by rw [z]; exact q2)
    have G:Good X.cl B' θ H:=⟨F.good.len,F.good.inj,fun j c e=>(F.good.cel j c e).ext E fun _ q=>q,fun j hj=>⟨(F.good.cF j hj).1,fun z=>(F.good.cF j hj).2 (sub _ z).1⟩,F.good.Fs,fun b z=>F.good.oS b (sub b z).1,fun b z=>F.good.oF b (sub b z).1,F.good.kc⟩
    have rv:RepV B' H (.lst xs) (.ref a):=⟨a,vs,rfl,q3,⟨hc,F.good.oF a q2,fun z=>(sub a z).2 rfl⟩,q4.ext E⟩
    have hl:i < ρ.length:=(List.getElem?_eq_some_iff.mp hx).1
    have oth:∀(j:Nat) (s:Sl),(ρ.set i (Sl.val (.lst xs)))[j]?=some s→(j=i∧s=.val (.lst xs))∨(j≠i∧ρ[j]?=some s):=fun j s e=>by
      by_cases q:j=i
      · subst q
        rw [List.getElem?_set_self hl] at e
        cases e
        exact .inl ⟨rfl,rfl⟩
      · rw [List.getElem?_set_ne (Ne.symm q)] at e
        exact .inr ⟨q,e⟩
    refine ⟨B',θ,_,⟨G,by simp [F.len],fun j d e=>?_,fun j ys e=>?_,fun j k ys zs b hne h1 h2 h3=>?_⟩,wpS.trans w E⟩
    · rcases oth j _ e with ⟨rfl,z⟩ | ⟨_,z⟩
      · cases z; exact ⟨_,q1,rv⟩
      · obtain ⟨v,p1,p2⟩:=F.val j d z
        exact ⟨v,p1,p2.ext E⟩
    · rcases oth j _ e with ⟨_,z⟩ | ⟨q,z⟩
      · cases z
      · obtain ⟨b,ws,p1,p2,p3,p4⟩:=F.own j ys z
        refine ⟨b,ws,p1,List.mem_filter.mpr ⟨p2,decide_eq_true fun z'=>?_⟩,p3,p4.ext E⟩
        subst z'
        exact F.ne i j xs ys b (Ne.symm q) hx z q1 p1
    · rcases oth j _ h1 with ⟨_,z⟩ | ⟨_,z1⟩
      · cases z
      · rcases oth k _ h2 with ⟨_,z⟩ | ⟨_,z2⟩
        · cases z
        · exact F.ne j k ys zs b hne z1 z2 h3
  · exact ⟨B,θ,ρ,F,w⟩
theorem Zgx (i:Nat) {st:Stmt} {f:SM} (h:MS X st f):MS X st (Zee i f):=PS.imp h fun _ _ _ q=>Zmh q
def Zd3 (n:Nat) (ds:List D):List Sl:=ds.map Sl.val++List.replicate (n-ds.length) Sl.no
def ZR (np nn:Nat) (fb:SM):GM:=fun ds θ=>if ds.length=np then (fb (Zd3 nn ds) θ).bind fun p θ=>match p.1 with
  | .nx=>.ok .non θ
  | .rt d=>.ok d θ
  | _=>.bad
  else .bad
def spM (X:Mo) (f:GM):Sp:=fun vs H Q E=>∃B θ ds,B.os=[]∧Good X B θ H∧RepL B H ds vs∧(match f ds θ with
  | .ok d θ'=>∀B' H' v,ExtE B B' H H'→Good X B' θ' H'→RepV B' H' d v→Q v H'
  | .ex c θ'=>False
  | .bad=>False)
def Zo (P:Program) (w:World) (K:PySem.W.Frag) (mg:Str→Option Value) (base:Heap) (k:Nat) (x:Str) (f:GM):Prop:=∃ps,Def P w K mg base k x ps (spM ⟨Zad mg,K⟩ f)
theorem ZnF {cl:Mo} {B:Bx} {θ:Sto} {H:Hp} {ds:List D} {vs:List V} {N:List Str} {nn:Nat} (G:Good cl B θ H) (r:RepL B H ds vs) (hn:N.length=nn):Frm cl B θ (Zd3 nn ds) (Zes N vs) H:=by
  subst hn
  have hl:=r.len
  have key:∀(i:Nat) (s:Sl),(Zd3 N.length ds)[i]?=some s→s=.no∨∃d,s=.val d∧∃v,(Zes N vs)[i]?=some (some v)∧RepV B H d v:=fun i s e=>by
    unfold Zd3 at e
    by_cases q:i<ds.length
    · rw [List.getElem?_append_left (by simpa using q),List.getElem?_map,List.getElem?_eq_getElem q] at e
      cases e
      obtain ⟨v,h1,h2⟩:=r.get (List.getElem?_eq_getElem q)
      refine .inr ⟨_,rfl,v,?_,h2⟩
      unfold Zes
      rw [List.getElem?_append_left (by simpa [hl] using q),List.getElem?_map,h1]
      rfl
    · rw [List.getElem?_append_right (by simpa using q)] at e
      exact .inl (List.eq_of_mem_replicate (List.mem_of_getElem? e))
  refine ⟨G,by simp [Zd3,Zes,hl],fun i d e=>?_,fun i xs e=>?_,fun i j xs ys a _ e _=>?_⟩
  · rcases key i _ e with z | ⟨d',z,v',h1,h2⟩
    · cases z
    · cases z; exact ⟨v',h1,h2⟩
  · rcases key i _ e with z | ⟨d',z,_⟩<;>cases z
  · rcases key i _ e with z | ⟨d',z,_⟩<;>cases z
theorem mfn {P:Program} {w:World} {K:PySem.W.Frag} {mg:Str→Option Value} {base:Heap} {x qual:Str} {st:Stmt} {N ps:List Str} {k:Nat} {fb:SM} {f:Addr} {fd:FuncData} (F:Fun K x qual st f fd) (S:Zs N ps (Zg st)) (np nn:Nat) (hp:ps.length=np) (hn:N.length=nn)
    (hbody:∀(cdv:Value) (A:Around) (outer:List Env) (s:Shared) (H:Hp) (E:XK),Room k (A.deeper (envOfC qual (Zg st) s.heap.objs.size f cdv))→MSs (Zh7 CX0 P w K mg base N qual (Zg st) f cdv A outer s H E).nox (Zp st) fb) :
    FnOk P w K mg base CX0 (k+1) f fd ps (spM ⟨Zad mg,K⟩ (ZR np nn fb)):=by
  refine F.ok S ?_ ?_
  · rintro vs H Q E ⟨B,θ,ds,_,_,r,q⟩
    unfold ZR at q
    split at q
    · rename_i h
      split at h
      · rename_i hl; rw [r.len,hl,hp]
      · cases h
    · exact q.elim
    · exact q.elim
  · intro cdv A outer s H vs Q E hr h
    obtain ⟨B,θ,ds,hos,G,r,q⟩:=h
    refine ⟨tMS (Zh7 CX0 P w K mg base N qual (Zg st) f cdv A outer s H E).nox fb,hbody cdv A outer s H E hr,B,θ,Zd3 nn ds,ZnF G r hn,?_⟩
    unfold ZR at q
    by_cases hl:ds.length=np
    · rw [if_pos hl] at q
      cases e:fb (Zd3 nn ds) θ with
      | bad=>rw [e] at q; exact q.elim
      | ex c θ'=>rw [e] at q; exact q.elim
      | ok p θ'=>
        rw [e] at q
        obtain ⟨fl,ρ'⟩:=p
        intro B' H' σ' E' F'
        have hos':∀a,a∈B.os→False:=fun a ha=>by rw [hos] at ha; cases ha
        let B2:Bx:={ B' with os:=[] }
        have E2:ExtE B B2 H H':=⟨⟨E'.n,E'.m,E'.fr,E'.keep,E'.sm,fun a ha=>(nomatch ha),E'.F,E'.ks⟩,hos.symm,fun a o ha=>(hos' a ha).elim⟩
        have E3:ExtS B' B2 H' H':=⟨Nat.le_refl _,fun _ _=>rfl,fun i h h'=>absurd h' (Nat.not_lt.mpr h),fun _ _ e _ _=>e,fun _ e=>e,fun b hb=>(nomatch hb),rfl,rfl⟩
        have G2:Good ⟨Zad mg,K⟩ B2 θ' H':=⟨F'.good.len,F'.good.inj,fun j c e=>(F'.good.cel j c e).ext E3 fun _ q=>q,fun j hj=>⟨(F'.good.cF j hj).1,fun z=>nomatch z⟩,F'.good.Fs,fun b z=>(nomatch z),fun b z=>(nomatch z),F'.good.kc⟩
        cases fl with
        | nx=>exact q B2 H' .non E2 G2 rfl
        | rt d=>exact fun v rv=>q B2 H' v E2 G2 (rv.ext E3)
        | bk=>exact q.elim
        | ct=>exact q.elim
    · rw [if_neg hl] at q
      exact q.elim
theorem ZW {P:Program} {w:World} {K:PySem.W.Frag} {mg:Str→Option Value} {base:Heap} {x:Str} {st:Stmt} {N ps:List Str} {k:Nat} {fb:SM} (D0:Zl K mg x st ps) (S:Zs N ps (Zg st)) (np nn:Nat) (hp:ps.length=np) (hn:N.length=nn)
    (hbody:∀(f:Addr) (cdv:Value) (A:Around) (outer:List Env) (s:Shared) (H:Hp) (E:XK),Room k (A.deeper (envOfC x (Zg st) s.heap.objs.size f cdv))→MSs (Zh7 CX0 P w K mg base N x (Zg st) f cdv A outer s H E).nox (Zp st) fb):Zo P w K mg base (k+1) x (ZR np nn fb):=by
  obtain ⟨f,fd,F,b,m⟩:=D0
  exact ⟨ps,f,fd,mfn F S np nn hp hn (hbody f),b,F.kp,m⟩
def Bx.inC (B:Bx):Bx:={ B with F:=fun a=>B.F a∨a∈B.os,os:=[] }
theorem inC_ok {B:Bx} {a:Addr}:B.inC.ok a↔B.ok a:=by
  constructor
  · rintro ⟨h1,h2,h3⟩
    exact ⟨h1,fun z=>h2 (.inl z),fun z=>h2 (.inr z)⟩
  · rintro ⟨h1,h2,h3⟩
    exact ⟨h1,fun z=>z.elim h2 h3,fun z=>nomatch z⟩
mutual
theorem RepV.same {B B':Bx} {H:Hp} (hn:B'.n=B.n) (hm:B'.m=B.m) (hk:B'.ks=B.ks) (ho:∀a,B.ok a→B'.ok a):∀{d:D} {v:V},RepV B H d v→RepV B' H d v
  | .non,_,h=>h
  | .bl _,_,h=>h
  | .int _,_,h=>h
  | .str _,_,h=>h
  | .ty _,_,h=>h
  | .scr _,_,h=>by
    obtain ⟨a,e,h⟩:=h
    refine ⟨a,e,?_⟩
    rcases h with ⟨o,h,k⟩ | h
    · exact .inl ⟨o,h,ho a k⟩
    · exact .inr (by rw [hk]; exact h)
  | .tup _,_,h=>by obtain ⟨a,vs,e,h,k,l⟩:=h; exact ⟨a,vs,e,h,ho a k,RepL.same hn hm hk ho l⟩
  | .lst _,_,h=>by obtain ⟨a,vs,e,h,k,l⟩:=h; exact ⟨a,vs,e,h,ho a k,RepL.same hn hm hk ho l⟩
  | .ref l,_,h=>⟨by rw [hn]; exact h.1,by rw [hm]; exact h.2⟩
theorem RepL.same {B B':Bx} {H:Hp} (hn:B'.n=B.n) (hm:B'.m=B.m) (hk:B'.ks=B.ks) (ho:∀a,B.ok a→B'.ok a):∀{ds:List D} {vs:List V},RepL B H ds vs→RepL B' H ds vs
  | [],_,h=>h
  | _::_,_,h=>by obtain ⟨v,r,e,hv,hr⟩:=h; exact ⟨v,r,e,RepV.same hn hm hk ho hv,RepL.same hn hm hk ho hr⟩
end
theorem RepKV.same {κ:Type} {B B':Bx} {H:Hp} (hn:B'.n=B.n) (hm:B'.m=B.m) (hk:B'.ks=B.ks) (ho:∀a,B.ok a→B'.ok a):∀{ks:List (κ×D)} {vs:List (κ×V)},RepKV B H ks vs→RepKV B' H ks vs
  | _,_,.nil=>.nil
  | _,_,.cons h t=>.cons ⟨h.1,RepV.same hn hm hk ho h.2⟩ (RepKV.same hn hm hk ho t)
theorem CellOk.same {cl:Mo} {B B':Bx} {H:Hp} {a:Addr} {c:Cell} (hn:B'.n=B.n) (hm:B'.m=B.m) (hk:B'.ks=B.ks) (ho:∀a,B.ok a→B'.ok a) (k:CellOk cl B H a c):CellOk cl B' H a c:=by
  cases c with
  | lst xs=>obtain ⟨vs,e,r⟩:=k; exact ⟨vs,e,r.same hn hm hk ho⟩
  | dK kvs=>obtain ⟨vs,e,r⟩:=k; exact ⟨vs,e,r.same hn hm hk ho⟩
  | dT kvs=>obtain ⟨vs,e,r⟩:=k; exact ⟨vs,e,r.same hn hm hk ho⟩
  | ins C fs=>obtain ⟨dx,vs,e,r⟩:=k; exact ⟨dx,vs,e,r.same hn hm hk ho⟩
theorem ZqL {cl:Mo} {B:Bx} {θ:Sto} {H:Hp} (G:Good cl B θ H):Good cl B.inC θ H:=
  ⟨G.len,G.inj,fun i c e=>CellOk.same (B:=B) (B':=B.inC) rfl rfl rfl (fun a=>inC_ok.mpr) (G.cel i c e),fun i hi=>⟨fun z=>z.elim (G.cF i hi).1 (G.cF i hi).2,fun z=>nomatch z⟩,fun a z=>z.elim (G.Fs a) (G.oS a),fun a z=>(nomatch z),fun a z=>(nomatch z),G.kc⟩
theorem ZvX {cl:Mo} {B B':Bx} {θ θ':Sto} {H H':Hp} (G:Good cl B θ H) (E:ExtE B.inC B' H H') (G':Good cl B' θ' H') :
    ExtE B { B' with F:=B.F,os:=B.os } H H'∧Good cl { B' with F:=B.F,os:=B.os } θ' H'∧∀d v,RepV B' H' d v→RepV { B' with F:=B.F,os:=B.os } H' d v:=by
  have hF:B'.F=fun a=>B.F a∨a∈B.os:=E.F
  have ho:∀a,B'.ok a→Bx.ok { B' with F:=B.F,os:=B.os } a:=fun a ⟨h1,h2,h3⟩=>by
    rw [hF] at h2
    exact ⟨h1,fun z=>h2 (.inl z),fun z=>h2 (.inr z)⟩
  have keep:∀a o,H a=some o→(∀i,i<B.n→B.m i≠a)→H' a=some o:=fun a o h k=>E.keep a o h k (fun z=>nomatch z)
  refine ⟨⟨⟨E.n,E.m,E.fr,fun a o h k _=>keep a o h k,E.sm,fun a h=>.inl h,rfl,E.ks⟩,rfl,fun a o _ k h=>keep a o h k⟩,⟨G'.len,G'.inj,fun i c e=>CellOk.same (B:=B') (B':={ B' with F:=B.F,os:=B.os }) rfl rfl rfl ho (G'.cel i c e),fun i hi=>?_,fun a z=>E.sm a (G.Fs a z),fun a z=>E.sm a (G.oS a z),G.oF,G'.kc⟩,fun d v r=>RepV.same (B:=B') (B':={ B' with F:=B.F,os:=B.os }) rfl rfl rfl ho r⟩
  have:=(G'.cF i hi).1
  rw [hF] at this
  exact ⟨fun z=>this (.inl z),fun z=>this (.inr z)⟩
theorem Znq {f:GM} {σ:St} {B:Bx} {θ:Sto} {H:Hp} {ds:List D} {vs:List V} {Q:VK} {E:XK} (G:Good X.cl B θ H) (r:RepL B H ds vs) (w:wpR X σ RepV B H (f ds θ) Q):spM X.cl f vs H Q E:=by
  refine ⟨B.inC,θ,ds,rfl,ZqL G,RepL.same (B:=B) (B':=B.inC) rfl rfl rfl (fun a=>inC_ok.mpr) r,?_⟩
  cases e:f ds θ with
  | bad=>rw [e] at w; exact w
  | ex c θ'=>rw [e] at w; exact w
  | ok d θ'=>
    rw [e] at w
    intro B' H' v E' G' rv
    obtain ⟨h1,h2,h3⟩:=ZvX G E' G'
    exact w _ H' v h1 h2 (h3 d v rv)
theorem Zi {k j:Nat} {x:Str} {f:GM} {p pos:Pos} {e:Expr} {es:List Expr} {fs:AM} (D0:Zo X.prog X.w X.K X.mg X.base k x f) (hr:Room j X.A) (hj:k≤j) (ha:MA X (e::es) fs) (hg:Gl X x:=by rfl) (hdb:(x == ("__debug__":Str))=false:=by decide)
    (he:starEach (e::es) X.env=(false,eval e X.env)::starEach es X.env:=by rfl) (hpl:(backTo pos (starEach es X.env)).any (·.1)=false:=by rfl):ME X (.Call (.Name x p) (e::es) [] pos) (mCB f fs):=by
  obtain ⟨ps,D0⟩:=D0
  refine PE.imp (Zqb D0 hr hj ha hg hdb he hpl) fun σ H Q h=>?_
  obtain ⟨B,θ,ρ,F,w⟩:=h
  refine Zb2 (ZhC F w) ?_
  rintro vs H1 ⟨B1,θ1,ds,E1,F1,rd,w1⟩
  rw [List.append_nil]
  exact Znq F1.good rd w1
end
end L2.MM
namespace L2.MM
open PySem PySem.Spec PyProof.Rows PySem.SeqAt
noncomputable section
def ZmW (K:PySem.W.Frag):Sp:=fun vs H Q _=>∃(a:Addr) (ns:List Int),vs=[.ref a]∧ZsM H∧SqL K H a (ns.map V.int)∧ns.length≤63∧∀H',Q (.bl true) H'
theorem Zsq {P:Program} {w:World} {K:PySem.W.Frag} {mg:Str→Option Value} {base:Heap} {k:Nat} {f:Addr} {fd:FuncData} {ps:List Str} {g:GM} (h:∀ns:List Int,ns.length≤63→∃θ',g [.scr ns] []=.ok (.bl true) θ')
    (F:FnOk P w K mg base CX0 k f fd ps (spM ⟨Zad mg,K⟩ g)):FnOk P w K mg base CX0 k f fd ps (ZmW K):=by
  refine F.imp ?_
  rintro vs H Q E ⟨a,ns,rfl,hO,hS,hl,q⟩
  obtain ⟨θ',e⟩:=h ns hl
  refine ⟨⟨0,fun _=>0,fun _=>False,[],KL K⟩,[],[.scr ns],rfl,⟨rfl,fun i j hi=>absurd hi (Nat.not_lt_zero _),fun i c h=>by simp at h,fun i hi=>absurd hi (Nat.not_lt_zero _),fun a h=>h.elim,fun a h=>(nomatch h),fun a h=>(nomatch h),fun a ns h=>h⟩,?_,?_⟩
  · refine ⟨.ref a,[],rfl,⟨a,rfl,?_⟩,rfl⟩
    rcases hS with (h1 | ⟨o,h1⟩) | h1
    · rcases hO a with z | ⟨o,xs,z⟩
      · rw [z] at h1; cases h1
      · rw [z] at h1; cases h1
    · exact .inl ⟨o,h1,fun i hi=>absurd hi (Nat.not_lt_zero _),fun z=>z,fun z=>(nomatch z)⟩
    · exact .inr h1
  · rw [e]
    intro B' H' v _ _ rv
    cases (show v=V.bl true from rv)
    exact q H'
end
end L2.MM
namespace L2.MM
open PySem PySem.Spec PyProof.Rows PySem.SeqAt
noncomputable section
section
variable {i j k:Nat} {ρ:List Sl} {θ:Sto} {f g h:EM} {fs:AM} {t u:TMr}
@[simp] theorem ZsN:Zd i ρ θ=match ρ[i]? with | some (Sl.val d)=>.ok d θ | _=>.bad:=nr rfl
@[simp] theorem x_c {d:D}:mC d ρ θ=.ok d θ:=nr rfl
@[simp] theorem Zvf {o:OM}:mOp o f g ρ θ=(f ρ θ).bind fun x θ=>(g ρ θ).bind fun y θ=>o x y θ:=nr rfl
@[simp] theorem ZyQ:ZK f ρ θ=(f ρ θ).bind fun x θ=>match x with | .bl k=>.ok k θ | _=>.bad:=nr rfl
@[simp] theorem Zz3:zY f ρ θ=(f ρ θ).bind fun x θ=>match Zfn θ x with | some k=>.ok k θ | none=>.bad:=nr rfl
@[simp] theorem ZAh:ZhS t u ρ θ=(t ρ θ).bind fun k θ=>if k=true then u ρ θ else .ok false θ:=nr rfl
@[simp] theorem ZAF:mOr t u ρ θ=(t ρ θ).bind fun k θ=>if k=true then .ok true θ else u ρ θ:=nr rfl
@[simp] theorem Zz7:Zed t ρ θ=(t ρ θ).bind fun k θ=>.ok (!k) θ:=nr rfl
def ZuJ (g:Sto→R D):D→Sto→R D
  | .bl true,θ=>g θ
  | .bl false,θ=>.ok (.bl false) θ
  | _,_=>.bad
def orK (g:Sto→R D):D→Sto→R D
  | .bl true,θ=>.ok (.bl true) θ
  | .bl false,θ=>g θ
  | _,_=>.bad
@[simp] theorem ZwY {g:Sto→R D} {k:Bool}:ZuJ g (.bl k) θ=if k=true then g θ else .ok (.bl false) θ:=by cases k<;>rfl
@[simp] theorem Zzx {g:Sto→R D} {k:Bool}:orK g (.bl k) θ=if k=true then .ok (.bl true) θ else g θ:=by cases k<;>rfl
@[simp] theorem Zy2:ZcD f g ρ θ=(f ρ θ).bind (ZuJ (g ρ)):=by
  show (f ρ θ).bind _=_
  congr 1
  funext x θ
  cases x<;>first | rfl | (rename_i b; cases b<;>rfl)
@[simp] theorem Zz6:Zmu f g ρ θ=(f ρ θ).bind (orK (g ρ)):=by
  show (f ρ θ).bind _=_
  congr 1
  funext x θ
  cases x<;>first | rfl | (rename_i b; cases b<;>rfl)
@[simp] theorem Zwb {p:Prop} [Decidable p] {m:Bool}:(if p then R.ok (D.bl m) θ else R.ok (D.bl false) θ)=R.ok (D.bl (decide p && m)) θ:=by by_cases h:p<;>simp [h]
@[simp] theorem ZwQ {p:Prop} [Decidable p] {m:Bool}:(if p then R.ok (D.bl true) θ else R.ok (D.bl m) θ)=R.ok (D.bl (decide p || m)) θ:=by by_cases h:p<;>simp [h]
@[simp] theorem Zu5 {p:Prop} [Decidable p] {m:Bool}:(if p then R.ok m θ else R.ok false θ)=R.ok (decide p && m) θ:=by by_cases h:p<;>simp [h]
@[simp] theorem Zwa {p:Prop} [Decidable p] {m:Bool}:(if p then R.ok true θ else R.ok m θ)=R.ok (decide p || m) θ:=by by_cases h:p<;>simp [h]
@[simp] theorem ZyW:ZlK f ρ θ=(f ρ θ).bind fun x θ=>match Zfn θ x with | some k=>.ok (.bl (!k)) θ | none=>.bad:=nr rfl
@[simp] theorem Zz8:Zuv f ρ θ=(f ρ θ).bind fun x θ=>match x with | .int i=>.ok (.int (-i)) θ | _=>.bad:=nr rfl
@[simp] theorem ZAb:Zf4 t f g ρ θ=(t ρ θ).bind fun k θ=>if k=true then f ρ θ else g ρ θ:=nr rfl
@[simp] theorem ZwD {o o':OM}:Zef o o' f g h ρ θ=(f ρ θ).bind fun x θ=>(g ρ θ).bind fun y θ=>(o x y θ).bind (ZuJ fun θ=>(h ρ θ).bind fun w θ=>o' y w θ):=by
  show (f ρ θ).bind _=_
  congr 1
  funext x θ
  congr 1
  funext y θ
  congr 1
  funext z θ
  cases z<;>first | rfl | (rename_i b; cases b<;>rfl)
@[simp] theorem ZsP:Zk ρ θ=.ok [] θ:=nr rfl
@[simp] theorem ZpD:Zc f fs ρ θ=(f ρ θ).bind fun x θ=>(fs ρ θ).bind fun xs θ=>.ok (x::xs) θ:=nr rfl
@[simp] theorem Zz2:ZaM fs ρ θ=(fs ρ θ).bind fun xs θ=>if xs.length≤BIG then .ok (.tup xs) θ else .bad:=nr rfl
@[simp] theorem Zvg:Zb7 fs ρ θ=(fs ρ θ).bind fun xs θ=>if xs.length≤BIG then .ok (.lst xs) θ else .bad:=nr rfl
@[simp] theorem Zy3 {o:GM}:mCB o fs ρ θ=(fs ρ θ).bind fun xs θ=>o xs θ:=nr rfl
@[simp] theorem ZpB:Zas ρ θ=.ok none θ:=nr rfl
@[simp] theorem Zto:Za1 f ρ θ=(f ρ θ).bind fun x θ=>match x with | .int i=>.ok (some i) θ | _=>.bad:=nr rfl
@[simp] theorem ZyR {lo hi:PM}:mSl f lo hi ρ θ=(f ρ θ).bind fun x θ=>(lo ρ θ).bind fun l θ=>(hi ρ θ).bind fun h θ=>match Zdb θ x l h with
  | some d=>.ok d θ
  | none=>.bad:=nr rfl
@[simp] theorem Zz4 {lo hi st:PM}:Zso f lo hi st ρ θ=(f ρ θ).bind fun x θ=>(lo ρ θ).bind fun l θ=>(hi ρ θ).bind fun h θ=>(st ρ θ).bind fun s θ=>match Za2 θ x with
  | some xs=>if s≠some 0∧(ZdN xs l h s).length≤BIG then .ok (.lst (ZdN xs l h s)) θ else .bad
  | none=>.bad:=nr rfl
@[simp] theorem ZAH:mIn f ρ θ=(f ρ θ).bind fun d θ=>match seqOf θ d with | some _=>.ok (.seq d) θ | none=>.bad:=nr rfl
@[simp] theorem ZyU:ZcC fs ρ θ=(fs ρ θ).bind fun ds θ=>match ds with
  | [.int j]=>if -1000000≤j∧j≤1000000 then .ok (.rng 0 j.toNat) θ else .bad
  | _=>.bad:=by
  unfold ZcC; exact nr rfl
variable {a b:SM} {Fl':Fl×List Sl}
@[simp] theorem ZyS:ZN ρ θ=.ok (.nx,ρ) θ:=nr rfl
@[simp] theorem ZAg:Zsp ρ θ=.bad:=nr rfl
@[simp] theorem ZuO {ρ':List Sl}:Zhx (.ok (.nx,ρ') θ) a=a ρ' θ:=nr rfl
@[simp] theorem ZuN {ρ':List Sl} {d:D}:Zhx (.ok (.rt d,ρ') θ) a=.ok (.rt d,ρ') θ:=nr rfl
@[simp] theorem Zz5:Zr a b ρ θ=Zhx (a ρ θ) b:=nr rfl
@[simp] theorem Zy0:zn f ρ θ=(f ρ θ).bind fun _ θ=>.ok (.nx,ρ) θ:=nr rfl
@[simp] theorem ZpA:ZM f ρ θ=(f ρ θ).bind fun d θ=>.ok (.rt d,ρ) θ:=nr rfl
@[simp] theorem ZyV:Zf3 ρ θ=.ok (.rt .non,ρ) θ:=nr rfl
@[simp] theorem ZAI:mIf t a b ρ θ=(t ρ θ).bind fun k θ=>if k=true then a ρ θ else b ρ θ:=nr rfl
@[simp] theorem Zve:ZQ i f ρ θ=(f ρ θ).bind fun d θ=>.ok (.nx,ρ.set i (.val d)) θ:=nr rfl
@[simp] theorem Zvd:Zhm i fs ρ θ=(fs ρ θ).bind fun xs θ=>if xs.length≤BIG then .ok (.nx,ρ.set i (.own xs)) θ else .bad:=nr rfl
@[simp] theorem Zvk:Zeg i f ρ θ=(f ρ θ).bind fun d θ=>match ρ[i]? with
  | some (Sl.own xs)=>if xs.length<BIG then .ok (.nx,ρ.set i (.own (xs++[d]))) θ else .bad
  | _=>.bad:=nr rfl
@[simp] theorem Zvj:Zee i a ρ θ=match ρ[i]? with | some (Sl.own xs)=>a (ρ.set i (.val (.lst xs))) θ | _=>a ρ θ:=nr rfl
@[simp] theorem ZdI {ρ':List Sl}:Zfu a (.nx,ρ') θ=a ρ' θ:=nr rfl
@[simp] theorem ZAc {d:D}:gNm i d ρ=some (ρ.set i (.val d)):=nr rfl
@[simp] theorem ZAf {np nn:Nat} {ds:List D}:ZR np nn a ds θ=if ds.length=np then (a (Zd3 nn ds) θ).bind fun p θ=>match p.1 with | .nx=>.ok .non θ | .rt d=>.ok d θ | _=>.bad else .bad:=nr rfl
@[simp] theorem Zwz {n:Nat} {ds:List D}:Zd3 n ds=ds.map Sl.val++List.replicate (n-ds.length) Sl.no:=nr rfl
@[simp] theorem ZsO {xs:List D}:seqOf θ (.lst xs)=some xs:=nr rfl
@[simp] theorem ZgR {xs:List D}:seqOf θ (.tup xs)=some xs:=nr rfl
@[simp] theorem ZuM {b:Bool}:Zfn θ (.bl b)=some b:=nr rfl
@[simp] theorem Ztn {xs:List D}:Zfn θ (.lst xs)=some (!xs.isEmpty):=nr rfl
@[simp] theorem Ztl {xs:List D}:Zfn θ (.tup xs)=some (!xs.isEmpty):=nr rfl
@[simp] theorem Ztm {ns:List Int}:Zfn θ (.scr ns)=some (!(ns.map D.int).isEmpty):=nr rfl
@[simp] theorem Ztq {xs:List D}:look θ (.lst xs)=.lst xs:=nr rfl
@[simp] theorem Ztr {n:Int}:look θ (.int n)=.int n:=nr rfl
@[simp] theorem Ztp {n:Str}:look θ (.str n)=.str n:=nr rfl
@[simp] theorem ZpC {xs:List D} {n:Int}:ixM (.lst xs) (.int n) θ=match atI xs n with | some d=>.ok d θ | none=>.bad:=nr rfl
@[simp] theorem Zle {xs:List D} {n:Int}:ixM (.tup xs) (.int n) θ=match atI xs n with | some d=>.ok d θ | none=>.bad:=nr rfl
@[simp] theorem Zvi {xs:List Int} {n:Int}:ixM (.scr xs) (.int n) θ=match atI (xs.map D.int) n with | some d=>.ok d θ | none=>.bad:=nr rfl
@[simp] theorem Zvh {xs:List D}:Zc1 [.lst xs] θ=.ok (.int xs.length) θ:=nr rfl
@[simp] theorem Zny {xs:List D}:Zc1 [.tup xs] θ=.ok (.int xs.length) θ:=nr rfl
@[simp] theorem ZuP {xs:List Int}:Zc1 [.scr xs] θ=.ok (.int (xs.map D.int).length) θ:=nr rfl
@[simp] theorem Zvc {xs:List D}:ZnD [.lst xs] θ=match Zf7 xs with | some ns=>.ok (.int ns.sum) θ | none=>.bad:=nr rfl
@[simp] theorem Zvl {xs:List D}:Zrk [.lst xs] θ=match ZjL xs with | some ns=>.ok (.bl (ns.all id)) θ | none=>.bad:=nr rfl
@[simp] theorem Zz9 {m n:Int}:Ziy [.int m,.int n] θ=.ok (.int (if n<m then n else m)) θ:=nr rfl
@[simp] theorem ZyX {m n k:Int}:Ziy [.int m,.int n,.int k] θ=.ok (.int (if n<m then (if k<n then k else n) else (if k<m then k else m))) θ:=nr rfl
@[simp] theorem ZAa {m n:Int}:Zsn [.int m,.int n] θ=.ok (.int (if n > m then n else m)) θ:=nr rfl
@[simp] theorem ZyZ {k:Bool}:ZnY [.bl k] θ=.ok (.int (if k then 1 else 0)) θ:=nr rfl
@[simp] theorem Zpz {xs:List D} {lo hi:Option Int}:Zdb θ (.lst xs) lo hi=some (.lst (Zbe xs lo hi)):=nr rfl
@[simp] theorem ZAG {x:D}:isM x .non θ=.ok (.bl (ZcF x)) θ:=nr rfl
@[simp] theorem ZwA {x:D}:Zjz x .non θ=.ok (.bl (!ZcF x)) θ:=nr rfl
end
mutual
def pl:Nat→D→Bool
  | _,.non=>true
  | _,.bl _=>true
  | _,.int _=>true
  | _,.str x=>PyData.strOk x
  | k+1,.tup xs=>pls k xs
  | k+1,.lst xs=>pls k xs
  | _,_=>false
def pls:Nat→List D→Bool
  | _,[]=>true
  | k,d::r=>pl k d && pls k r
end
mutual
def noB:D→Bool
  | .bl _=>false
  | .tup xs=>Zez xs
  | .lst xs=>Zez xs
  | _=>true
def Zez:List D→Bool
  | []=>true
  | d::r=>noB d && Zez r
end
mutual
theorem Zm2:∀(k:Nat) (d:D),pl k d=true→plain d=true∧(dat d).canLay0=true∧(dat d).depth≤k
  | _,.non,_=>⟨rfl,rfl,Nat.zero_le _⟩
  | _,.bl _,_=>⟨rfl,rfl,Nat.zero_le _⟩
  | _,.int _,_=>⟨rfl,rfl,Nat.zero_le _⟩
  | k,.str x,h=>⟨rfl,by cases k<;>simpa [pl,dat,PyData.canLay0] using h,Nat.zero_le _⟩
  | k+1,.tup xs,h=>by
    obtain ⟨a,b,c⟩:=Zml k xs (by simpa [pl] using h)
    exact ⟨a,b,by simp only [dat,PyData.depth]; omega⟩
  | k+1,.lst xs,h=>by
    obtain ⟨a,b,c⟩:=Zml k xs (by simpa [pl] using h)
    exact ⟨a,b,by simp only [dat,PyData.depth]; omega⟩
  | 0,.tup xs,h=>by simp [pl] at h
  | 0,.lst xs,h=>by simp [pl] at h
  | 0,.ty _,h=>by simp [pl] at h
  | 0,.scr _,h=>by simp [pl] at h
  | 0,.ref _,h=>by simp [pl] at h
  | _+1,.ty _,h=>by simp [pl] at h
  | _+1,.scr _,h=>by simp [pl] at h
  | _+1,.ref _,h=>by simp [pl] at h
theorem Zml:∀(k:Nat) (ds:List D),pls k ds=true→Zb4 ds=true∧PyData.canLayAll0 (ZeT ds)=true∧PyData.depthAll (ZeT ds)≤k
  | _,[],_=>⟨rfl,rfl,Nat.zero_le _⟩
  | k,d::r,h=>by
    have h':pl k d=true∧pls k r=true:=by simpa [pls] using h
    obtain ⟨a,b,c⟩:=Zm2 k d h'.1
    obtain ⟨a',b',c'⟩:=Zml k r h'.2
    exact ⟨by simp [Zb4,a,a'],by simp [ZeT,PyData.canLayAll0,b,b'],by simp only [ZeT,PyData.depthAll]; omega⟩
end
mutual
theorem Znc:∀(d e:D),noB d=true→noB e=true→noMix (dat d) (dat e)=true:=fun d e p q=>by
  cases d with
  | bl _=>simp [noB] at p
  | tup xs=>
    cases e with
    | bl _=>simp [noB] at q
    | tup ys=>simp only [dat,noMix]; exact ZhN xs ys p q
    | _=>simp [dat,noMix]
  | lst xs=>
    cases e with
    | bl _=>simp [noB] at q
    | lst ys=>simp only [dat,noMix]; exact ZhN xs ys p q
    | _=>simp [dat,noMix]
  | _=>cases e<;>simp_all [noB,dat,noMix]
theorem ZhN:∀(ds es:List D),Zez ds=true→Zez es=true→noMixAll (ZeT ds) (ZeT es)=true
  | [],[],_,_=>rfl
  | [],_::_,_,_=>rfl
  | _::_,[],_,_=>rfl
  | d::ds,e::es,p,q=>by
    have p':noB d=true∧Zez ds=true:=by simpa [Zez] using p
    have q':noB e=true∧Zez es=true:=by simpa [Zez] using q
    simp only [ZeT,noMixAll,Bool.and_eq_true]
    exact ⟨Znc d e p'.1 q'.1,ZhN ds es p'.2 q'.2⟩
end
theorem ZiK {k:Nat} {d:D} (h:pl k d=true) (hk:k≤64):shaped (dat d)=true:=by
  obtain ⟨_,b,c⟩:=Zm2 k d h
  unfold shaped
  rw [b,decide_eq_true (by omega)]
  rfl
theorem Zei {x y:D} (h1:pl 9 x=true) (h2:pl 9 y=true) (h3:noB x=true) (h4:noB y=true):Zmc x y:=
  ⟨(Zm2 _ _ h1).1,(Zm2 _ _ h2).1,ZiK h1 (by decide),ZiK h2 (by decide),Znc x y h3 h4⟩
section
open Classical
theorem ZjG {x y:D} {θ:Sto} (h:Zmc (look θ x) (look θ y)):eqM x y θ=.ok (.bl (decide (look θ x=look θ y))) θ:=if_pos h
theorem ZhP {x y:D} {θ:Sto} (h:Zmc (look θ x) (look θ y)):neM x y θ=.ok (.bl (!decide (look θ x=look θ y))) θ:=if_pos h
end
@[simp] theorem ZvP (k:Nat) (ns:List Int):pls k (ns.map D.int)=true:=by
  induction ns with
  | nil=>rfl
  | cons n r ih=>simp only [List.map_cons,pls,ih,Bool.and_true]; cases k<;>rfl
@[simp] theorem Zu3 (ns:List Int):Zez (ns.map D.int)=true:=by
  induction ns with
  | nil=>rfl
  | cons n r ih=>simp only [List.map_cons,Zez,ih,Bool.and_true]; rfl
@[simp] theorem Ztd (ns ms:List Int):(ns.map D.int=ms.map D.int)↔ns=ms:=by
  constructor
  · intro h
    have:∀(ns ms:List Int),ns.map D.int=ms.map D.int→ns=ms:=fun ns=>by
      induction ns with
      | nil=>intro ms h; cases ms with
        | nil=>rfl
        | cons _ _=>cases h
      | cons n r ih=>intro ms h; cases ms with
        | nil=>cases h
        | cons m s=>simp at h; rw [h.1,ih s h.2]
    exact this ns ms h
  · intro h; rw [h]
@[simp] theorem ZzS (a b:Int) (θ:Sto):eqM (.int a) (.int b) θ=.ok (.bl (decide (a=b))) θ:=by
  rw [ZjG (Zei rfl rfl rfl rfl)]
  simp
@[simp] theorem Zzz (a b:Int) (θ:Sto):neM (.int a) (.int b) θ=.ok (.bl (!decide (a=b))) θ:=by
  rw [ZhP (Zei rfl rfl rfl rfl)]
  simp
@[simp] theorem Zsz (a b:List Int) (θ:Sto):eqM (.lst (a.map D.int)) (.lst (b.map D.int)) θ=.ok (.bl (decide (a=b))) θ:=by
  rw [ZjG (Zei (by simp [pl]) (by simp [pl]) (by simp [noB]) (by simp [noB]))]
  simp
@[simp] theorem Zsj (a b:List Int) (θ:Sto):neM (.lst (a.map D.int)) (.lst (b.map D.int)) θ=.ok (.bl (!decide (a=b))) θ:=by
  rw [ZhP (Zei (by simp [pl]) (by simp [pl]) (by simp [noB]) (by simp [noB]))]
  simp
end
end L2.MM
namespace L2.MM
open PySem PySem.Spec PyProof.Rows PySem.SeqAt My
noncomputable section
@[simp] theorem ZuL:BIG=100000:=nr rfl
def il (ns:List Int):D:=.lst (ns.map D.int)
def itp (ns:List Int):D:=.tup (ns.map D.int)
section
variable {θ:Sto} {a b ns ms:List Int} {i j:Int}
@[simp] theorem ZAA:D.lst (ns.map D.int)=il ns:=nr rfl
theorem ZcQ:D.lst []=il []:=rfl
@[simp] theorem ZAz (x:Int):D.lst [.int x]=il [x]:=nr rfl
@[simp] theorem Zwo (x y:Int):D.lst [.int x,.int y]=il [x,y]:=nr rfl
@[simp] theorem ZAy (x y z w:Int):D.lst [.int x,.int y,.int z,.int w]=il [x,y,z,w]:=nr rfl
@[simp] theorem Zwf:Za2 θ (il a)=some (a.map D.int):=nr rfl
@[simp] theorem Zwe:seqOf θ (il a)=some (a.map D.int):=nr rfl
@[simp] theorem ZqI:ZO (il a) (il b) θ=if a.length+b.length≤BIG then .ok (il (a++b)) θ else .bad:=by
  unfold il
  rw [Zrm]
  simp [il]
theorem ZjB (h:a.length+b.length≤100000):ZO (il a) (il b) θ=.ok (il (a++b)) θ:=by
  rw [ZqI,if_pos h]
@[simp] theorem ZzE:Zc1 [il a] θ=.ok (.int a.length) θ:=by
  unfold il; rw [Zvh]; simp
@[simp] theorem ZzC:Zc1 [itp a] θ=.ok (.int a.length) θ:=by
  unfold itp; rw [Zny]; simp
theorem ZsI {α β:Type} (f:α→β) (xs:List α) (n:Int):atI (xs.map f) n=(atI xs n).map f:=by
  unfold L2.atI
  rw [List.length_map]
  cases ixN xs.length n with
  | none=>rfl
  | some k=>simp
theorem Zwg:ixM (il a) (.int i) θ=match atI a i with | some z=>.ok (.int z) θ | none=>.bad:=by
  unfold il
  rw [ZpC,ZsI]
  cases atI a i<;>rfl
theorem Zrh {xs:List Int} {i:Int} (h0:0≤i) (h:i<xs.length):atI xs i=some (xs.getD i.toNat 0):=by
  have c:i=((i.toNat:Nat):Int):=by omega
  rw [c]
  refine Zhr ?_
  have d:i.toNat<xs.length:=by omega
  rw [List.getD_eq_getElem?_getD,Int.toNat_natCast,List.getElem?_eq_getElem d]
  rfl
def gt (a:List Int) (i:Nat):Int:=a.getD i 0
theorem Zcs (h0:0≤i) (h:i<a.length):ixM (il a) (.int i) θ=.ok (.int (gt a i.toNat)) θ:=by rw [Zwg,Zrh h0 h]; rfl
@[simp] theorem ZzG {x:Int} {r:List Int}:ixM (il (x::r)) (.int 0) θ=.ok (.int x) θ:=Zcs (a:=x::r) (i:=0) (by decide) (by rw [List.length_cons]; omega)
@[simp] theorem ZzF {x y:Int} {r:List Int}:ixM (il (x::y::r)) (.int 1) θ=.ok (.int y) θ:=Zcs (a:=x::y::r) (i:=1) (by decide) (by rw [List.length_cons,List.length_cons]; omega)
@[simp high] theorem ZAK {x:D} {r:List D}:ixM (.tup (x::r)) (.int 0) θ=.ok x θ:=by
  rw [Zle,show (0:Int)=((0:Nat):Int) from rfl,Zhr (j:=0) (v:=x) rfl]
@[simp high] theorem ZAJ {x y:D} {r:List D}:ixM (.tup (x::y::r)) (.int 1) θ=.ok y θ:=by
  rw [Zle,show (1:Int)=((1:Nat):Int) from rfl,Zhr (j:=1) (v:=y) rfl]
theorem Zq7 {α β:Type} (f:α→β) (xs:List α) (lo hi:Option Int):Zbe (xs.map f) lo hi=(Zbe xs lo hi).map f:=by
  unfold Zbe
  rw [List.length_map,List.map_take,List.map_drop]
@[simp] theorem Zi4 {lo hi:Option Int}:Zdb θ (il a) lo hi=some (il (Zbe a lo hi)):=by
  unfold il; rw [Zpz,Zq7]
@[simp] theorem ZwR:ZhU [itp a] θ=.ok (il a) θ:=nr rfl
@[simp] theorem Zwd:ZeB [il a] θ=.ok (itp a) θ:=nr rfl
@[simp] theorem ZzD:ZnD [il a] θ=.ok (.int a.sum) θ:=by unfold il; rw [Zvc,ZqG]
@[simp] theorem ZAs {n:String}:ZgZ [il a,.ty n] θ=match isT .lst n with | some b=>.ok (.bl b) θ | none=>.bad:=nr rfl
@[simp] theorem ZAt:eqM (il a) (il b) θ=.ok (.bl (decide (a=b))) θ:=Zsz a b θ
@[simp] theorem ZAr:neM (il a) (il b) θ=.ok (.bl (!decide (a=b))) θ:=Zsj a b θ
theorem Zgt {α β:Type} (f:α→β) (xs:List α) (lo hi st:Option Int):ZdN (xs.map f) lo hi st=(ZdN xs lo hi st).map f:=by
  unfold ZdN
  rw [List.length_map,List.map_filterMap]
  congr
  funext k
  simp
theorem ZhR:∀{ns ms:List Int},ns.map V.int=ms.map V.int→ns=ms
  | [],[],_=>rfl
  | [],_::_,h=>by cases h
  | _::_,[],h=>by cases h
  | _::_,_::_,h=>by simp at h; rw [h.1,ZhR h.2]
@[simp] theorem Zs7 (ns:List Int):ZdN ns none none (some 2)=Zeu ns:=ZhR (by
  have:=Zn4 ns
  rw [show ZeE (ns.map V.int) none none (some 2)=ZdN (ns.map V.int) none none (some 2) from rfl,Zgt] at this
  exact this)
@[simp] theorem Zt7 (ns:List Int):ZdN ns (some 1) none (some 2)=ZhJ ns:=ZhR (by
  have:=Zq6 ns
  rw [show ZeE (ns.map V.int) (some 1) none (some 2)=ZdN (ns.map V.int) (some 1) none (some 2) from rfl,Zgt] at this
  exact this)
end
theorem Zjp {n d:Nat} {k:Int} (h:0≤k):HT.sIx n d (some k)=min k.toNat n:=by
  have c:k=((k.toNat:Nat):Int):=by omega
  rw [c]
  exact HT.sIx_nat n d k.toNat
theorem ZfG {α:Type} (xs:List α) {k:Int} (h:0≤k):Zbe xs none (some k)=xs.take k.toNat:=by
  unfold Zbe
  rw [HT.sIx_none,Zjp h,List.drop_zero,Nat.sub_zero,←List.take_take,List.take_length]
theorem Zdi {α:Type} (xs:List α) {k:Int} (h:0≤k):Zbe xs (some k) none=xs.drop k.toNat:=by
  unfold Zbe
  rw [HT.sIx_none,Zjp h]
  by_cases q:k.toNat≤xs.length
  · rw [Nat.min_eq_left q,List.take_of_length_le]
    rw [List.length_drop]
    exact Nat.le_refl _
  · rw [Nat.min_eq_right (by omega),List.drop_length,List.drop_eq_nil_of_le (by omega)]
    simp
theorem ZjI {α:Type} (xs:List α) {k l:Int} (h:0≤k) (h':0≤l):Zbe xs (some k) (some l)=(xs.drop k.toNat).take (l.toNat-k.toNat):=by
  unfold Zbe
  rw [Zjp h,Zjp h']
  by_cases q:k.toNat≤xs.length
  · rw [Nat.min_eq_left q]
    by_cases r:l.toNat≤xs.length
    · rw [Nat.min_eq_left r]
    · rw [Nat.min_eq_right (by omega),List.take_of_length_le (by rw [List.length_drop]; exact Nat.le_refl _),List.take_of_length_le (by rw [List.length_drop]; omega)]
  · rw [Nat.min_eq_right (a:=k.toNat) (by omega),List.drop_length,List.drop_eq_nil_of_le (i:=k.toNat) (by omega)]
    simp
section
variable {θ:Sto} {ρ:List Sl}
@[simp] theorem Zc5 {lo:Int} {n:Nat}:(Src.rng lo n).items θ=some ((List.range n).map fun (i:Nat)=>D.int (lo+(i:Int))):=nr rfl
@[simp] theorem ZnG {d:D}:(Src.seq d).items θ=seqOf θ d:=nr rfl
open Classical in
theorem ZgI {S:Src} {all:List D} {elt:D→Sto→R D} {θ:Sto} (f:D→D) (hS:S.items θ=some all):∀(xs acc:List D),(∀x∈xs,elt x θ=.ok (f x) θ)→(acc.length+xs.length≤BIG)→Zg1 S all elt xs acc θ=.ok (.lst (acc++xs.map f)) θ
  | [],acc,_,hl=>by
    unfold Zg1
    rw [if_pos ⟨hS,by simpa using hl⟩]
    simp
  | x::r,acc,h,hl=>by
    unfold Zg1
    rw [if_pos hS,h x List.mem_cons_self]
    rw [R.bind_ok,ZgI f hS r (acc++[f x]) (fun y hy=>h y (List.mem_cons_of_mem _ hy)) (by simp at hl ⊢; omega)]
    simp
theorem Zi0 {fi:IM} {src:List Nat} {elt:EM} {lo:Int} {n:Nat} {θ':Sto} (f:Int→D) (hi:fi ρ θ=.ok (.rng lo n) θ') (hn:n≤BIG) (he:∀i:Nat,i<n→elt (ZeQ src ρ (.int (lo+i))) θ'=.ok (f (lo+i)) θ') :
    ZeN fi src elt ρ θ=.ok (.lst ((List.range n).map fun (i:Nat)=>f (lo+i))) θ':=by
  unfold ZeN
  rw [hi,R.bind_ok]
  simp only [Zc5]
  rw [if_pos (by simpa using hn),ZgI (fun d=>match d with | .int k=>f k | d=>d) rfl]
  · simp
  · intro x hx
    obtain ⟨i,hi,rfl⟩:=List.mem_map.mp hx
    exact he i (List.mem_range.mp hi)
  · simpa using hn
theorem ZnR {fi:IM} {src:List Nat} {elt:EM} {d:D} {xs:List D} {θ':Sto} (f:D→D) (hi:fi ρ θ=.ok (.seq d) θ') (hd:seqOf θ' d=some xs) (hn:xs.length≤BIG) (he:∀x∈xs,elt (ZeQ src ρ x) θ'=.ok (f x) θ') :
    ZeN fi src elt ρ θ=.ok (.lst (xs.map f)) θ':=by
  unfold ZeN
  rw [hi,R.bind_ok]
  simp only [ZnG,hd]
  rw [if_pos hn,ZgI (S:=.seq d) f hd xs [] he (by simpa using hn)]
  simp
@[simp] theorem Zwc {src:List Nat} {x:D}:ZeQ src ρ x=Sl.val x::src.map fun (j:Nat)=>match ρ[j]? with | some (Sl.val d)=>Sl.val d | _=>Sl.no:=nr rfl
open Classical in
theorem Zsy {lo:Int} {n:Nat} {all:List D} {tg:TgM} {body:SM} (st:Nat→List Sl) (hs:∀i ρ1,i<n→tg (.int (lo+i)) (st i)=some ρ1→body ρ1 θ=.ok (.nx,st (i+1)) θ) (ht:∀i,i<n→∃ρ1,tg (.int (lo+i)) (st i)=some ρ1) (hall:all=(List.range n).map fun (i:Nat)=>D.int (lo+(i:Int))) :
    ZcR (.rng lo n) all tg body all (st 0) θ=.ok (.nx,st n) θ:=by
  subst hall
  have key:∀m,m≤n→ZcR (.rng lo n) ((List.range n).map fun (i:Nat)=>D.int (lo+(i:Int))) tg body (((List.range n).map fun (i:Nat)=>D.int (lo+(i:Int))).drop (n-m)) (st (n-m)) θ=.ok (.nx,st n) θ:=fun m=>by
    induction m with
    | zero=>
      intro _
      rw [Nat.sub_zero,List.drop_eq_nil_of_le (by simp)]
      simp [ZcR]
    | succ m ih=>
      intro hm
      have hlt:n-(m+1)<n:=by omega
      rw [List.drop_eq_getElem_cons (by simpa using hlt)]
      obtain ⟨ρ1,h1⟩:=ht (n-(m+1)) hlt
      have h2:=hs (n-(m+1)) ρ1 hlt h1
      have e:n-(m+1)+1=n-m:=by omega
      simp only [List.getElem_map,List.getElem_range,ZcR,Zc5,if_true,h1]
      rw [h2,R.bind_ok,ZdI,e]
      exact ih (by omega)
  have:=key n (Nat.le_refl _)
  rw [Nat.sub_self,List.drop_zero] at this
  exact this
end
end
end L2.MM
namespace L2.MM
open PySem PySem.Spec PyProof.Rows PySem.SeqAt
noncomputable section
variable {X:Cx}
def Zau (f:Str) (v:D):List (Str×D)→List (Str×D)
  | []=>[(f,v)]
  | (g,x)::r=>if g=f then (g,v)::r else (g,x)::Zau f v r
theorem RepKV.put {B:Bx} {H:Hp} {f:Str} {d:D} {v:V} (q:RepV B H d v):∀{fs:List (Str×D)} {vs:List (Str×V)},RepKV B H fs vs→RepKV B H (Zau f d fs) (ZdM f v vs)
  | _,_,.nil=>.cons ⟨rfl,q⟩ .nil
  | (g,x)::fs,(g',y)::vs,.cons h t=>by
    obtain ⟨h1,h2⟩:=h
    cases (show g=g' from h1)
    unfold Zau ZdM
    by_cases e:g=f
    · rw [if_pos e,if_pos e]; exact .cons ⟨rfl,q⟩ t
    · rw [if_neg e,if_neg e]; exact .cons ⟨rfl,h2⟩ (RepKV.put q t)
theorem RepKV.len {κ:Type} {B:Bx} {H:Hp}:∀{fs:List (κ×D)} {vs:List (κ×V)},RepKV B H fs vs→vs.length=fs.length
  | _,_,.nil=>rfl
  | _,_,.cons _ t=>by rw [List.length_cons,List.length_cons,RepKV.len t]
theorem RepKV.get {B:Bx} {H:Hp} {f:Str} {d:D}:∀{fs:List (Str×D)} {vs:List (Str×V)},RepKV B H fs vs→fs.lookup f=some d→∃v,vs.lookup f=some v∧RepV B H d v
  | _,_,.nil,h=>by cases h
  | (g,x)::fs,(g',y)::vs,.cons h t,e=>by
    obtain ⟨h1,h2⟩:=h
    cases (show g=g' from h1)
    rw [List.lookup_cons] at e ⊢
    cases q:f == g with
    | true=>rw [q] at e; cases e; exact ⟨y,rfl,h2⟩
    | false=>rw [q] at e; exact RepKV.get t e
def ZeP (θ:Sto):D→Option (Nat×Str×List (Str×D))
  | .ref l=>match θ[l]? with
    | some (.ins C fs)=>some (l,C,fs)
    | _=>none
  | _=>none
theorem ZlR {cl:Mo} {B:Bx} {θ:Sto} {H:Hp} (G:Good cl B θ H) {d:D} {v:V} {l:Nat} {C:Str} {fs:List (Str×D)} (r:RepV B H d v) (h:ZeP θ d=some (l,C,fs)) :
    l<B.n∧v=.ref (B.m l)∧∃dx vs,H (B.m l)=some (.ins (cl.cl C) dx vs)∧RepKV B H fs vs:=by
  cases d with
  | ref k=>
    simp only [ZeP] at h
    split at h
    · rename_i C' fs' e
      cases h
      obtain ⟨hl,rfl⟩:=r
      obtain ⟨dx,vs,h1,h2⟩:=G.cel _ _ e
      exact ⟨hl,rfl,dx,vs,h1,h2⟩
    · cases h
  | _=>cases h
def zN (cs:List Str) (f:Str):D→Sto→R D:=fun d θ=>match ZeP θ d with
  | some (_,C,fs)=>if cs.contains C=true then (match fs.lookup f with
    | some v=>.ok v θ
    | none=>.bad) else .bad
  | none=>.bad
def ZJ (cs:List Str) (f:Str) (fe:EM):EM:=fun ρ θ=>(fe ρ θ).bind (zN cs f)
def Ztk (X:Cx) (f:Str) (C:Str):Prop:=Cls X.K (X.cl.cl C)∧NoAttr X.K (X.cl.cl C) f
theorem Zv {P:Str→Prop} {a:Str} (h:P a):∀C,[a].contains C=true→P C:=fun C hc=>by
  have:C=a:=by simpa using hc
  rw [this]; exact h
theorem Zq {cs:List Str} {f:Str} {e:Expr} {fe:EM} {pos:Pos} (hc:∀C,cs.contains C=true→Ztk X f C) (he:ME X e fe) (hb:attributeBase e f X.env (eval e X.env)=eval e X.env:=by rfl):ME X (.Attribute e f pos) (ZJ cs f fe):=by
  refine PE.imp (Zug he hb) fun σ H Q h=>?_
  obtain ⟨B,θ,ρ,F,w⟩:=h
  refine zd (step F w) ?_
  rintro v H1 ⟨B1,θ1,d,E1,F1,rd,w1⟩
  unfold zN at w1
  split at w1
  · rename_i l C fs e1
    split at w1
    · rename_i hC
      split at w1
      · rename_i y ey
        obtain ⟨hl,rfl,dx,vs,h1,h2⟩:=ZlR F1.good rd e1
        obtain ⟨u,h3,h4⟩:=h2.get ey
        exact ⟨_,_,dx,vs,u,rfl,h1,(hc C hC).1,(hc C hC).2,h3,ZS F1.good h4 w1⟩
      · exact w1.elim
    · exact w1.elim
  · exact w1.elim
def zb (cs:List Str) (f:Str) (y d:D) (θ:Sto):Option Sto:=match ZeP θ d with
  | some (l,C,fs)=>if cs.contains C=true∧fs.length<1000 then some (θ.set l (.ins C (Zau f y fs))) else none
  | none=>none
def ZH (cs:List Str) (f:Str) (fe fv:EM):SM:=fun ρ θ=>(fv ρ θ).bind fun y θ=>(fe ρ θ).bind fun d θ=>match zb cs f y d θ with
  | some θ'=>.ok (.nx,ρ) θ'
  | none=>.bad
theorem Zy {cs:List Str} {f:Str} {o value:Expr} {fe fv:EM} {pos pos':Pos} (hc:∀C,cs.contains C=true→Ztk X f C) (he:ME X o fe) (hv:ME X value fv) (hs:swapsWith value (some (.Attribute o f pos')) pos.line X.env=pure false:=by rfl) :
    MS X (.Assign [.Attribute o f pos'] value pos) (ZH cs f fe fv):=
  PS.imp (Zt4 he hv hs) fun D σ H h=>by
  obtain ⟨B,θ,ρ,F,w⟩:=h
  refine zd (ZhB F w) ?_
  rintro y H1 ⟨B1,θ1,dy,E1,F1,ry,w1⟩
  refine zd (ZhB F1 w1) ?_
  rintro v H2 ⟨B2,θ2,d,E2,F2,rd,w2⟩
  unfold zb at w2
  cases e1:ZeP θ2 d with
  | none=>rw [e1] at w2; exact w2.elim
  | some q=>
    obtain ⟨l,C,fs⟩:=q
    rw [e1] at w2
    simp only at w2
    by_cases hC:cs.contains C=true∧fs.length<1000
    · rw [if_pos hC] at w2
      obtain ⟨hl,rfl,dx,vs,h1,h2⟩:=ZlR F2.good rd e1
      refine ⟨_,_,dx,vs,rfl,h1,(hc C hC.1).1,(hc C hC.1).2,by rw [h2.len]; exact hC.2,?_⟩
      have E3:=Zhq F2.good hl (.ins (X.cl.cl C) dx (ZdM f y vs))
      have G3:=Zh1 F2.good hl (o:=.ins (X.cl.cl C) dx (ZdM f y vs)) (c:=.ins C (Zau f dy fs)) ⟨dx,_,zJ,(h2.put (ry.ext E2.toExtS)).ext E3.toExtS⟩
      exact w2 _ _ _ E3.toExtS (F2.ext E3 G3)
    · rw [if_neg hC] at w2
      exact w2.elim
structure MMk (P:Program) (w:World) (K:PySem.W.Frag) (mg:Str→Option Value) (base:Heap) (k:Nat) (C:Str) (f:GM):Prop where
  ex:∃(fI:Addr) (fd:FuncData) (ps:List Str),Mk K (Zad mg C) fI∧FnOk P w K mg base CX0 k fI fd ps (spM ⟨Zad mg,K⟩ f)∧Binds K fd ps []
  mg:mg C=some (.ref (Zad mg C))
def mkG (C:Str) (f:GM):GM:=fun vs θ=>(f (.ref θ.length::vs) (θ++[.ins C []])).bind fun v θ'=>match v with
  | .non=>.ok (.ref θ.length) θ'
  | _=>.bad
theorem wpR.made {σ:St} {B:Bx} {θ:Sto} {H:Hp} {C:Str} {f:GM} {ds:List D} {vs:List V} {Q:VK} {E:XK} (G:Good X.cl B θ H) (r:RepL B H ds vs) (w:wpR X σ RepV B H (mkG C f ds θ) Q) :
    ∀x dx,H x=none→H dx=none→dx≠x→spM X.cl f (.ref x::(vs++[])) (upd (upd H dx (.own x)) x (.ins (X.cl.cl C) dx [])) (fun v H2=>v=.non∧Q (.ref x) H2) E:=by
  intro x dx hx hdx ne
  have E1:=Zc3 G hdx (.own x)
  have G1:=ZeR G hdx (.own x)
  have hx1:upd H dx (.own x) x=none:=by rw [ZT (Ne.symm ne)]; exact hx
  have E2:=Zh5 G1 hx1 (.ins (X.cl.cl C) dx [])
  have G2:Good X.cl (B.push x) (θ++[.ins C []]) _:=Zi5 G1 hx1 (o:=.ins (X.cl.cl C) dx []) (c:=.ins C []) ⟨dx,[],zJ,.nil⟩
  have rx:RepV (B.push x) (upd (upd H dx (.own x)) x (.ins (X.cl.cl C) dx [])) (.ref θ.length) (.ref x):=⟨by rw [G.len]; exact Nat.lt_succ_self _,by rw [G.len]; show V.ref x=V.ref (if B.n=B.n then x else B.m B.n); rw [if_pos rfl]⟩
  rw [List.append_nil]
  refine Znq (σ:=σ) G2 (show RepL _ _ (.ref θ.length::ds) (.ref x::vs) from ⟨_,_,rfl,rx,r.ext (E1.trans E2).toExtS⟩) ?_
  have w1:=wpR.trans w (E1.trans E2)
  refine (wpR.bind (Rel:=RepV) w1).mono ?_
  rintro v H3 ⟨B3,θ3,d,E3,G3,rd,w3⟩
  cases d with
  | non=>exact ⟨rd,ZS G3 (rx.ext E3.toExtS) w3⟩
  | _=>exact w3.elim
theorem Zsm {k j:Nat} {x:Str} {f:GM} {p pos:Pos} {e:Expr} {es:List Expr} {fs:AM} (M:MMk X.prog X.w X.K X.mg X.base k x f) (hr:Room j X.A) (hj:k+1≤j) (ha:MA X (e::es) fs) (hg:Gl X x:=by rfl) (hdb:(x == ("__debug__":Str))=false:=by decide)
    (he:starEach (e::es) X.env=(false,eval e X.env)::starEach es X.env:=by rfl) (hpl:(backTo pos (starEach es X.env)).any (·.1)=false:=by rfl):ME X (.Call (.Name x p) (e::es) [] pos) (mCB (mkG x f) fs):=by
  obtain ⟨fI,fd,ps,m,F0,b⟩:=M.ex
  refine PE.imp (Zr5 m F0 (hr.mono hj) hg M.mg b .nil Zqd ha hdb he hpl) fun σ H Q h=>?_
  obtain ⟨B,θ,ρ,F,w⟩:=h
  refine Zb2 (ZhC F w) ?_
  rintro vs H1 ⟨B1,θ1,ds,E1,F1,rd,w1⟩
  exact wpR.made F1.good rd w1
theorem ZlJ {k j:Nat} {x:Str} {f:GM} {p pos:Pos} (M:MMk X.prog X.w X.K X.mg X.base k x f) (hr:Room j X.A) (hj:k+1≤j) (hg:Gl X x:=by rfl) (hdb:(x == ("__debug__":Str))=false:=by decide):ME X (.Call (.Name x p) [] [] pos) (mCB (mkG x f) Zk):=by
  obtain ⟨fI,fd,ps,m,F0,b⟩:=M.ex
  refine PE.imp (Zp4 m F0 (hr.mono hj) hg M.mg b .nil Zqd hdb) fun σ H Q h=>?_
  obtain ⟨B,θ,ρ,F,w⟩:=h
  exact wpR.made (ds:=[]) (vs:=[]) F.good (show RepL B H [] [] from rfl) w
structure ZAE (P:Program) (w:World) (K:PySem.W.Frag) (mg:Str→Option Value) (base:Heap) (k:Nat) (C m:Str) (f:GM):Prop where
  ex:∃(fa:Addr) (fd:FuncData) (ps:List Str),ZzZ K (Zad mg C) m fa∧FnOk P w K mg base CX0 k fa fd ps (spM ⟨Zad mg,K⟩ f)∧Binds K fd ps []
  cl:Cls K (Zad mg C)
instance {C C':Str} {gs:List (Str×D)} {m:Str}:Decidable (C'=C∧gs.lookup m=none):=by
  cases h:gs.lookup m with
  | none=>exact if e:C'=C then isTrue ⟨e,rfl⟩ else isFalse fun z=>e z.1
  | some _=>exact isFalse fun z=>nomatch z.2
theorem mmk {P:Program} {w:World} {K:PySem.W.Frag} {mg:Str→Option Value} {base:Heap} {x qual:Str} {st:Stmt} {N ps:List Str} {k:Nat} {fb:SM} {f:Addr} {fd:FuncData} {C:Str} (F:Fun K x qual st f fd) (S:Zs N ps (Zg st)) (np nn:Nat) (hp:ps.length=np) (hn:N.length=nn) (b:Binds K fd ps []) (M:Mk K (Zad mg C) f) (hm:mg C=some (.ref (Zad mg C)))
    (hbody:∀(cdv:Value) (A:Around) (outer:List Env) (s:Shared) (H:Hp) (E:XK),Room k (A.deeper (envOfC qual (Zg st) s.heap.objs.size f cdv))→MSs (Zh7 CX0 P w K mg base N qual (Zg st) f cdv A outer s H E).nox (Zp st) fb):MMk P w K mg base (k+1) C (ZR np nn fb):=
  ⟨⟨f,fd,ps,M,mfn F S np nn hp hn hbody,b⟩,hm⟩
def Zmv:EM:=fun _ θ=>.ok (.ref θ.length) (θ++[.dK []])
theorem Zqx {pos:Pos}:ME X (.Dict [] [] pos) Zmv:=by
  refine PE.imp Zp9 fun σ H Q h=>?_
  obtain ⟨B,θ,ρ,F,w⟩:=h
  intro p hp
  have G:=F.good
  exact w (B.push p) _ _ (Zh5 G hp _) (Zi5 G hp ⟨[],zJ,.nil⟩) ⟨by rw [G.len]; exact Nat.lt_succ_self _,by rw [G.len]; show V.ref p=V.ref (if B.n=B.n then p else B.m B.n); rw [if_pos rfl]⟩
section
variable {ρ:List Sl} {θ:Sto} {fe fv fo:EM} {cs:List Str} {f:Str}
@[simp] theorem ZAd:ZJ cs f fe ρ θ=(fe ρ θ).bind (zN cs f):=nr rfl
@[simp] theorem ZyT:ZH cs f fe fv ρ θ=(fv ρ θ).bind fun y θ=>(fe ρ θ).bind fun d θ=>match zb cs f y d θ with
  | some θ'=>.ok (.nx,ρ) θ'
  | none=>.bad:=nr rfl
@[simp] theorem ZwC:Zmv ρ θ=.ok (.ref θ.length) (θ++[.dK []]):=nr rfl
end
end
end L2.MM
namespace L2.MM
open PySem PySem.Spec PyProof.Rows PySem.SeqAt
def Mk0 (K:PySem.W.Frag) (mg:Str→Option Value) (C qual:Str) (st:Stmt) (ps:List Str):Prop:=
  ∃(f:Addr) (fd:FuncData),Fun K "__init__" qual st f fd∧Binds K fd ps []∧Mk K (Zad mg C) f∧mg C=some (.ref (Zad mg C))
theorem Znp {mg:Str→Option Value} {x:Str} {a:Addr} (h:mg x=some (.ref a)):Zad mg x=a:=by unfold Zad; rw [h]
theorem mk0 {P:Program} {w:World} {K:PySem.W.Frag} {mg:Str→Option Value} {base:Heap} {qual:Str} {st:Stmt} {N ps:List Str} {k:Nat} {fb:SM} {C:Str} (D:Mk0 K mg C qual st ps) (S:Zs N ps (Zg st)) (np nn:Nat) (hp:ps.length=np) (hn:N.length=nn)
    (hbody:∀(f:Addr) (cdv:Value) (A:Around) (outer:List Env) (s:Shared) (H:Hp) (E:XK),Room k (A.deeper (envOfC qual (Zg st) s.heap.objs.size f cdv))→MSs (Zh7 CX0 P w K mg base N qual (Zg st) f cdv A outer s H E).nox (Zp st) fb):MMk P w K mg base (k+1) C (ZR np nn fb):=by
  obtain ⟨f,fd,F,b,M,hm⟩:=D
  exact mmk F S np nn hp hn b M hm (hbody f)
end L2.MM
namespace My
open PySem L2 L2.MM
noncomputable section
def Zgj:SM:=(ZcK (ZK (mOp gtM (Zd 1) (mC (.int 65535)))) (ZQ 1 (mOp ZO (mOp Zbd (Zd 1) (mC (.int 65536))) (mOp Zfp (Zd 1) (mC (.int 65536))))) 200)
def Zij:SM:=(Zr (ZQ 1 (mOp ZO (mOp Zcq (mC (.int 256)) (mCB ZnD (Zc (Zso (Zd 0) Zas Zas (Za1 (mC (.int 2)))) Zk))) (mCB ZnD (Zc (Zso (Zd 0) (Za1 (mC (.int 1))) Zas (Za1 (mC (.int 2)))) Zk))))
  (Zr Zgj
  (ZM (Zd 1))))
def Zdh:GM:=ZR 1 2 Zij
def Zib:SM:=(ZM (mOp Zfo (mC (.int 65535)) (mCB Zdh (Zc (Zd 0) Zk))))
def ZeF:GM:=ZR 1 1 Zib
def Znt:SM:=(ZM (Zf4 (ZK (mOp neM (mOp Zww (Zd 0) (Zd 1)) (mC (.int 0)))) (mC (.int 1)) (mC (.int 0))))
def Zfr:GM:=ZR 2 2 Znt
def Zig:SM:=(Zr (ZQ 1 (mOp ixM (Zd 0) (mC (.int 4))))
  (ZM (mOp ZO (mOp ZO (mCB Zc1 (Zc (mOp ixM (Zd 0) (mC (.int 7))) Zk)) (mCB Zfr (Zc (Zd 1) (Zc (mC (.int 2)) Zk)))) (mCB Zfr (Zc (Zd 1) (Zc (mC (.int 1)) Zk))))))
def ZcA:GM:=ZR 1 2 Zig
def ZdX:SM:=(ZM (mOp Zcq (mC (.int 16)) (mOp Zfp (Zd 0) (mC (.int 4)))))
def zU:GM:=ZR 1 1 ZdX
def Zfy:SM:=(ZM (Zb7 (Zc (mOp Zbd (mOp Zfp (Zd 0) (mC (.int 256))) (mC (.int 256))) (Zc (mOp Zbd (Zd 0) (mC (.int 256))) Zk))))
def zm:GM:=ZR 1 1 Zfy
def Ze4:SM:=(ZM (mOp ZO (mCB zm (Zc (mOp Zfp (Zd 0) (mC (.int 65536))) Zk)) (mCB zm (Zc (Zd 0) Zk))))
def Zbv:GM:=ZR 1 1 Ze4
def Zch:SM:=(Zr (ZQ 1 (mOp ZO (mCB zm (Zc (mOp ixM (Zd 0) (mC (.int 0))) Zk)) (mCB zm (Zc (mOp ixM (Zd 0) (mC (.int 1))) Zk))))
  (Zr (ZQ 2 (mOp ZO (mCB Zbv (Zc (mOp ixM (Zd 0) (mC (.int 2))) Zk)) (mCB Zbv (Zc (mOp ixM (Zd 0) (mC (.int 3))) Zk))))
  (Zr (ZQ 3 (Zf4 (ZK (mOp eqM (mOp ixM (Zd 0) (mC (.int 6))) (mC (.int 0)))) (mC (.int 20)) (mC (.int 24))))
  (ZM (mOp ZO (mOp ZO (mOp ZO (Zd 1) (Zd 2)) (Zb7 (Zc (mCB zU (Zc (Zd 3) Zk)) (Zc (mOp ixM (Zd 0) (mC (.int 4))) Zk)))) (mCB zm (Zc (mOp ixM (Zd 0) (mC (.int 5))) Zk)))))))
def zT:GM:=ZR 1 4 Zch
def ZdA:SM:=(ZM (Zf4 (ZK (mOp eqM (Zd 0) (mC (.int 0)))) (Zb7 Zk) (mOp ZO (Zb7 (Zc (mC (.int 2)) (Zc (mC (.int 4)) Zk))) (mCB zm (Zc (Zd 0) Zk)))))
def Zba:GM:=ZR 1 1 ZdA
def Zns:SM:=(Zr (ZQ 1 (mCB zT (Zc (Zd 0) Zk)))
  (Zr (ZQ 2 (mOp ZO (mOp ZO (Zb7 (Zc (mC (.int 0)) (Zc (mC (.int 0)) Zk))) (mCB Zba (Zc (mOp ixM (Zd 0) (mC (.int 6))) Zk))) (mCB ZhU (Zc (mOp ixM (Zd 0) (mC (.int 7))) Zk))))
  (ZM (mOp ZO (mOp ZO (Zd 1) (mCB zm (Zc (mCB ZeF (Zc (mOp ZO (mOp ZO (Zd 1) (Zb7 (Zc (mC (.int 0)) (Zc (mC (.int 0)) Zk)))) (Zd 2)) Zk)) Zk))) (Zd 2)))))
def Zly:GM:=ZR 1 3 Zns
def Zg3:SM:=(ZM (mOp Zcq (mOp Zfp (mOp ixM (Zd 0) (mC (.int 12))) (mC (.int 16))) (mC (.int 4))))
def Zbu:GM:=ZR 1 1 Zg3
def Zia:SM:=(ZM (mOp ZO (mOp Zcq (mC (.int 256)) (mOp ixM (Zd 0) (Zd 1))) (mOp ixM (Zd 0) (mOp ZO (Zd 1) (mC (.int 1))))))
def Zak:GM:=ZR 2 2 Zia
def Zce:SM:=(ZM (ZcD (mOp eqM (mCB Zfr (Zc (mOp ixM (Zd 0) (mC (.int 13))) (Zc (mC (.int 2)) Zk))) (mC (.int 1))) (ZcD (mOp eqM (mOp ixM (Zd 0) (mC (.int 20))) (mC (.int 2))) (ZcD (mOp eqM (mOp ixM (Zd 0) (mC (.int 21))) (mC (.int 4))) (mOp geM (mCB Zak (Zc (Zd 0) (Zc (mC (.int 22)) Zk))) (mC (.int 4)))))))
def zS:GM:=ZR 1 1 Zce
def Zbz:SM:=(ZM (ZcD (mOp geM (mCB Zc1 (Zc (Zd 0) Zk)) (mC (.int 20))) (ZcD (mOp inM (mOp ixM (Zd 0) (mC (.int 12))) (ZaM (Zc (mCB zU (Zc (mC (.int 20)) Zk)) (Zc (mCB zU (Zc (mC (.int 24)) Zk)) Zk)))) (ZcD (mOp leM (mOp ixM (Zd 0) (mC (.int 13))) (mC (.int 31))) (ZcD (Zef leM leM (mC (.int 0)) (mOp Zfo (mCB Zc1 (Zc (Zd 0) Zk)) (mCB Zbu (Zc (Zd 0) Zk))) (mC (.int 16))) (ZcD (mOp eqM (mCB Zak (Zc (Zd 0) (Zc (mC (.int 18)) Zk))) (mC (.int 0))) (ZcD (Zmu (mOp eqM (mCB Zbu (Zc (Zd 0) Zk)) (mC (.int 20))) (mCB zS (Zc (Zd 0) Zk))) (mOp eqM (mCB Zdh (Zc (Zd 0) Zk)) (mC (.int 65535))))))))))
def Zam:GM:=ZR 1 1 Zbz
def Zg4:SM:=(ZM (mOp ZO (mOp Zcq (mC (.int 65536)) (mCB Zak (Zc (Zd 0) (Zc (Zd 1) Zk)))) (mCB Zak (Zc (Zd 0) (Zc (mOp ZO (Zd 1) (mC (.int 2))) Zk)))))
def Zc7:GM:=ZR 2 2 Zg4
def ZgK:SM:=(mIf (Zed (zY (mCB Zam (Zc (Zd 0) Zk)))) Zsp ZN)
def ZjN:SM:=(Zr ZgK
  (Zr (ZQ 1 (mCB Zbu (Zc (Zd 0) Zk)))
  (Zr (ZQ 2 (Zf4 (ZK (mOp eqM (Zd 1) (mC (.int 24)))) (mCB Zak (Zc (Zd 0) (Zc (mC (.int 22)) Zk))) (mC (.int 0))))
  (Zr (ZQ 3 (ZaM (Zc (mCB Zak (Zc (Zd 0) (Zc (mC (.int 0)) Zk))) (Zc (mCB Zak (Zc (Zd 0) (Zc (mC (.int 2)) Zk))) Zk))))
  (Zr (ZQ 4 (ZaM (Zc (mCB Zc7 (Zc (Zd 0) (Zc (mC (.int 4)) Zk))) (Zc (mCB Zc7 (Zc (Zd 0) (Zc (mC (.int 8)) Zk))) Zk))))
  (ZM (mOp ZO (mOp ZO (Zd 3) (Zd 4)) (ZaM (Zc (mOp ixM (Zd 0) (mC (.int 13))) (Zc (mCB Zak (Zc (Zd 0) (Zc (mC (.int 14)) Zk))) (Zc (Zd 2) (Zc (mCB ZeB (Zc (mSl (Zd 0) (Za1 (Zd 1)) Zas) Zk)) Zk))))))))))))
def ZiR:GM:=ZR 1 5 ZjN
def ZfL:SM:=(mIf (zY (Zd 0)) (ZM (mOp ixM (Zd 0) (mOp Zbd (Zd 1) (mCB Zc1 (Zc (Zd 0) Zk))))) ZN)
def Zip:SM:=(Zr ZfL
  (ZM (mC (.int 0))))
def ZgB:GM:=ZR 2 2 Zip
def Znv:SM:=(Zr (ZQ 2 (mOp Zbd (mOp ZO (mCB ZgB (Zc (Zd 0) (Zc (Zd 1) Zk))) (mOp Zcq (mC (.int 104729)) (mOp ZO (Zd 1) (mC (.int 1))))) (mC (.int 4294967291))))
  (Zr (ZQ 2 (mOp Zbd (mOp Zcq (Zd 2) (mC (.int 48271))) (mC (.int 4294967279))))
  (ZM (mOp Zbd (mOp ZO (mOp Zcq (mOp Zfp (Zd 2) (mC (.int 64))) (mC (.int 69621))) (Zd 2)) (mC (.int 4294967231))))))
def ZbC:GM:=ZR 2 3 Znv
def Znu:SM:=(ZM (Zb7 (Zc (mOp Zfp (Zd 0) (mC (.int 256))) (Zc (mOp Zbd (Zd 0) (mC (.int 256))) Zk))))
def Zet:GM:=ZR 1 1 Znu
def Zgl:SM:=(ZdR (ZcC (Zc (mCB Zc1 (Zc (Zd 0) Zk)) Zk)) (gNm 2) (ZQ 1 (mOp ZO (Zd 1) (mOp Zcq (mOp ixM (Zd 0) (Zd 2)) (mOp ixM (Zb7 (Zc (mC (.int 256)) (Zc (mC (.int 1)) Zk))) (mOp Zbd (Zd 2) (mC (.int 2))))))))
def Zgk:SM:=(ZcK (ZK (mOp gtM (Zd 1) (mC (.int 65535)))) (ZQ 1 (mOp ZO (mOp Zbd (Zd 1) (mC (.int 65536))) (mOp Zfp (Zd 1) (mC (.int 65536))))) 200)
def Zio:SM:=(Zr (ZQ 1 (mC (.int 0)))
  (Zr Zgl
  (Zr Zgk
  (ZM (Zd 1)))))
def ZcE:GM:=ZR 1 3 Zio
def Ze8:SM:=(ZdR (mIn (mSl (Zd 0) (Za1 (mC (.int 2))) (Za1 (mC (.int 4))))) (gNm 2) (ZQ 1 (mOp ZO (mOp ZO (Zd 1) (mCB Zet (Zc (mOp Zfp (Zd 2) (mC (.int 65536))) Zk))) (mCB Zet (Zc (mOp Zbd (Zd 2) (mC (.int 65536))) Zk)))))
def Ze7:SM:=(mIf (ZK (mOp gtM (mOp ixM (Zd 0) (mC (.int 6))) (mC (.int 0)))) (ZQ 1 (mOp ZO (mOp ZO (Zd 1) (Zb7 (Zc (mC (.int 2)) (Zc (mC (.int 4)) Zk)))) (mCB Zet (Zc (mOp ixM (Zd 0) (mC (.int 6))) Zk)))) ZN)
def ZgP:SM:=(Zr (ZQ 1 (mOp ZO (mCB Zet (Zc (mOp ixM (Zd 0) (mC (.int 0))) Zk)) (mCB Zet (Zc (mOp ixM (Zd 0) (mC (.int 1))) Zk))))
  (Zr Ze8
  (Zr (ZQ 1 (mOp ZO (mOp ZO (mOp ZO (Zd 1) (Zb7 (Zc (mOp ixM (Zb7 (Zc (mC (.int 80)) (Zc (mC (.int 96)) Zk))) (mCB ZnY (Zc (mOp gtM (mOp ixM (Zd 0) (mC (.int 6))) (mC (.int 0))) Zk))) (Zc (mOp ixM (Zd 0) (mC (.int 4))) Zk)))) (mCB Zet (Zc (mOp ixM (Zd 0) (mC (.int 5))) Zk))) (Zb7 (Zc (mC (.int 0)) (Zc (mC (.int 0)) (Zc (mC (.int 0)) (Zc (mC (.int 0)) Zk)))))))
  (Zr Ze7
  (Zr (ZQ 1 (mOp ZO (Zd 1) (mCB ZhU (Zc (mOp ixM (Zd 0) (mC (.int 7))) Zk))))
  (ZM (mOp ZO (mOp ZO (mSl (Zd 1) Zas (Za1 (mC (.int 16)))) (mCB Zet (Zc (mOp Zfo (mC (.int 65535)) (mCB ZcE (Zc (Zd 1) Zk))) Zk))) (mSl (Zd 1) (Za1 (mC (.int 18))) Zas))))))))
def Zb8:GM:=ZR 1 3 ZgP
end
end My
namespace My
open PySem L2 L2.MM
noncomputable section
def cell (ns:List Int) (k:Int):Int:=if ns.length=0 then 0 else ns.getD (k % (ns.length:Int)).toNat 0
def mix (ns:List Int) (k:Int):Int:=
  ((cell ns k+104729*(k+1)) % 4294967291*48271 % 4294967279/64*69621+(cell ns k+104729*(k+1)) % 4294967291*48271 % 4294967279) % 4294967231
theorem Zqt (ns:List Int) (k:Int):0≤mix ns k∧mix ns k<4294967231:=by
  unfold mix; omega
theorem ZsH {ns:List Int} {k:Int} (h:0<ns.length):atI (ns.map D.int) (k % (ns.length:Int))=some (.int (cell ns k)):=by
  have a:=Int.emod_nonneg k (show (ns.length:Int)≠0 by omega)
  have b:=Int.emod_lt_of_pos k (show (0:Int)<ns.length by omega)
  have c:(k % (ns.length:Int))=(((k % (ns.length:Int)).toNat:Nat):Int):=by omega
  rw [c]
  refine Zhr ?_
  have d:(k % (ns.length:Int)).toNat<ns.length:=by omega
  rw [List.getElem?_map,List.getElem?_eq_getElem d]
  unfold cell
  rw [if_neg (by omega),List.getD_eq_getElem?_getD,List.getElem?_eq_getElem d]
  rfl
@[simp] theorem Zzb (ns:List Int) (k:Int) (θ:Sto):ZgB [.scr ns,.int k] θ=.ok (.int (cell ns k)) θ:=by
  by_cases h:ns.length=0
  · have:ns=[]:=List.eq_nil_of_length_eq_zero h
    subst this
    simp [ZgB,Zip,ZfL,cell]
  · have h1:ns.isEmpty=false:=by cases ns with
      | nil=>exact absurd rfl h
      | cons _ _=>rfl
    have h2:0<ns.length:=by omega
    simp [ZgB,Zip,ZfL,h1,h2,ZsH (k:=k) h2]
@[simp] theorem ZAi (ns:List Int) (k:Int) (θ:Sto):ZbC [.scr ns,.int k] θ=.ok (.int (mix ns k)) θ:=by
  simp [ZbC,Znv,Zd0,mix]
@[simp] theorem Zvp (k:Int) (θ:Sto):Zet [.int k] θ=.ok (il [k/256,k % 256]) θ:=by
  simp [Zet,Znu]
theorem Zhl {t:TMr} {body:SM} {n:Nat} {ρ:List Sl} {θ:Sto}:ZcK t body (n+1) ρ θ=(t ρ θ).bind fun k θ=>if k=true then (body ρ θ).bind (Zfu (ZcK t body n)) else .ok (.nx,ρ) θ:=rfl
abbrev Ztf:TMr:=ZK (mOp gtM (Zd 1) (mC (.int 65535)))
abbrev Ztg:SM:=ZQ 1 (mOp ZO (mOp Zbd (Zd 1) (mC (.int 65536))) (mOp Zfp (Zd 1) (mC (.int 65536))))
theorem ZmC (t:Int) (x:Sl) (r:List Sl) (θ:Sto):Ztf (x::.val (.int t)::r) θ=.ok (decide (65535<t)) θ:=by simp
theorem ZqS (t:Int) (x:Sl) (r:List Sl) (θ:Sto):Ztg (x::.val (.int t)::r) θ=.ok (.nx,x::.val (.int (t % 65536+t/65536))::r) θ:=by simp
theorem ZrG {t:Int} (n:Nat) (h0:0≤t) (h1:t<4294967296) (x:Sl) (r:List Sl) (θ:Sto):ZcK Ztf Ztg (n+3) (x::.val (.int t)::r) θ=.ok (.nx,x::.val (.int (ZaY t))::r) θ:=by
  rw [Zhl,ZmC,R.bind_ok]
  by_cases c1:65535<t
  · have s1:=Zi7 c1
    rw [if_pos (by simpa using c1),ZqS,R.bind_ok,ZdI]
    have hu:t % 65536+t/65536≤131070:=by omega
    generalize t % 65536+t/65536=u at s1 hu
    rw [Zhl,ZmC,R.bind_ok]
    by_cases c2:65535<u
    · have s2:=Zi7 c2
      rw [if_pos (by simpa using c2),ZqS,R.bind_ok,ZdI]
      have hv:u % 65536+u/65536≤65535:=by omega
      generalize u % 65536+u/65536=v at s2 hv
      rw [Zhl,ZmC,R.bind_ok,if_neg (by simp; omega),←s1.1,←s2.1,ZfF s2.2.1 hv]
    · rw [if_neg (by simpa using c2),←s1.1,ZfF s1.2.1 (by omega)]
  · rw [if_neg (by simpa using c1),ZfF h0 (by omega)]
theorem ZiJ {t:Int} (h0:0≤t) (h1:t<4294967296) (x:Sl) (r:List Sl) (θ:Sto):ZcK (ZK (mOp gtM (Zd 1) (mC (.int 65535)))) (ZQ 1 (mOp ZO (mOp Zbd (Zd 1) (mC (.int 65536))) (mOp Zfp (Zd 1) (mC (.int 65536))))) 200 (x::.val (.int t)::r) θ=.ok (.nx,x::.val (.int (ZaY t))::r) θ:=ZrG 197 h0 h1 x r θ
def Byt (ns:List Int):Prop:=(∀z∈ns,0≤z∧z≤255)∧ns.length≤1000
theorem ZmM:∀{ns:List Int} {m:Nat},(∀z∈ns,0≤z∧z≤255)→ns.length≤2*m→zw ns≤65535*m
  | [],m,_,_=>by simp [zw]; omega
  | [a],m,h,hl=>by
    have:=h a (by simp)
    simp [zw] at hl ⊢
    omega
  | a::b::r,m,h,hl=>by
    have h1:=h a (by simp)
    have h2:=h b (by simp)
    obtain ⟨m,rfl⟩:∃k,m=k+1:=⟨m-1,by simp at hl; omega⟩
    have:=ZmM (ns:=r) (m:=m) (fun z hz=>h z (by simp [hz])) (by simp at hl; omega)
    simp [zw]
    omega
theorem Byt.sum {ns:List Int} (h:Byt ns):0≤zw ns∧zw ns<4294967296:=by
  refine ⟨ZmL fun z hz=>(h.1 z hz).1,?_⟩
  have:=ZmM (m:=500) h.1 (by have:=h.2; omega)
  omega
theorem Zll {ns:List Int} (h:Byt ns) (θ:Sto):Zdh [il ns] θ=.ok (.int (ZaY (zw ns))) θ:=by
  have l1:=Zi8 ns
  have l2:=Zlz ns
  have l3:=h.2
  have hs:=h.sum
  have e:=ZmN ns
  simp [Zdh,Zij,Zgj,Zgt,Zd0,show (Zeu ns).length≤100000 by omega,show (ZhJ ns).length≤100000 by omega,e]
  rw [ZiJ hs.1 hs.2]
  simp
theorem ZpH {ns:List Int} (h:Byt ns) (θ:Sto):ZeF [il ns] θ=.ok (.int (65535-ZaY (zw ns))) θ:=by
  simp [ZeF,Zib,Zll h]
theorem ZiF {ns:List Int} (h:Byt ns) (θ:Sto):ZcE [il ns] θ=.ok (.int (ZaY (zw ns))) θ:=by
  have hs:=h.sum
  have l3:=h.2
  let st:Nat→List Sl:=fun i=>[.val (il ns),.val (.int (wpre ns i)),if i=0 then .no else .val (.int ((i:Int)-1))]
  have loop:=Zsy (θ:=θ) (lo:=0) (n:=ns.length) (tg:=gNm 2) (body:=ZQ 1 (mOp ZO (Zd 1) (mOp Zcq (mOp ixM (Zd 0) (Zd 2)) (mOp ixM (Zb7 (Zc (mC (.int 256)) (Zc (mC (.int 1)) Zk))) (mOp Zbd (Zd 2) (mC (.int 2))))))) st ?_ (fun i hi=>⟨_,rfl⟩) rfl
  · have b1:(ns.length:Int)≤1000000:=by omega
    have b2 : -1000000≤(ns.length:Int):=by omega
    have b3:ns.length≤1000000:=by omega
    have l0:st 0=[.val (il ns),.val (.int 0),.no]:=rfl
    rw [l0] at loop
    simp [ZcE,Zio,Zgl,Zgk,ZdR,b1,b2,b3]
    simp at loop
    rw [loop]
    simp [st]
    rw [Zlg,ZiJ hs.1 hs.2]
    simp
  · intro i ρ1 hi e
    have e':ρ1=[.val (il ns),.val (.int (wpre ns i)),.val (.int (0+(i:Int)))]:=by
      simp [st] at e
      simp [←e]
    subst e'
    have g1:ixM (il ns) (.int (0+(i:Int))) θ=.ok (.int (ns.getD i 0)) θ:=by
      rw [Zcs (by omega) (by omega)]
      simp [gt]
    have g2:ixM (il [256,1]) (.int ((0+(i:Int)) % 2)) θ=.ok (.int (if i % 2=0 then 256 else 1)) θ:=by
      rw [Zcs (by omega) (by simp; omega)]
      by_cases q:i % 2=0
      · rw [show ((0+(i:Int)) % 2).toNat=0 by omega,if_pos q]; rfl
      · rw [show ((0+(i:Int)) % 2).toNat=1 by omega,if_neg q]; rfl
    have cm:Zd0 (ns.getD i 0) (if i % 2=0 then 256 else 1):=.inr (by split<;>decide)
    simp only [Zve,Zvf,ZsN,Zvg,ZpD,x_c,ZsP,List.getElem?_cons_succ,List.getElem?_cons_zero,R.bind_ok,g1]
    simp only [List.length_cons,List.length_nil,Zwo,ZuL,Zm4,if_pos (show (0:Int)<2 by decide),R.bind_ok,g2,Zqq,if_pos cm,Zrn,if_pos (show 0+1+1≤100000 by decide)]
    simp [st,wpre]
end
end My
namespace My
open PySem L2 L2.MM
noncomputable section
structure Seg where
  src:Int
  goal:Int
  num:Int
  ans:Int
  flags:Int
  win:Int
  most:Int
  data:List Int
def Seg.d (s:Seg):D:=.tup [.int s.src,.int s.goal,.int s.num,.int s.ans,.int s.flags,.int s.win,.int s.most,itp s.data]
structure Seg.Ok (s:Seg):Prop where
  src:0≤s.src∧s.src≤65535
  goal:0≤s.goal∧s.goal≤65535
  num:0≤s.num∧s.num≤4294967295
  ans:0≤s.ans∧s.ans≤4294967295
  flags:0≤s.flags∧s.flags≤31
  win:0≤s.win∧s.win≤65535
  most:s.most=0∨(4≤s.most∧s.most≤65535∧s.flags/2 % 2=1)
  data:(∀z∈s.data,0≤z∧z≤255)∧s.data.length≤16
section
variable {s:Seg} {θ:Sto}
@[simp] theorem d0:ixM s.d (.int 0) θ=.ok (.int s.src) θ:=nr rfl
@[simp] theorem d1:ixM s.d (.int 1) θ=.ok (.int s.goal) θ:=nr rfl
@[simp] theorem d2:ixM s.d (.int 2) θ=.ok (.int s.num) θ:=nr rfl
@[simp] theorem d3:ixM s.d (.int 3) θ=.ok (.int s.ans) θ:=nr rfl
@[simp] theorem d4:ixM s.d (.int 4) θ=.ok (.int s.flags) θ:=nr rfl
@[simp] theorem d5:ixM s.d (.int 5) θ=.ok (.int s.win) θ:=nr rfl
@[simp] theorem d6:ixM s.d (.int 6) θ=.ok (.int s.most) θ:=nr rfl
@[simp] theorem d7:ixM s.d (.int 7) θ=.ok (itp s.data) θ:=nr rfl
end
def two (k:Int):List Int:=[k/256 % 256,k % 256]
def ZlV (k:Int):List Int:=two (k/65536)++two k
def hd (s:Seg):Int:=if s.most=0 then 80 else 96
def Za4 (s:Seg):List Int:=two s.src++two s.goal++(ZlV s.num++ZlV s.ans)++[hd s,s.flags]++two s.win
def ZcX (m:Int):List Int:=if m=0 then [] else [2,4]++two m
def behind (s:Seg):List Int:=[0,0]++ZcX s.most++s.data
def putL (s:Seg):List Int:=Za4 s++two (65535-ZaY (zw (Za4 s++[0,0]++behind s)))++behind s
@[simp] theorem ZsR (k:Int) (θ:Sto):zm [.int k] θ=.ok (il (two k)) θ:=by
  simp [zm,Zfy,two]
@[simp] theorem two_len (k:Int):(two k).length=2:=rfl
@[simp] theorem Zwm (k:Int):(ZlV k).length=4:=rfl
@[simp] theorem Zvb (s:Seg):(Za4 s).length=16:=rfl
@[simp] theorem ZrF (k:Int) (θ:Sto):Zbv [.int k] θ=.ok (il (ZlV k)) θ:=by
  simp [Zbv,Ze4,ZlV]
@[simp] theorem ZpM (k:Int) (θ:Sto):zU [.int k] θ=.ok (.int (16*(k/4))) θ:=by
  simp [zU,ZdX,Zd0]
@[simp] theorem Zob (k:Int) (θ:Sto):Zba [.int k] θ=.ok (il (ZcX k)) θ:=by
  by_cases h:k=0<;>simp [Zba,ZdA,ZcX,h,ZcQ]
@[simp] theorem ZwK (s:Seg) (θ:Sto):zT [s.d] θ=.ok (il (Za4 s)) θ:=by
  by_cases h:s.most=0<;>simp [zT,Zch,Za4,hd,h]
theorem ZiY (m:Int):(ZcX m).length≤4:=by unfold ZcX; split<;>simp
theorem Zej (k:Int):∀z∈two k,0≤z∧z≤255:=by
  intro z hz
  simp [two] at hz
  rcases hz with rfl | rfl<;>omega
theorem Zl6 (k:Int):∀z∈ZlV k,0≤z∧z≤255:=by
  intro z hz
  rcases List.mem_append.mp hz with h | h
  · exact Zej _ z h
  · exact Zej _ z h
theorem ZbM {a b:List Int} (h1:∀z∈a,0≤z∧z≤255) (h2:∀z∈b,0≤z∧z≤255):∀z∈a++b,0≤z∧z≤255:=fun z hz=>(List.mem_append.mp hz).elim (h1 z) (h2 z)
theorem Zi9 {s:Seg} (h:0≤s.flags∧s.flags≤255):∀z∈Za4 s,0≤z∧z≤255:=by
  refine ZbM (ZbM (ZbM (ZbM (Zej _) (Zej _)) (ZbM (Zl6 _) (Zl6 _))) ?_) (Zej _)
  intro z hz
  simp at hz
  rcases hz with rfl | rfl
  · unfold hd; split<;>omega
  · exact h
theorem Zre (m:Int):∀z∈ZcX m,0≤z∧z≤255:=by
  unfold ZcX
  split
  · intro z hz; simp at hz
  · refine ZbM ?_ (Zej _)
    intro z hz
    simp at hz
    omega
theorem Zh8 {s:Seg} (h:∀z∈s.data,0≤z∧z≤255):∀z∈behind s,0≤z∧z≤255:=by
  refine ZbM (ZbM ?_ (Zre _)) h
  intro z hz
  simp at hz
  omega
theorem Zek (s:Seg):(behind s).length≤6+s.data.length:=by
  have:=ZiY s.most
  simp [behind]
  omega
structure Seg.Put (s:Seg):Prop where
  flags:0≤s.flags∧s.flags≤255
  data:(∀z∈s.data,0≤z∧z≤255)∧s.data.length≤100
theorem Seg.Ok.put {s:Seg} (h:s.Ok):s.Put:=⟨⟨h.flags.1,by have:=h.flags.2; omega⟩,h.data.1,by have:=h.data.2; omega⟩
theorem Seg.Put.byt {s:Seg} (h:s.Put):Byt (Za4 s++[0,0]++behind s):=by
  refine ⟨ZbM (ZbM (Zi9 h.flags) ?_) (Zh8 h.data.1),?_⟩
  · intro z hz
    simp at hz
    omega
  · have:=Zek s
    have:=h.data.2
    simp
    omega
theorem Zvq {s:Seg} (h:s.Put) (θ:Sto):Zly [s.d] θ=.ok (il (putL s)) θ:=by
  have b:=h.byt
  have l1:=ZiY s.most
  have l2:=h.data.2
  have l3:=Zek s
  have e1:0::0::(ZcX s.most++s.data)=behind s:=rfl
  have e2:=ZpH b θ
  simp only [List.append_assoc,List.cons_append,List.nil_append] at e2
  simp (disch:=first | done | (simp; done) | omega | (simp; omega)) [Zly,Zns,ZjB,-ZqI,e1,e2]
  simp [putL,show 18+(behind s).length≤100000 by omega]
theorem Zhs {a b c:List Int} (ha:a.length % 2=0) (hb:b.length % 2=0):zw (a++b++c)=zw a+zw b+zw c:=by
  rw [Zht (by rw [List.length_append]; omega),Zht ha]
theorem ZpT {s:Seg} (h:s.Put):ZaY (zw (putL s))=65535:=by
  have b:=h.byt
  have w0:=b.sum
  have e1:zw (putL s)=zw (Za4 s)+zw (two (65535-ZaY (zw (Za4 s++[0,0]++behind s))))+zw (behind s):=Zhs (by simp) (by simp)
  have e2:zw (Za4 s++[0,0]++behind s)=zw (Za4 s)+zw [0,0]+zw (behind s):=Zhs (by simp) (by simp)
  have e3:zw [0,0]=0:=by simp [zw]
  have f:=Znk w0.1
  have e4:zw (two (65535-ZaY (zw (Za4 s++[0,0]++behind s))))=256*((65535-ZaY (zw (Za4 s++[0,0]++behind s)))/256)+(65535-ZaY (zw (Za4 s++[0,0]++behind s))) % 256:=by
    have:=f.2.1
    have:=f.1
    simp only [zw,two]
    omega
  have c:=ZmB w0.1
  rw [e1,e4]
  rw [e3] at e2
  have:zw (Za4 s)+(256*((65535-ZaY (zw (Za4 s++[0,0]++behind s)))/256)+(65535-ZaY (zw (Za4 s++[0,0]++behind s))) % 256)+zw (behind s)=zw (Za4 s++[0,0]++behind s)+(256*((65535-ZaY (zw (Za4 s++[0,0]++behind s)))/256)+(65535-ZaY (zw (Za4 s++[0,0]++behind s))) % 256):=by omega
  rw [this]
  exact c
theorem Zm0 {s:Seg} (h:s.Put):Byt (putL s):=by
  refine ⟨ZbM (ZbM (Zi9 h.flags) (Zej _)) (Zh8 h.data.1),?_⟩
  have:=Zek s
  have:=h.data.2
  simp [putL]
  omega
theorem ZmZ {s:Seg}:(putL s).length=(if s.most=0 then 20 else 24)+s.data.length:=by
  unfold putL behind ZcX
  by_cases h:s.most=0<;>simp [h]<;>omega
theorem Zmk (s:Seg):∃x y,putL s=[s.src/256 % 256,s.src % 256,s.goal/256 % 256,s.goal % 256,s.num/65536/256 % 256,s.num/65536 % 256,s.num/256 % 256,s.num % 256,
    s.ans/65536/256 % 256,s.ans/65536 % 256,s.ans/256 % 256,s.ans % 256,hd s,s.flags,s.win/256 % 256,s.win % 256,x,y,0,0]++(ZcX s.most++s.data):=⟨_,_,rfl⟩
@[simp] theorem Zcw {a:List Int} {i:Int} (h0:0≤i) (h:i+1<a.length) (θ:Sto):Zak [il a,.int i] θ=.ok (.int (256*gt a i.toNat+gt a (i+1).toNat)) θ:=by
  simp [Zak,Zia,Zcs (θ:=θ) h0 (show i<a.length by omega),Zcs (θ:=θ) (show 0≤i+1 by omega) h,Zd0]
@[simp] theorem ZiI {a:List Int} {i:Int} (h0:0≤i) (h:i+3<a.length) (θ:Sto):Zc7 [il a,.int i] θ=.ok (.int (65536*(256*gt a i.toNat+gt a (i+1).toNat)+(256*gt a (i+2).toNat+gt a (i+2+1).toNat))) θ:=by
  simp [Zc7,Zg4,Zcw (θ:=θ) h0 (show i+1<a.length by omega),Zcw (θ:=θ) (show 0≤i+2 by omega) (show i+2+1<a.length by omega),Zd0]
@[simp] theorem ZiG {a:List Int} (h:12<a.length) (θ:Sto):Zbu [il a] θ=.ok (.int (gt a 12/16*4)) θ:=by
  have:=Zcs (a:=a) (θ:=θ) (i:=12) (by decide) (by omega)
  simp [Zbu,Zg3,this,Zd0]
def bit (f k:Int):Int:=if Builtin.bitAnd f k=0 then 0 else 1
@[simp] theorem ZAj (f k:Int) (θ:Sto):Zfr [.int f,.int k] θ=.ok (.int (bit f k)) θ:=by
  by_cases h:Builtin.bitAnd f k=0<;>simp [Zfr,Znt,bit,h]
theorem ZsF:∀n:Fin 32,bit (n.val:Int) 1=(n.val:Int) % 2∧bit (n.val:Int) 2=(n.val:Int)/2 % 2∧bit (n.val:Int) 4=(n.val:Int)/4 % 2∧bit (n.val:Int) 8=(n.val:Int)/8 % 2∧bit (n.val:Int) 16=(n.val:Int)/16 % 2:=by decide
theorem Zrg {f:Int} (h:0≤f∧f≤31):bit f 1=f % 2∧bit f 2=f/2 % 2∧bit f 4=f/4 % 2∧bit f 8=f/8 % 2∧bit f 16=f/16 % 2:=by
  have:=ZsF ⟨f.toNat,by omega⟩
  simp only at this
  rw [show ((f.toNat:Nat):Int)=f by omega] at this
  exact this
theorem ZpK (s:Seg) (θ:Sto):ZcA [s.d] θ=.ok (.int (s.data.length+bit s.flags 2+bit s.flags 1)) θ:=by
  simp [ZcA,Zig]
def at2 (a:List Int) (i:Nat):Int:=256*gt a i+gt a (i+1)
def at4 (a:List Int) (i:Nat):Int:=65536*at2 a i+at2 a (i+2)
def longOk (a:List Int):Bool:=decide (bit (gt a 13) 2=1) && (decide (gt a 20=2) && (decide (gt a 21=4) && decide (4≤at2 a 22)))
def Zbr (a:List Int):Int:=gt a 12/16*4
def Zax (a:List Int):Bool:=decide (20≤a.length) && (decide (gt a 12=80∨gt a 12=96) && (decide (gt a 13≤31) && (decide (0≤(a.length:Int)-Zbr a∧(a.length:Int)-Zbr a≤16) &&
  (decide (at2 a 18=0) && ((decide (Zbr a=20) || longOk a) && decide (ZaY (zw a)=65535))))))
theorem ZtB {a:List Int} (h:24≤a.length) (θ:Sto):zS [il a] θ=.ok (.bl (longOk a)) θ:=by
  have g:=fun (i:Int) (h0:0≤i) (h1:i<a.length)=>Zcs (a:=a) (θ:=θ) (i:=i) h0 h1
  have g13:=g 13 (by decide) (by omega)
  have g20:=g 20 (by decide) (by omega)
  have g21:=g 21 (by decide) (by omega)
  have g22:=Zcw (a:=a) (i:=22) (by decide) (by omega) θ
  simp only [show (13:Int).toNat=13 from rfl,show (20:Int).toNat=20 from rfl,show (21:Int).toNat=21 from rfl,show (22:Int).toNat=22 from rfl,show (22+1:Int).toNat=23 from rfl] at g13 g20 g21 g22
  unfold longOk at2
  simp [zS,Zce,g13,g20,g21,g22]
theorem Zss (x y z:Int) (θ:Sto):inM (.int x) (.tup [.int y,.int z]) θ=.ok (.bl (decide (x=y∨x=z))) θ:=by
  have e:inD θ (.int x) (.tup [.int y,.int z])=some (decide (y=x) || (decide (z=x) || false)):=rfl
  have e2:(decide (y=x) || (decide (z=x) || false))=decide (x=y∨x=z):=by
    rw [Bool.eq_iff_iff]
    simp only [Bool.or_eq_true,decide_eq_true_eq,Bool.false_eq_true,or_false]
    constructor
    · rintro (h | h)
      · exact .inl h.symm
      · exact .inr h.symm
    · rintro (h | h)
      · exact .inl h.symm
      · exact .inr h.symm
  unfold inM
  rw [e,e2]
theorem Zc9 {a:List Int} (h:Byt a) (θ:Sto):Zam [il a] θ=.ok (.bl (Zax a)) θ:=by
  by_cases c1:20≤a.length
  · have g:=fun (i:Int) (h0:0≤i) (h1:i<a.length)=>Zcs (a:=a) (θ:=θ) (i:=i) h0 h1
    have g12:=g 12 (by decide) (by omega)
    have g13:=g 13 (by decide) (by omega)
    have g18:=Zcw (a:=a) (i:=18) (by decide) (by omega) θ
    have gh:=ZiG (a:=a) (by omega) θ
    have gf:=Zll h θ
    have c1':(20:Int)≤a.length:=by omega
    simp only [show (12:Int).toNat=12 from rfl,show (13:Int).toNat=13 from rfl,show (18:Int).toNat=18 from rfl,show (18+1:Int).toNat=19 from rfl] at g12 g13 g18
    by_cases c2:gt a 12=80
    · rw [c2] at g12 gh
      simp [Zam,Zbz,Zax,Zbr,at2,c1,c1',g12,g13,g18,gh,gf,Zss,c2]<;>rfl
    · by_cases c3:gt a 12=96
      · rw [c3] at g12 gh
        by_cases c4:24≤a.length
        · have gl:=ZtB c4 θ
          simp [Zam,Zbz,Zax,Zbr,at2,c1,c1',g12,g13,g18,gh,gf,Zss,c3,gl]<;>rfl
        · have c5:¬(24:Int)≤(a.length:Int):=by omega
          simp [Zam,Zbz,Zax,Zbr,at2,c1,c1',g12,g13,g18,gh,gf,Zss,c3,c5]<;>rfl
      · simp [Zam,Zbz,Zax,Zbr,at2,c1,c1',g12,g13,g18,gh,gf,Zss,c2,c3]
  · have c1':¬(20:Int)≤a.length:=by omega
    simp [Zam,Zbz,Zax,c1,c1']
def ZbE (a:List Int):Seg:=⟨at2 a 0,at2 a 2,at4 a 4,at4 a 8,gt a 13,at2 a 14,if Zbr a=24 then at2 a 22 else 0,a.drop (Zbr a).toNat⟩
theorem ZgY {a:List Int} (h:Zax a=true):20≤a.length∧((Zbr a=20)∨(Zbr a=24∧24≤a.length∧longOk a=true))∧(a.length:Int)-Zbr a≤16∧gt a 13≤31:=by
  unfold Zax at h
  simp only [Bool.and_eq_true,decide_eq_true_eq,Bool.or_eq_true] at h
  obtain ⟨h1,h2,h3,h4,h5,h6,h7⟩:=h
  refine ⟨h1,?_,h4.2,h3⟩
  rcases h2 with h2 | h2
  · left; unfold Zbr; rw [h2]; rfl
  · right
    have e:Zbr a=24:=by unfold Zbr; rw [h2]; rfl
    refine ⟨e,by have:=h4.1; rw [e] at this; omega,?_⟩
    rcases h6 with h6 | h6
    · rw [e] at h6; cases h6
    · exact h6
theorem ZmR {a:List Int} (h:Byt a) (hr:Zax a=true) (θ:Sto):ZiR [il a] θ=.ok (ZbE a).d θ:=by
  obtain ⟨l1,l2,l3,l4⟩:=ZgY hr
  have ir:=Zc9 h θ
  rw [hr] at ir
  have gh:=ZiG (a:=a) (by omega) θ
  have g13:=Zcs (a:=a) (θ:=θ) (i:=13) (by decide) (by omega)
  have q0:=Zcw (a:=a) (i:=0) (by decide) (by omega) θ
  have q2:=Zcw (a:=a) (i:=2) (by decide) (by omega) θ
  have q14:=Zcw (a:=a) (i:=14) (by decide) (by omega) θ
  have q4:=ZiI (a:=a) (i:=4) (by decide) (by omega) θ
  have q8:=ZiI (a:=a) (i:=8) (by decide) (by omega) θ
  simp only [show (13:Int).toNat=13 from rfl,show (0:Int).toNat=0 from rfl,show (0+1:Int).toNat=1 from rfl,show (2:Int).toNat=2 from rfl,show (2+1:Int).toNat=3 from rfl,show (14:Int).toNat=14 from rfl,show (14+1:Int).toNat=15 from rfl,
    show (4:Int).toNat=4 from rfl,show (4+1:Int).toNat=5 from rfl,show (4+2:Int).toNat=6 from rfl,show (4+2+1:Int).toNat=7 from rfl,show (8:Int).toNat=8 from rfl,show (8+1:Int).toNat=9 from rfl,show (8+2:Int).toNat=10 from rfl,show (8+2+1:Int).toNat=11 from rfl] at g13 q0 q2 q14 q4 q8
  have gh':Zbu [il a] θ=.ok (.int (Zbr a)) θ:=gh
  have ps:∀x:Int,0≤x→Zbe a (some x) none=a.drop x.toNat:=fun x hx=>Zdi a hx
  rcases l2 with e | ⟨e,l5,_⟩
  · simp [ZiR,ZjN,ZgK,ir,gh',e,g13,q0,q2,q4,q8,q14,ps,ZbE,Seg.d,at2,at4]
  · have q22:=Zcw (a:=a) (i:=22) (by decide) (by omega) θ
    simp only [show (22:Int).toNat=22 from rfl,show (22+1:Int).toNat=23 from rfl] at q22
    simp [ZiR,ZjN,ZgK,ir,gh',e,g13,q0,q2,q4,q8,q14,q22,ps,ZbE,Seg.d,at2,at4]
end
end My
namespace My
open PySem L2 L2.MM
noncomputable section
theorem ZpS (s:Seg):gt (putL s) 12=hd s∧gt (putL s) 13=s.flags∧at2 (putL s) 18=0∧at2 (putL s) 0=256*(s.src/256 % 256)+s.src % 256∧at2 (putL s) 2=256*(s.goal/256 % 256)+s.goal % 256∧
    at4 (putL s) 4=65536*(256*(s.num/65536/256 % 256)+s.num/65536 % 256)+(256*(s.num/256 % 256)+s.num % 256)∧at4 (putL s) 8=65536*(256*(s.ans/65536/256 % 256)+s.ans/65536 % 256)+(256*(s.ans/256 % 256)+s.ans % 256)∧
    at2 (putL s) 14=256*(s.win/256 % 256)+s.win % 256:=by
  obtain ⟨x,y,e⟩:=Zmk s
  rw [e]
  unfold at4 at2
  refine ⟨rfl,rfl,?_,rfl,rfl,rfl,rfl,rfl⟩
  show 256*(0:Int)+0=0
  rfl
theorem Zlu (s:Seg) (h:s.most≠0):gt (putL s) 20=2∧gt (putL s) 21=4∧at2 (putL s) 22=256*(s.most/256 % 256)+s.most % 256:=by
  obtain ⟨x,y,e⟩:=Zmk s
  have e2:ZcX s.most=[2,4,s.most/256 % 256,s.most % 256]:=by unfold ZcX; rw [if_neg h]; rfl
  rw [e,e2]
  unfold at2
  exact ⟨rfl,rfl,rfl⟩
theorem ZiN {s:Seg} (h:s.Ok):Zax (putL s)=true:=by
  obtain ⟨g12,g13,g18,_⟩:=ZpS s
  have hl:=ZmZ (s:=s)
  have hd':=h.data.2
  have hf:=ZpT h.put
  have hw:=h.flags
  unfold Zax longOk Zbr
  simp only [Bool.and_eq_true,decide_eq_true_eq,Bool.or_eq_true]
  rw [g12,g13,g18,hf,hl]
  by_cases m:s.most=0
  · have e:hd s=80:=if_pos m
    rw [e,if_pos m]
    simp
    omega
  · have e:hd s=96:=if_neg m
    obtain ⟨p1,p2,p3⟩:=Zlu s m
    have hm:4≤s.most∧s.most≤65535∧s.flags/2 % 2=1:=h.most.resolve_left m
    have hb:=(Zrg h.flags).2.1
    rw [e,if_neg m,p1,p2,p3,hb]
    simp
    omega
theorem ZqY (s:Seg):(putL s).drop (if s.most=0 then 20 else 24)=s.data:=by
  obtain ⟨x,y,e⟩:=Zmk s
  rw [e]
  by_cases m:s.most=0
  · rw [if_pos m]
    simp [ZcX,m]
  · rw [if_neg m]
    simp [ZcX,m,two]
theorem Zni {s:Seg} (h:s.Ok):ZbE (putL s)=s:=by
  obtain ⟨g12,g13,g18,g0,g2,g4,g8,g14⟩:=ZpS s
  have e0:=ZqY s
  obtain ⟨⟨a1,a2⟩,⟨b1,b2⟩,⟨c1,c2⟩,⟨d1,d2⟩,_,⟨f1,f2⟩,hm,_⟩:=h
  unfold ZbE Zbr
  rw [g12,g13,g0,g2,g4,g8,g14]
  obtain ⟨src,goal,num,ans,flags,win,most,data⟩:=s
  simp only at *
  by_cases m:most=0
  · subst m
    have e:hd ⟨src,goal,num,ans,flags,win,0,data⟩=80:=rfl
    rw [e]
    simp only [if_true] at e0
    simp [e0]
    omega
  · have e:hd ⟨src,goal,num,ans,flags,win,most,data⟩=96:=if_neg m
    obtain ⟨_,_,p3⟩:=Zlu ⟨src,goal,num,ans,flags,win,most,data⟩ m
    simp only at p3
    rw [e,p3]
    rw [if_neg m] at e0
    simp [e0]
    have:=hm.resolve_left m
    omega
@[simp] theorem ZzU {s:Seg} {θ:Sto}:Zdb θ s.d (some 2) (some 4)=some (.tup [.int s.num,.int s.ans]):=nr rfl
theorem two_small {k:Int} (h0:0≤k) (h:k≤65535):[k/256,k % 256]=two k:=by
  unfold two
  rw [show k/256 % 256=k/256 by omega]
theorem Zh4 {k:Int} (h0:0≤k) (h:k≤4294967295):[k/65536/256,k/65536 % 256,k % 65536/256,k % 256]=ZlV k:=by
  unfold ZlV two
  rw [show k/65536/256 % 256=k/65536/256 by omega,show k % 65536/256=k/256 % 256 by omega]
  rfl
def Zcx (s:Seg):List Int:=[s.src/256,s.src % 256,s.goal/256,s.goal % 256,s.num/65536/256,s.num/65536 % 256,s.num % 65536/256,s.num % 256,s.ans/65536/256,s.ans/65536 % 256,s.ans % 65536/256,s.ans % 256,
  hd s,s.flags,s.win/256,s.win % 256,0,0,0,0]++((if s.most=0 then [] else [2,4,s.most/256,s.most % 256])++s.data)
theorem Zp0 {s:Seg} (h:s.Ok):Zcx s=Za4 s++[0,0]++behind s:=by
  obtain ⟨⟨a1,a2⟩,⟨b1,b2⟩,⟨c1,c2⟩,⟨d1,d2⟩,⟨f1,f2⟩,⟨w1,w2⟩,hm,hd1,hd2⟩:=id h
  have e1:=two_small a1 a2
  have e2:=two_small b1 b2
  have e3:=Zh4 c1 c2
  have e4:=Zh4 d1 d2
  have e5:=two_small w1 w2
  have e6:(if s.most=0 then [] else [2,4,s.most/256,s.most % 256])=ZcX s.most:=by
    unfold ZcX
    by_cases m:s.most=0
    · rw [if_pos m,if_pos m]
    · rw [if_neg m,if_neg m]
      have:=hm.resolve_left m
      rw [←two_small (k:=s.most) (by omega) (by omega)]
      rfl
  unfold Zcx Za4 behind
  rw [e6,←e1,←e2,←e3,←e4,←e5]
  rfl
theorem ZrZ {s:Seg} (h:s.Ok):(Zcx s).take 16++two (65535-ZaY (zw (Zcx s)))++(Zcx s).drop 18=putL s:=by
  rw [Zp0 h]
  have e1:(Za4 s++[0,0]++behind s).take 16=Za4 s:=by
    rw [List.append_assoc,List.take_append_of_le_length (by simp),List.take_of_length_le (by simp)]
  have e2:(Za4 s++[0,0]++behind s).drop 18=behind s:=by
    have:(Za4 s++[0,0]).length=18:=by simp
    rw [←this,List.drop_left]
  rw [e1,e2]
  rfl
theorem Ziv {s:Seg} (h:s.Ok) (θ:Sto) (x y:Sl):ZM (mOp ZO (mOp ZO (mSl (Zd 1) Zas (Za1 (mC (.int 16)))) (mCB Zet (Zc (mOp Zfo (mC (.int 65535)) (mCB ZcE (Zc (Zd 1) Zk))) Zk))) (mSl (Zd 1) (Za1 (mC (.int 18))) Zas)) [x,.val (il (Zcx s)),y] θ
    = .ok (.rt (il (putL s)),[x,.val (il (Zcx s)),y]) θ:=by
  have pe:=Zp0 h
  have bp:=h.put.byt
  rw [←pe] at bp
  have lf:=ZiF bp θ
  have hs:=Znk bp.sum.1
  have hl:(Zcx s).length≤100:=by
    have:=Zek s
    have:=h.data.2
    rw [pe]
    simp
    omega
  have fin:=ZrZ h
  have tw:[(65535-ZaY (zw (Zcx s)))/256,(65535-ZaY (zw (Zcx s))) % 256]=two (65535-ZaY (zw (Zcx s))):=two_small (by omega) (by omega)
  have k1:Zbe (Zcx s) none (some 16)=(Zcx s).take 16:=ZfG _ (by decide)
  have k2:Zbe (Zcx s) (some 18) none=(Zcx s).drop 18:=Zdi _ (by decide)
  have fs:ZO (il ((Zcx s).take 16)) (il (two (65535-ZaY (zw (Zcx s))))) θ=.ok (il ((Zcx s).take 16++two (65535-ZaY (zw (Zcx s))))) θ:=ZjB (by simp; omega)
  have fs2:ZO (il ((Zcx s).take 16++two (65535-ZaY (zw (Zcx s))))) (il ((Zcx s).drop 18)) θ=.ok (il (putL s)) θ:=by
    rw [ZjB (by simp; omega),fin]
  simp only [ZpA,Zvf,ZyR,ZsN,Zy3,ZpD,ZsP,ZpB,Zto,x_c,R.bind_ok,List.getElem?_cons_succ,List.getElem?_cons_zero,Zi4,k1,k2,lf,Zm4,if_true,Zvp,tw,fs,fs2]
theorem ZfO {s:Seg} (h:s.Ok) (θ:Sto):Zb8 [s.d] θ=.ok (il (putL s)) θ:=by
  have tail:=Ziv h θ
  have dl:=h.data.2
  by_cases m:s.most=0
  · have g:ixM (il [80,96]) (.int 0) θ=.ok (.int 80) θ:=rfl
    have e0:hd s=80:=if_pos m
    have pl:[s.src/256,s.src % 256,s.goal/256,s.goal % 256,s.num/65536/256,s.num/65536 % 256,s.num % 65536/256,s.num % 256,s.ans/65536/256,s.ans/65536 % 256,s.ans % 65536/256,s.ans % 256,
      80,s.flags,s.win/256,s.win % 256,0,0,0,0]++s.data=Zcx s:=by unfold Zcx; rw [if_pos m,e0]; rfl
    simp only [List.cons_append,List.nil_append] at pl
    simp [Zb8,ZgP,Ze8,Ze7,ZdR,ZcR,m,g,pl,-ZpA,tail,show s.data.length+20≤100000 by omega,show 20+s.data.length≤100000 by omega]
  · have g:ixM (il [80,96]) (.int 1) θ=.ok (.int 96) θ:=rfl
    have e0:hd s=96:=if_neg m
    have mg:(0:Int)<s.most:=by have:=h.most.resolve_left m; omega
    have pl:[s.src/256,s.src % 256,s.goal/256,s.goal % 256,s.num/65536/256,s.num/65536 % 256,s.num % 65536/256,s.num % 256,s.ans/65536/256,s.ans/65536 % 256,s.ans % 65536/256,s.ans % 256,
      96,s.flags,s.win/256,s.win % 256,0,0,0,0,2,4,s.most/256,s.most % 256]++s.data=Zcx s:=by unfold Zcx; rw [if_neg m,e0]; rfl
    simp only [List.cons_append,List.nil_append] at pl
    simp [Zb8,ZgP,Ze8,Ze7,ZdR,ZcR,mg,g,pl,-ZpA,tail,show s.data.length+24≤100000 by omega,show 24+s.data.length≤100000 by omega]
end
end My
namespace My
open PySem L2 L2.MM
noncomputable section
def Zfz:SM:=(ZH ["Pile"] "row" (Zd 0) (Zb7 Zk))
def ZbY:GM:=ZR 1 1 Zfz
def Zid:SM:=(ZM (mOp Zfo (mC (.int 64)) (mCB Zc1 (Zc (ZJ ["Pile"] "row" (Zd 0)) Zk))))
def Zd7:GM:=ZR 1 1 Zid
def Zl7:SM:=(ZM (mOp Zbd (mOp ZO (Zd 0) (Zd 1)) (mC (.int 4294967296))))
def zq:GM:=ZR 2 2 Zl7
def Zif:SM:=(ZM (mOp Zfo (mOp Zbd (mOp ZO (mOp Zfo (Zd 0) (Zd 1)) (mC (.int 2147483648))) (mC (.int 4294967296))) (mC (.int 2147483648))))
def zC:GM:=ZR 2 2 Zif
def Zeq:SM:=(Zr (ZH ["End"] "ours" (Zd 0) (Zd 1))
  (Zr (ZH ["End"] "theirs" (Zd 0) (Zd 2))
  (Zr (ZH ["End"] "state" (Zd 0) (Zf4 (zY (Zd 4)) (mC (.str "syn sent")) (mC (.str "listen"))))
  (Zr (ZH ["End"] "error" (Zd 0) (mC (.str "")))
  (Zr (ZH ["End"] "first" (Zd 0) (Zd 3))
  (Zr (ZH ["End"] "una" (Zd 0) (Zd 3))
  (Zr (ZH ["End"] "nxt" (Zd 0) (Zd 3))
  (Zr (ZH ["End"] "rcv" (Zd 0) (mC (.int 0)))
  (Zr (ZH ["End"] "wnd" (Zd 0) (mC (.int 0)))
  (Zr (ZH ["End"] "told" (Zd 0) (mC (.int 0)))
  (Zr (ZH ["End"] "told_by" (Zd 0) (mC (.int 0)))
  (Zr (ZH ["End"] "most" (Zd 0) (mC (.int 12)))
  (Zr (ZH ["End"] "written" (Zd 0) (mCB (mkG "Pile" ZbY) Zk))
  (Zr (ZH ["End"] "come" (Zd 0) (mCB (mkG "Pile" ZbY) Zk))
  (Zr (ZH ["End"] "early" (Zd 0) Zmv)
  (Zr (ZH ["End"] "early_fin" (Zd 0) (mC .non))
  (Zr (ZH ["End"] "has_closed" (Zd 0) (mC (.bl false)))
  (Zr (ZH ["End"] "behind" (Zd 0) (mCB zq (Zc (Zd 3) (Zc (mC (.int 1)) Zk))))
  (Zr (ZH ["End"] "owed_reset" (Zd 0) (mC .non))
  (Zr (ZH ["End"] "owes_syn" (Zd 0) (mC (.bl false)))
  (Zr (ZH ["End"] "owes_answer" (Zd 0) (mC (.bl false)))
  (Zr (ZH ["End"] "probes" (Zd 0) (mC (.bl false)))
  (Zr (ZH ["End"] "since" (Zd 0) (mC (.int 0)))
  (Zr (ZH ["End"] "wait" (Zd 0) (mC (.int 1000)))
  (ZH ["End"] "tries" (Zd 0) (mC (.int 0)))))))))))))))))))))))))))
def Zcp:GM:=ZR 5 5 Zeq
def Zew:SM:=(Zr (ZH ["End"] "since" (Zd 0) (Zd 1))
  (Zr (ZH ["End"] "wait" (Zd 0) (mC (.int 1000)))
  (ZH ["End"] "tries" (Zd 0) (mC (.int 0)))))
def ze:GM:=ZR 2 2 Zew
def Zje:SM:=(ZM (ZJ ["End"] "state" (Zd 0)))
def ZfW:GM:=ZR 1 1 Zje
def ZeY:SM:=(ZM (mCB Zd7 (Zc (ZJ ["End"] "come" (Zd 0)) Zk)))
def Za5:GM:=ZR 1 1 ZeY
def ZdT:SM:=(ZM (mCB Ziy (Zc (ZJ ["End"] "most" (Zd 0)) (Zc (mC (.int 16)) Zk))))
def Zal:GM:=ZR 1 1 ZdT
def ZeW:SM:=(mIf (ZK (mOp eqM (ZJ ["End"] "state" (Zd 0)) (mC (.str "syn sent")))) (ZM (ZaM (Zc (ZJ ["End"] "ours" (Zd 0)) (Zc (ZJ ["End"] "theirs" (Zd 0)) (Zc (ZJ ["End"] "first" (Zd 0)) (Zc (mC (.int 0)) (Zc (mC (.int 2)) (Zc (mC (.int 64)) (Zc (mC (.int 16)) (Zc (ZaM Zk) Zk)))))))))) ZN)
def Zgf:SM:=(Zr (ZH ["End"] "owes_syn" (Zd 0) (mC (.bl false)))
  (Zr ZeW
  (ZM (ZaM (Zc (ZJ ["End"] "ours" (Zd 0)) (Zc (ZJ ["End"] "theirs" (Zd 0)) (Zc (ZJ ["End"] "first" (Zd 0)) (Zc (ZJ ["End"] "rcv" (Zd 0)) (Zc (mOp ZO (mC (.int 2)) (mC (.int 16))) (Zc (mC (.int 64)) (Zc (mC (.int 16)) (Zc (ZaM Zk) Zk))))))))))))
def ZbP:GM:=ZR 1 1 Zgf
def ZeV:SM:=(ZM (ZaM (Zc (ZJ ["End"] "ours" (Zd 0)) (Zc (ZJ ["End"] "theirs" (Zd 0)) (Zc (Zd 1) (Zc (ZJ ["End"] "rcv" (Zd 0)) (Zc (mOp ZO (Zd 2) (mC (.int 16))) (Zc (mCB Za5 (Zc (Zd 0) Zk)) (Zc (mC (.int 0)) (Zc (mCB ZeB (Zc (Zd 3) Zk)) Zk))))))))))
def zB:GM:=ZR 4 4 ZeV
def ZcH:SM:=(mIf (ZK (mOp eqM (ZJ ["End"] "tries" (Zd 0)) (mC (.int 6)))) (Zr (ZH ["End"] "state" (Zd 0) (mC (.str "closed")))
    (Zr (ZH ["End"] "error" (Zd 0) (mC (.str "time")))
    (ZM (mC .non)))) ZN)
def ZdB:SM:=(mIf (ZK (mOp inM (ZJ ["End"] "state" (Zd 0)) (ZaM (Zc (mC (.str "syn sent")) (Zc (mC (.str "syn come")) Zk))))) (ZM (mCB ZbP (Zc (Zd 0) Zk))) ZN)
def ZdY:SM:=(Zr ZcH
  (Zr (ZH ["End"] "tries" (Zd 0) (mOp ZO (ZJ ["End"] "tries" (Zd 0)) (mC (.int 1))))
  (Zr (ZH ["End"] "wait" (Zd 0) (mCB Ziy (Zc (mOp Zcq (mC (.int 2)) (ZJ ["End"] "wait" (Zd 0))) (Zc (mC (.int 16000)) Zk))))
  (Zr (ZH ["End"] "since" (Zd 0) (Zd 1))
  (Zr ZdB
  (Zr (ZQ 2 (mSl (ZJ ["Pile"] "row" (ZJ ["End"] "written" (Zd 0))) Zas (Za1 (mCB Ziy (Zc (mCB zC (Zc (ZJ ["End"] "nxt" (Zd 0)) (Zc (ZJ ["End"] "una" (Zd 0)) Zk))) (Zc (mCB Zal (Zc (Zd 0) Zk)) Zk))))))
  (ZM (mCB zB (Zc (Zd 0) (Zc (ZJ ["End"] "una" (Zd 0)) (Zc (Zf4 (ZK (mOp gtM (mCB Zc1 (Zc (Zd 2) Zk)) (mC (.int 0)))) (mC (.int 0)) (mC (.int 1))) (Zc (Zd 2) Zk))))))))))))
def Zdr:GM:=ZR 2 3 ZdY
def Zbf:SM:=(mIf (Zed (zY (ZJ ["End"] "owes_answer" (Zd 0)))) (ZM (mC .non)) ZN)
def ZbG:SM:=(Zr Zbf
  (Zr (ZH ["End"] "owes_answer" (Zd 0) (mC (.bl false)))
  (ZM (mCB zB (Zc (Zd 0) (Zc (ZJ ["End"] "nxt" (Zd 0)) (Zc (mC (.int 0)) (Zc (Zb7 Zk) Zk))))))))
def z8:GM:=ZR 1 1 ZbG
def Zh9:SM:=(ZM (mCB zC (Zc (ZJ ["End"] "behind" (Zd 0)) (Zc (ZJ ["End"] "nxt" (Zd 0)) Zk))))
def ZbI:GM:=ZR 1 1 Zh9
def ZdW:SM:=(ZM (ZcD (mOp inM (ZJ ["End"] "state" (Zd 0)) (ZaM (Zc (mC (.str "open")) (Zc (mC (.str "wait one")) (Zc (mC (.str "close wait")) (Zc (mC (.str "closing")) (Zc (mC (.str "last ack")) Zk))))))) (mOp gtM (mCB ZbI (Zc (Zd 0) Zk)) (mC (.int 0)))))
def Zan:GM:=ZR 1 1 ZdW
def Zex:SM:=(ZM (ZcD (mOp inM (ZJ ["End"] "state" (Zd 0)) (ZaM (Zc (mC (.str "wait one")) (Zc (mC (.str "closing")) (Zc (mC (.str "last ack")) Zk))))) (mOp eqM (mCB ZbI (Zc (Zd 0) Zk)) (mC (.int 0)))))
def ZbJ:GM:=ZR 1 1 Zex
def Zgi:SM:=(ZM (Zmu (mCB Zan (Zc (Zd 0) Zk)) (mCB ZbJ (Zc (Zd 0) Zk))))
def ZbR:GM:=ZR 1 1 Zgi
def Zem:SM:=(Zr (ZQ 2 (ZJ ["End"] "nxt" (Zd 0)))
  (Zr (ZQ 3 (mCB Ziy (Zc (mCB Zal (Zc (Zd 0) Zk)) (Zc (mCB ZbI (Zc (Zd 0) Zk)) (Zc (Zd 1) Zk)))))
  (Zr (ZQ 4 (mCB zC (Zc (Zd 2) (Zc (ZJ ["End"] "una" (Zd 0)) Zk))))
  (Zr (ZH ["End"] "nxt" (Zd 0) (mCB zq (Zc (Zd 2) (Zc (Zd 3) Zk))))
  (ZM (mCB zB (Zc (Zd 0) (Zc (Zd 2) (Zc (Zf4 (ZK (mOp eqM (mCB ZbI (Zc (Zd 0) Zk)) (mC (.int 0)))) (mC (.int 8)) (mC (.int 0))) (Zc (mSl (ZJ ["Pile"] "row" (ZJ ["End"] "written" (Zd 0))) (Za1 (Zd 4)) (Za1 (mOp ZO (Zd 4) (Zd 3)))) Zk))))))))))
def Zcm:GM:=ZR 2 5 Zem
def Zg2:SM:=(Zr (ZQ 1 (ZJ ["End"] "nxt" (Zd 0)))
  (Zr (ZH ["End"] "nxt" (Zd 0) (mCB zq (Zc (Zd 1) (Zc (mC (.int 1)) Zk))))
  (ZM (mCB zB (Zc (Zd 0) (Zc (Zd 1) (Zc (mC (.int 1)) (Zc (Zb7 Zk) Zk))))))))
def ZdO:GM:=ZR 1 2 Zg2
def ZdG:SM:=(Zr (ZH ["End"] "probes" (Zd 0) (mC (.bl false)))
  (ZM (Zf4 (zY (mCB Zan (Zc (Zd 0) Zk))) (mCB Zcm (Zc (Zd 0) (Zc (Zd 1) Zk))) (mCB ZdO (Zc (Zd 0) Zk)))))
def ZaZ:GM:=ZR 2 2 ZdG
def ZdF:SM:=(mIf (ZK (mOp eqM (ZJ ["End"] "nxt" (Zd 0)) (ZJ ["End"] "una" (Zd 0)))) (zn (mCB ze (Zc (Zd 0) (Zc (Zd 1) Zk)))) ZN)
def ZeZ:SM:=(Zr ZdF
  (Zr (ZH ["End"] "nxt" (Zd 0) (mCB zq (Zc (ZJ ["End"] "first" (Zd 0)) (Zc (mC (.int 1)) Zk))))
  (ZM (mCB ZbP (Zc (Zd 0) Zk)))))
def Zc6:GM:=ZR 2 2 ZeZ
def zu:SM:=(mIf (ZK (mOp inM (ZJ ["End"] "state" (Zd 0)) (ZaM (Zc (mC (.str "syn sent")) (Zc (mC (.str "syn come")) Zk))))) (ZM (Zf4 (mOr (ZK (mOp eqM (ZJ ["End"] "nxt" (Zd 0)) (ZJ ["End"] "first" (Zd 0)))) (zY (ZJ ["End"] "owes_syn" (Zd 0)))) (mCB Zc6 (Zc (Zd 0) (Zc (Zd 1) Zk))) (mC .non))) ZN)
def Zaq:SM:=(mIf (mOr (ZK (mOp leM (Zd 2) (mC (.int 0)))) (Zed (zY (mCB ZbR (Zc (Zd 0) Zk))))) (ZM (mC .non)) ZN)
def ZbV:SM:=(mIf (ZK (mOp eqM (ZJ ["End"] "nxt" (Zd 0)) (ZJ ["End"] "una" (Zd 0)))) (zn (mCB ze (Zc (Zd 0) (Zc (Zd 1) Zk)))) ZN)
def zO:SM:=(Zr zu
  (Zr (ZQ 2 (mOp Zfo (ZJ ["End"] "wnd" (Zd 0)) (mCB zC (Zc (ZJ ["End"] "nxt" (Zd 0)) (Zc (ZJ ["End"] "una" (Zd 0)) Zk)))))
  (Zr Zaq
  (Zr ZbV
  (Zr (ZH ["End"] "owes_answer" (Zd 0) (mC (.bl false)))
  (ZM (mCB ZaZ (Zc (Zd 0) (Zc (Zd 2) Zk)))))))))
def zc:GM:=ZR 2 3 zO
def Zii:SM:=(ZM (mOp geM (mOp Zfo (Zd 1) (ZJ ["End"] "since" (Zd 0))) (ZJ ["End"] "wait" (Zd 0))))
def Zdg:GM:=ZR 2 2 Zii
def zi:SM:=(mIf (mOr (ZK (mOp neM (ZJ ["End"] "nxt" (Zd 0)) (ZJ ["End"] "una" (Zd 0)))) (mOr (ZK (mOp neM (ZJ ["End"] "wnd" (Zd 0)) (mC (.int 0)))) (Zed (zY (mCB ZbR (Zc (Zd 0) Zk)))))) (Zr (ZH ["End"] "probes" (Zd 0) (mC (.bl false)))
    (ZM (mC .non))) ZN)
def ZaF:SM:=(mIf (Zed (zY (ZJ ["End"] "probes" (Zd 0)))) (Zr (ZH ["End"] "probes" (Zd 0) (mC (.bl true)))
    (zn (mCB ze (Zc (Zd 0) (Zc (Zd 1) Zk))))) ZN)
def ZaE:SM:=(mIf (Zed (zY (mCB Zdg (Zc (Zd 0) (Zc (Zd 1) Zk))))) (ZM (mC .non)) ZN)
def zt:SM:=(Zr zi
  (Zr ZaF
  (Zr ZaE
  (Zr (ZH ["End"] "since" (Zd 0) (Zd 1))
  (ZM (mCB ZaZ (Zc (Zd 0) (Zc (mC (.int 1)) Zk))))))))
def zg:GM:=ZR 2 2 zt
def ZeX:SM:=(Zr (ZQ 1 (ZJ ["End"] "owed_reset" (Zd 0)))
  (Zr (ZH ["End"] "owed_reset" (Zd 0) (mC .non))
  (ZM (Zd 1))))
def Zc0:GM:=ZR 1 2 ZeX
def Zdy:SM:=(mIf (ZK (mOp Zjz (ZJ ["End"] "owed_reset" (Zd 0)) (mC .non))) (ZM (mCB Zc0 (Zc (Zd 0) Zk))) ZN)
def Ze3:SM:=(mIf (ZhS (ZK (mOp eqM (ZJ ["End"] "state" (Zd 0)) (mC (.str "time wait")))) (ZK (mOp geM (mOp Zfo (Zd 1) (ZJ ["End"] "since" (Zd 0))) (mC (.int 120000))))) (ZH ["End"] "state" (Zd 0) (mC (.str "closed"))) ZN)
def Zb1:SM:=(mIf (ZK (mOp inM (ZJ ["End"] "state" (Zd 0)) (ZaM (Zc (mC (.str "closed")) (Zc (mC (.str "listen")) Zk))))) (ZM (mC .non)) ZN)
def ZcG:SM:=(mIf (ZhS (ZK (mOp neM (ZJ ["End"] "nxt" (Zd 0)) (ZJ ["End"] "una" (Zd 0)))) (zY (mCB Zdg (Zc (Zd 0) (Zc (Zd 1) Zk))))) (ZM (mCB Zdr (Zc (Zd 0) (Zc (Zd 1) Zk)))) ZN)
def Zb0:SM:=(mIf (ZK (mOp isM (Zd 2) (mC .non))) (ZQ 2 (mCB zg (Zc (Zd 0) (Zc (Zd 1) Zk)))) ZN)
def ZbZ:SM:=(mIf (ZK (mOp isM (Zd 2) (mC .non))) (ZQ 2 (mCB z8 (Zc (Zd 0) Zk))) ZN)
def Zfi:SM:=(Zr Zdy
  (Zr Ze3
  (Zr Zb1
  (Zr ZcG
  (Zr (ZQ 2 (mCB zc (Zc (Zd 0) (Zc (Zd 1) Zk))))
  (Zr Zb0
  (Zr ZbZ
  (ZM (Zd 2)))))))))
def Zd8:GM:=ZR 2 3 Zfi
def Zic:SM:=(Zr (ZQ 2 (mCB Zd8 (Zc (Zd 0) (Zc (Zd 1) Zk))))
  (ZM (Zf4 (ZK (mOp isM (Zd 2) (mC .non))) (Zb7 Zk) (mCB Zly (Zc (Zd 2) Zk)))))
def ZcM:GM:=ZR 2 3 Zic
def Zie:SM:=(ZM (mCB (mkG "End" Zcp) (Zc (Zd 0) (Zc (Zd 1) (Zc (Zd 2) (Zc (Zd 3) Zk))))))
def ZeH:GM:=ZR 4 4 Zie
end
end My
namespace My
open PySem L2 L2.MM
noncomputable section
inductive State where
  | closed | listen | synSent | synCome | opn | waitOne | waitTwo | closeWait | closing | lastAck | timeWait
  deriving DecidableEq
def State.s:State→Str
  | .closed=>"closed" | .listen=>"listen" | .synSent=>"syn sent" | .synCome=>"syn come" | .opn=>"open" | .waitOne=>"wait one" | .waitTwo=>"wait two" | .closeWait=>"close wait" | .closing=>"closing" | .lastAck=>"last ack" | .timeWait=>"time wait"
inductive Err where
  | none | refused | reset | time
  deriving DecidableEq
def Err.s:Err→Str
  | .none=>"" | .refused=>"refused" | .reset=>"reset" | .time=>"time"
structure Zx where
  ours:Int
  theirs:Int
  state:State
  error:Err
  first:Int
  una:Int
  nxt:Int
  rcv:Int
  wnd:Int
  told:Int
  told_by:Int
  most:Int
  written:List Int
  come:List Int
  early:List (Int×Int)
  early_fin:Option Int
  has_closed:Bool
  behind:Int
  owed_reset:Option Seg
  owes_syn:Bool
  owes_answer:Bool
  probes:Bool
  since:Int
  wait:Int
  tries:Int
def Zhk:Option Int→D
  | none=>.non
  | some i=>.int i
def ZbD:Option Seg→D
  | none=>.non
  | some s=>s.d
def fields (l:Nat) (e:Zx):List (Str×D):=[("ours",.int e.ours),("theirs",.int e.theirs),("state",.str e.state.s),("error",.str e.error.s),("first",.int e.first),("una",.int e.una),("nxt",.int e.nxt),("rcv",.int e.rcv),("wnd",.int e.wnd),("told",.int e.told),("told_by",.int e.told_by),("most",.int e.most),("written",.ref (l+1)),("come",.ref (l+2)),("early",.ref (l+3)),("early_fin",Zhk e.early_fin),("has_closed",.bl e.has_closed),("behind",.int e.behind),("owed_reset",ZbD e.owed_reset),("owes_syn",.bl e.owes_syn),("owes_answer",.bl e.owes_answer),("probes",.bl e.probes),("since",.int e.since),("wait",.int e.wait),("tries",.int e.tries)]
def c0 (l:Nat) (e:Zx):Cell:=.ins "End" (fields l e)
def c1 (e:Zx):Cell:=.ins "Pile" [("row",il e.written)]
def c2 (e:Zx):Cell:=.ins "Pile" [("row",il e.come)]
def c3 (e:Zx):Cell:=.dK (e.early.map fun p=>(Sum.inl p.1,D.int p.2))
def upE (θ:Sto) (l:Nat) (e:Zx):Sto:=(((θ.set l (c0 l e)).set (l+1) (c1 e)).set (l+2) (c2 e)).set (l+3) (c3 e)
theorem at0 {θ:Sto} {l:Nat} (h:l+3 < θ.length) (e:Zx):(upE θ l e)[l]?=some (c0 l e):=by
  unfold upE
  rw [List.getElem?_set_ne (by omega),List.getElem?_set_ne (by omega),List.getElem?_set_ne (by omega),List.getElem?_set_self (by omega)]
theorem at1 {θ:Sto} {l:Nat} (h:l+3 < θ.length) (e:Zx):(upE θ l e)[l+1]?=some (c1 e):=by
  unfold upE
  rw [List.getElem?_set_ne (by omega),List.getElem?_set_ne (by omega),List.getElem?_set_self (by simp; omega)]
theorem Zwv {θ:Sto} {l:Nat} (h:l+3 < θ.length) (e:Zx):(upE θ l e)[l+2]?=some (c2 e):=by
  unfold upE
  rw [List.getElem?_set_ne (by omega),List.getElem?_set_self (by simp; omega)]
theorem ZdL {θ:Sto} {l:Nat} (h:l+3 < θ.length) (e e':Zx) (h1:e'.written=e.written) (h2:e'.come=e.come) (h3:e'.early=e.early):(upE θ l e).set l (c0 l e')=upE θ l e':=by
  unfold upE
  rw [show c1 e'=c1 e by unfold c1; rw [h1],show c2 e'=c2 e by unfold c2; rw [h2],show c3 e'=c3 e by unfold c3; rw [h3]]
  apply List.ext_getElem?
  intro i
  simp only [List.getElem?_set,List.length_set]
  by_cases h3:l=i
  · subst h3; simp
  · simp [h3]
theorem Zay {θ:Sto} {l:Nat} (h:l+3 < θ.length) (e:Zx):ZeP (upE θ l e) (.ref l)=some (l,("End":Str),fields l e):=by
  show (match (upE θ l e)[l]? with | some (Cell.ins C fs)=>some (l,C,fs) | _=>none)=_
  rw [at0 h]
  rfl
theorem ce:(["End"]:List Str).contains "End"=true:=by decide +kernel
theorem cp:(["Pile"]:List Str).contains "Pile"=true:=by decide +kernel
@[simp] theorem ZzN {θ:Sto} {l:Nat} (h:l+3 < θ.length) (e:Zx):zN ["End"] "ours" (.ref l) (upE θ l e)=.ok (.int e.ours) (upE θ l e):=by
  unfold zN
  rw [Zay h]
  simp only [ce,if_true]
  rw [show (fields l e).lookup ("ours":Str)=some (.int e.ours) by with_unfolding_all rfl]
@[simp] theorem Zwi {θ:Sto} {l:Nat} (h:l+3 < θ.length) (e:Zx):zN ["End"] "theirs" (.ref l) (upE θ l e)=.ok (.int e.theirs) (upE θ l e):=by
  unfold zN
  rw [Zay h]
  simp only [ce,if_true]
  rw [show (fields l e).lookup ("theirs":Str)=some (.int e.theirs) by with_unfolding_all rfl]
@[simp] theorem ZwU {θ:Sto} {l:Nat} (h:l+3 < θ.length) (e:Zx):zN ["End"] "state" (.ref l) (upE θ l e)=.ok (.str e.state.s) (upE θ l e):=by
  unfold zN
  rw [Zay h]
  simp only [ce,if_true]
  rw [show (fields l e).lookup ("state":Str)=some (.str e.state.s) by with_unfolding_all rfl]
@[simp] theorem ZwW {θ:Sto} {l:Nat} (h:l+3 < θ.length) (e:Zx):zN ["End"] "first" (.ref l) (upE θ l e)=.ok (.int e.first) (upE θ l e):=by
  unfold zN
  rw [Zay h]
  simp only [ce,if_true]
  rw [show (fields l e).lookup ("first":Str)=some (.int e.first) by with_unfolding_all rfl]
@[simp] theorem ZAv {θ:Sto} {l:Nat} (h:l+3 < θ.length) (e:Zx):zN ["End"] "una" (.ref l) (upE θ l e)=.ok (.int e.una) (upE θ l e):=by
  unfold zN
  rw [Zay h]
  simp only [ce,if_true]
  rw [show (fields l e).lookup ("una":Str)=some (.int e.una) by with_unfolding_all rfl]
@[simp] theorem ZAx {θ:Sto} {l:Nat} (h:l+3 < θ.length) (e:Zx):zN ["End"] "nxt" (.ref l) (upE θ l e)=.ok (.int e.nxt) (upE θ l e):=by
  unfold zN
  rw [Zay h]
  simp only [ce,if_true]
  rw [show (fields l e).lookup ("nxt":Str)=some (.int e.nxt) by with_unfolding_all rfl]
@[simp] theorem ZAw {θ:Sto} {l:Nat} (h:l+3 < θ.length) (e:Zx):zN ["End"] "rcv" (.ref l) (upE θ l e)=.ok (.int e.rcv) (upE θ l e):=by
  unfold zN
  rw [Zay h]
  simp only [ce,if_true]
  rw [show (fields l e).lookup ("rcv":Str)=some (.int e.rcv) by with_unfolding_all rfl]
@[simp] theorem ZAu {θ:Sto} {l:Nat} (h:l+3 < θ.length) (e:Zx):zN ["End"] "wnd" (.ref l) (upE θ l e)=.ok (.int e.wnd) (upE θ l e):=by
  unfold zN
  rw [Zay h]
  simp only [ce,if_true]
  rw [show (fields l e).lookup ("wnd":Str)=some (.int e.wnd) by with_unfolding_all rfl]
@[simp] theorem ZzK {θ:Sto} {l:Nat} (h:l+3 < θ.length) (e:Zx):zN ["End"] "told" (.ref l) (upE θ l e)=.ok (.int e.told) (upE θ l e):=by
  unfold zN
  rw [Zay h]
  simp only [ce,if_true]
  rw [show (fields l e).lookup ("told":Str)=some (.int e.told) by with_unfolding_all rfl]
@[simp] theorem Zu9 {θ:Sto} {l:Nat} (h:l+3 < θ.length) (e:Zx):zN ["End"] "told_by" (.ref l) (upE θ l e)=.ok (.int e.told_by) (upE θ l e):=by
  unfold zN
  rw [Zay h]
  simp only [ce,if_true]
  rw [show (fields l e).lookup ("told_by":Str)=some (.int e.told_by) by with_unfolding_all rfl]
@[simp] theorem ZzO {θ:Sto} {l:Nat} (h:l+3 < θ.length) (e:Zx):zN ["End"] "most" (.ref l) (upE θ l e)=.ok (.int e.most) (upE θ l e):=by
  unfold zN
  rw [Zay h]
  simp only [ce,if_true]
  rw [show (fields l e).lookup ("most":Str)=some (.int e.most) by with_unfolding_all rfl]
@[simp] theorem Zu8 {θ:Sto} {l:Nat} (h:l+3 < θ.length) (e:Zx):zN ["End"] "written" (.ref l) (upE θ l e)=.ok (.ref (l+1)) (upE θ l e):=by
  unfold zN
  rw [Zay h]
  simp only [ce,if_true]
  rw [show (fields l e).lookup ("written":Str)=some (.ref (l+1)) by with_unfolding_all rfl]
@[simp] theorem ZzP {θ:Sto} {l:Nat} (h:l+3 < θ.length) (e:Zx):zN ["End"] "come" (.ref l) (upE θ l e)=.ok (.ref (l+2)) (upE θ l e):=by
  unfold zN
  rw [Zay h]
  simp only [ce,if_true]
  rw [show (fields l e).lookup ("come":Str)=some (.ref (l+2)) by with_unfolding_all rfl]
@[simp] theorem ZwX {θ:Sto} {l:Nat} (h:l+3 < θ.length) (e:Zx):zN ["End"] "early" (.ref l) (upE θ l e)=.ok (.ref (l+3)) (upE θ l e):=by
  unfold zN
  rw [Zay h]
  simp only [ce,if_true]
  rw [show (fields l e).lookup ("early":Str)=some (.ref (l+3)) by with_unfolding_all rfl]
@[simp] theorem Zte {θ:Sto} {l:Nat} (h:l+3 < θ.length) (e:Zx):zN ["End"] "early_fin" (.ref l) (upE θ l e)=.ok (Zhk e.early_fin) (upE θ l e):=by
  unfold zN
  rw [Zay h]
  simp only [ce,if_true]
  rw [show (fields l e).lookup ("early_fin":Str)=some (Zhk e.early_fin) by with_unfolding_all rfl]
@[simp] theorem Zsx {θ:Sto} {l:Nat} (h:l+3 < θ.length) (e:Zx):zN ["End"] "has_closed" (.ref l) (upE θ l e)=.ok (.bl e.has_closed) (upE θ l e):=by
  unfold zN
  rw [Zay h]
  simp only [ce,if_true]
  rw [show (fields l e).lookup ("has_closed":Str)=some (.bl e.has_closed) by with_unfolding_all rfl]
@[simp] theorem Zwk {θ:Sto} {l:Nat} (h:l+3 < θ.length) (e:Zx):zN ["End"] "behind" (.ref l) (upE θ l e)=.ok (.int e.behind) (upE θ l e):=by
  unfold zN
  rw [Zay h]
  simp only [ce,if_true]
  rw [show (fields l e).lookup ("behind":Str)=some (.int e.behind) by with_unfolding_all rfl]
@[simp] theorem Zsw {θ:Sto} {l:Nat} (h:l+3 < θ.length) (e:Zx):zN ["End"] "owed_reset" (.ref l) (upE θ l e)=.ok (ZbD e.owed_reset) (upE θ l e):=by
  unfold zN
  rw [Zay h]
  simp only [ce,if_true]
  rw [show (fields l e).lookup ("owed_reset":Str)=some (ZbD e.owed_reset) by with_unfolding_all rfl]
@[simp] theorem ZuE {θ:Sto} {l:Nat} (h:l+3 < θ.length) (e:Zx):zN ["End"] "owes_syn" (.ref l) (upE θ l e)=.ok (.bl e.owes_syn) (upE θ l e):=by
  unfold zN
  rw [Zay h]
  simp only [ce,if_true]
  rw [show (fields l e).lookup ("owes_syn":Str)=some (.bl e.owes_syn) by with_unfolding_all rfl]
@[simp] theorem Zrv {θ:Sto} {l:Nat} (h:l+3 < θ.length) (e:Zx):zN ["End"] "owes_answer" (.ref l) (upE θ l e)=.ok (.bl e.owes_answer) (upE θ l e):=by
  unfold zN
  rw [Zay h]
  simp only [ce,if_true]
  rw [show (fields l e).lookup ("owes_answer":Str)=some (.bl e.owes_answer) by with_unfolding_all rfl]
@[simp] theorem Zwj {θ:Sto} {l:Nat} (h:l+3 < θ.length) (e:Zx):zN ["End"] "probes" (.ref l) (upE θ l e)=.ok (.bl e.probes) (upE θ l e):=by
  unfold zN
  rw [Zay h]
  simp only [ce,if_true]
  rw [show (fields l e).lookup ("probes":Str)=some (.bl e.probes) by with_unfolding_all rfl]
@[simp] theorem ZwV {θ:Sto} {l:Nat} (h:l+3 < θ.length) (e:Zx):zN ["End"] "since" (.ref l) (upE θ l e)=.ok (.int e.since) (upE θ l e):=by
  unfold zN
  rw [Zay h]
  simp only [ce,if_true]
  rw [show (fields l e).lookup ("since":Str)=some (.int e.since) by with_unfolding_all rfl]
@[simp] theorem ZzJ {θ:Sto} {l:Nat} (h:l+3 < θ.length) (e:Zx):zN ["End"] "wait" (.ref l) (upE θ l e)=.ok (.int e.wait) (upE θ l e):=by
  unfold zN
  rw [Zay h]
  simp only [ce,if_true]
  rw [show (fields l e).lookup ("wait":Str)=some (.int e.wait) by with_unfolding_all rfl]
@[simp] theorem ZwT {θ:Sto} {l:Nat} (h:l+3 < θ.length) (e:Zx):zN ["End"] "tries" (.ref l) (upE θ l e)=.ok (.int e.tries) (upE θ l e):=by
  unfold zN
  rw [Zay h]
  simp only [ce,if_true]
  rw [show (fields l e).lookup ("tries":Str)=some (.int e.tries) by with_unfolding_all rfl]
@[simp] theorem ZvD {θ:Sto} {l:Nat} (h:l+3 < θ.length) (e:Zx) (v:Int):zb ["End"] "theirs" (.int v) (.ref l) (upE θ l e)=some (upE θ l { e with theirs:=v }):=by
  unfold zb
  rw [Zay h]
  simp only [ce]
  rw [if_pos ⟨trivial,show 25<1000 by decide⟩,show Zau ("theirs":Str) (.int v) (fields l e)=fields l { e with theirs:=v } by with_unfolding_all rfl]
  exact congrArg some (ZdL h e { e with theirs:=v } rfl rfl rfl)
@[simp] theorem ZwM {θ:Sto} {l:Nat} (h:l+3 < θ.length) (e:Zx) (v:State):zb ["End"] "state" (.str v.s) (.ref l) (upE θ l e)=some (upE θ l { e with state:=v }):=by
  unfold zb
  rw [Zay h]
  simp only [ce]
  rw [if_pos ⟨trivial,show 25<1000 by decide⟩,show Zau ("state":Str) (.str v.s) (fields l e)=fields l { e with state:=v } by with_unfolding_all rfl]
  exact congrArg some (ZdL h e { e with state:=v } rfl rfl rfl)
@[simp] theorem ZwO {θ:Sto} {l:Nat} (h:l+3 < θ.length) (e:Zx) (v:Err):zb ["End"] "error" (.str v.s) (.ref l) (upE θ l e)=some (upE θ l { e with error:=v }):=by
  unfold zb
  rw [Zay h]
  simp only [ce]
  rw [if_pos ⟨trivial,show 25<1000 by decide⟩,show Zau ("error":Str) (.str v.s) (fields l e)=fields l { e with error:=v } by with_unfolding_all rfl]
  exact congrArg some (ZdL h e { e with error:=v } rfl rfl rfl)
@[simp] theorem ZAl {θ:Sto} {l:Nat} (h:l+3 < θ.length) (e:Zx) (v:Int):zb ["End"] "una" (.int v) (.ref l) (upE θ l e)=some (upE θ l { e with una:=v }):=by
  unfold zb
  rw [Zay h]
  simp only [ce]
  rw [if_pos ⟨trivial,show 25<1000 by decide⟩,show Zau ("una":Str) (.int v) (fields l e)=fields l { e with una:=v } by with_unfolding_all rfl]
  exact congrArg some (ZdL h e { e with una:=v } rfl rfl rfl)
@[simp] theorem ZAn {θ:Sto} {l:Nat} (h:l+3 < θ.length) (e:Zx) (v:Int):zb ["End"] "nxt" (.int v) (.ref l) (upE θ l e)=some (upE θ l { e with nxt:=v }):=by
  unfold zb
  rw [Zay h]
  simp only [ce]
  rw [if_pos ⟨trivial,show 25<1000 by decide⟩,show Zau ("nxt":Str) (.int v) (fields l e)=fields l { e with nxt:=v } by with_unfolding_all rfl]
  exact congrArg some (ZdL h e { e with nxt:=v } rfl rfl rfl)
@[simp] theorem ZAm {θ:Sto} {l:Nat} (h:l+3 < θ.length) (e:Zx) (v:Int):zb ["End"] "rcv" (.int v) (.ref l) (upE θ l e)=some (upE θ l { e with rcv:=v }):=by
  unfold zb
  rw [Zay h]
  simp only [ce]
  rw [if_pos ⟨trivial,show 25<1000 by decide⟩,show Zau ("rcv":Str) (.int v) (fields l e)=fields l { e with rcv:=v } by with_unfolding_all rfl]
  exact congrArg some (ZdL h e { e with rcv:=v } rfl rfl rfl)
@[simp] theorem ZAk {θ:Sto} {l:Nat} (h:l+3 < θ.length) (e:Zx) (v:Int):zb ["End"] "wnd" (.int v) (.ref l) (upE θ l e)=some (upE θ l { e with wnd:=v }):=by
  unfold zb
  rw [Zay h]
  simp only [ce]
  rw [if_pos ⟨trivial,show 25<1000 by decide⟩,show Zau ("wnd":Str) (.int v) (fields l e)=fields l { e with wnd:=v } by with_unfolding_all rfl]
  exact congrArg some (ZdL h e { e with wnd:=v } rfl rfl rfl)
@[simp] theorem Zzp {θ:Sto} {l:Nat} (h:l+3 < θ.length) (e:Zx) (v:Int):zb ["End"] "told" (.int v) (.ref l) (upE θ l e)=some (upE θ l { e with told:=v }):=by
  unfold zb
  rw [Zay h]
  simp only [ce]
  rw [if_pos ⟨trivial,show 25<1000 by decide⟩,show Zau ("told":Str) (.int v) (fields l e)=fields l { e with told:=v } by with_unfolding_all rfl]
  exact congrArg some (ZdL h e { e with told:=v } rfl rfl rfl)
@[simp] theorem Zu0 {θ:Sto} {l:Nat} (h:l+3 < θ.length) (e:Zx) (v:Int):zb ["End"] "told_by" (.int v) (.ref l) (upE θ l e)=some (upE θ l { e with told_by:=v }):=by
  unfold zb
  rw [Zay h]
  simp only [ce]
  rw [if_pos ⟨trivial,show 25<1000 by decide⟩,show Zau ("told_by":Str) (.int v) (fields l e)=fields l { e with told_by:=v } by with_unfolding_all rfl]
  exact congrArg some (ZdL h e { e with told_by:=v } rfl rfl rfl)
@[simp] theorem Zzs {θ:Sto} {l:Nat} (h:l+3 < θ.length) (e:Zx) (v:Int):zb ["End"] "most" (.int v) (.ref l) (upE θ l e)=some (upE θ l { e with most:=v }):=by
  unfold zb
  rw [Zay h]
  simp only [ce]
  rw [if_pos ⟨trivial,show 25<1000 by decide⟩,show Zau ("most":Str) (.int v) (fields l e)=fields l { e with most:=v } by with_unfolding_all rfl]
  exact congrArg some (ZdL h e { e with most:=v } rfl rfl rfl)
@[simp] theorem Zls {θ:Sto} {l:Nat} (h:l+3 < θ.length) (e:Zx) (v:Option Int):zb ["End"] "early_fin" (Zhk v) (.ref l) (upE θ l e)=some (upE θ l { e with early_fin:=v }):=by
  unfold zb
  rw [Zay h]
  simp only [ce]
  rw [if_pos ⟨trivial,show 25<1000 by decide⟩,show Zau ("early_fin":Str) (Zhk v) (fields l e)=fields l { e with early_fin:=v } by with_unfolding_all rfl]
  exact congrArg some (ZdL h e { e with early_fin:=v } rfl rfl rfl)
@[simp] theorem ZrO {θ:Sto} {l:Nat} (h:l+3 < θ.length) (e:Zx) (v:Bool):zb ["End"] "has_closed" (.bl v) (.ref l) (upE θ l e)=some (upE θ l { e with has_closed:=v }):=by
  unfold zb
  rw [Zay h]
  simp only [ce]
  rw [if_pos ⟨trivial,show 25<1000 by decide⟩,show Zau ("has_closed":Str) (.bl v) (fields l e)=fields l { e with has_closed:=v } by with_unfolding_all rfl]
  exact congrArg some (ZdL h e { e with has_closed:=v } rfl rfl rfl)
@[simp] theorem ZvF {θ:Sto} {l:Nat} (h:l+3 < θ.length) (e:Zx) (v:Int):zb ["End"] "behind" (.int v) (.ref l) (upE θ l e)=some (upE θ l { e with behind:=v }):=by
  unfold zb
  rw [Zay h]
  simp only [ce]
  rw [if_pos ⟨trivial,show 25<1000 by decide⟩,show Zau ("behind":Str) (.int v) (fields l e)=fields l { e with behind:=v } by with_unfolding_all rfl]
  exact congrArg some (ZdL h e { e with behind:=v } rfl rfl rfl)
@[simp] theorem ZfR {θ:Sto} {l:Nat} (h:l+3 < θ.length) (e:Zx) (v:Option Seg):zb ["End"] "owed_reset" (ZbD v) (.ref l) (upE θ l e)=some (upE θ l { e with owed_reset:=v }):=by
  unfold zb
  rw [Zay h]
  simp only [ce]
  rw [if_pos ⟨trivial,show 25<1000 by decide⟩,show Zau ("owed_reset":Str) (ZbD v) (fields l e)=fields l { e with owed_reset:=v } by with_unfolding_all rfl]
  exact congrArg some (ZdL h e { e with owed_reset:=v } rfl rfl rfl)
@[simp] theorem ZtS {θ:Sto} {l:Nat} (h:l+3 < θ.length) (e:Zx) (v:Bool):zb ["End"] "owes_syn" (.bl v) (.ref l) (upE θ l e)=some (upE θ l { e with owes_syn:=v }):=by
  unfold zb
  rw [Zay h]
  simp only [ce]
  rw [if_pos ⟨trivial,show 25<1000 by decide⟩,show Zau ("owes_syn":Str) (.bl v) (fields l e)=fields l { e with owes_syn:=v } by with_unfolding_all rfl]
  exact congrArg some (ZdL h e { e with owes_syn:=v } rfl rfl rfl)
@[simp] theorem Zru {θ:Sto} {l:Nat} (h:l+3 < θ.length) (e:Zx) (v:Bool):zb ["End"] "owes_answer" (.bl v) (.ref l) (upE θ l e)=some (upE θ l { e with owes_answer:=v }):=by
  unfold zb
  rw [Zay h]
  simp only [ce]
  rw [if_pos ⟨trivial,show 25<1000 by decide⟩,show Zau ("owes_answer":Str) (.bl v) (fields l e)=fields l { e with owes_answer:=v } by with_unfolding_all rfl]
  exact congrArg some (ZdL h e { e with owes_answer:=v } rfl rfl rfl)
@[simp] theorem ZvE {θ:Sto} {l:Nat} (h:l+3 < θ.length) (e:Zx) (v:Bool):zb ["End"] "probes" (.bl v) (.ref l) (upE θ l e)=some (upE θ l { e with probes:=v }):=by
  unfold zb
  rw [Zay h]
  simp only [ce]
  rw [if_pos ⟨trivial,show 25<1000 by decide⟩,show Zau ("probes":Str) (.bl v) (fields l e)=fields l { e with probes:=v } by with_unfolding_all rfl]
  exact congrArg some (ZdL h e { e with probes:=v } rfl rfl rfl)
@[simp] theorem ZwN {θ:Sto} {l:Nat} (h:l+3 < θ.length) (e:Zx) (v:Int):zb ["End"] "since" (.int v) (.ref l) (upE θ l e)=some (upE θ l { e with since:=v }):=by
  unfold zb
  rw [Zay h]
  simp only [ce]
  rw [if_pos ⟨trivial,show 25<1000 by decide⟩,show Zau ("since":Str) (.int v) (fields l e)=fields l { e with since:=v } by with_unfolding_all rfl]
  exact congrArg some (ZdL h e { e with since:=v } rfl rfl rfl)
@[simp] theorem Zzo {θ:Sto} {l:Nat} (h:l+3 < θ.length) (e:Zx) (v:Int):zb ["End"] "wait" (.int v) (.ref l) (upE θ l e)=some (upE θ l { e with wait:=v }):=by
  unfold zb
  rw [Zay h]
  simp only [ce]
  rw [if_pos ⟨trivial,show 25<1000 by decide⟩,show Zau ("wait":Str) (.int v) (fields l e)=fields l { e with wait:=v } by with_unfolding_all rfl]
  exact congrArg some (ZdL h e { e with wait:=v } rfl rfl rfl)
@[simp] theorem ZwL {θ:Sto} {l:Nat} (h:l+3 < θ.length) (e:Zx) (v:Int):zb ["End"] "tries" (.int v) (.ref l) (upE θ l e)=some (upE θ l { e with tries:=v }):=by
  unfold zb
  rw [Zay h]
  simp only [ce]
  rw [if_pos ⟨trivial,show 25<1000 by decide⟩,show Zau ("tries":Str) (.int v) (fields l e)=fields l { e with tries:=v } by with_unfolding_all rfl]
  exact congrArg some (ZdL h e { e with tries:=v } rfl rfl rfl)
section
variable {θ:Sto} {l:Nat}
@[simp] theorem ZzL (h:l+3 < θ.length) (e:Zx):zN ["Pile"] "row" (.ref (l+1)) (upE θ l e)=.ok (il e.written) (upE θ l e):=by
  have:ZeP (upE θ l e) (.ref (l+1))=some (l+1,("Pile":Str),[(("row":Str),il e.written)]):=by
    show (match (upE θ l e)[l+1]? with | some (Cell.ins C fs)=>some (l+1,C,fs) | _=>none)=_
    rw [at1 h]
    rfl
  unfold zN
  rw [this]
  simp only [cp,if_true]
  rw [show ([("row",il e.written)]:List (Str×D)).lookup ("row":Str)=some (il e.written) by with_unfolding_all rfl]
@[simp] theorem ZzM (h:l+3 < θ.length) (e:Zx):zN ["Pile"] "row" (.ref (l+2)) (upE θ l e)=.ok (il e.come) (upE θ l e):=by
  have:ZeP (upE θ l e) (.ref (l+2))=some (l+2,("Pile":Str),[(("row":Str),il e.come)]):=by
    show (match (upE θ l e)[l+2]? with | some (Cell.ins C fs)=>some (l+2,C,fs) | _=>none)=_
    rw [Zwv h]
    rfl
  unfold zN
  rw [this]
  simp only [cp,if_true]
  rw [show ([("row",il e.come)]:List (Str×D)).lookup ("row":Str)=some (il e.come) by with_unfolding_all rfl]
@[simp] theorem Zzq (h:l+3 < θ.length) (e:Zx) (r:List Int):zb ["Pile"] "row" (il r) (.ref (l+1)) (upE θ l e)=some (upE θ l { e with written:=r }):=by
  have:ZeP (upE θ l e) (.ref (l+1))=some (l+1,("Pile":Str),[(("row":Str),il e.written)]):=by
    show (match (upE θ l e)[l+1]? with | some (Cell.ins C fs)=>some (l+1,C,fs) | _=>none)=_
    rw [at1 h]
    rfl
  unfold zb
  rw [this]
  simp only [cp]
  rw [if_pos ⟨trivial,show 1<1000 by decide⟩,show Zau ("row":Str) (il r) [("row",il e.written)]=[(("row":Str),il r)] by with_unfolding_all rfl]
  congr 1
  unfold upE
  apply List.ext_getElem?
  intro i
  simp only [List.getElem?_set,List.length_set]
  by_cases q:l+1=i
  · subst q; simp [c1]
  · simp [q,c0,c2,c3,fields]
@[simp] theorem Zzr (h:l+3 < θ.length) (e:Zx) (r:List Int):zb ["Pile"] "row" (il r) (.ref (l+2)) (upE θ l e)=some (upE θ l { e with come:=r }):=by
  have:ZeP (upE θ l e) (.ref (l+2))=some (l+2,("Pile":Str),[(("row":Str),il e.come)]):=by
    show (match (upE θ l e)[l+2]? with | some (Cell.ins C fs)=>some (l+2,C,fs) | _=>none)=_
    rw [Zwv h]
    rfl
  unfold zb
  rw [this]
  simp only [cp]
  rw [if_pos ⟨trivial,show 1<1000 by decide⟩,show Zau ("row":Str) (il r) [("row",il e.come)]=[(("row":Str),il r)] by with_unfolding_all rfl]
  congr 1
  unfold upE
  apply List.ext_getElem?
  intro i
  simp only [List.getElem?_set,List.length_set]
  by_cases q:l+2=i
  · subst q; simp [c2]
  · simp [q,c0,c1,c3,fields]
end
@[simp] theorem Zvn:("closed":Str)=State.closed.s:=nr rfl
@[simp] theorem Zvm:("listen":Str)=State.listen.s:=nr rfl
@[simp] theorem ZuS:("syn sent":Str)=State.synSent.s:=nr rfl
@[simp] theorem ZuT:("syn come":Str)=State.synCome.s:=nr rfl
@[simp] theorem Zy6:("open":Str)=State.opn.s:=nr rfl
@[simp] theorem ZuR:("wait one":Str)=State.waitOne.s:=nr rfl
@[simp] theorem ZuQ:("wait two":Str)=State.waitTwo.s:=nr rfl
@[simp] theorem ZsQ:("close wait":Str)=State.closeWait.s:=nr rfl
@[simp] theorem ZuW:("closing":Str)=State.closing.s:=nr rfl
@[simp] theorem ZuV:("last ack":Str)=State.lastAck.s:=nr rfl
@[simp] theorem Zts:("time wait":Str)=State.timeWait.s:=nr rfl
@[simp] theorem Zy7:("":Str)=Err.none.s:=nr rfl
@[simp] theorem ZuU:("refused":Str)=Err.refused.s:=nr rfl
@[simp] theorem ZwE:("reset":Str)=Err.reset.s:=nr rfl
@[simp] theorem Zy5:("time":Str)=Err.time.s:=nr rfl
theorem State.inj:∀a b:State,a.s=b.s↔a=b:=by
  intro a b
  constructor
  · intro h
    cases a<;>cases b<;>first | rfl | (exact absurd h (by decide +kernel))
  · intro h; rw [h]
theorem Zt5 (k:Nat) (x:Str):pl k (.str x)=PyData.strOk x:=by cases k<;>simp [pl]
theorem State.ok (a:State) (k:Nat):pl k (.str a.s)=true:=by
  rw [Zt5]
  cases a<;>decide +kernel
section
variable {θ:Sto}
@[simp] theorem Zwp (a b:State):eqM (.str a.s) (.str b.s) θ=.ok (.bl (decide (a=b))) θ:=by
  rw [ZjG (x:=.str a.s) (y:=.str b.s) (Zei (State.ok a 9) (State.ok b 9) rfl rfl)]
  simp [State.inj]
@[simp] theorem Zv8 (a b:State):neM (.str a.s) (.str b.s) θ=.ok (.bl (!decide (a=b))) θ:=by
  rw [ZhP (x:=.str a.s) (y:=.str b.s) (Zei (State.ok a 9) (State.ok b 9) rfl rfl)]
  simp [State.inj]
theorem ZfD (a:State):∀bs:List State,Zir (bs.map fun b=>D.str b.s)=true∧memS a.s (bs.map fun b=>D.str b.s)=decide (a∈bs)
  | []=>⟨rfl,by simp [memS]⟩
  | b::bs=>by
    obtain ⟨h1,h2⟩:=ZfD a bs
    refine ⟨h1,?_⟩
    rw [List.map_cons]
    show (decide (b.s=a.s) || memS a.s (bs.map fun b=>D.str b.s))=_
    rw [h2,Bool.eq_iff_iff]
    simp only [Bool.or_eq_true,decide_eq_true_eq,List.mem_cons,State.inj]
    constructor
    · rintro (h | h)
      · exact .inl h.symm
      · exact .inr h
    · rintro (h | h)
      · exact .inl h.symm
      · exact .inr h
theorem ZgE (a:State) (bs:List State):inM (.str a.s) (.tup (bs.map fun b=>.str b.s)) θ=.ok (.bl (decide (a∈bs))) θ:=by
  obtain ⟨h1,h2⟩:=ZfD a bs
  have e:inD θ (.str a.s) (.tup (bs.map fun b=>D.str b.s))=some (decide (a∈bs)):=by
    unfold inD
    simp only [ZgR]
    rw [if_pos h1,h2]
  unfold inM
  rw [e]
theorem Zd9 (a:State) (bs:List State):ZbS (.str a.s) (.tup (bs.map fun b=>.str b.s)) θ=.ok (.bl (!decide (a∈bs))) θ:=by
  obtain ⟨h1,h2⟩:=ZfD a bs
  have e:inD θ (.str a.s) (.tup (bs.map fun b=>D.str b.s))=some (decide (a∈bs)):=by
    unfold inD
    simp only [ZgR]
    rw [if_pos h1,h2]
  unfold ZbS
  rw [e]
@[simp] theorem ZAq (a b c:State):inM (.str a.s) (.tup [.str b.s,.str c.s]) θ=.ok (.bl (decide (a∈[b,c]))) θ:=ZgE a [b,c]
@[simp] theorem ZAp (a b c d:State):inM (.str a.s) (.tup [.str b.s,.str c.s,.str d.s]) θ=.ok (.bl (decide (a∈[b,c,d]))) θ:=ZgE a [b,c,d]
@[simp] theorem ZAo (a b c d e f:State):inM (.str a.s) (.tup [.str b.s,.str c.s,.str d.s,.str e.s,.str f.s]) θ=.ok (.bl (decide (a∈[b,c,d,e,f]))) θ:=ZgE a [b,c,d,e,f]
@[simp] theorem Zqm (a b c:State):ZbS (.str a.s) (.tup [.str b.s,.str c.s]) θ=.ok (.bl (!decide (a∈[b,c]))) θ:=Zd9 a [b,c]
@[simp] theorem Zv7 (a b c d:State):ZbS (.str a.s) (.tup [.str b.s,.str c.s,.str d.s]) θ=.ok (.bl (!decide (a∈[b,c,d]))) θ:=Zd9 a [b,c,d]
@[simp] theorem Zv6 (a b c d e:State):ZbS (.str a.s) (.tup [.str b.s,.str c.s,.str d.s,.str e.s]) θ=.ok (.bl (!decide (a∈[b,c,d,e]))) θ:=Zd9 a [b,c,d,e]
end
end
end My
namespace My
open PySem L2 L2.MM
noncomputable section
def Zn (n k:Int):Int:=(n+k) % 4294967296
def ZY (n b:Int):Int:=(n-b+2147483648) % 4294967296-2147483648
def Z1 (e:Zx) (now:Int):Zx:={ e with since:=now,wait:=1000,tries:=0 }
def Z7 (e:Zx):Int:=64-(e.come.length:Int)
def zM (e:Zx):Int:=if 16<e.most then 16 else e.most
def Zcb (e:Zx) (now:Int):Bool:=decide (e.wait≤now-e.since)
def Zdd (e:Zx) (n f:Int) (data:List Int):Seg:=⟨e.ours,e.theirs,n,e.rcv,f+16,Z7 e,0,data⟩
def ZfV (e:Zx):Seg:=if e.state=.synSent then ⟨e.ours,e.theirs,e.first,0,2,64,16,[]⟩ else ⟨e.ours,e.theirs,e.first,e.rcv,18,64,16,[]⟩
def mn (i j:Int):Int:=if j<i then j else i
def ZbA (e:Zx):List Int:=Zbe e.written none (some (mn (ZY e.nxt e.una) (zM e)))
def again (e:Zx) (now:Int):Option Seg×Zx:=
  if e.tries=6 then (none,{ e with state:=.closed,error:=.time })
  else
    let e1:={ e with tries:=e.tries+1,wait:=mn (2*e.wait) 16000,since:=now }
    if e.state=.synSent∨e.state=.synCome then (some (ZfV e1),{ e1 with owes_syn:=false })
    else (some (Zdd e1 e.una (if 0<(ZbA e).length then 0 else 1) (ZbA e)),e1)
def ZcL (e:Zx):Int:=ZY e.behind e.nxt
def Za7 (e:Zx):Bool:=decide (e.state∈[State.opn,.waitOne,.closeWait,.closing,.lastAck]) && decide (0<ZcL e)
def hasNewFin (e:Zx):Bool:=decide (e.state∈[State.waitOne,.closing,.lastAck]) && decide (ZcL e=0)
def Za8 (e:Zx):Bool:=Za7 e || hasNewFin e
section
variable {θ:Sto} {l:Nat} {e:Zx} {now n k:Int}
@[simp] theorem Zy8:zq [.int n,.int k] θ=.ok (.int (Zn n k)) θ:=by simp [zq,Zl7,Zn]
@[simp] theorem Zvr:zC [.int n,.int k] θ=.ok (.int (ZY n k)) θ:=by simp [zC,Zif,ZY]
@[simp] theorem Zrp (h:l+3 < θ.length):ze [.ref l,.int now] (upE θ l e)=.ok .non (upE θ l (Z1 e now)):=by
  simp [ze,Zew,h,Z1]
@[simp] theorem ZwF (h:l+3 < θ.length):ZfW [.ref l] (upE θ l e)=.ok (.str e.state.s) (upE θ l e):=by
  simp [ZfW,Zje,h]
@[simp] theorem ZwH (h:l+3 < θ.length):Zd7 [.ref (l+2)] (upE θ l e)=.ok (.int (Z7 e)) (upE θ l e):=by
  simp [Zd7,Zid,h,Z7]
@[simp] theorem ZrA (h:l+3 < θ.length):Za5 [.ref l] (upE θ l e)=.ok (.int (Z7 e)) (upE θ l e):=by
  simp [Za5,ZeY,h]
@[simp] theorem ZpJ (h:l+3 < θ.length):Zal [.ref l] (upE θ l e)=.ok (.int (zM e)) (upE θ l e):=by
  simp [Zal,ZdT,h,zM]
@[simp] theorem Zvu (h:l+3 < θ.length):Zdg [.ref l,.int now] (upE θ l e)=.ok (.bl (Zcb e now)) (upE θ l e):=by
  simp [Zdg,Zii,h,Zcb]
theorem Zs3 (a b c d f g i:Int) (x:List Int):D.tup [.int a,.int b,.int c,.int d,.int f,.int g,.int i,itp x]=(Seg.mk a b c d f g i x).d:=rfl
theorem ZhF (a b c d f g i:Int):D.tup [.int a,.int b,.int c,.int d,.int f,.int g,.int i,.tup []]=(Seg.mk a b c d f g i []).d:=rfl
@[simp] theorem Ztz (h:l+3 < θ.length):ZbP [.ref l] (upE θ l e)=.ok (ZfV e).d (upE θ l { e with owes_syn:=false }):=by
  by_cases c:e.state=.synSent<;>simp [ZbP,Zgf,ZeW,h,ZfV,c,ZhF]
@[simp] theorem Zrz {f:Int} {data:List Int} (h:l+3 < θ.length):zB [.ref l,.int n,.int f,il data] (upE θ l e)=.ok (Zdd e n f data).d (upE θ l e):=by
  simp [zB,ZeV,h,Zdd,Zs3]
theorem ZrK (h:l+3 < θ.length):Zdr [.ref l,.int now] (upE θ l e)=.ok (ZbD (again e now).1) (upE θ l (again e now).2):=by
  by_cases c:e.tries=6
  · simp [Zdr,ZdY,ZcH,h,again,c,ZbD]
  · by_cases c2:e.state=.synSent∨e.state=.synCome
    · simp [Zdr,ZdY,ZcH,ZdB,h,again,c,c2,ZbD,Zd0,mn]
    · have am:∀e':Zx,e'.most=e.most→zM e'=zM e:=fun e' h=>by unfold zM; rw [h]
      have ad:ZbA e=Zbe e.written none (some (mn (ZY e.nxt e.una) (zM e))):=rfl
      have sl:∀e':Zx,e'.written=e.written→Zdb (upE θ l e') (il e'.written) none (some (if zM e<ZY e.nxt e.una then zM e else ZY e.nxt e.una))=some (il (ZbA e)):=fun e' h'=>by
        rw [Zi4,h']; rfl
      unfold again
      rw [if_neg c,if_neg c2]
      have c2':¬(e.state=State.synSent∨e.state=State.synCome):=c2
      by_cases c3:0<(ZbA e).length
      · rw [if_pos c3]
        have c3':(0:Int)<(ZbA e).length:=by omega
        simp [Zdr,ZdY,ZcH,ZdB,h,c,c2',Zd0,mn,am,sl,c3,c3',ZbD,-Zi4,Zdd,Z7]
      · rw [if_neg c3]
        have c3':¬(0:Int)<(ZbA e).length:=by omega
        simp [Zdr,ZdY,ZcH,ZdB,h,c,c2',Zd0,mn,am,sl,c3,c3',ZbD,-Zi4,Zdd,Z7]
@[simp] theorem Zvo (h:l+3 < θ.length):ZbI [.ref l] (upE θ l e)=.ok (.int (ZcL e)) (upE θ l e):=by
  simp [ZbI,Zh9,h,ZcL]
@[simp] theorem ZpL (h:l+3 < θ.length):Zan [.ref l] (upE θ l e)=.ok (.bl (Za7 e)) (upE θ l e):=by
  simp [Zan,ZdW,h,Za7]
@[simp] theorem Zrr (h:l+3 < θ.length):ZbJ [.ref l] (upE θ l e)=.ok (.bl (hasNewFin e)) (upE θ l e):=by
  simp [ZbJ,Zex,h,hasNewFin]
@[simp] theorem ZtI (h:l+3 < θ.length):ZbR [.ref l] (upE θ l e)=.ok (.bl (Za8 e)) (upE θ l e):=by
  simp [ZbR,Zgi,h,Za8]
end
def mn3 (i j k:Int):Int:=if j<i then (if k<j then k else j) else (if k<i then k else i)
def Zfb (e:Zx) (room:Int):Int:=mn3 (zM e) (ZcL e) room
def Zfc (e:Zx) (room:Int):Seg×Zx:=
  let e1:={ e with nxt:=Zn e.nxt (Zfb e room) }
  (Zdd e1 e.nxt (if ZcL e1=0 then 8 else 0) (Zbe e.written (some (ZY e.nxt e.una)) (some (ZY e.nxt e.una+Zfb e room))),e1)
def ZhO (e:Zx):Seg×Zx:=(Zdd e e.nxt 1 [],{ e with nxt:=Zn e.nxt 1 })
def zW (e:Zx) (room:Int):Seg×Zx:=if Za7 e=true then Zfc { e with probes:=false } room else ZhO { e with probes:=false }
def ZfC (e:Zx) (now:Int):Seg×Zx:=
  let e1:=if e.nxt=e.una then Z1 e now else e
  (ZfV { e1 with nxt:=Zn e.first 1 },{ e1 with nxt:=Zn e.first 1,owes_syn:=false })
def Z9 (e:Zx) (now:Int):Option Seg×Zx:=
  if e.state=.synSent∨e.state=.synCome then
    if e.nxt=e.first∨e.owes_syn=true then (some (ZfC e now).1,(ZfC e now).2) else (none,e)
  else
    if e.wnd-ZY e.nxt e.una≤0∨Za8 e=false then (none,e)
    else
      let e1:=if e.nxt=e.una then Z1 e now else e
      (some (zW { e1 with owes_answer:=false } (e.wnd-ZY e.nxt e.una)).1,(zW { e1 with owes_answer:=false } (e.wnd-ZY e.nxt e.una)).2)
def ZZ (e:Zx) (now:Int):Option Seg×Zx:=
  if ¬e.nxt=e.una∨¬e.wnd=0∨Za8 e=false then (none,{ e with probes:=false })
  else
    let e1:=if e.probes=true then e else Z1 { e with probes:=true } now
    if Zcb e1 now=true then (some (zW { e1 with since:=now } 1).1,(zW { e1 with since:=now } 1).2) else (none,e1)
def zR (e:Zx):Option Seg×Zx:=if e.owes_answer=true then (some (Zdd e e.nxt 0 []),{ e with owes_answer:=false }) else (none,e)
def Zbx (e:Zx) (now:Int):Option Seg×Zx:=
  match Z9 e now with
  | (some s,e1)=>(some s,e1)
  | (none,e1)=>match ZZ e1 now with
    | (some s,e2)=>(some s,e2)
    | (none,e2)=>zR e2
def Zah (e:Zx) (now:Int):Option Seg×Zx:=
  match e.owed_reset with
  | some s=>(some s,{ e with owed_reset:=none })
  | none=>
    let e1:=if e.state=.timeWait∧120000≤now-e.since then { e with state:=.closed } else e
    if e1.state=.closed∨e1.state=.listen then (none,e1)
    else if ¬e1.nxt=e1.una∧Zcb e1 now=true then again e1 now
    else Zbx e1 now
section
variable {θ:Sto} {l:Nat} {e:Zx} {now n k:Int}
@[simp] theorem ZtA {r:Int} (h:l+3 < θ.length):Zcm [.ref l,.int r] (upE θ l e)=.ok (Zfc e r).1.d (upE θ l (Zfc e r).2):=by
  have em:(if ZcL e<zM e then (if r<ZcL e then r else ZcL e) else (if r<zM e then r else zM e))=Zfb e r:=rfl
  by_cases c:ZcL { e with nxt:=Zn e.nxt (Zfb e r) }=0
  · simp [Zcm,Zem,h,em]
    simp [Zfc,c,Zdd,Z7,h]
  · simp [Zcm,Zem,h,em]
    simp [Zfc,c,Zdd,Z7,h]
@[simp] theorem ZuY (h:l+3 < θ.length):ZdO [.ref l] (upE θ l e)=.ok (ZhO e).1.d (upE θ l (ZhO e).2):=by
  simp [ZdO,Zg2,h,ZhO,Zdd,Z7,ZcQ]
@[simp] theorem ZsV {r:Int} (h:l+3 < θ.length):ZaZ [.ref l,.int r] (upE θ l e)=.ok (zW e r).1.d (upE θ l (zW e r).2):=by
  have hp:Za7 { e with probes:=false }=Za7 e:=rfl
  by_cases c:Za7 e=true
  · simp [ZaZ,ZdG,h,zW,c,hp]
  · simp [ZaZ,ZdG,h,zW,c,hp]
@[simp] theorem ZuX (h:l+3 < θ.length):Zc6 [.ref l,.int now] (upE θ l e)=.ok (ZfC e now).1.d (upE θ l (ZfC e now).2):=by
  by_cases c:e.nxt=e.una
  · simp [Zc6,ZeZ,ZdF,h,ZfC,c,Z1]
  · simp [Zc6,ZeZ,ZdF,h,ZfC,c]
theorem Zda (h:l+3 < θ.length):zc [.ref l,.int now] (upE θ l e)=.ok (ZbD (Z9 e now).1) (upE θ l (Z9 e now).2):=by
  by_cases c1:e.state=.synSent∨e.state=.synCome
  · by_cases c2:e.nxt=e.first∨e.owes_syn=true
    · simp [zc,zO,zu,h,Z9,c1,c2,ZbD]
    · simp [zc,zO,zu,h,Z9,c1,c2,ZbD]
  · by_cases c3:e.wnd-ZY e.nxt e.una≤0
    · simp [zc,zO,zu,Zaq,h,Z9,c1,c3,ZbD]
    · by_cases c4:Za8 e=true
      · by_cases c5:e.nxt=e.una
        · have c3':=c3
          rw [c5] at c3'
          simp [zc,zO,zu,Zaq,ZbV,h,Z9,c1,c3',c4,c5,ZbD,Z1]
        · simp [zc,zO,zu,Zaq,ZbV,h,Z9,c1,c3,c4,c5,ZbD]
      · simp [zc,zO,zu,Zaq,h,Z9,c1,c3,c4,ZbD]
theorem ZdJ (h:l+3 < θ.length):zg [.ref l,.int now] (upE θ l e)=.ok (ZbD (ZZ e now).1) (upE θ l (ZZ e now).2):=by
  by_cases c1:e.nxt=e.una
  · by_cases c2:e.wnd=0
    · by_cases c3:Za8 e=true
      · by_cases c4:e.probes=true
        · by_cases c5:Zcb e now=true
          · simp [zg,zt,zi,ZaF,ZaE,h,ZZ,c1,c2,c3,c4,c5,ZbD]
          · simp [zg,zt,zi,ZaF,ZaE,h,ZZ,c1,c2,c3,c4,c5,ZbD]
        · have c5:Zcb (Z1 { e with probes:=true } now) now=false:=by simp [Zcb,Z1]
          simp [zg,zt,zi,ZaF,ZaE,h,ZZ,c1,c2,c3,c4,ZbD] at c5 ⊢
          simp [c5,Zcb,Z1]
      · simp [zg,zt,zi,h,ZZ,c1,c2,c3,ZbD]
    · simp [zg,zt,zi,h,ZZ,c1,c2,ZbD]
  · simp [zg,zt,zi,h,ZZ,c1,ZbD]
theorem ZfP (h:l+3 < θ.length):z8 [.ref l] (upE θ l e)=.ok (ZbD (zR e).1) (upE θ l (zR e).2):=by
  by_cases c:e.owes_answer=true
  · simp [z8,ZbG,Zbf,h,zR,c,ZbD,ZcQ,Zdd,Z7]
  · simp [z8,ZbG,Zbf,h,zR,c,ZbD]
@[simp] theorem Zu2:ZbD none=.non:=rfl
@[simp] theorem Zu1 (s:Seg):ZbD (some s)=s.d:=rfl
@[simp] theorem ZwS (s:Seg):ZcF s.d=false:=rfl
@[simp] theorem Zu6:ZcF .non=true:=nr rfl
@[simp] theorem Zs5 (h:l+3 < θ.length) (e:Zx):zb ["End"] "owed_reset" .non (.ref l) (upE θ l e)=some (upE θ l { e with owed_reset:=none }):=ZfR h e none
@[simp] theorem Zs4 (h:l+3 < θ.length) (e:Zx) (s:Seg):zb ["End"] "owed_reset" s.d (.ref l) (upE θ l e)=some (upE θ l { e with owed_reset:=some s }):=ZfR h e (some s)
theorem ZiH (h:l+3 < θ.length) (x:Sl):Zhx (ZQ 2 (mCB zc (Zc (Zd 0) (Zc (Zd 1) Zk))) [.val (.ref l),.val (.int now),x] (upE θ l e)) (Zr Zb0 (Zr ZbZ (ZM (Zd 2)))) =
    .ok (.rt (ZbD (Zbx e now).1),[.val (.ref l),.val (.int now),.val (ZbD (Zbx e now).1)]) (upE θ l (Zbx e now).2):=by
  unfold Zbx
  cases c1:Z9 e now with
  | mk r1 e1=>
    cases r1 with
    | some s=>simp [h,Zda,c1,Zb0,ZbZ]
    | none=>
      cases c2:ZZ e1 now with
      | mk r2 e2=>
        cases r2 with
        | some s=>simp [h,Zda,c1,Zb0,ZbZ,ZdJ,c2]
        | none=>simp [h,Zda,c1,Zb0,ZbZ,ZdJ,c2,ZfP]
theorem ZmQ (h:l+3 < θ.length):Zd8 [.ref l,.int now] (upE θ l e)=.ok (ZbD (Zah e now).1) (upE θ l (Zah e now).2):=by
  cases c0:e.owed_reset with
  | some s=>simp [Zd8,Zfi,Zdy,h,Zah,c0,Zc0,ZeX]
  | none=>
    have key:∀e1:Zx,(Zhx (Zb1 [.val (.ref l),.val (.int now),.no] (upE θ l e1)) (Zr ZcG (Zr (ZQ 2 (mCB zc (Zc (Zd 0) (Zc (Zd 1) Zk)))) (Zr Zb0 (Zr ZbZ (ZM (Zd 2))))))).bind (fun p θ=>match p.1 with | .nx=>.ok .non θ | .rt d=>.ok d θ | _=>.bad) =
        .ok (ZbD (if e1.state=.closed∨e1.state=.listen then (none,e1) else if ¬e1.nxt=e1.una∧Zcb e1 now=true then again e1 now else Zbx e1 now).1) (upE θ l (if e1.state=.closed∨e1.state=.listen then (none,e1) else if ¬e1.nxt=e1.una∧Zcb e1 now=true then again e1 now else Zbx e1 now).2):=fun e1=>by
      by_cases c1:e1.state=.closed∨e1.state=.listen
      · simp [Zb1,h,c1]
      · by_cases c2:e1.nxt=e1.una
        · have g:=ZiH (e:=e1) (now:=now) h .no
          simp at g
          simp [Zb1,ZcG,h,c1,c2]
          rw [g]
          simp
        · by_cases c3:Zcb e1 now=true
          · simp [Zb1,ZcG,h,c1,c2,c3,ZrK]
          · have g:=ZiH (e:=e1) (now:=now) h .no
            simp at g
            simp [Zb1,ZcG,h,c1,c2,c3]
            rw [g]
            simp
    by_cases c1:e.state=.timeWait∧120000≤now-e.since
    · have:=key { e with state:=.closed }
      simp [Zd8,Zfi,Zdy,Ze3,h,Zah,c0,c1] at this ⊢
      exact this
    · have:=key e
      simp [Zd8,Zfi,Zdy,Ze3,h,Zah,c0,c1] at this ⊢
      exact this
def Zjo (e:Zx) (now:Int):List Int:=match (Zah e now).1 with
  | none=>[]
  | some s=>putL s
theorem Zty (h:l+3 < θ.length) (hp:∀s,(Zah e now).1=some s→s.Put):ZcM [.ref l,.int now] (upE θ l e)=.ok (il (Zjo e now)) (upE θ l (Zah e now).2):=by
  unfold Zjo
  cases c:(Zah e now).1 with
  | none=>simp [ZcM,Zic,ZmQ,h,c,ZcQ]
  | some s=>simp [ZcM,Zic,ZmQ,h,c,Zvq (hp s c)]
def newEnd (ours theirs first:Int) (active:Bool):Zx:=⟨ours,theirs,if active then .synSent else .listen,.none,first,first,first,0,0,0,0,12,[],[],[],none,false,Zn first 1,none,false,false,false,0,1000,0⟩
def cells (l:Nat) (e:Zx):Sto:=[c0 l e,c1 e,c2 e,c3 e]
theorem ZnZ (θ r:Sto) (C:Str) (fs:List (Str×D)):ZeP (θ++.ins C fs::r) (.ref θ.length)=some (θ.length,C,fs):=by
  show (match (θ++.ins C fs::r)[θ.length]? with | some (Cell.ins C fs)=>some (θ.length,C,fs) | _=>none)=_
  rw [List.getElem?_append_right (Nat.le_refl _),Nat.sub_self]
  rfl
theorem ZiO {f:Str} {y:D}:∀{fs:List (Str×D)},(fs.map Prod.fst).contains f=false→Zau f y fs=fs++[(f,y)]
  | [],_=>rfl
  | (g,x)::r,h=>by
    rw [List.map_cons,List.contains_cons,Bool.or_eq_false_iff] at h
    have hn:¬g=f:=fun e=>by rw [e,beq_self_eq_true] at h; cases h.1
    unfold Zau
    rw [if_neg hn,ZiO h.2]
    rfl
theorem Z5 {C f:Str} {y:D} (θ r:Sto) {fs:List (Str×D)} (h0:[C].contains C=true) (h1:(fs.map Prod.fst).contains f=false) (h2:fs.length<1000):zb [C] f y (.ref θ.length) (θ++.ins C fs::r)=some (θ++.ins C (fs++[(f,y)])::r):=by
  unfold zb
  rw [ZnZ]
  simp only [h0]
  rw [if_pos ⟨trivial,h2⟩,ZiO h1]
  congr 1
  rw [List.set_append,if_neg (Nat.lt_irrefl _),Nat.sub_self]
  rfl
theorem Znd (S:Sto):mkG "Pile" ZbY [] S=.ok (.ref S.length) (S++[.ins "Pile" [("row",il [])]]):=by
  have:=Z5 (C:="Pile") (f:="row") (y:=il []) S [] (fs:=[]) (by decide +kernel) rfl (by decide)
  simp [mkG,ZbY,Zfz,ZcQ,this]
theorem Zqj (θ r:Sto) (y:D):zb ["End"] "ours" y (.ref θ.length) (θ++.ins "End" []::r)=some (θ++.ins "End" [("ours",y)]::r):=Z5 θ r ce (by simp only [List.map_cons,List.map_nil]; decide +kernel) (by simp only [List.length_cons,List.length_nil]; decide)
theorem ZlA (θ r:Sto) (x0 y:D):zb ["End"] "theirs" y (.ref θ.length) (θ++.ins "End" [("ours",x0)]::r)=some (θ++.ins "End" [("ours",x0),("theirs",y)]::r):=Z5 θ r ce (by simp only [List.map_cons,List.map_nil]; decide +kernel) (by simp only [List.length_cons,List.length_nil]; decide)
theorem Zm7 (θ r:Sto) (x0 x1 y:D):zb ["End"] "state" y (.ref θ.length) (θ++.ins "End" [("ours",x0),("theirs",x1)]::r)=some (θ++.ins "End" [("ours",x0),("theirs",x1),("state",y)]::r):=Z5 θ r ce (by simp only [List.map_cons,List.map_nil]; decide +kernel) (by simp only [List.length_cons,List.length_nil]; decide)
theorem Zna (θ r:Sto) (x0 x1 x2 y:D):zb ["End"] "error" y (.ref θ.length) (θ++.ins "End" [("ours",x0),("theirs",x1),("state",x2)]::r)=some (θ++.ins "End" [("ours",x0),("theirs",x1),("state",x2),("error",y)]::r):=Z5 θ r ce (by simp only [List.map_cons,List.map_nil]; decide +kernel) (by simp only [List.length_cons,List.length_nil]; decide)
theorem Zm9 (θ r:Sto) (x0 x1 x2 x3 y:D):zb ["End"] "first" y (.ref θ.length) (θ++.ins "End" [("ours",x0),("theirs",x1),("state",x2),("error",x3)]::r)=some (θ++.ins "End" [("ours",x0),("theirs",x1),("state",x2),("error",x3),("first",y)]::r):=Z5 θ r ce (by simp only [List.map_cons,List.map_nil]; decide +kernel) (by simp only [List.length_cons,List.length_nil]; decide)
theorem Zta (θ r:Sto) (x0 x1 x2 x3 x4 y:D):zb ["End"] "una" y (.ref θ.length) (θ++.ins "End" [("ours",x0),("theirs",x1),("state",x2),("error",x3),("first",x4)]::r)=some (θ++.ins "End" [("ours",x0),("theirs",x1),("state",x2),("error",x3),("first",x4),("una",y)]::r):=Z5 θ r ce (by simp only [List.map_cons,List.map_nil]; decide +kernel) (by simp only [List.length_cons,List.length_nil]; decide)
theorem Ztc (θ r:Sto) (x0 x1 x2 x3 x4 x5 y:D):zb ["End"] "nxt" y (.ref θ.length) (θ++.ins "End" [("ours",x0),("theirs",x1),("state",x2),("error",x3),("first",x4),("una",x5)]::r)=some (θ++.ins "End" [("ours",x0),("theirs",x1),("state",x2),("error",x3),("first",x4),("una",x5),("nxt",y)]::r):=Z5 θ r ce (by simp only [List.map_cons,List.map_nil]; decide +kernel) (by simp only [List.length_cons,List.length_nil]; decide)
theorem Ztb (θ r:Sto) (x0 x1 x2 x3 x4 x5 x6 y:D):zb ["End"] "rcv" y (.ref θ.length) (θ++.ins "End" [("ours",x0),("theirs",x1),("state",x2),("error",x3),("first",x4),("una",x5),("nxt",x6)]::r)=some (θ++.ins "End" [("ours",x0),("theirs",x1),("state",x2),("error",x3),("first",x4),("una",x5),("nxt",x6),("rcv",y)]::r):=Z5 θ r ce (by simp only [List.map_cons,List.map_nil]; decide +kernel) (by simp only [List.length_cons,List.length_nil]; decide)
theorem Zs9 (θ r:Sto) (x0 x1 x2 x3 x4 x5 x6 x7 y:D):zb ["End"] "wnd" y (.ref θ.length) (θ++.ins "End" [("ours",x0),("theirs",x1),("state",x2),("error",x3),("first",x4),("una",x5),("nxt",x6),("rcv",x7)]::r)=some (θ++.ins "End" [("ours",x0),("theirs",x1),("state",x2),("error",x3),("first",x4),("una",x5),("nxt",x6),("rcv",x7),("wnd",y)]::r):=Z5 θ r ce (by simp only [List.map_cons,List.map_nil]; decide +kernel) (by simp only [List.length_cons,List.length_nil]; decide)
theorem Zqi (θ r:Sto) (x0 x1 x2 x3 x4 x5 x6 x7 x8 y:D):zb ["End"] "told" y (.ref θ.length) (θ++.ins "End" [("ours",x0),("theirs",x1),("state",x2),("error",x3),("first",x4),("una",x5),("nxt",x6),("rcv",x7),("wnd",x8)]::r)=some (θ++.ins "End" [("ours",x0),("theirs",x1),("state",x2),("error",x3),("first",x4),("una",x5),("nxt",x6),("rcv",x7),("wnd",x8),("told",y)]::r):=Z5 θ r ce (by simp only [List.map_cons,List.map_nil]; decide +kernel) (by simp only [List.length_cons,List.length_nil]; decide)
theorem ZiT (θ r:Sto) (x0 x1 x2 x3 x4 x5 x6 x7 x8 x9 y:D):zb ["End"] "told_by" y (.ref θ.length) (θ++.ins "End" [("ours",x0),("theirs",x1),("state",x2),("error",x3),("first",x4),("una",x5),("nxt",x6),("rcv",x7),("wnd",x8),("told",x9)]::r)=some (θ++.ins "End" [("ours",x0),("theirs",x1),("state",x2),("error",x3),("first",x4),("una",x5),("nxt",x6),("rcv",x7),("wnd",x8),("told",x9),("told_by",y)]::r):=Z5 θ r ce (by simp only [List.map_cons,List.map_nil]; decide +kernel) (by simp only [List.length_cons,List.length_nil]; decide)
theorem Zqk (θ r:Sto) (x0 x1 x2 x3 x4 x5 x6 x7 x8 x9 x10 y:D):zb ["End"] "most" y (.ref θ.length) (θ++.ins "End" [("ours",x0),("theirs",x1),("state",x2),("error",x3),("first",x4),("una",x5),("nxt",x6),("rcv",x7),("wnd",x8),("told",x9),("told_by",x10)]::r)=some (θ++.ins "End" [("ours",x0),("theirs",x1),("state",x2),("error",x3),("first",x4),("una",x5),("nxt",x6),("rcv",x7),("wnd",x8),("told",x9),("told_by",x10),("most",y)]::r):=Z5 θ r ce (by simp only [List.map_cons,List.map_nil]; decide +kernel) (by simp only [List.length_cons,List.length_nil]; decide)
theorem ZiS (θ r:Sto) (x0 x1 x2 x3 x4 x5 x6 x7 x8 x9 x10 x11 y:D):zb ["End"] "written" y (.ref θ.length) (θ++.ins "End" [("ours",x0),("theirs",x1),("state",x2),("error",x3),("first",x4),("una",x5),("nxt",x6),("rcv",x7),("wnd",x8),("told",x9),("told_by",x10),("most",x11)]::r)=some (θ++.ins "End" [("ours",x0),("theirs",x1),("state",x2),("error",x3),("first",x4),("una",x5),("nxt",x6),("rcv",x7),("wnd",x8),("told",x9),("told_by",x10),("most",x11),("written",y)]::r):=Z5 θ r ce (by simp only [List.map_cons,List.map_nil]; decide +kernel) (by simp only [List.length_cons,List.length_nil]; decide)
theorem Zql (θ r:Sto) (x0 x1 x2 x3 x4 x5 x6 x7 x8 x9 x10 x11 x12 y:D):zb ["End"] "come" y (.ref θ.length) (θ++.ins "End" [("ours",x0),("theirs",x1),("state",x2),("error",x3),("first",x4),("una",x5),("nxt",x6),("rcv",x7),("wnd",x8),("told",x9),("told_by",x10),("most",x11),("written",x12)]::r)=some (θ++.ins "End" [("ours",x0),("theirs",x1),("state",x2),("error",x3),("first",x4),("una",x5),("nxt",x6),("rcv",x7),("wnd",x8),("told",x9),("told_by",x10),("most",x11),("written",x12),("come",y)]::r):=Z5 θ r ce (by simp only [List.map_cons,List.map_nil]; decide +kernel) (by simp only [List.length_cons,List.length_nil]; decide)
theorem Znb (θ r:Sto) (x0 x1 x2 x3 x4 x5 x6 x7 x8 x9 x10 x11 x12 x13 y:D):zb ["End"] "early" y (.ref θ.length) (θ++.ins "End" [("ours",x0),("theirs",x1),("state",x2),("error",x3),("first",x4),("una",x5),("nxt",x6),("rcv",x7),("wnd",x8),("told",x9),("told_by",x10),("most",x11),("written",x12),("come",x13)]::r)=some (θ++.ins "End" [("ours",x0),("theirs",x1),("state",x2),("error",x3),("first",x4),("una",x5),("nxt",x6),("rcv",x7),("wnd",x8),("told",x9),("told_by",x10),("most",x11),("written",x12),("come",x13),("early",y)]::r):=Z5 θ r ce (by simp only [List.map_cons,List.map_nil]; decide +kernel) (by simp only [List.length_cons,List.length_nil]; decide)
theorem ZgT (θ r:Sto) (x0 x1 x2 x3 x4 x5 x6 x7 x8 x9 x10 x11 x12 x13 x14 y:D):zb ["End"] "early_fin" y (.ref θ.length) (θ++.ins "End" [("ours",x0),("theirs",x1),("state",x2),("error",x3),("first",x4),("una",x5),("nxt",x6),("rcv",x7),("wnd",x8),("told",x9),("told_by",x10),("most",x11),("written",x12),("come",x13),("early",x14)]::r)=some (θ++.ins "End" [("ours",x0),("theirs",x1),("state",x2),("error",x3),("first",x4),("una",x5),("nxt",x6),("rcv",x7),("wnd",x8),("told",x9),("told_by",x10),("most",x11),("written",x12),("come",x13),("early",x14),("early_fin",y)]::r):=Z5 θ r ce (by simp only [List.map_cons,List.map_nil]; decide +kernel) (by simp only [List.length_cons,List.length_nil]; decide)
theorem Zf0 (θ r:Sto) (x0 x1 x2 x3 x4 x5 x6 x7 x8 x9 x10 x11 x12 x13 x14 x15 y:D):zb ["End"] "has_closed" y (.ref θ.length) (θ++.ins "End" [("ours",x0),("theirs",x1),("state",x2),("error",x3),("first",x4),("una",x5),("nxt",x6),("rcv",x7),("wnd",x8),("told",x9),("told_by",x10),("most",x11),("written",x12),("come",x13),("early",x14),("early_fin",x15)]::r)=some (θ++.ins "End" [("ours",x0),("theirs",x1),("state",x2),("error",x3),("first",x4),("una",x5),("nxt",x6),("rcv",x7),("wnd",x8),("told",x9),("told_by",x10),("most",x11),("written",x12),("come",x13),("early",x14),("early_fin",x15),("has_closed",y)]::r):=Z5 θ r ce (by simp only [List.map_cons,List.map_nil]; decide +kernel) (by simp only [List.length_cons,List.length_nil]; decide)
theorem ZlD (θ r:Sto) (x0 x1 x2 x3 x4 x5 x6 x7 x8 x9 x10 x11 x12 x13 x14 x15 x16 y:D):zb ["End"] "behind" y (.ref θ.length) (θ++.ins "End" [("ours",x0),("theirs",x1),("state",x2),("error",x3),("first",x4),("una",x5),("nxt",x6),("rcv",x7),("wnd",x8),("told",x9),("told_by",x10),("most",x11),("written",x12),("come",x13),("early",x14),("early_fin",x15),("has_closed",x16)]::r)=some (θ++.ins "End" [("ours",x0),("theirs",x1),("state",x2),("error",x3),("first",x4),("una",x5),("nxt",x6),("rcv",x7),("wnd",x8),("told",x9),("told_by",x10),("most",x11),("written",x12),("come",x13),("early",x14),("early_fin",x15),("has_closed",x16),("behind",y)]::r):=Z5 θ r ce (by simp only [List.map_cons,List.map_nil]; decide +kernel) (by simp only [List.length_cons,List.length_nil]; decide)
theorem ZfY (θ r:Sto) (x0 x1 x2 x3 x4 x5 x6 x7 x8 x9 x10 x11 x12 x13 x14 x15 x16 x17 y:D):zb ["End"] "owed_reset" y (.ref θ.length) (θ++.ins "End" [("ours",x0),("theirs",x1),("state",x2),("error",x3),("first",x4),("una",x5),("nxt",x6),("rcv",x7),("wnd",x8),("told",x9),("told_by",x10),("most",x11),("written",x12),("come",x13),("early",x14),("early_fin",x15),("has_closed",x16),("behind",x17)]::r)=some (θ++.ins "End" [("ours",x0),("theirs",x1),("state",x2),("error",x3),("first",x4),("una",x5),("nxt",x6),("rcv",x7),("wnd",x8),("told",x9),("told_by",x10),("most",x11),("written",x12),("come",x13),("early",x14),("early_fin",x15),("has_closed",x16),("behind",x17),("owed_reset",y)]::r):=Z5 θ r ce (by simp only [List.map_cons,List.map_nil]; decide +kernel) (by simp only [List.length_cons,List.length_nil]; decide)
theorem ZhK (θ r:Sto) (x0 x1 x2 x3 x4 x5 x6 x7 x8 x9 x10 x11 x12 x13 x14 x15 x16 x17 x18 y:D):zb ["End"] "owes_syn" y (.ref θ.length) (θ++.ins "End" [("ours",x0),("theirs",x1),("state",x2),("error",x3),("first",x4),("una",x5),("nxt",x6),("rcv",x7),("wnd",x8),("told",x9),("told_by",x10),("most",x11),("written",x12),("come",x13),("early",x14),("early_fin",x15),("has_closed",x16),("behind",x17),("owed_reset",x18)]::r)=some (θ++.ins "End" [("ours",x0),("theirs",x1),("state",x2),("error",x3),("first",x4),("una",x5),("nxt",x6),("rcv",x7),("wnd",x8),("told",x9),("told_by",x10),("most",x11),("written",x12),("come",x13),("early",x14),("early_fin",x15),("has_closed",x16),("behind",x17),("owed_reset",x18),("owes_syn",y)]::r):=Z5 θ r ce (by simp only [List.map_cons,List.map_nil]; decide +kernel) (by simp only [List.length_cons,List.length_nil]; decide)
theorem Zft (θ r:Sto) (x0 x1 x2 x3 x4 x5 x6 x7 x8 x9 x10 x11 x12 x13 x14 x15 x16 x17 x18 x19 y:D):zb ["End"] "owes_answer" y (.ref θ.length) (θ++.ins "End" [("ours",x0),("theirs",x1),("state",x2),("error",x3),("first",x4),("una",x5),("nxt",x6),("rcv",x7),("wnd",x8),("told",x9),("told_by",x10),("most",x11),("written",x12),("come",x13),("early",x14),("early_fin",x15),("has_closed",x16),("behind",x17),("owed_reset",x18),("owes_syn",x19)]::r)=some (θ++.ins "End" [("ours",x0),("theirs",x1),("state",x2),("error",x3),("first",x4),("una",x5),("nxt",x6),("rcv",x7),("wnd",x8),("told",x9),("told_by",x10),("most",x11),("written",x12),("come",x13),("early",x14),("early_fin",x15),("has_closed",x16),("behind",x17),("owed_reset",x18),("owes_syn",x19),("owes_answer",y)]::r):=Z5 θ r ce (by simp only [List.map_cons,List.map_nil]; decide +kernel) (by simp only [List.length_cons,List.length_nil]; decide)
theorem ZlB (θ r:Sto) (x0 x1 x2 x3 x4 x5 x6 x7 x8 x9 x10 x11 x12 x13 x14 x15 x16 x17 x18 x19 x20 y:D):zb ["End"] "probes" y (.ref θ.length) (θ++.ins "End" [("ours",x0),("theirs",x1),("state",x2),("error",x3),("first",x4),("una",x5),("nxt",x6),("rcv",x7),("wnd",x8),("told",x9),("told_by",x10),("most",x11),("written",x12),("come",x13),("early",x14),("early_fin",x15),("has_closed",x16),("behind",x17),("owed_reset",x18),("owes_syn",x19),("owes_answer",x20)]::r)=some (θ++.ins "End" [("ours",x0),("theirs",x1),("state",x2),("error",x3),("first",x4),("una",x5),("nxt",x6),("rcv",x7),("wnd",x8),("told",x9),("told_by",x10),("most",x11),("written",x12),("come",x13),("early",x14),("early_fin",x15),("has_closed",x16),("behind",x17),("owed_reset",x18),("owes_syn",x19),("owes_answer",x20),("probes",y)]::r):=Z5 θ r ce (by simp only [List.map_cons,List.map_nil]; decide +kernel) (by simp only [List.length_cons,List.length_nil]; decide)
theorem Zm8 (θ r:Sto) (x0 x1 x2 x3 x4 x5 x6 x7 x8 x9 x10 x11 x12 x13 x14 x15 x16 x17 x18 x19 x20 x21 y:D):zb ["End"] "since" y (.ref θ.length) (θ++.ins "End" [("ours",x0),("theirs",x1),("state",x2),("error",x3),("first",x4),("una",x5),("nxt",x6),("rcv",x7),("wnd",x8),("told",x9),("told_by",x10),("most",x11),("written",x12),("come",x13),("early",x14),("early_fin",x15),("has_closed",x16),("behind",x17),("owed_reset",x18),("owes_syn",x19),("owes_answer",x20),("probes",x21)]::r)=some (θ++.ins "End" [("ours",x0),("theirs",x1),("state",x2),("error",x3),("first",x4),("una",x5),("nxt",x6),("rcv",x7),("wnd",x8),("told",x9),("told_by",x10),("most",x11),("written",x12),("come",x13),("early",x14),("early_fin",x15),("has_closed",x16),("behind",x17),("owed_reset",x18),("owes_syn",x19),("owes_answer",x20),("probes",x21),("since",y)]::r):=Z5 θ r ce (by simp only [List.map_cons,List.map_nil]; decide +kernel) (by simp only [List.length_cons,List.length_nil]; decide)
theorem Zqh (θ r:Sto) (x0 x1 x2 x3 x4 x5 x6 x7 x8 x9 x10 x11 x12 x13 x14 x15 x16 x17 x18 x19 x20 x21 x22 y:D):zb ["End"] "wait" y (.ref θ.length) (θ++.ins "End" [("ours",x0),("theirs",x1),("state",x2),("error",x3),("first",x4),("una",x5),("nxt",x6),("rcv",x7),("wnd",x8),("told",x9),("told_by",x10),("most",x11),("written",x12),("come",x13),("early",x14),("early_fin",x15),("has_closed",x16),("behind",x17),("owed_reset",x18),("owes_syn",x19),("owes_answer",x20),("probes",x21),("since",x22)]::r)=some (θ++.ins "End" [("ours",x0),("theirs",x1),("state",x2),("error",x3),("first",x4),("una",x5),("nxt",x6),("rcv",x7),("wnd",x8),("told",x9),("told_by",x10),("most",x11),("written",x12),("come",x13),("early",x14),("early_fin",x15),("has_closed",x16),("behind",x17),("owed_reset",x18),("owes_syn",x19),("owes_answer",x20),("probes",x21),("since",x22),("wait",y)]::r):=Z5 θ r ce (by simp only [List.map_cons,List.map_nil]; decide +kernel) (by simp only [List.length_cons,List.length_nil]; decide)
theorem Zm6 (θ r:Sto) (x0 x1 x2 x3 x4 x5 x6 x7 x8 x9 x10 x11 x12 x13 x14 x15 x16 x17 x18 x19 x20 x21 x22 x23 y:D):zb ["End"] "tries" y (.ref θ.length) (θ++.ins "End" [("ours",x0),("theirs",x1),("state",x2),("error",x3),("first",x4),("una",x5),("nxt",x6),("rcv",x7),("wnd",x8),("told",x9),("told_by",x10),("most",x11),("written",x12),("come",x13),("early",x14),("early_fin",x15),("has_closed",x16),("behind",x17),("owed_reset",x18),("owes_syn",x19),("owes_answer",x20),("probes",x21),("since",x22),("wait",x23)]::r)=some (θ++.ins "End" [("ours",x0),("theirs",x1),("state",x2),("error",x3),("first",x4),("una",x5),("nxt",x6),("rcv",x7),("wnd",x8),("told",x9),("told_by",x10),("most",x11),("written",x12),("come",x13),("early",x14),("early_fin",x15),("has_closed",x16),("behind",x17),("owed_reset",x18),("owes_syn",x19),("owes_answer",x20),("probes",x21),("since",x22),("wait",x23),("tries",y)]::r):=Z5 θ r ce (by simp only [List.map_cons,List.map_nil]; decide +kernel) (by simp only [List.length_cons,List.length_nil]; decide)
theorem ZtF {a b c:Int} {act:Bool} (θ:Sto):Zcp [.ref θ.length,.int a,.int b,.int c,.bl act] (θ++[.ins "End" []])=.ok .non (θ++cells θ.length (newEnd a b c act)):=by
  cases act with
  | true=>
    simp [Zcp,Zeq,Znd,Zqj,ZlA,Zm7,Zna,Zm9,Zta,Ztc,Ztb,Zs9,Zqi,ZiT,Zqk,ZiS,Zql,Znb,ZgT,Zf0,ZlD,ZfY,ZhK,Zft,ZlB,Zm8,Zqh,Zm6]
    rfl
  | false=>
    simp [Zcp,Zeq,Znd,Zqj,ZlA,Zm7,Zna,Zm9,Zta,Ztc,Ztb,Zs9,Zqi,ZiT,Zqk,ZiS,Zql,Znb,ZgT,Zf0,ZlD,ZfY,ZhK,Zft,ZlB,Zm8,Zqh,Zm6]
    rfl
theorem ZpI {a b c:Int} {act:Bool} (θ:Sto):ZeH [.int a,.int b,.int c,.bl act] θ=.ok (.ref θ.length) (θ++cells θ.length (newEnd a b c act)):=by
  simp [ZeH,Zie,mkG,ZtF]
theorem Zq9 (e:Zx):cells 0 e=upE (cells 0 e) 0 e:=by
  simp [cells,upE]
end
end
end My
namespace L2
open PySem PySem.Spec PyProof.Rows
open AutoSeq1 (wpAny_loadPart')
theorem ZsA (tp:Addr) (its:Array Value) (k:Nat) (dct:Option Addr) (sl:Array (Option Value)) :
    Meets (Builtin.«enumerate.__new__» ⟨[.type "enumerate",.ref tp],[]⟩) (fun _ R s=>s.heap.get? tp=some { cls:=.type "tuple",dict:=dct,data:=.seq its k,slots:=sl }∧
      R (.ok (.ret (.ref (s.heap.push { cls:=.type "tuple_iterator",data:=.fields #[.ref tp,.int 0 0] }).objs.size)))
        { s with heap:=(s.heap.push { cls:=.type "tuple_iterator",data:=.fields #[.ref tp,.int 0 0] }).push { cls:=.type "enumerate",data:=.fields #[.none,.bool false,.ref s.heap.objs.size,rawInt 0,.none,.none] } }):=by
  refine .of_wp fun prog w A R s h=>?_
  obtain ⟨hp,g,d,tk,os⟩:=s
  obtain ⟨ht,h⟩:=h
  have hsub:=sub_enumerate
  have hT:Heap.IsTuple (Shared.heap ⟨hp,g,d,tk,os⟩) tp its:=⟨_,ht,rfl,k,rfl⟩
  wp_walk using wpAny_loadPart' ht
  refine wpAny_stack_any fun st=>?_
  refine wpAny_pure ?_
  split
  · rename_i c _ _ _ _ _
    cases (c == Value.type "enumerate")<;>(wp_walk using wpAny_loadPart' ht,wpAny_pyIter_tuple hT; exact ⟨_,rfl,h⟩)
  · wp_walk using wpAny_loadPart' ht,wpAny_pyIter_tuple hT; exact ⟨_,rfl,h⟩
section
variable {prog:Program} {w:World} {A:Around} {E:Value→Shared→Prop} {s:Shared}
theorem Zrb {tp:Addr} {its:Array Value} {Q:Value→Shared→Prop} (hT:s.heap.IsTuple tp its)
    (h:∀h',IsEnum h' (s.heap.objs.size+1) s.heap.objs.size 0 .none→h'.IsTupleIter s.heap.objs.size tp 0→h'.objs.size=s.heap.objs.size+2→(∀b o,s.heap.get? b=some o→h'.get? b=some o)→Q (.ref (s.heap.objs.size+1)) { s with heap:=h' }) :
    wpAny (model prog w) A (call (.type "enumerate") [.ref tp]) Q E s:=by
  obtain ⟨⟨c,dct,dt,sl⟩,ht,hc,k,hd⟩:=hT
  cases (show c=.type "tuple" from hc)
  cases (show dt=.seq its k from hd)
  refine callType_new F.called_enumerate (by decide) (F.typeCall_enumerate_1 _) (F.newCall_enumerate_1 _) (fun obj=>F.args_object_init_2 obj _) F.entry_enumerate_new (ZsA tp its k dct sl) ⟨ht,?_⟩
  have hz:(s.heap.push { cls:=.type "tuple_iterator",data:=.fields #[.ref tp,.int 0 0] }).objs.size=s.heap.objs.size+1:=Heap.size_push ..
  show _∧_
  rw [hz]
  have he:IsEnum ((s.heap.push { cls:=.type "tuple_iterator",data:=.fields #[.ref tp,.int 0 0] }).push { cls:=.type "enumerate",data:=.fields #[.none,.bool false,.ref s.heap.objs.size,rawInt 0,.none,.none] }) (s.heap.objs.size+1) s.heap.objs.size 0 .none:=by
    have q:=Heap.get?_push_size (s.heap.push { cls:=.type "tuple_iterator",data:=.fields #[.ref tp,.int 0 0] }) (o:={ cls:=.type "enumerate",data:=.fields #[.none,.bool false,.ref s.heap.objs.size,rawInt 0,.none,.none] }) rfl
    rw [hz] at q
    exact q
  exact ⟨⟨_,he,rfl⟩,h _ he ⟨_,Heap.get?_push_of_some _ (Heap.get?_push_size _ rfl),rfl,rfl⟩ (by rw [Heap.size_push,hz]) fun b o x=>Heap.get?_push_of_some _ (Heap.get?_push_of_some _ x)⟩
theorem Zmo {it tp:Addr} {i:Nat} {its} {x:Value} {Q:Value→Shared→Prop} (hit:s.heap.IsTupleIter it tp i) (ht:s.heap.IsTuple tp its) (hx:its[i]?=some x)
    (hQ:∀h',h'.IsTupleIter it tp (i+1)→Heap.SameBut it s.heap h'→Q x { s with heap:=h' }):wpAny (model prog w) A (Builtin.SmallTypes.nextOf (.ref it)) Q E s:=by
  obtain ⟨o,ho,hc,hd⟩:=id hit
  obtain ⟨ol,hol,_,nl,hdl⟩:=ht
  unfold Builtin.SmallTypes.nextOf
  refine wpAny_bind (wpAny_callSpecial?_slot (name:=Str.ofString "__next__") hit.typeIs F.slot_tuple_iterator_next (wpAny_call_entry F.slot_tuple_iterator_next hit.typeIs F.entry_tuple_iterator_next ?_ (F.args_tuple_iterator_next_1 _)))
  show wpAny _ _ (field (.ref it) 0 >>= _) _ _ s
  refine wpAny_bind (wpAny_field ho hd (x:=.ref tp) rfl ?_)
  rw [if_neg (show ¬((Value.ref tp == Value.none)=true) from Bool.false_ne_true)]
  refine wpAny_bind (wpAny_field ho hd (x:=.int i 0) rfl (wpAny_bind (wpAny_seqItems hol hdl ?_)))
  simp only [Int.toNat_natCast,hx]
  refine wpAny_bind (wpAny_setField ho hd (by simp) (wpAny_pure ⟨x,rfl,wpAny_pure (hQ _ ⟨_,Heap.get?_update_self _ ho (Obj.isFreed_of_fields (Obj.data_mapFields hd _)),(Obj.cls_mapFields ..).trans hc,?_⟩ (Heap.SameBut.update ..))⟩))
  rw [Obj.data_mapFields hd]
  simp [rawInt]
theorem ZnQ {it tp:Addr} {i:Nat} {its} {Q:Value→Shared→Prop} (hh:A.handled=none) (hit:s.heap.IsTupleIter it tp i) (ht:s.heap.IsTuple tp its) (hx:its[i]?=none)
    (hE:∀h' e,Heap.ExtBut it s.heap h'→(∃o,h'.get? e=some o∧o.cls=.type "StopIteration")→E (.ref e) { s with heap:=h' }):wpAny (model prog w) A (Builtin.SmallTypes.nextOf (.ref it)) Q E s:=by
  obtain ⟨o,ho,hc,hd⟩:=id hit
  obtain ⟨ol,hol,_,nl,hdl⟩:=ht
  unfold Builtin.SmallTypes.nextOf
  refine wpAny_bind (wpAny_callSpecial?_slot (name:=Str.ofString "__next__") hit.typeIs F.slot_tuple_iterator_next (wpAny_call_entry F.slot_tuple_iterator_next hit.typeIs F.entry_tuple_iterator_next ?_ (F.args_tuple_iterator_next_1 _)))
  show wpAny _ _ (field (.ref it) 0 >>= _) _ _ s
  refine wpAny_bind (wpAny_field ho hd (x:=.ref tp) rfl ?_)
  rw [if_neg (show ¬((Value.ref tp == Value.none)=true) from Bool.false_ne_true)]
  refine wpAny_bind (wpAny_field ho hd (x:=.int i 0) rfl (wpAny_bind (wpAny_seqItems hol hdl ?_)))
  simp only [Int.toNat_natCast,hx]
  refine wpAny_bind (wpAny_rule (wpAny_bind (wpAny_setField ho hd (by simp) ?_)))
  refine wpAny_bind (m:=newExc (.type "StopIteration") []) ?_
  simp only [newExc,newTuple]
  refine wpAny_bind (wpAny_newObj_type (wpAny_bind (m:=firstArgMember _ _) (wpAny_of_eq (a:=Value.none) (by first | rfl | (simp only [firstArgMember]; rfl)) (wpAny_newObj_type ?_ (by size_fits)))) (by size_fits))
  simp only [raiseNew]
  refine wpAny_bind (wpAny_handled ?_)
  rw [show A.in1.handled=none from hh]
  exact wpAny_bind (wpAny_pure (wpAny_throw (hE _ _ (((Heap.SameBut.update ..).extBut.push _).push _) ⟨_,Heap.get?_push_size _ rfl,rfl⟩)))
theorem ZqW {e it tp:Addr} {i:Nat} {its:Array Value} {x old:Value} {Q:Value→Shared→Prop} (he:IsEnum s.heap e it i old) (hit:s.heap.IsTupleIter it tp i) (ht:s.heap.IsTuple tp its) (hx:its[i]?=some x) (hne:e≠it)
    (hQ:∀h',IsEnumOut h' e it ((i:Int)+1) x s.heap.objs.size→h'.IsTupleIter it tp (i+1)→h'.get? s.heap.objs.size=some { cls:=.type "tuple",data:=.seq #[.int i s.toks,x] }→h'.objs.size=s.heap.objs.size+1→(∀b o,b≠e→b≠it→s.heap.get? b=some o→h'.get? b=some o)→Q (.ref s.heap.objs.size) { s with heap:=h',toks:=s.toks+1 }) :
    wpAny (model prog w) A (Builtin.«enumerate.__next__» ⟨[.ref e],[]⟩) (fun fin s'=>∃v,fin=.done (.ret v)∧Q v s') E s:=by
  obtain ⟨hp,g,d,tk,os⟩:=s
  show wpAny _ _ (field (.ref e) 2 >>= _) _ _ _
  refine wpAny_bind (wpAny_field he rfl (x:=.ref it) rfl (wpAny_bind (Zmo hit ht hx fun h1 hit1 hs1=>?_)))
  replace hs1:Heap.SameBut it hp h1:=hs1
  have he1:IsEnum h1 e it i old:=(hs1.2 e hne).trans he
  refine wpAny_bind (wpAny_field (s:=⟨h1,g,d,tk,os⟩) he1 rfl (x:=rawInt i) rfl ?_)
  refine wpAny_bind (wpAny_field (s:=⟨h1,g,d,tk,os⟩) he1 rfl (x:=.none) rfl ?_)
  show wpAny _ _ (mkInt i >>= _) _ _ ⟨h1,g,d,tk,os⟩
  refine wpAny_bind (wpAny_mkInt ?_)
  show wpAny _ _ (setField (.ref e) 3 (rawInt ((i:Int)+1)) >>= _) _ _ ⟨h1,g,d,tk+1,os⟩
  refine wpAny_bind (wpAny_setField_rec he1 (by simp) fun h2 he2 hs2=>?_)
  replace hs2:Heap.SameBut e h1 h2:=hs2
  replace he2:IsEnum h2 e it ((i:Int)+1) old:=he2
  show wpAny _ _ (setField (.ref e) 4 .none >>= _) _ _ ⟨h2,g,d,tk+1,os⟩
  refine wpAny_bind (wpAny_setField_rec he2 (by simp) fun h3 he3 hs3=>?_)
  replace hs3:Heap.SameBut e h2 h3:=hs3
  replace he3:IsEnum h3 e it ((i:Int)+1) old:=he3
  show wpAny _ _ (newTuple [.int i tk,x] >>= _) _ _ ⟨h3,g,d,tk+1,os⟩
  refine wpAny_bind (wpAny_newTuple ?_)
  have he4:IsEnum (h3.push { cls:=.type "tuple",data:=.seq #[.int i tk,x] }) e it ((i:Int)+1) old:=Heap.get?_push_of_some _ he3
  obtain ⟨h4,hh4⟩:∃z,z=h3.push { cls:=.type "tuple",data:=.seq #[.int i tk,x] }:=⟨_,rfl⟩
  rw [←hh4] at he4
  have hsz:h3.objs.size=hp.objs.size:=by rw [hs3.1,hs2.1,hs1.1]
  have hel:hp.objs.size≠e:=Nat.ne_of_gt (Heap.lt_size he)
  have ht4:h4.get? hp.objs.size=some { cls:=.type "tuple",data:=.seq #[.int i tk,x] }:=by rw [hh4,←hsz]; exact Heap.get?_push_size _ rfl
  have hz4:h4.objs.size=hp.objs.size+1:=by rw [hh4,Heap.size_push,hsz]
  have hk4:∀b o,b≠e→b≠it→hp.get? b=some o→h4.get? b=some o:=fun b o q1 q2 q3=>by
    rw [hh4]
    exact Heap.get?_push_of_some _ (hs3.extBut b o q1 (hs2.extBut b o q1 (hs1.extBut b o q2 q3)))
  have hit4:h4.IsTupleIter it tp (i+1):=by
    obtain ⟨o,ho,r⟩:=(hit1.extBut hs2.extBut (Ne.symm hne)).extBut hs3.extBut (Ne.symm hne)
    exact ⟨o,by rw [hh4]; exact Heap.get?_push_of_some _ ho,r⟩
  show wpAny _ _ (Builtin.SmallTypes.ownedTupleIsFree (.ref e) >>= _) _ _ ⟨h3.push { cls:=.type "tuple",data:=.seq #[.int i tk,x] },g,d,tk+1,os⟩
  rw [←hh4,hsz]
  refine wpAny_bind ?_
  unfold Builtin.SmallTypes.ownedTupleIsFree
  refine wpAny_bind (wpAny_field he4 rfl (x:=.none) rfl (wpAny_pure ?_))
  simp only [if_true]
  refine wpAny_bind (wpAny_rule (wpAny_bind (wpAny_field he4 rfl (x:=old) rfl (wpAny_bind (wpAny_setField_rec he4 (by simp) fun h5 he5 hs5=>?_)))))
  replace hs5:Heap.SameBut e h4 h5:=hs5
  replace he5:IsEnum h5 e it ((i:Int)+1) x:=he5
  refine wpAny_bind (m:=Builtin.SmallTypes.ownedTupleHandOut (.ref e) (.ref hp.objs.size)) ?_
  unfold Builtin.SmallTypes.ownedTupleHandOut
  refine wpAny_bind (wpAny_setField_rec he5 (by simp) fun h6 he6 hs6=>?_)
  replace hs6:Heap.SameBut e h5 h6:=hs6
  replace he6:IsEnumOut h6 e it ((i:Int)+1) x hp.objs.size:=he6
  refine wpAny_setField_rec he6 (by simp) fun h7 he7 hs7=>?_
  replace hs7:Heap.SameBut e h6 h7:=hs7
  replace he7:IsEnumOut h7 e it ((i:Int)+1) x hp.objs.size:=he7
  have up:∀b o,b≠e→h4.get? b=some o→h7.get? b=some o:=fun b o q1 q2=>hs7.extBut b o q1 (hs6.extBut b o q1 (hs5.extBut b o q1 q2))
  refine wpAny_bind (wpAny_letGo (wpAny_pure ⟨_,rfl,hQ h7 he7 ?_ (up _ _ hel ht4) (by rw [hs7.1,hs6.1,hs5.1,hz4]) fun b o q1 q2 q3=>up b o q1 (hk4 b o q1 q2 q3)⟩))
  obtain ⟨o,ho,r⟩:=hit4
  exact ⟨o,up _ _ (Ne.symm hne) ho,r⟩
theorem ZqX {e it tp:Addr} {i:Nat} {its:Array Value} {x old:Value} {Q:Option Value→Shared→Prop} (he:IsEnum s.heap e it i old) (hit:s.heap.IsTupleIter it tp i) (ht:s.heap.IsTuple tp its) (hx:its[i]?=some x) (hne:e≠it)
    (hQ:∀h',IsEnumOut h' e it ((i:Int)+1) x s.heap.objs.size→h'.IsTupleIter it tp (i+1)→h'.get? s.heap.objs.size=some { cls:=.type "tuple",data:=.seq #[.int i s.toks,x] }→h'.objs.size=s.heap.objs.size+1→(∀b o,b≠e→b≠it→s.heap.get? b=some o→h'.get? b=some o)→Q (some (.ref s.heap.objs.size)) { s with heap:=h',toks:=s.toks+1 }) :
    wpAny (model prog w) A (pyNext (.ref e)) Q E s:=by
  have hT:s.TypeIs (.ref e) "enumerate":=⟨_,he,rfl⟩
  unfold pyNext
  exact wpAny_bind (wpAny_attempt (wpAny_callSpecial?_slot (name:=Str.ofString "__next__") hT F.slot_enumerate_next (wpAny_call_entry F.slot_enumerate_next hT F.entry_enumerate_next (ZqW he hit ht hx hne fun h' a b c d k=>wpAny_pure (hQ h' a b c d k)) (F.args_enumerate_next_1 _))))
theorem ZsB {e it tp:Addr} {i:Nat} {its:Array Value} {old:Value} {Q:Option Value→Shared→Prop} (hh:A.handled=none) (he:IsEnum s.heap e it i old) (hit:s.heap.IsTupleIter it tp i) (ht:s.heap.IsTuple tp its) (hx:its[i]?=none)
    (hQ:∀h',Heap.ExtBut it s.heap h'→Q none { s with heap:=h' }):wpAny (model prog w) A (pyNext (.ref e)) Q E s:=by
  have hT:s.TypeIs (.ref e) "enumerate":=⟨_,he,rfl⟩
  unfold pyNext
  refine wpAny_bind (wpAny_attempt (wpAny_callSpecial?_slot (name:=Str.ofString "__next__") hT F.slot_enumerate_next (wpAny_call_entry F.slot_enumerate_next hT F.entry_enumerate_next ?_ (F.args_enumerate_next_1 _))))
  show wpAny _ _ (field (.ref e) 2 >>= _) _ _ _
  refine wpAny_bind (wpAny_field he rfl (x:=.ref it) rfl (wpAny_bind (ZnQ hh hit ht hx fun h' x he' hx'=>?_)))
  obtain ⟨o,ho,hc⟩:=hx'
  exact wpAny_bind (wpAny_isInstance (T:="StopIteration") (b:=true) ⟨o,ho,hc⟩ isSubtype_stop (wpAny_pure (hQ _ he')))
def Ite (K:PySem.W.Frag) (a:Addr):It:=
  ⟨fun i H=>∃xs x,SqT K H a xs∧xs[i]?=some x,fun i H x H'=>∃p v,x=.ref p∧H p=none∧H'=upd H p (.tup [.int i,v])∧∀xs,SqT K H a xs→xs[i]?=some v,fun i H=>∃xs,SqT K H a xs∧xs.length≤i⟩
theorem ZpF {P:Program} {w:World} {K:PySem.W.Frag} {es:List Expr} {x1} {pos:Pos} (a e it:Addr) (hne:e≠it) (ha:a≠e) (hb:a≠it):Zoa P w K (.Tuple es x1 pos) (Ite K a) [e,it] e (fun i h=>(∃old,IsEnum h e it i old)∧h.IsTupleIter it a i) where
  mem:=by simp
  obj:=fun i h st b hb=>by
    obtain ⟨⟨old,st1⟩,o,e1,c,d⟩:=st
    have q:b=e∨b=it:=by simpa using hb
    rcases q with rfl | rfl
    · exact ⟨_,st1,fun v z=>by
        have z':Data.fields _=Data.cell v:=z
        cases z'⟩
    · exact ⟨o,e1,fun v z=>by rw [d] at z; cases z⟩
  keep:=fun i h h' st k=>by
    obtain ⟨⟨old,st1⟩,o,e1,r⟩:=st
    exact ⟨⟨old,k e (by simp) _ st1⟩,o,k it (by simp) o e1,r⟩
  item:=by
    intro X hP hw hK hc i pins s σ H E I hf st hg
    subst hP hw hK
    obtain ⟨⟨old,st1⟩,st2⟩:=st
    obtain ⟨xs,x,hq,hx⟩:=hg
    obtain ⟨its,rv,p,hz⟩:=I.tuple hq
    obtain ⟨u,hu,ru⟩:=rv.get hx
    obtain ⟨f0,f1,f2,f3,f4,f5⟩:=hf e (by simp)
    obtain ⟨g0,g1,g2,g3,g4,g5⟩:=hf it (by simp)
    refine ZqX st1 st2 (show s.heap.IsTuple a its.toArray from p) (x:=u) (by simpa using hu) hne fun h' out it' tp' sz' kk=>?_
    have hes:e<s.heap.objs.size:=Heap.lt_size st1
    have his:it<s.heap.objs.size:=by obtain ⟨o,q,_⟩:=st2; exact Heap.lt_size q
    refine ⟨_,rfl,wpAny_letOwnedTupleGo_enum out fun h2 e2 s2=>?_⟩
    replace s2:Heap.SameBut e h' h2:=s2
    have tp2:h2.get? s.heap.objs.size=some { cls:=.type "tuple",data:=.seq #[.int i s.toks,u] }:=s2.extBut _ _ (Nat.ne_of_gt hes) tp'
    have k2:∀b o,b≠e→b≠it→s.heap.get? b=some o→h2.get? b=some o:=fun b o q1 q2 q3=>s2.extBut b o q1 (kk b o q1 q2 q3)
    have hn:H s.heap.objs.size=none:=I.hok.fresh (Nat.le_refl _)
    have nn:∀{b:Addr} {o:HO},H b=some o→b≠s.heap.objs.size:=fun q=>zl q hn
    have nch:∀{b:Addr},b∉[e,it]→b≠e∧b≠it:=fun hb=>⟨fun z=>hb (by simp [z]),fun z=>hb (by simp [z])⟩
    have new:ObjOk X.prog X.w (upd H s.heap.objs.size (.tup [.int i,x])) h2 s.heap.objs.size (.tup [.int i,x]):=⟨by show 2≤sizeLine; decide,[.int i s.toks,u],.cons ⟨_,rfl⟩ (.cons ru .nil),⟨_,tp2,rfl,_,rfl⟩⟩
    have I1:Inv X pins σ (upd H s.heap.objs.size (.tup [.int i,x])) { s with heap:=h2,toks:=s.toks+1 }:=by
      refine I.step (g':=s.gens) (d':=s.drawn) (ch:=[e,it]) (fun b hb=>?_) (fun b o _ _ hc e' _=>k2 b o (nch hc).1 (nch hc).2 e') (fun b o _ _ hc e' _=>⟨o.slots,k2 b o (nch hc).1 (nch hc).2 e'⟩) (fun b o _ e' n=>by rw [ZT (Nat.ne_of_lt (Heap.lt_size e'))]; exact n)
        (fun b o hc e'=>⟨o,k2 b o (nch hc).1 (nch hc).2 e'⟩) (fun b _ q=>by rw [ZT (nn q)]; exact q) (fun b _ _ q=>by rw [ZT (nn q)]; exact q) (fun b ps q=>⟨#[],by rw [ZT (nn q),q]; simp⟩) (fun m hm=>?_) (fun b v q=>?_) I.bare
      · have z:b=e∨b=it:=by simpa using hb
        rcases z with rfl | rfl
        · exact ⟨f3,f1,f4,f5⟩
        · exact ⟨g3,g1,g4,g5⟩
      · obtain ⟨o,es,ep,ho,r⟩:=hm
        exact ⟨o,es,ep,k2 _ o (Ne.symm f1) (Ne.symm g1) ho,r⟩
      · by_cases hb:b=s.heap.objs.size
        · subst hb; rw [zJ] at q; cases q; exact new
        · rw [ZT hb] at q
          refine (I.hok b v q).stay (fun c o hc z=>k2 c o ?_ ?_ z) (fun c z=>by rw [ZT (nn z)]; exact z) fun c _ z=>by rw [ZT (nn z)]; exact z
          · rcases hc with z | z
            · rw [z]; exact fun y=>by rw [y,f0] at q; cases q
            · exact fun y=>by rw [y,f0] at z; cases z
          · rcases hc with z | z
            · rw [z]; exact fun y=>by rw [y,g0] at q; cases q
            · exact fun y=>by rw [y,g0] at z; cases z
    refine ⟨.ref s.heap.objs.size,_,I1,rfl,⟨_,x,rfl,hn,rfl,fun ys hy=>by rw [I.tuple_inj hy hq]; exact hx⟩,⟨⟨_,by simpa using e2⟩,?_⟩,fun b hb=>?_⟩
    · obtain ⟨o,q,r⟩:=it'
      exact ⟨o,s2.extBut _ _ (Ne.symm hne) q,r⟩
    · have z:b=e∨b=it:=by simpa using hb
      rcases z with rfl | rfl
      · rw [ZT (Nat.ne_of_lt hes)]; exact f0
      · rw [ZT (Nat.ne_of_lt his)]; exact g0
  done:=by
    intro X hP hw hK hc i pins s σ H E I hf st hg
    subst hP hw hK
    obtain ⟨⟨old,st1⟩,st2⟩:=st
    obtain ⟨xs,hq,hx⟩:=hg
    obtain ⟨its,rv,p,hz⟩:=I.tuple hq
    obtain ⟨f0,f1,f2,f3,f4,f5⟩:=hf it (by simp)
    have hl:=rv.length
    exact ZsB (I.ok.hd hc) st1 st2 (show s.heap.IsTuple a its.toArray from p) (by simp; omega) fun h' eb=>⟨rfl,I.turned (t':=s.toks) (fun b o hb e=>eb b o hb e) f0 f1 f3 f4 f5⟩
  self:=fun _ _ _ _ _ st h=>by
    obtain ⟨⟨old,st1⟩,_⟩:=st
    exact wpAny_pyIter_enum st1 h
end
end L2
namespace L2
open PySem PySem.Spec PyProof.Rows
section
variable {X:Cx}
def ZzI (K:PySem.W.Frag) (ta:TA):TI:=fun σ H R=>ta σ H fun vs H1=>∃a,vs=[.ref a]∧(∃xs,SqT K H1 a xs)∧R (Ite K a) H1
theorem Zt9 {l:Expr} {ta:TA} {es:List Expr} {x1} {p pos tp:Pos} (hg:Gl X "enumerate") (hm:X.mg "enumerate"=none) (ha:PA X [l] ta) (hs:starEach [l] X.env=[(false,eval l X.env)]:=by rfl):PI X (.Tuple es x1 tp) (.Call (.Name "enumerate" p) [l] [] pos) (ZzI X.K ta):=by
  intro pins s σ H R I h
  refine Call_ (ZhV I hg hm boot_enumerate (PyProof.Rows.callWith_type1 (thn (ha pos pins s σ H _ I h) fun us s1 ⟨vs,H1,I1,r1,q1⟩=>?_) hs rfl))
  obtain ⟨a,e,⟨xs,hq⟩,q⟩:=q1
  subst e
  obtain ⟨u,rfl,ru⟩:=ZfM r1
  cases ru
  obtain ⟨its,rv,t1,hz⟩:=I1.tuple hq
  have T1:s1.heap.IsTuple a its.toArray:=t1
  have al:a<s1.heap.objs.size:=by obtain ⟨o,z,_⟩:=T1; exact Heap.lt_size z
  refine Zrb T1 fun h' e' i' z' k'=>wpAny_pyIter_enum (s:={ s1 with heap:=h' }) e' ?_
  have I2:Inv X pins σ H1 { s1 with heap:=h' }:=I1.kept (t':=s1.toks) k'
  refine ⟨s1.heap.objs.size+1,[s1.heap.objs.size+1,s1.heap.objs.size],_,_,H1,rfl,I2,ZpF a _ _ (Nat.succ_ne_self _) (Nat.ne_of_lt (Nat.lt_succ_of_lt al)) (Nat.ne_of_lt al),⟨⟨_,e'⟩,i'⟩,fun b hb=>?_,q⟩
  have z:b=s1.heap.objs.size+1∨b=s1.heap.objs.size:=by simpa using hb
  have hb':s1.heap.objs.size≤b:=z.elim (fun y=>by rw [y]; exact Nat.le_succ _) fun y=>by rw [y]; exact Nat.le_refl _
  exact I1.fpOk hb' (I1.hok.fresh hb')
end
end L2
namespace L2.MM
open PySem PySem.Spec PyProof.Rows
section
variable {X:Cx}
def forE (i j:Nat) (body:SM):Nat→List D→SM
  | _,[]=>fun ρ θ=>.ok (.nx,ρ) θ
  | k,x::r=>fun ρ θ=>(body ((ρ.set i (.val (.int (k:Nat)))).set j (.val x)) θ).bind (Zfu (forE i j body (k+1) r))
def Zqz (fa:AM) (i j:Nat) (body:SM):SM:=fun ρ θ=>(fa ρ θ).bind fun ds θ=>match ds with
  | [.tup xs]=>forE i j body 0 xs ρ θ
  | _=>.bad
theorem Zsk {l:Expr} {body:List Stmt} {fa:AM} {fb:SM} {x y:Str} {x1} {p p1 p2 tp cp pos:Pos} (i j:Nat) (hN:X.N.Nodup) (hp:PassesOwn (model X.prog X.w) X.A X.env X.xe) (hm:X.mg "enumerate"=none) (ha:MA X [l] fa) (hb:MSs X body fb) (hc:X.calm=true:=by rfl)
    (hg:Gl X "enumerate":=by rfl) (hs:starEach [l] X.env=[(false,eval l X.env)]:=by rfl)
    (hi:X.N[i]?=some x:=by rfl) (hx:Loc X.env.scope x:=by first | exact Or.inl rfl | exact Or.inr rfl) (hf:X.fn x=true∨X.env.scope.names.lookup x=some .local:=by first | exact .inl rfl | exact .inr rfl)
    (hj:X.N[j]?=some y:=by rfl) (hy:Loc X.env.scope y:=by first | exact Or.inl rfl | exact Or.inr rfl) (hf':X.fn y=true∨X.env.scope.names.lookup y=some .local:=by first | exact .inl rfl | exact .inr rfl)
    (hse:∀z,foldedSetIterable (.Call (.Name "enumerate" p) [l] [] cp) X.env z=pure z:=by intro _; rfl)
    (ha1:(assignEach [.Name x p1,.Name y p2] X.env).map (·.2)=assign (.Name x p1) X.env::(assignEach [.Name y p2] X.env).map (·.2):=by rfl) (ha2:(assignEach [.Name y p2] X.env).map (·.2)=assign (.Name y p2) X.env::(assignEach [] X.env).map (·.2):=by rfl)
    (hn:(assignEach [.Name x p1,.Name y p2] X.env).length=2:=by rfl) (hst:(assignEach [.Name x p1,.Name y p2] X.env).findIdx? (·.1)=none:=by rfl) :
    MS X (.For (.Tuple [.Name x p1,.Name y p2] x1 tp) (.Call (.Name "enumerate" p) [l] [] cp) body [] pos) (Zqz fa i j fb):=
  PS.imp (ZpZ hp hc (Zt9 hg hm ha hs) (Zua hc (Zlw (ZfU hN hi hx hf) (Zlw (ZfU hN hj hy hf') Zr4 ha2) ha1) hn hst) hb hse) fun Dn σ H h=>by
  obtain ⟨B,θ,ρ,F,w⟩:=h
  refine Zb2 (ZpP F w) ?_
  rintro vs H1 ⟨B1,θ1,ds,E1,F1,rd,w1⟩
  split at w1
  · rename_i xs
    obtain ⟨v,rfl,rv⟩:=rd.one
    obtain ⟨a,us,rfl,g1,okA,ru⟩:=rv
    refine ⟨a,rfl,⟨us,SqT.of g1⟩,fun k m σ H=>∃B θ ρ,Frm X.cl B θ ρ σ H∧RepV B H (.tup xs) (.ref a)∧m=xs.length-k∧k≤xs.length∧wpS X σ B H (forE i j fb k (xs.drop k) ρ θ) Dn,⟨xs.length,B1,θ1,ρ,F1,⟨a,us,rfl,g1,okA,ru⟩,rfl,Nat.zero_le _,w1⟩,?_⟩
    rintro k m σ2 H2 ⟨B2,θ2,ρ2,F2,rv2,rfl,hk,w2⟩
    obtain ⟨a',us2,e2,g2,ok2,ru2⟩:=id rv2
    cases e2
    by_cases hlt:k<xs.length
    · rw [List.drop_eq_getElem_cons hlt] at w2
      unfold forE at w2
      obtain ⟨v,q1,q2⟩:=ru2.get (List.getElem?_eq_getElem hlt)
      refine .inr ⟨⟨us2,v,SqT.of g2,q1⟩,fun σ' H'=>∃B' θ' ρ',ExtS B2 B' H2 H'∧Frm X.cl B' θ' ρ' σ' H'∧wpS X σ' B' H' (forE i j fb (k+1) (xs.drop (k+1)) ρ' θ') Dn,?_,fun z H' hz=>?_⟩
      · rintro σ' H' ⟨B',θ',ρ',E',F',w'⟩
        exact ⟨xs.length-(k+1),by omega,B',θ',ρ',F',rv2.ext E',rfl,hlt,w'⟩
      · obtain ⟨t,v',rfl,ht,rfl,hv⟩:=hz
        have:=hv us2 (SqT.of g2)
        rw [q1] at this
        cases this
        have E3:=Zc3 F2.good ht (.tup [.int k,v])
        have F3:=F2.ext E3 (ZeR F2.good ht (.tup [.int k,v]))
        refine ⟨t,[.int k,v],rfl,SqT.of zJ,rfl,.int k,[v],rfl,v,[],rfl,rfl,?_⟩
        have F4:=(F3.set i (d:=.int (k:Nat)) (v:=.int k) rfl).set j (q2.ext E3.toExtS)
        refine ⟨B2,θ2,_,F4,?_⟩
        exact wpS.trans (wpS.loop w2) E3.toExtS
    · have e:k=xs.length:=by omega
      subst e
      rw [List.drop_length] at w2
      unfold forE at w2
      exact .inl ⟨⟨us2,SqT.of g2,by rw [ru2.len]; exact Nat.le_refl _⟩,Zd1 F2 w2⟩
  · exact w1.elim
end
end L2.MM
namespace L2
open PySem PySem.Spec PyProof.Rows
section
variable {X:Cx} {pins:List (Addr×Obj)} {σ:St} {H:Hp} {s:Shared} {a:Addr} {kvs:List (Key×V)} {k:Key} {z:V} {u r:Value} {A:Around} {E:Value→Shared→Prop}
theorem ZuH {Q:Value→Shared→Prop} (I:Inv X pins σ H s) (e:H a=some (.dK kvs)) (ry:RelV (kV k) u) (rz:RelV z r) (hl:kvs.length<sizeLine)
    (h1:∀v w' s',valV kvs k=some v→Inv X pins σ H s'→RelV v w'→Q w' s') (h2:valV kvs k=none→∀s',Inv X pins σ (upd H a (.dK (ZhG kvs k z))) s'→Q r s'):wpAny (model X.prog X.w) A (call (.builtin "dict.setdefault") [.ref a,u,r]) Q E s:=by
  obtain ⟨z1,hd,vs,rel,dd⟩:=Zq3 I.hok e
  have hv:vs.length≤sizeLine:=by rw [←rel.length]; exact z1
  refine call_meetsIn PySem.F.slot_dict_setdefault dd.typeIs PySem.F.entry_dict_setdefault (PySem.F.args_dict_setdefault_3 _ _ _) (kt_meets_setdefault (ZaN X.prog X.w) a (ZlO ry) hd r) ⟨vs,dd,hv,fun v q=>?_,fun q h' dd' hs=>?_⟩
  · cases l:valV kvs k with
    | none=>
      have:valueAt vs k=none:=RelO.none_of (by rw [←l]; exact rel.val k)
      rw [this] at q
      cases q
    | some v0=>
      obtain ⟨w1,hw,r1⟩:=RelO.some_of (v:=v0) (o:=valueAt vs k) (by rw [←l]; exact rel.val k)
      have z2:w1=v:=by rw [hw] at q; injection q
      subst z2
      exact h1 v0 w1 _ l (I.tok _) r1
  · have l:valV kvs k=none:=by
      cases l:valV kvs k with
      | none=>rfl
      | some v0=>
        obtain ⟨w',hw,rw'⟩:=RelO.some_of (v:=v0) (o:=valueAt vs k) (by rw [←l]; exact rel.val k)
        rw [hw] at q
        cases q
    have hl2:(ZhG kvs k z).length≤sizeLine:=by have:=ZlL kvs k z; omega
    have he:∃q,h'.get? a=some q:=let ⟨q,_,_,hq,_⟩:=dd'; ⟨q,hq⟩
    exact h2 l _ (ZjH I (by rw [e]; exact True.intro) hs he (ZmE hl2 hd (rel.put k rz) dd'))
end
def ZtO (td ty tx:TE):TE:=fun σ H Q=>td σ H fun x H1=>∃a,x=.ref a∧IsD H1 a∧ty σ H1 fun y H2=>tx σ H2 fun z H3=>∃kvs k,H3 a=some (.dK kvs)∧y=kV k∧kvs.length<sizeLine∧
  (∀v,valV kvs k=some v→Q v H3)∧(valV kvs k=none→Q z (upd H3 a (.dK (ZhG kvs k z))))
theorem Zp7 {X:Cx} {o e f:Expr} {apos cpos:Pos} {td ty tx:TE} (ho:PE X o td) (he:PE X e ty) (hf:PE X f tx) (m:M2 X o "setdefault" apos e f cpos):PE X (.Call (.Attribute o "setdefault" apos) [e,f] [] cpos) (ZtO td ty tx):=by
  intro pins s σ H Q I h
  refine wpAny_Call_method m.base m.few m.line PySem.F.plainAttrs_dict PySem.F.slot_dict_setdefault PySem.F.type_dict_setdefault (thn (ho pins s σ H _ I h) fun u s1 ⟨x,H1,I1,rx,a,ex,d,q1⟩=>?_)
  subst ex
  cases (show u=Value.ref a from rx)
  obtain ⟨t1,t2,_⟩:=ZqF I1 d
  refine ⟨t1,t2,?_⟩
  rw [m.trees]
  refine Calls.callWith_builtin rfl (Calls.evalArgs_plain (Calls.spliced_cons (thn (he pins s1 σ H1 _ I1 q1) fun iv s2 ⟨y,H2,I2,ry,q2⟩=>Calls.spliced_cons (thn (hf pins s2 σ H2 _ I2 q2) fun fv s3 ⟨z,H3,I3,rz,kvs,k,ea,ey,hl,q3,q4⟩=>Calls.spliced_nil ?_))))
  subst ey
  exact ZuH I3 ea ry rz hl (fun v w' s4 l I4 rw'=>⟨v,H3,I4,rw',q3 v l⟩) fun l s4 I4=>⟨z,_,I4,rz,q4 l⟩
end L2
namespace L2.MM
open PySem PySem.Spec PyProof.Rows
def valD (kvs:List (Key×D)) (k:Key):Option D:=(kvs.find? fun kv=>decide (kv.1=k)).map (·.2)
def putD (kvs:List (Key×D)) (k:Key) (v:D):List (Key×D):=
  if (kvs.any fun kv=>decide (kv.1=k))=true then kvs.map (fun kv=>if kv.1=k then (kv.1,v) else kv) else kvs++[(k,v)]
def dropD (kvs:List (Key×D)) (k:Key):List (Key×D):=kvs.filter fun kv=>decide (kv.1≠k)
def ZlN:D→Option Key
  | .int n=>some (.inl n)
  | .str x=>some (.inr x)
  | _=>none
def ZgH (θ:Sto):D→Option (Nat×List (Key×D))
  | .ref l=>match θ[l]? with
    | some (.dK kvs)=>some (l,kvs)
    | _=>none
  | _=>none
section
variable {B:Bx} {H:Hp}
theorem RepKV.valD (k:Key):∀{ks:List (Key×D)} {vs:List (Key×V)},RepKV B H ks vs→(L2.MM.valD ks k=Option.none∧valV vs k=Option.none)∨∃d v,L2.MM.valD ks k=some d∧valV vs k=some v∧RepV B H d v
  | _,_,.nil=>.inl ⟨rfl,rfl⟩
  | (k1,d1)::ks,(k2,v2)::vs,.cons ⟨h1,h2⟩ t=>by
    cases (show k1=k2 from h1)
    by_cases e:k1=k
    · refine .inr ⟨d1,v2,?_,?_,h2⟩<;>simp [L2.MM.valD,valV,List.find?_cons,e]
    · have:=RepKV.valD k t
      simpa [L2.MM.valD,valV,List.find?_cons,e] using this
theorem RepKV.any (k:Key):∀{ks:List (Key×D)} {vs:List (Key×V)},RepKV B H ks vs→(ks.any fun kv=>decide (kv.1=k))=(vs.any fun kv=>decide (kv.1=k))
  | _,_,.nil=>rfl
  | (k1,d1)::ks,(k2,v2)::vs,.cons ⟨h1,h2⟩ t=>by
    cases (show k1=k2 from h1)
    rw [List.any_cons,List.any_cons,RepKV.any k t]
theorem RepKV.snoc {k:Key} {d:D} {v:V} (r:RepV B H d v):∀{ks:List (Key×D)} {vs:List (Key×V)},RepKV B H ks vs→RepKV B H (ks++[(k,d)]) (vs++[(k,v)])
  | _,_,.nil=>.cons ⟨rfl,r⟩ .nil
  | _,_,.cons h t=>.cons h (RepKV.snoc r t)
theorem RepKV.over {k:Key} {d:D} {v:V} (r:RepV B H d v):∀{ks:List (Key×D)} {vs:List (Key×V)},RepKV B H ks vs→RepKV B H (ks.map fun kv=>if kv.1=k then (kv.1,d) else kv) (vs.map fun kv=>if kv.1=k then (kv.1,v) else kv)
  | _,_,.nil=>.nil
  | (k1,d1)::ks,(k2,v2)::vs,.cons ⟨h1,h2⟩ t=>by
    cases (show k1=k2 from h1)
    rw [List.map_cons,List.map_cons]
    refine .cons ?_ (RepKV.over r t)
    by_cases e:k1=k
    · rw [if_pos (show (k1,d1).1=k from e),if_pos (show (k1,v2).1=k from e)]; exact ⟨rfl,r⟩
    · rw [if_neg (show ¬(k1,d1).1=k from e),if_neg (show ¬(k1,v2).1=k from e)]; exact ⟨rfl,h2⟩
theorem RepKV.putD {k:Key} {d:D} {v:V} (r:RepV B H d v) {ks:List (Key×D)} {vs:List (Key×V)} (h:RepKV B H ks vs):RepKV B H (L2.MM.putD ks k d) (ZhG vs k v):=by
  unfold L2.MM.putD ZhG
  rw [h.any k]
  split
  · exact h.over r
  · exact h.snoc r
theorem RepKV.dropD (k:Key):∀{ks:List (Key×D)} {vs:List (Key×V)},RepKV B H ks vs→RepKV B H (L2.MM.dropD ks k) (Zfx vs k)
  | _,_,.nil=>.nil
  | (k1,d1)::ks,(k2,v2)::vs,.cons ⟨h1,h2⟩ t=>by
    cases (show k1=k2 from h1)
    have ih:=RepKV.dropD k t
    unfold L2.MM.dropD Zfx at ih ⊢
    by_cases e:k1=k
    · rw [List.filter_cons_of_neg (by simpa using e),List.filter_cons_of_neg (by simpa using e)]; exact ih
    · rw [List.filter_cons_of_pos (by simpa using e),List.filter_cons_of_pos (by simpa using e)]; exact .cons ⟨rfl,h2⟩ ih
theorem keyD_rep {d:D} {v:V} {k:Key} (r:RepV B H d v) (h:ZlN d=some k):v=kV k:=by
  cases d with
  | int n=>cases h; exact r
  | str x=>cases h; exact r
  | _=>cases h
theorem Zga {cl:Mo} {θ:Sto} (G:Good cl B θ H) {d:D} {v:V} {l:Nat} {kvs:List (Key×D)} (r:RepV B H d v) (h:ZgH θ d=some (l,kvs)):l<B.n∧v=.ref (B.m l)∧∃vs,H (B.m l)=some (.dK vs)∧RepKV B H kvs vs:=by
  cases d with
  | ref k=>
    simp only [ZgH] at h
    split at h
    · rename_i kvs' e
      cases h
      obtain ⟨hl,rfl⟩:=r
      obtain ⟨vs,h1,h2⟩:=G.cel _ _ e
      exact ⟨hl,rfl,vs,h1,h2⟩
    · cases h
  | _=>cases h
end
section
variable {X:Cx}
theorem Ztt {k:Nat} {A:Around} (hr:Room k A):A.units+1<cLine:=by have:=hr.un; omega
def ZqA (fi fo:EM):EM:=fun ρ θ=>(fi ρ θ).bind fun y θ=>(fo ρ θ).bind fun d θ=>match ZlN y,ZgH θ d with
  | some k,some (_,kvs)=>.ok (.bl (valD kvs k).isSome) θ
  | _,_=>.bad
theorem ZsC {fi fo:EM} (σ:St) (H:Hp) (Q:VK) (h:tM X (ZqA fi fo) σ H Q):Zvz (tM X fi) (tM X fo) σ H Q:=by
  obtain ⟨B,θ,ρ,F,w⟩:=h
  refine zd (step F w) ?_
  rintro y H1 ⟨B1,θ1,dy,E1,F1,ry,w1⟩
  refine zd (step F1 w1) ?_
  rintro v H2 ⟨B2,θ2,d,E2,F2,rd,w2⟩
  split at w2
  · rename_i k l kvs ek ed
    obtain ⟨hl,rfl,vs,h1,h2⟩:=Zga F2.good rd ed
    cases keyD_rep ry ek
    refine ⟨_,valV vs k,rfl,DGet.k h1,?_⟩
    have e:(valD kvs k).isSome=(valV vs k).isSome:=by
      rcases h2.valD k with ⟨q1,q2⟩ | ⟨d,v,q1,q2,_⟩<;>(rw [q1,q2]; rfl)
    rw [←e]
    exact ZS (Rel:=RepV) F2.good (show RepV B2 H2 (.bl (valD kvs k).isSome) (.bl (valD kvs k).isSome) from rfl) w2
  · exact w2.elim
theorem Zut {i o:Expr} {fi fo:EM} {pos:Pos} {k:Nat} (hr:Room k X.A) (hi:ME X i fi) (ho:ME X o fo) (hm:behindInMarks .In o=false:=by rfl):MT X (.Compare i [.In] [o] pos) (ZK (ZqA fi fo)):=by
  refine PT.imp (Zt2 (Zui (Ztt hr) hi ho) hm) fun σ H Q h=>?_
  exact ZsC σ H _ (ZhA σ H Q h)
def Znf (fo fe:EM):EM:=fun ρ θ=>(fo ρ θ).bind fun d θ=>match ZgH θ d with
  | none=>.bad
  | some _=>(fe ρ θ).bind fun y θ=>match ZlN y,ZgH θ d with
    | some k,some (l,kvs)=>match valD kvs k with
      | some v=>.ok v (θ.set l (.dK (dropD kvs k)))
      | none=>.bad
    | _,_=>.bad
theorem Zne {o e:Expr} {fo fe:EM} {apos cpos:Pos} (ho:ME X o fo) (he:ME X e fe) (m:M1 X o "pop" apos e cpos):ME X (.Call (.Attribute o "pop" apos) [e] [] cpos) (Znf fo fe):=by
  refine PE.imp (Zp8 ho he m) fun σ H Q h=>?_
  obtain ⟨B,θ,ρ,F,w⟩:=h
  refine zd (step F w) ?_
  rintro v H1 ⟨B1,θ1,d,E1,F1,rd,w1⟩
  split at w1
  · exact w1.elim
  · rename_i q ed
    obtain ⟨l,kvs⟩:=q
    obtain ⟨hl,rfl,vs,h1,h2⟩:=Zga F1.good rd ed
    refine ⟨_,rfl,.inl ⟨vs,.inl h1⟩,?_⟩
    refine zd (step F1 w1) ?_
    rintro y H2 ⟨B2,θ2,dy,E2,F2,ry,w2⟩
    split at w2
    · rename_i k l2 kvs2 ek ed2
      obtain ⟨hl2,e2,vs2,h3,h4⟩:=Zga F2.good (rd.ext E2.toExtS) ed2
      cases keyD_rep ry ek
      have e3:B1.m l=B2.m l2:=by injection e2
      rw [e3]
      rcases h4.valD k with ⟨q1,q2⟩ | ⟨dv,v,q1,q2,rv⟩
      · rw [q1] at w2; exact w2.elim
      · rw [q1] at w2
        refine ⟨vs2,k,v,h3,rfl,q2,?_⟩
        have E3:=Zhq F2.good hl2 (.dK (Zfx vs2 k))
        have G3:=Zh1 F2.good hl2 (o:=.dK (Zfx vs2 k)) (c:=.dK (dropD kvs2 k)) ⟨_,zJ,(h4.dropD k).ext E3.toExtS⟩
        exact w2 _ _ _ E3 G3 (rv.ext E3.toExtS)
    · exact w2.elim
def Zmw (fo fe ff:EM):EM:=fun ρ θ=>(fo ρ θ).bind fun d θ=>match ZgH θ d with
  | none=>.bad
  | some _=>(fe ρ θ).bind fun y θ=>(ff ρ θ).bind fun z θ=>match ZlN y,ZgH θ d with
    | some k,some (l,kvs)=>if kvs.length<BIG then (match valD kvs k with
      | some v=>.ok v θ
      | none=>.ok z (θ.set l (.dK (putD kvs k z)))) else .bad
    | _,_=>.bad
theorem Zqw {o e f:Expr} {fo fe ff:EM} {apos cpos:Pos} (ho:ME X o fo) (he:ME X e fe) (hf:ME X f ff) (m:M2 X o "setdefault" apos e f cpos):ME X (.Call (.Attribute o "setdefault" apos) [e,f] [] cpos) (Zmw fo fe ff):=by
  refine PE.imp (Zp7 ho he hf m) fun σ H Q h=>?_
  obtain ⟨B,θ,ρ,F,w⟩:=h
  refine zd (step F w) ?_
  rintro v H1 ⟨B1,θ1,d,E1,F1,rd,w1⟩
  split at w1
  · exact w1.elim
  · rename_i q ed
    obtain ⟨l,kvs⟩:=q
    obtain ⟨hl,rfl,vs,h1,h2⟩:=Zga F1.good rd ed
    refine ⟨_,rfl,.inl ⟨vs,.inl h1⟩,?_⟩
    refine zd (step F1 w1) ?_
    rintro y H2 ⟨B2,θ2,dy,E2,F2,ry,w2⟩
    refine zd (step F2 w2) ?_
    rintro z H3 ⟨B3,θ3,dz,E3,F3,rz,w3⟩
    split at w3
    · rename_i k l2 kvs2 ek ed2
      obtain ⟨hl2,e2,vs2,h3,h4⟩:=Zga F3.good ((rd.ext E2.toExtS).ext E3.toExtS) ed2
      cases keyD_rep ry ek
      have e3:B1.m l=B3.m l2:=by injection e2
      rw [e3]
      split at w3
      · rename_i hb
        refine ⟨vs2,k,h3,rfl,?_,fun v hv=>?_,fun hn=>?_⟩
        · have:=ZaA (n:=kvs2.length+1) hb
          rw [RepKV.len h4]; omega
        · rcases h4.valD k with ⟨q1,q2⟩ | ⟨dv,v',q1,q2,rv⟩
          · rw [q2] at hv; cases hv
          · rw [q2] at hv; cases hv
            rw [q1] at w3
            exact ZS (Rel:=RepV) F3.good rv w3
        · rcases h4.valD k with ⟨q1,q2⟩ | ⟨dv,v',q1,q2,rv⟩
          · rw [q1] at w3
            have E4:=Zhq F3.good hl2 (.dK (ZhG vs2 k z))
            have G4:=Zh1 F3.good hl2 (o:=.dK (ZhG vs2 k z)) (c:=.dK (putD kvs2 k dz)) ⟨_,zJ,(h4.putD rz).ext E4.toExtS⟩
            exact w3 _ _ _ E4 G4 (rz.ext E4.toExtS)
          · rw [q2] at hn; cases hn
      · exact w3.elim
    · exact w3.elim
end
end L2.MM
namespace My
open PySem L2 L2.MM
noncomputable section
def ZjM:SM:=(Zr (ZQ 2 (mSl (Zd 1) Zas (Za1 (mCB Zd7 (Zc (Zd 0) Zk)))))
  (Zr (ZH ["Pile"] "row" (Zd 0) (mOp ZO (ZJ ["Pile"] "row" (Zd 0)) (Zd 2)))
  (ZM (mCB Zc1 (Zc (Zd 2) Zk)))))
def ZfX:GM:=ZR 2 3 ZjM
def Zge:SM:=(Zr (ZQ 2 (mCB Zsn (Zc (Zd 1) (Zc (mC (.int 0)) Zk))))
  (Zr (ZQ 3 (mSl (ZJ ["Pile"] "row" (Zd 0)) Zas (Za1 (Zd 2))))
  (Zr (ZH ["Pile"] "row" (Zd 0) (mSl (ZJ ["Pile"] "row" (Zd 0)) (Za1 (Zd 2)) Zas))
  (ZM (Zd 3)))))
def ZfB:GM:=ZR 2 4 Zge
def Zl8:SM:=(ZM (mOp gtM (mCB zC (Zc (Zd 0) (Zc (Zd 1) Zk))) (mC (.int 0))))
def Zcl:GM:=ZR 2 2 Zl8
def ZdV:SM:=(ZM (mCB Zcl (Zc (ZJ ["End"] "nxt" (Zd 0)) (Zc (ZJ ["End"] "behind" (Zd 0)) Zk))))
def Zbn:GM:=ZR 1 1 ZdV
def Zjf:SM:=(ZM (mOp eqM (mCB Zfr (Zc (mOp ixM (Zd 0) (mC (.int 4))) (Zc (Zd 1) Zk))) (mC (.int 1))))
def Z8:GM:=ZR 2 2 Zjf
def ZcU:SM:=(mIf (zY (mCB Z8 (Zc (Zd 0) (Zc (mC (.int 16)) Zk)))) (ZM (mOp ZO (Zd 1) (ZaM (Zc (mOp ixM (Zd 0) (mC (.int 3))) (Zc (mC (.int 0)) (Zc (mC (.int 4)) (Zc (mC (.int 0)) (Zc (mC (.int 0)) (Zc (ZaM Zk) Zk))))))))) ZN)
def ZdE:SM:=(Zr (ZQ 1 (ZaM (Zc (mOp ixM (Zd 0) (mC (.int 1))) (Zc (mOp ixM (Zd 0) (mC (.int 0))) Zk))))
  (Zr ZcU
  (ZM (mOp ZO (Zd 1) (ZaM (Zc (mC (.int 0)) (Zc (mCB zq (Zc (mOp ixM (Zd 0) (mC (.int 2))) (Zc (mCB ZcA (Zc (Zd 0) Zk)) Zk))) (Zc (mOp ZO (mC (.int 4)) (mC (.int 16))) (Zc (mC (.int 0)) (Zc (mC (.int 0)) (Zc (ZaM Zk) Zk)))))))))))
def ZbW:GM:=ZR 1 2 ZdE
def ZbF:SM:=(mIf (Zed (zY (mCB Z8 (Zc (Zd 1) (Zc (mC (.int 4)) Zk))))) (ZH ["End"] "owed_reset" (Zd 0) (mCB ZbW (Zc (Zd 1) Zk))) ZN)
def Zcd:SM:=ZbF
def Z0:GM:=ZR 2 2 Zcd
def Zdo:SM:=(zn (mCB Z0 (Zc (Zd 0) (Zc (Zd 1) Zk))))
def ZaO:GM:=ZR 2 2 Zdo
def Ze1:SM:=(mIf (ZK (mOp neM (mOp ixM (Zd 1) (mC (.int 6))) (mC (.int 0)))) (ZH ["End"] "most" (Zd 0) (mOp ixM (Zd 1) (mC (.int 6)))) ZN)
def Zgh:SM:=(Zr (ZH ["End"] "rcv" (Zd 0) (mCB zq (Zc (mOp ixM (Zd 1) (mC (.int 2))) (Zc (mC (.int 1)) Zk))))
  (Zr (ZH ["End"] "wnd" (Zd 0) (mOp ixM (Zd 1) (mC (.int 5))))
  (Zr (ZH ["End"] "told" (Zd 0) (mOp ixM (Zd 1) (mC (.int 2))))
  (Zr (ZH ["End"] "told_by" (Zd 0) (Zf4 (zY (mCB Z8 (Zc (Zd 1) (Zc (mC (.int 16)) Zk)))) (mOp ixM (Zd 1) (mC (.int 3))) (mC (.int 0))))
  Ze1))))
def ZbQ:GM:=ZR 2 2 Zgh
def z0:SM:=(mIf (zY (mCB Z8 (Zc (Zd 1) (Zc (mC (.int 4)) Zk)))) Zf3 ZN)
def ZaI:SM:=(mIf (zY (mCB Z8 (Zc (Zd 1) (Zc (mC (.int 2)) Zk)))) (Zr (ZH ["End"] "theirs" (Zd 0) (mOp ixM (Zd 1) (mC (.int 0))))
      (Zr (zn (mCB ZbQ (Zc (Zd 0) (Zc (Zd 1) Zk))))
      (ZH ["End"] "state" (Zd 0) (mC (.str "syn come"))))) ZN)
def ZaH:SM:=(mIf (zY (mCB Z8 (Zc (Zd 1) (Zc (mC (.int 16)) Zk)))) (zn (mCB Z0 (Zc (Zd 0) (Zc (Zd 1) Zk)))) ZaI)
def Zar:SM:=(Zr z0
  ZaH)
def zx:GM:=ZR 2 2 Zar
def Zey:SM:=(ZM (ZcD (mOp neM (ZJ ["End"] "nxt" (Zd 0)) (ZJ ["End"] "first" (Zd 0))) (mOp eqM (mOp ixM (Zd 1) (mC (.int 3))) (mCB zq (Zc (ZJ ["End"] "first" (Zd 0)) (Zc (mC (.int 1)) Zk))))))
def ZbK:GM:=ZR 2 2 Zey
def Zat:SM:=(mIf (zY (mCB Z8 (Zc (Zd 1) (Zc (mC (.int 16)) Zk)))) (Zr (ZH ["End"] "una" (Zd 0) (mOp ixM (Zd 1) (mC (.int 3))))
    (Zr (ZH ["End"] "state" (Zd 0) (mC (.str "open")))
    (ZH ["End"] "owes_answer" (Zd 0) (mC (.bl true))))) (Zr (ZH ["End"] "state" (Zd 0) (mC (.str "syn come")))
    (Zr (zn (mCB ze (Zc (Zd 0) (Zc (Zd 2) Zk))))
    (ZH ["End"] "owes_syn" (Zd 0) (mC (.bl true))))))
def ZaT:SM:=Zat
def zK:GM:=ZR 3 3 ZaT
def Zel:SM:=(mIf (zY (mCB Z8 (Zc (Zd 1) (Zc (mC (.int 16)) Zk)))) (Zr (ZH ["End"] "state" (Zd 0) (mC (.str "closed")))
    (ZH ["End"] "error" (Zd 0) (mC (.str "refused")))) ZN)
def ZfI:SM:=Zel
def ZeG:GM:=ZR 2 2 ZfI
def zF:SM:=(mIf (zY (mCB Z8 (Zc (Zd 1) (Zc (mC (.int 2)) Zk)))) (Zr (zn (mCB ZbQ (Zc (Zd 0) (Zc (Zd 1) Zk))))
        (zn (mCB zK (Zc (Zd 0) (Zc (Zd 1) (Zc (Zd 2) Zk)))))) ZN)
def za:SM:=(mIf (zY (mCB Z8 (Zc (Zd 1) (Zc (mC (.int 4)) Zk)))) (zn (mCB ZeG (Zc (Zd 0) (Zc (Zd 1) Zk)))) zF)
def ZX:SM:=(mIf (ZhS (zY (mCB Z8 (Zc (Zd 1) (Zc (mC (.int 16)) Zk)))) (Zed (zY (mCB ZbK (Zc (Zd 0) (Zc (Zd 1) Zk)))))) (zn (mCB Z0 (Zc (Zd 0) (Zc (Zd 1) Zk)))) za)
def Z6:SM:=ZX
def ZV:GM:=ZR 3 3 Z6
def ZdU:SM:=(ZM (Zef leM ltM (mC (.int 0)) (mCB zC (Zc (Zd 1) (Zc (ZJ ["End"] "rcv" (Zd 0)) Zk))) (mCB Za5 (Zc (Zd 0) Zk))))
def zo:GM:=ZR 2 2 ZdU
def ZfJ:SM:=(mIf (ZK (mOp eqM (Zd 2) (mC (.int 0)))) (ZM (Zef leM leM (mC (.int 0)) (mCB zC (Zc (mOp ixM (Zd 1) (mC (.int 2))) (Zc (ZJ ["End"] "rcv" (Zd 0)) Zk))) (mC (.int 64)))) ZN)
def Zik:SM:=(Zr (ZQ 2 (mCB ZcA (Zc (Zd 1) Zk)))
  (Zr ZfJ
  (Zr (ZQ 3 (mCB zq (Zc (mOp ixM (Zd 1) (mC (.int 2))) (Zc (mOp Zfo (Zd 2) (mC (.int 1))) Zk))))
  (ZM (Zmu (mCB zo (Zc (Zd 0) (Zc (mOp ixM (Zd 1) (mC (.int 2))) Zk))) (mCB zo (Zc (Zd 0) (Zc (Zd 3) Zk))))))))
def Zgv:GM:=ZR 2 4 Zik
def zk:SM:=(mIf (mOr (Zed (zY (mCB Zbn (Zc (Zd 0) Zk)))) (ZK (mOp neM (ZJ ["End"] "una" (Zd 0)) (ZJ ["End"] "nxt" (Zd 0))))) Zf3 ZN)
def ZaW:SM:=(mIf (ZK (mOp eqM (ZJ ["End"] "state" (Zd 0)) (mC (.str "last ack")))) (ZH ["End"] "state" (Zd 0) (mC (.str "closed"))) ZN)
def ZaV:SM:=(mIf (ZK (mOp eqM (ZJ ["End"] "state" (Zd 0)) (mC (.str "closing")))) (Zr (ZH ["End"] "state" (Zd 0) (mC (.str "time wait")))
      (ZH ["End"] "since" (Zd 0) (Zd 1))) ZaW)
def ZaU:SM:=(mIf (ZK (mOp eqM (ZJ ["End"] "state" (Zd 0)) (mC (.str "wait one")))) (ZH ["End"] "state" (Zd 0) (mC (.str "wait two"))) ZaV)
def zp:SM:=(Zr zk
  ZaU)
def ZU:GM:=ZR 2 2 zp
def Zev:SM:=(Zr (ZH ["End"] "wnd" (Zd 0) (mOp ixM (Zd 1) (mC (.int 5))))
  (Zr (ZH ["End"] "told" (Zd 0) (mOp ixM (Zd 1) (mC (.int 2))))
  (ZH ["End"] "told_by" (Zd 0) (mOp ixM (Zd 1) (mC (.int 3))))))
def ZaK:GM:=ZR 2 2 Zev
def Zae:SM:=(mIf (mOr (ZK (mOp eqM (ZJ ["End"] "nxt" (Zd 0)) (ZJ ["End"] "first" (Zd 0)))) (ZK (mOp neM (mOp ixM (Zd 1) (mC (.int 3))) (ZJ ["End"] "nxt" (Zd 0))))) (Zr (zn (mCB Z0 (Zc (Zd 0) (Zc (Zd 1) Zk))))
    (ZM (mC (.bl false)))) ZN)
def ZaD:SM:=(Zr Zae
  (Zr (ZH ["End"] "una" (Zd 0) (mOp ixM (Zd 1) (mC (.int 3))))
  (Zr (ZH ["End"] "state" (Zd 0) (Zf4 (zY (ZJ ["End"] "has_closed" (Zd 0))) (mC (.str "wait one")) (mC (.str "open"))))
  (Zr (zn (mCB ZaK (Zc (Zd 0) (Zc (Zd 1) Zk))))
  (ZM (mC (.bl true)))))))
def zr:GM:=ZR 2 2 ZaD
def Ze0:SM:=(mIf (ZK (mOp eqM (mOp ixM (Zd 1) (mC (.int 2))) (ZJ ["End"] "told" (Zd 0)))) (ZM (ZlK (mCB Zcl (Zc (ZJ ["End"] "told_by" (Zd 0)) (Zc (mOp ixM (Zd 1) (mC (.int 3))) Zk))))) ZN)
def Zgg:SM:=(Zr Ze0
  (ZM (mCB Zcl (Zc (mOp ixM (Zd 1) (mC (.int 2))) (Zc (ZJ ["End"] "told" (Zd 0)) Zk)))))
def Zdf:GM:=ZR 2 2 Zgg
def Zcg:SM:=(mIf (ZK (mOp neM (ZJ ["End"] "una" (Zd 0)) (ZJ ["End"] "nxt" (Zd 0)))) (zn (mCB ze (Zc (Zd 0) (Zc (Zd 2) Zk)))) ZN)
def ZaC:SM:=(mIf (zY (Zd 4)) (Zr (zn (mCB ZfB (Zc (ZJ ["End"] "written" (Zd 0)) (Zc (mCB zC (Zc (Zd 3) (Zc (ZJ ["End"] "una" (Zd 0)) Zk))) Zk))))
    (Zr (ZH ["End"] "una" (Zd 0) (Zd 3))
    Zcg)) ZN)
def ZaB:SM:=(mIf (zY (mCB Zcl (Zc (ZJ ["End"] "una" (Zd 0)) (Zc (Zd 3) Zk)))) Zf3 ZN)
def Zbk:SM:=(mIf (mOr (zY (Zd 4)) (zY (mCB Zdf (Zc (Zd 0) (Zc (Zd 1) Zk))))) (zn (mCB ZaK (Zc (Zd 0) (Zc (Zd 1) Zk)))) ZN)
def Zbj:SM:=(mIf (mOr (zY (Zd 5)) (ZK (mOp eqM (ZJ ["End"] "wnd" (Zd 0)) (mC (.int 0))))) (ZH ["End"] "tries" (Zd 0) (mC (.int 0))) ZN)
def Zbc:SM:=(Zr (ZQ 3 (mOp ixM (Zd 1) (mC (.int 3))))
  (Zr (ZQ 4 (mCB Zcl (Zc (Zd 3) (Zc (ZJ ["End"] "una" (Zd 0)) Zk))))
  (Zr ZaC
  (Zr ZaB
  (Zr (ZQ 5 (mOp eqM (ZJ ["End"] "wnd" (Zd 0)) (mC (.int 0))))
  (Zr Zbk
  Zbj))))))
def zQ:GM:=ZR 3 6 Zbc
def zz:SM:=(mIf (ZK (mOp eqM (ZJ ["End"] "state" (Zd 0)) (mC (.str "syn come")))) (ZM (mCB zr (Zc (Zd 0) (Zc (Zd 1) Zk)))) ZN)
def Zaf:SM:=(mIf (zY (mCB Zcl (Zc (mOp ixM (Zd 1) (mC (.int 3))) (Zc (ZJ ["End"] "nxt" (Zd 0)) Zk)))) (Zr (ZH ["End"] "owes_answer" (Zd 0) (mC (.bl true)))
    (ZM (mC (.bl false)))) ZN)
def zI:SM:=(Zr zz
  (Zr Zaf
  (Zr (zn (mCB zQ (Zc (Zd 0) (Zc (Zd 1) (Zc (Zd 2) Zk)))))
  (Zr (zn (mCB ZU (Zc (Zd 0) (Zc (Zd 2) Zk))))
  (ZM (mOp neM (ZJ ["End"] "state" (Zd 0)) (mC (.str "closed"))))))))
def Z2:GM:=ZR 3 3 zI
def Zcu:SM:=(mIf (ZK (mOp eqM (ZJ ["End"] "state" (Zd 0)) (mC (.str "time wait")))) Zf3 ZN)
def Zct:SM:=(mIf (ZK (mOp eqM (mOp ixM (Zd 1) (mC (.int 2))) (ZJ ["End"] "rcv" (Zd 0)))) (Zr (ZH ["End"] "state" (Zd 0) (mC (.str "closed")))
    (ZH ["End"] "error" (Zd 0) (mC (.str "reset")))) (ZH ["End"] "owes_answer" (Zd 0) (mC (.bl true))))
def Zdm:SM:=(Zr Zcu
  Zct)
def Zbt:GM:=ZR 2 2 Zdm
def ZbH:SM:=(ZcK (ZhS (ZK (mOp neM (ZJ ["End"] "rcv" (Zd 0)) (ZJ ["End"] "early_fin" (Zd 0)))) (ZK (ZqA (ZJ ["End"] "rcv" (Zd 0)) (ZJ ["End"] "early" (Zd 0))))) (Zr (Zeg 1 (Znf (ZJ ["End"] "early" (Zd 0)) (ZJ ["End"] "rcv" (Zd 0))))
    (ZH ["End"] "rcv" (Zd 0) (mCB zq (Zc (ZJ ["End"] "rcv" (Zd 0)) (Zc (mC (.int 1)) Zk))))) 200)
def Zdz:SM:=(Zr (Zhm 1 Zk)
  (Zr ZbH
  (Zee 1 (zn (mCB ZfX (Zc (ZJ ["End"] "come" (Zd 0)) (Zc (Zd 1) Zk)))))))
def Za9:GM:=ZR 1 2 Zdz
def Ze2:SM:=(mIf (ZK (mOp eqM (ZJ ["End"] "state" (Zd 0)) (mC (.str "wait one")))) (ZH ["End"] "state" (Zd 0) (mC (.str "closing"))) (Zr (ZH ["End"] "state" (Zd 0) (mC (.str "time wait")))
      (ZH ["End"] "since" (Zd 0) (Zd 1))))
def Zdn:SM:=(mIf (ZK (mOp eqM (ZJ ["End"] "state" (Zd 0)) (mC (.str "open")))) (ZH ["End"] "state" (Zd 0) (mC (.str "close wait"))) Ze2)
def Zeo:SM:=(Zr (ZH ["End"] "rcv" (Zd 0) (mCB zq (Zc (ZJ ["End"] "rcv" (Zd 0)) (Zc (mC (.int 1)) Zk))))
  Zdn)
def Zco:GM:=ZR 2 2 Zeo
def Zbb:SM:=(mIf (zY (mCB zo (Zc (Zd 0) (Zc (Zd 4) Zk)))) (zn (Zmw (ZJ ["End"] "early" (Zd 0)) (Zd 4) (Zd 3))) ZN)
def ZcW:SM:=(Zqz (Zc (mOp ixM (Zd 1) (mC (.int 7))) Zk) 2 3 (Zr (ZQ 4 (mCB zq (Zc (mOp ixM (Zd 1) (mC (.int 2))) (Zc (Zd 2) Zk))))
    Zbb))
def ZcV:SM:=(mIf (ZK (mOp gtM (mCB Zc1 (Zc (mOp ixM (Zd 1) (mC (.int 7))) Zk)) (mC (.int 0)))) (ZH ["End"] "owes_answer" (Zd 0) (mC (.bl true))) ZN)
def ZdH:SM:=(Zr ZcW
  ZcV)
def ZbX:GM:=ZR 2 5 ZdH
def Zdl:SM:=(mIf (Zed (zY (mCB Z8 (Zc (Zd 1) (Zc (mC (.int 1)) Zk))))) Zf3 ZN)
def ZaS:SM:=(mIf (ZhS (ZK (mOp isM (ZJ ["End"] "early_fin" (Zd 0)) (mC .non))) (zY (mCB zo (Zc (Zd 0) (Zc (Zd 2) Zk))))) (ZH ["End"] "early_fin" (Zd 0) (Zd 2)) ZN)
def Zen:SM:=(Zr Zdl
  (Zr (ZH ["End"] "owes_answer" (Zd 0) (mC (.bl true)))
  (Zr (ZQ 2 (mCB zq (Zc (mOp ixM (Zd 1) (mC (.int 2))) (Zc (mCB Zc1 (Zc (mOp ixM (Zd 1) (mC (.int 7))) Zk)) Zk))))
  ZaS)))
def Zcn:GM:=ZR 2 3 Zen
def Zbi:SM:=(mIf (ZK (mOp ZbS (ZJ ["End"] "state" (Zd 0)) (ZaM (Zc (mC (.str "open")) (Zc (mC (.str "wait one")) (Zc (mC (.str "wait two")) Zk)))))) Zf3 ZN)
def Zcf:SM:=(mIf (ZK (mOp eqM (ZJ ["End"] "rcv" (Zd 0)) (ZJ ["End"] "early_fin" (Zd 0)))) (zn (mCB Zco (Zc (Zd 0) (Zc (Zd 2) Zk)))) ZN)
def ZbO:SM:=(Zr Zbi
  (Zr (zn (mCB ZbX (Zc (Zd 0) (Zc (Zd 1) Zk))))
  (Zr (zn (mCB Zcn (Zc (Zd 0) (Zc (Zd 1) Zk))))
  (Zr (zn (mCB Za9 (Zc (Zd 0) Zk)))
  Zcf))))
def ZaL:GM:=ZR 3 3 ZbO
def ZbN:SM:=(mIf (zY (mCB Z8 (Zc (Zd 1) (Zc (mC (.int 4)) Zk)))) Zf3 ZN)
def ZcT:SM:=(mIf (ZhS (ZK (mOp eqM (ZJ ["End"] "state" (Zd 0)) (mC (.str "syn come")))) (ZhS (zY (mCB Z8 (Zc (Zd 1) (Zc (mC (.int 2)) Zk)))) (Zed (zY (mCB Z8 (Zc (Zd 1) (Zc (mC (.int 16)) Zk))))))) (ZH ["End"] "owes_syn" (Zd 0) (mC (.bl true))) (ZH ["End"] "owes_answer" (Zd 0) (mC (.bl true))))
def ZcS:SM:=(mIf (ZK (mOp eqM (ZJ ["End"] "state" (Zd 0)) (mC (.str "time wait")))) (ZH ["End"] "since" (Zd 0) (Zd 2)) ZN)
def Zcv:SM:=(Zr ZbN
  (Zr ZcT
  ZcS))
def Zbm:GM:=ZR 3 3 Zcv
def ZaG:SM:=(mIf (ZhS (zY (mCB Z8 (Zc (Zd 1) (Zc (mC (.int 16)) Zk)))) (zY (mCB Z2 (Zc (Zd 0) (Zc (Zd 1) (Zc (Zd 2) Zk)))))) (zn (mCB ZaL (Zc (Zd 0) (Zc (Zd 1) (Zc (Zd 2) Zk))))) ZN)
def zZ:SM:=(mIf (zY (mCB Z8 (Zc (Zd 1) (Zc (mC (.int 2)) Zk)))) (ZH ["End"] "owes_answer" (Zd 0) (mC (.bl true))) ZaG)
def zy:SM:=(mIf (zY (mCB Z8 (Zc (Zd 1) (Zc (mC (.int 4)) Zk)))) (zn (mCB Zbt (Zc (Zd 0) (Zc (Zd 1) Zk)))) zZ)
def zj:SM:=(mIf (Zed (zY (mCB Zgv (Zc (Zd 0) (Zc (Zd 1) Zk))))) (zn (mCB Zbm (Zc (Zd 0) (Zc (Zd 1) (Zc (Zd 2) Zk))))) zy)
def zv:SM:=zj
def zh:GM:=ZR 3 3 zv
def Zih:SM:=(ZM (ZcD (mOp eqM (mOp ixM (Zd 1) (mC (.int 1))) (ZJ ["End"] "ours" (Zd 0))) (Zmu (mOp inM (ZJ ["End"] "state" (Zd 0)) (ZaM (Zc (mC (.str "closed")) (Zc (mC (.str "listen")) Zk)))) (mOp eqM (mOp ixM (Zd 1) (mC (.int 0))) (ZJ ["End"] "theirs" (Zd 0))))))
def ZeI:GM:=ZR 2 2 Zih
def Zck:SM:=(mIf (Zed (zY (mCB Zam (Zc (Zd 1) Zk)))) (ZM (mC (.bl false))) ZN)
def Zcj:SM:=(mIf (Zed (zY (mCB ZeI (Zc (Zd 0) (Zc (Zd 3) Zk))))) (ZM (mC (.bl false))) ZN)
def Zep:SM:=(mIf (ZK (mOp eqM (ZJ ["End"] "state" (Zd 0)) (mC (.str "syn sent")))) (zn (mCB ZV (Zc (Zd 0) (Zc (Zd 3) (Zc (Zd 2) Zk))))) (zn (mCB zh (Zc (Zd 0) (Zc (Zd 3) (Zc (Zd 2) Zk))))))
def Zc4:SM:=(mIf (ZK (mOp eqM (ZJ ["End"] "state" (Zd 0)) (mC (.str "listen")))) (zn (mCB zx (Zc (Zd 0) (Zc (Zd 3) Zk)))) Zep)
def Zci:SM:=(mIf (ZK (mOp eqM (ZJ ["End"] "state" (Zd 0)) (mC (.str "closed")))) (zn (mCB ZaO (Zc (Zd 0) (Zc (Zd 3) Zk)))) Zc4)
def Zdp:SM:=(Zr Zck
  (Zr (ZQ 3 (mCB ZiR (Zc (Zd 1) Zk)))
  (Zr Zcj
  (Zr Zci
  (ZM (mC (.bl true)))))))
def zV:GM:=ZR 3 4 Zdp
def Zdx:SM:=(mIf (mOr (zY (ZJ ["End"] "has_closed" (Zd 0))) (ZK (mOp ZbS (ZJ ["End"] "state" (Zd 0)) (ZaM (Zc (mC (.str "syn sent")) (Zc (mC (.str "syn come")) (Zc (mC (.str "open")) (Zc (mC (.str "close wait")) Zk)))))))) (ZM (mC (.int 0))) ZN)
def Zfh:SM:=(Zr Zdx
  (Zr (ZQ 2 (mCB ZfX (Zc (ZJ ["End"] "written" (Zd 0)) (Zc (Zd 1) Zk))))
  (Zr (ZH ["End"] "behind" (Zd 0) (mCB zq (Zc (ZJ ["End"] "behind" (Zd 0)) (Zc (Zd 2) Zk))))
  (ZM (Zd 2)))))
def Zd6:GM:=ZR 2 3 Zfh
def Zma:SM:=(ZM (mOp Zbd (mOp ZO (Zd 0) (Zd 1)) (mC (.int 4294967296))))
def Za6:GM:=ZR 2 2 Zma
def Zha:SM:=(mIf (ZK (mOp eqM (mOp Zbd (Zd 0) (mC (.int 2))) (mC (.int 0)))) (ZM (mOp Zbd (mOp Zfo (mC (.int 4294967296)) (mOp Zbd (mOp Zfp (Zd 0) (mC (.int 2))) (mC (.int 90)))) (mC (.int 4294967296)))) ZN)
def Zjj:SM:=(Zr Zha
  (ZM (Zd 0)))
def Zfe:GM:=ZR 1 1 Zjj
def Zg9:SM:=(ZM (ZaM (Zc (mOp ixM (Zd 0) (mC (.int 1))) (Zc (mOp ixM (Zd 0) (mC (.int 0))) (Zc (Zd 1) (Zc (Zd 2) (Zc (Zd 3) (Zc (Zd 4) (Zc (mC (.int 0)) (Zc (mCB ZeB (Zc (Zd 5) Zk)) Zk))))))))))
def Zcr:GM:=ZR 6 6 Zg9
def Ze5:SM:=(mIf (zY (ZJ ["End"] "has_closed" (Zd 0))) (ZM (mC (.bl false))) ZN)
def Zg8:SM:=(mIf (ZK (mOp inM (ZJ ["End"] "state" (Zd 0)) (ZaM (Zc (mC (.str "listen")) (Zc (mC (.str "syn sent")) Zk))))) (Zr (ZH ["End"] "state" (Zd 0) (mC (.str "closed")))
    (ZM (mC (.bl true)))) ZN)
def Zg7:SM:=(mIf (ZK (mOp ZbS (ZJ ["End"] "state" (Zd 0)) (ZaM (Zc (mC (.str "syn come")) (Zc (mC (.str "open")) (Zc (mC (.str "close wait")) Zk)))))) (ZM (mC (.bl false))) ZN)
def Zg6:SM:=(mIf (ZK (mOp eqM (ZJ ["End"] "state" (Zd 0)) (mC (.str "close wait")))) (ZH ["End"] "state" (Zd 0) (mC (.str "last ack"))) ZN)
def Zg5:SM:=(mIf (ZK (mOp eqM (ZJ ["End"] "state" (Zd 0)) (mC (.str "open")))) (ZH ["End"] "state" (Zd 0) (mC (.str "wait one"))) Zg6)
def ZgL:SM:=(Zr Ze5
  (Zr Zg8
  (Zr Zg7
  (Zr (ZH ["End"] "has_closed" (Zd 0) (mC (.bl true)))
  (Zr Zg5
  (ZM (mC (.bl true))))))))
def Zfa:GM:=ZR 1 1 ZgL
def Zmb:SM:=(ZM (ZcD (mCB ZgZ (Zc (Zd 0) (Zc (mC (.ty "int")) Zk))) (ZcD (ZlK (mCB ZgZ (Zc (Zd 0) (Zc (mC (.ty "bool")) Zk)))) (Zef leM leM (mC (.int 0)) (Zd 0) (mC (.int 255))))))
def ZgC:GM:=ZR 1 1 Zmb
def b_l_read_1:SM:=(mIf (mOr (Zed (zY (mCB ZgZ (Zc (Zd 0) (Zc (mC (.ty "list")) Zk))))) (ZK (mOp ltM (mCB Zc1 (Zc (Zd 0) Zk)) (mC (.int 20))))) (ZM (mC .non)) ZN)
def b_l_read_2:SM:=(mIf (Zed (zY (mCB Zrk (Zc (ZeN (mIn (Zd 0)) [] (mCB ZgC (Zc (Zd 0) Zk))) Zk)))) (ZM (mC .non)) ZN)
def b_l_read_3:SM:=(mIf (mOr (ZK (mOp ZbS (mOp ixM (Zd 0) (mC (.int 12))) (ZaM (Zc (mC (.int 80)) (Zc (mC (.int 96)) Zk))))) (mOr (ZK (mOp gtM (mOp ixM (Zd 0) (mC (.int 13))) (mC (.int 31)))) (ZK (mOp gtM (mOp ZO (mOp ixM (Zd 0) (mC (.int 18))) (mOp ixM (Zd 0) (mC (.int 19)))) (mC (.int 0)))))) (ZM (mC .non)) ZN)
def b_l_read_4:SM:=(mIf (mOr (Zed (ZK (Zef leM leM (Zd 1) (mCB Zc1 (Zc (Zd 0) Zk)) (mOp ZO (Zd 1) (mC (.int 16)))))) (ZK (mOp neM (mCB ZcE (Zc (Zd 0) Zk)) (mC (.int 65535))))) (ZM (mC .non)) ZN)
def Zil:SM:=(mIf (mOr (ZK (mOp eqM (mOp Zbd (mOp Zfp (mOp ixM (Zd 0) (mC (.int 13))) (mC (.int 2))) (mC (.int 2))) (mC (.int 0)))) (mOr (ZK (mOp neM (mSl (Zd 0) (Za1 (mC (.int 20))) (Za1 (mC (.int 22)))) (Zb7 (Zc (mC (.int 2)) (Zc (mC (.int 4)) Zk))))) (ZK (mOp ltM (Zd 2) (mC (.int 4)))))) (ZM (mC .non)) ZN)
def b_l_read_6:SM:=(mIf (ZK (mOp eqM (Zd 1) (mC (.int 24)))) (Zr (ZQ 2 (mOp ZO (mOp Zcq (mOp ixM (Zd 0) (mC (.int 22))) (mC (.int 256))) (mOp ixM (Zd 0) (mC (.int 23)))))
    Zil) ZN)
def Zl9:SM:=(Zr b_l_read_1
  (Zr b_l_read_2
  (Zr (ZQ 1 (mOp Zfp (mOp ixM (Zd 0) (mC (.int 12))) (mC (.int 4))))
  (Zr b_l_read_3
  (Zr b_l_read_4
  (Zr (ZQ 2 (mC (.int 0)))
  (Zr b_l_read_6
  (Zr (ZQ 3 (ZeN (ZcC (Zc (mC (.int 8)) Zk)) [0] (mOp ZO (mOp Zcq (mC (.int 256)) (mOp ixM (Zd 1) (mOp Zcq (mC (.int 2)) (Zd 0)))) (mOp ixM (Zd 1) (mOp ZO (mOp Zcq (mC (.int 2)) (Zd 0)) (mC (.int 1)))))))
  (Zr (ZQ 4 (ZaM (Zc (mOp ixM (Zd 3) (mC (.int 0))) (Zc (mOp ixM (Zd 3) (mC (.int 1))) (Zc (mOp ZO (mOp Zcq (mOp ixM (Zd 3) (mC (.int 2))) (mC (.int 65536))) (mOp ixM (Zd 3) (mC (.int 3)))) (Zc (mOp ZO (mOp Zcq (mOp ixM (Zd 3) (mC (.int 4))) (mC (.int 65536))) (mOp ixM (Zd 3) (mC (.int 5)))) Zk))))))
  (ZM (mOp ZO (Zd 4) (ZaM (Zc (mOp ixM (Zd 0) (mC (.int 13))) (Zc (mOp ixM (Zd 3) (mC (.int 7))) (Zc (Zd 2) (Zc (mCB ZeB (Zc (mSl (Zd 0) (Za1 (Zd 1)) Zas) Zk)) Zk))))))))))))))))
def ZgA:GM:=ZR 1 5 Zl9
def ZdD:SM:=(mIf (ZK (mOp eqM (Zd 4) (Zb7 Zk))) (Zee 2 (ZM (Zd 2))) ZN)
def Ze6:SM:=(ZdR (ZcC (Zc (mC (.int 40)) Zk)) (gNm 3) (Zr (ZQ 4 (mCB ZcM (Zc (Zd 0) (Zc (Zd 1) Zk))))
    (Zr ZdD
    (Zeg 2 (mCB ZgA (Zc (Zd 4) Zk))))))
def Zji:SM:=(Zr (Zhm 2 Zk)
  (Zr Ze6
  (Zee 2 (ZM (Zd 2)))))
def Zbw:GM:=ZR 2 5 Zji
def Zin:SM:=(Zr (ZQ 4 (ZaM (Zc (mOp Zbd (mCB ZbC (Zc (Zd 0) (Zc (Zd 1) Zk))) (mC (.int 65536))) (Zc (mOp Zbd (mCB ZbC (Zc (Zd 0) (Zc (mOp ZO (Zd 1) (mC (.int 1))) Zk))) (mC (.int 65536))) Zk))))
  (Zr (ZQ 5 (mCB Zfe (Zc (mCB ZbC (Zc (Zd 0) (Zc (mOp ZO (Zd 1) (mC (.int 2))) Zk))) Zk)))
  (Zr (ZQ 6 (mCB Zfe (Zc (mCB ZbC (Zc (Zd 0) (Zc (mOp ZO (Zd 1) (mC (.int 3))) Zk))) Zk)))
  (Zr (ZQ 7 (mCB ZeH (Zc (mOp ixM (Zd 4) (mC (.int 0))) (Zc (mC (.int 7)) (Zc (Zd 5) (Zc (mC (.bl false)) Zk))))))
  (Zr (zn (mCB zV (Zc (Zd 7) (Zc (mCB Zb8 (Zc (ZaM (Zc (mOp ixM (Zd 4) (mC (.int 1))) (Zc (mOp ixM (Zd 4) (mC (.int 0))) (Zc (Zd 6) (Zc (mC (.int 0)) (Zc (mC (.int 2)) (Zc (Zd 2) (Zc (Zd 3) (Zc (ZaM Zk) Zk))))))))) Zk)) (Zc (mC (.int 0)) Zk)))))
  (Zr (zn (mCB ZcM (Zc (Zd 7) (Zc (mC (.int 0)) Zk))))
  (Zr (zn (mCB zV (Zc (Zd 7) (Zc (mCB Zb8 (Zc (ZaM (Zc (mOp ixM (Zd 4) (mC (.int 1))) (Zc (mOp ixM (Zd 4) (mC (.int 0))) (Zc (mCB Za6 (Zc (Zd 6) (Zc (mC (.int 1)) Zk))) (Zc (mCB Za6 (Zc (Zd 5) (Zc (mC (.int 1)) Zk))) (Zc (mC (.int 16)) (Zc (Zd 2) (Zc (mC (.int 0)) (Zc (ZaM Zk) Zk))))))))) Zk)) (Zc (mC (.int 0)) Zk)))))
  (ZM (ZaM (Zc (Zd 7) (Zc (Zd 4) (Zc (mCB Za6 (Zc (Zd 5) (Zc (mC (.int 1)) Zk))) (Zc (mCB Za6 (Zc (Zd 6) (Zc (mC (.int 1)) Zk))) Zk)))))))))))))
def ZdS:GM:=ZR 4 8 Zin
end
end My
namespace My
open PySem L2 L2.MM
noncomputable section
def bears (s:Seg) (f:Int):Bool:=decide (bit s.flags f=1)
def ZnT (s:Seg):Int:=s.data.length+bit s.flags 2+bit s.flags 1
def ZfS (s:Seg):Seg:=if bears s 16=true then ⟨s.goal,s.src,s.ans,0,4,0,0,[]⟩ else ⟨s.goal,s.src,0,Zn s.num (ZnT s),20,0,0,[]⟩
def Zbo (e:Zx) (s:Seg):Zx:=if bears s 4=true then e else { e with owed_reset:=some (ZfS s) }
def hearSyn (e:Zx) (s:Seg):Zx:={ e with rcv:=Zn s.num 1,wnd:=s.win,told:=s.num,told_by:=if bears s 16=true then s.ans else 0,most:=if s.most=0 then e.most else s.most }
def Zbs (e:Zx) (s:Seg):Zx:=
  if bears s 4=true then e
  else if bears s 16=true then Zbo e s
  else if bears s 2=true then { hearSyn { e with theirs:=s.src } s with state:=.synCome }
  else e
def Zer (e:Zx) (s:Seg):Bool:=!decide (e.nxt=e.first) && decide (s.ans=Zn e.first 1)
def Zai (e:Zx) (s:Seg) (now:Int):Zx:=
  if bears s 16=true∧Zer e s=false then Zbo e s
  else if bears s 4=true then (if bears s 16=true then { e with state:=.closed,error:=.refused } else e)
  else if bears s 2=true then
    (if bears s 16=true then { hearSyn e s with una:=s.ans,state:=.opn,owes_answer:=true }
     else { Z1 { hearSyn e s with state:=.synCome } now with owes_syn:=true })
  else e
def ZeO (e:Zx) (s:Seg):Bool:=decide (s.goal=e.ours) && (decide (e.state∈[State.closed,.listen]) || decide (s.src=e.theirs))
def ZgJ (e:Zx):Bool×Zx:=
  if e.has_closed=true then (false,e)
  else if e.state=.listen∨e.state=.synSent then (true,{ e with state:=.closed })
  else if e.state=.opn then (true,{ e with has_closed:=true,state:=.waitOne })
  else if e.state=.closeWait then (true,{ e with has_closed:=true,state:=.lastAck })
  else if e.state=.synCome then (true,{ e with has_closed:=true })
  else (false,e)
section
variable {θ:Sto} {l:Nat} {e:Zx} {s:Seg} {now f:Int}
@[simp] theorem ZwJ:Z8 [s.d,.int f] θ=.ok (.bl (bears s f)) θ:=by
  simp [Z8,Zjf,bears]
theorem Zgo:ZcA [s.d] θ=.ok (.int (ZnT s)) θ:=ZpK s θ
@[simp] theorem ZsT:ZbW [s.d] θ=.ok (ZfS s).d θ:=by
  by_cases c:bears s 16=true
  · simp [ZbW,ZdE,ZcU,c,ZfS,ZhF]
  · simp [ZbW,ZdE,ZcU,c,ZfS,ZhF,Zgo]
@[simp] theorem ZsU (h:l+3 < θ.length):Z0 [.ref l,s.d] (upE θ l e)=.ok .non (upE θ l (Zbo e s)):=by
  by_cases c:bears s 4=true
  · simp [Z0,Zcd,ZbF,h,c,Zbo]
  · simp [Z0,Zcd,ZbF,h,c,Zbo]
@[simp] theorem ZnC (h:l+3 < θ.length):ZaO [.ref l,s.d] (upE θ l e)=.ok .non (upE θ l (Zbo e s)):=by
  simp [ZaO,Zdo,h]
@[simp] theorem ZtG (h:l+3 < θ.length):ZbQ [.ref l,s.d] (upE θ l e)=.ok .non (upE θ l (hearSyn e s)):=by
  by_cases c:bears s 16=true<;>by_cases c2:s.most=0<;>simp [ZbQ,Zgh,Ze1,h,c,c2,hearSyn]
@[simp] theorem ZnB (h:l+3 < θ.length):zx [.ref l,s.d] (upE θ l e)=.ok .non (upE θ l (Zbs e s)):=by
  by_cases c:bears s 4=true
  · simp [zx,Zar,z0,h,c,Zbs]
  · by_cases c1:bears s 16=true
    · simp [zx,Zar,z0,ZaI,ZaH,h,c,c1,Zbs]
    · by_cases c2:bears s 2=true
      · simp [zx,Zar,z0,ZaI,ZaH,h,c,c1,c2,Zbs]
      · simp [zx,Zar,z0,ZaI,ZaH,h,c,c1,c2,Zbs]
@[simp] theorem Zrs (h:l+3 < θ.length):ZbK [.ref l,s.d] (upE θ l e)=.ok (.bl (Zer e s)) (upE θ l e):=by
  by_cases c:e.nxt=e.first<;>simp [ZbK,Zey,h,Zer,c]
@[simp] theorem Zmg (h:l+3 < θ.length):ZV [.ref l,s.d,.int now] (upE θ l e)=.ok .non (upE θ l (Zai e s now)):=by
  by_cases c:bears s 16=true
  · by_cases c1:Zer e s=true
    · by_cases c2:bears s 4=true
      · simp [ZV,Z6,ZX,za,ZeG,ZfI,Zel,h,c,c1,c2,Zai]
      · by_cases c3:bears s 2=true
        · simp [ZV,Z6,ZX,za,zF,zK,ZaT,Zat,h,c,c1,c2,c3,Zai]
        · simp [ZV,Z6,ZX,za,zF,h,c,c1,c2,c3,Zai]
    · simp [ZV,Z6,ZX,h,c,c1,Zai]
  · by_cases c2:bears s 4=true
    · simp [ZV,Z6,ZX,za,ZeG,ZfI,Zel,h,c,c2,Zai]
    · by_cases c3:bears s 2=true
      · simp [ZV,Z6,ZX,za,zF,zK,ZaT,Zat,h,c,c2,c3,Zai]
      · simp [ZV,Z6,ZX,za,zF,h,c,c2,c3,Zai]
@[simp] theorem Zvt (h:l+3 < θ.length):ZeI [.ref l,s.d] (upE θ l e)=.ok (.bl (ZeO e s)) (upE θ l e):=by
  simp [ZeI,Zih,h,ZeO]
theorem ZrJ (h:l+3 < θ.length):Zfa [.ref l] (upE θ l e)=.ok (.bl (ZgJ e).1) (upE θ l (ZgJ e).2):=by
  by_cases c:e.has_closed=true
  · simp [Zfa,ZgL,Ze5,h,c,ZgJ]
  · cases s:e.state<;>simp [Zfa,ZgL,Ze5,Zg8,Zg7,Zg6,Zg5,h,c,ZgJ,s]
theorem Zhi (h:l+3 < θ.length) {r:List Int} (hb:Byt r) (hr:Zax r=true) (hf:ZeO e (ZbE r)=true) (hs:e.state=.closed):zV [.ref l,il r,.int now] (upE θ l e)=.ok (.bl true) (upE θ l (Zbo e (ZbE r))):=by
  simp [zV,Zdp,Zck,Zcj,Zci,Zc9 hb,hr,ZmR hb hr,h,hf,hs]
theorem Zhh (h:l+3 < θ.length) {r:List Int} (hb:Byt r) (hr:Zax r=true) (hf:ZeO e (ZbE r)=true) (hs:e.state=.listen):zV [.ref l,il r,.int now] (upE θ l e)=.ok (.bl true) (upE θ l (Zbs e (ZbE r))):=by
  simp [zV,Zdp,Zck,Zcj,Zci,Zc4,Zc9 hb,hr,ZmR hb hr,h,hf,hs]
theorem Zgq (h:l+3 < θ.length) {r:List Int} (hb:Byt r) (hr:Zax r=true) (hf:ZeO e (ZbE r)=true) (hs:e.state=.synSent):zV [.ref l,il r,.int now] (upE θ l e)=.ok (.bl true) (upE θ l (Zai e (ZbE r) now)):=by
  simp [zV,Zdp,Zck,Zcj,Zci,Zc4,Zep,Zc9 hb,hr,ZmR hb hr,h,hf,hs]
@[simp] theorem ZwI {n k:Int}:Za6 [.int n,.int k] θ=.ok (.int (Zn n k)) θ:=by simp [Za6,Zma,Zn]
def Zby (n:Int):Int:=if n % 2=0 then (4294967296-n/2 % 90) % 4294967296 else n
@[simp] theorem Zvs {n:Int}:Zfe [.int n] θ=.ok (.int (Zby n)) θ:=by
  by_cases c:n % 2=0<;>simp [Zfe,Zjj,Zha,Zby,c]
end
end
end My
namespace My
open PySem L2 L2.MM
noncomputable section
section
variable {θ:Sto} {ρ:List Sl} {fi fo fe ff:EM} {fa:AM} {i j k:Nat} {b:SM} {x:D} {r:List D}
theorem nr' {p:Prop} (h:p):p:=h
@[simp] theorem ZAe:ZqA fi fo ρ θ=(fi ρ θ).bind fun y θ=>(fo ρ θ).bind fun d θ=>match ZlN y,ZgH θ d with
  | some k,some (_,kvs)=>.ok (.bl (valD kvs k).isSome) θ
  | _,_=>.bad:=nr' rfl
@[simp] theorem Zy1:Znf fo fe ρ θ=(fo ρ θ).bind fun d θ=>match ZgH θ d with
  | none=>.bad
  | some _=>(fe ρ θ).bind fun y θ=>match ZlN y,ZgH θ d with
    | some k,some (l,kvs)=>match valD kvs k with
      | some v=>.ok v (θ.set l (.dK (dropD kvs k)))
      | none=>.bad
    | _,_=>.bad:=nr' rfl
@[simp] theorem ZwB:Zmw fo fe ff ρ θ=(fo ρ θ).bind fun d θ=>match ZgH θ d with
  | none=>.bad
  | some _=>(fe ρ θ).bind fun y θ=>(ff ρ θ).bind fun z θ=>match ZlN y,ZgH θ d with
    | some k,some (l,kvs)=>if kvs.length<BIG then (match valD kvs k with
      | some v=>.ok v θ
      | none=>.ok z (θ.set l (.dK (putD kvs k z)))) else .bad
    | _,_=>.bad:=nr' rfl
@[simp] theorem ZyY {n:Int}:ZlN (.int n)=some (.inl n):=nr' rfl
end
abbrev EL:=List (Int×Int)
def atE (m:EL) (n:Int):Option Int:=(m.find? fun p=>decide (p.1=n)).map (·.2)
def Zdv (m:EL) (n:Int):EL:=m.filter fun p=>decide (p.1≠n)
def ZgW (m:EL) (n b:Int):EL:=match atE m n with | some _=>m | none=>m++[(n,b)]
abbrev ed (p:Int×Int):Key×D:=(Sum.inl p.1,D.int p.2)
theorem ZfN (n:Int):∀m:EL,valD (m.map ed) (.inl n)=(atE m n).map D.int
  | []=>rfl
  | p::r=>by
    have ih:=ZfN n r
    unfold valD atE at ih ⊢
    by_cases e:p.1=n
    · simp [ed,e]
    · simpa [ed,e] using ih
theorem ZlY (n:Int):∀m:EL,dropD (m.map ed) (.inl n)=(Zdv m n).map ed
  | []=>rfl
  | p::r=>by
    have ih:=ZlY n r
    unfold dropD Zdv at ih ⊢
    by_cases e:p.1=n
    · simpa [ed,e] using ih
    · simpa [ed,e] using ih
theorem Zri (n:Int):∀m:EL,((m.map ed).any fun kv=>decide (kv.1=Sum.inl n))=(atE m n).isSome
  | []=>rfl
  | p::r=>by
    have ih:=Zri n r
    unfold atE at ih ⊢
    by_cases e:p.1=n
    · simp [ed,e]
    · simpa [ed,e] using ih
theorem ZrU (n b:Int) (m:EL) (h:atE m n=none):putD (m.map ed) (.inl n) (.int b)=(m++[(n,b)]).map ed:=by
  unfold putD
  rw [Zri,h]
  simp [ed]
section
variable {θ:Sto} {l:Nat} {e:Zx} {s:Seg} {now:Int}
theorem dk3 (h:l+3 < θ.length):ZgH (upE θ l e) (.ref (l+3))=some (l+3,e.early.map ed):=by
  have:(upE θ l e)[l+3]?=some (c3 e):=by
    unfold upE
    rw [List.getElem?_set_self (by simpa using h)]
  show (match (upE θ l e)[l+3]? with | some (Cell.dK kvs)=>some (l+3,kvs) | _=>none)=_
  rw [this]
  rfl
theorem ZvC (h:l+3 < θ.length) (m:EL):(upE θ l e).set (l+3) (.dK (m.map ed))=upE θ l { e with early:=m }:=by
  unfold upE
  rw [List.set_set]
  rfl
end
def inWin (e:Zx) (n:Int):Bool:=decide (0≤ZY n e.rcv) && decide (ZY n e.rcv<Z7 e)
def Zfw (e:Zx) (s:Seg):Bool:=if ZnT s=0 then decide (0≤ZY s.num e.rcv) && decide (ZY s.num e.rcv≤64) else inWin e s.num || inWin e (Zn s.num (ZnT s-1))
def ZeA (e:Zx) (s:Seg) (now:Int):Zx:=
  if bears s 4=true then e
  else if e.state=.timeWait then { e with owes_answer:=true,since:=now }
  else if e.state=.synCome∧bears s 2=true∧bears s 16=false then { e with owes_syn:=true }
  else { e with owes_answer:=true }
def Zff (e:Zx) (s:Seg):Zx:=if e.state=.timeWait then e else if s.num=e.rcv then { e with state:=.closed,error:=.reset } else { e with owes_answer:=true }
def Zag (a b:Int):Bool:=decide (0<ZY a b)
def Zd2 (e:Zx) (s:Seg):Zx:={ e with wnd:=s.win,told:=s.num,told_by:=s.ans }
def ZaJ (e:Zx) (s:Seg):Bool×Zx:=
  if e.nxt=e.first∨¬s.ans=e.nxt then (false,Zbo e s)
  else (true,Zd2 { e with una:=s.ans,state:=if e.has_closed=true then .waitOne else .opn } s)
def isNewer (e:Zx) (s:Seg):Bool:=if s.num=e.told then !Zag e.told_by s.ans else Zag s.num e.told
def ZbL (e:Zx) (s:Seg) (now:Int):Zx:=
  if Zag s.ans e.una=true then
    (if s.ans=e.nxt then { e with written:=e.written.drop (ZY s.ans e.una).toNat,una:=s.ans } else Z1 { e with written:=e.written.drop (ZY s.ans e.una).toNat,una:=s.ans } now)
  else e
def zE (e:Zx) (s:Seg) (now:Int):Zx:=
  let e1:=ZbL e s now
  if Zag e1.una s.ans=true then e1
  else
    let e2:=if (Zag s.ans e.una || isNewer e1 s)=true then Zd2 e1 s else e1
    if e1.wnd=0∨e2.wnd=0 then { e2 with tries:=0 } else e2
def Zd4 (e:Zx):Bool:=Zag e.nxt e.behind
def Zaz (e:Zx) (now:Int):Zx:=
  if Zd4 e=false∨¬e.una=e.nxt then e
  else if e.state=.waitOne then { e with state:=.waitTwo }
  else if e.state=.closing then { e with state:=.timeWait,since:=now }
  else if e.state=.lastAck then { e with state:=.closed }
  else e
def Zac (e:Zx) (s:Seg) (now:Int):Bool×Zx:=
  if e.state=.synCome then ZaJ e s
  else if Zag s.ans e.nxt=true then (false,{ e with owes_answer:=true })
  else (!decide ((Zaz (zE e s now) now).state=.closed),Zaz (zE e s now) now)
def Zbh (e:Zx) (num:Int):Nat→List Int→Zx
  | _,[]=>e
  | k,b::r=>Zbh (if inWin e (Zn num k)=true then { e with early:=ZgW e.early (Zn num k) b } else e) num (k+1) r
def ZaR (e:Zx) (s:Seg):Zx:=if 0<s.data.length then { Zbh e s.num 0 s.data with owes_answer:=true } else Zbh e s.num 0 s.data
def Zca (e:Zx) (s:Seg):Zx:=
  if bears s 1=false then e
  else if e.early_fin=none∧inWin e (Zn s.num s.data.length)=true then { e with owes_answer:=true,early_fin:=some (Zn s.num s.data.length) }
  else { e with owes_answer:=true }
def drawn:Nat→Zx→List Int×Zx
  | 0,e=>([],e)
  | n+1,e=>if e.early_fin=some e.rcv then ([],e) else match atE e.early e.rcv with
    | none=>([],e)
    | some b=>(b::(drawn n { e with early:=Zdv e.early e.rcv,rcv:=Zn e.rcv 1 }).1,(drawn n { e with early:=Zdv e.early e.rcv,rcv:=Zn e.rcv 1 }).2)
def Zho (e:Zx) (r:List Int):Zx:={ e with come:=e.come++Zbe r none (some (Z7 e)) }
def Zhp (e:Zx) (now:Int):Zx:=
  if e.state=.opn then { e with rcv:=Zn e.rcv 1,state:=.closeWait }
  else if e.state=.waitOne then { e with rcv:=Zn e.rcv 1,state:=.closing }
  else { e with rcv:=Zn e.rcv 1,state:=.timeWait,since:=now }
section
variable {θ:Sto} {l:Nat} {e:Zx} {s:Seg} {now n a b:Int}
@[simp] theorem Zy9:Zcl [.int a,.int b] θ=.ok (.bl (Zag a b)) θ:=by simp [Zcl,Zl8,Zag]
@[simp] theorem Ztx (h:l+3 < θ.length):Zbn [.ref l] (upE θ l e)=.ok (.bl (Zd4 e)) (upE θ l e):=by
  simp [Zbn,ZdV,h,Zd4]
@[simp] theorem ZsW (h:l+3 < θ.length):zo [.ref l,.int n] (upE θ l e)=.ok (.bl (inWin e n)) (upE θ l e):=by
  by_cases c:0≤ZY n e.rcv<;>simp [zo,ZdU,h,inWin,Z7,c]<;>exact decide_eq_decide.mpr Iff.rfl
@[simp] theorem Zza (h:l+3 < θ.length):Zgv [.ref l,s.d] (upE θ l e)=.ok (.bl (Zfw e s)) (upE θ l e):=by
  by_cases c:ZnT s=0
  · by_cases c1:0≤ZY s.num e.rcv<;>simp [Zgv,Zik,ZfJ,h,Zgo,c,c1,Zfw]
  · by_cases c1:inWin e s.num=true<;>simp [Zgv,Zik,ZfJ,h,Zgo,c,c1,Zfw]
@[simp] theorem ZsS (h:l+3 < θ.length):Zbm [.ref l,s.d,.int now] (upE θ l e)=.ok .non (upE θ l (ZeA e s now)):=by
  by_cases c4:bears s 4=true
  · simp [Zbm,Zcv,ZbN,h,c4,ZeA]
  · by_cases ct:e.state=.timeWait
    · simp [Zbm,Zcv,ZbN,ZcT,ZcS,h,c4,ct,ZeA]
    · by_cases cs:e.state=.synCome<;>by_cases c2:bears s 2=true<;>by_cases c16:bears s 16=true<;>simp [Zbm,Zcv,ZbN,ZcT,ZcS,h,c4,ct,cs,c2,c16,ZeA]
@[simp] theorem ZrE (h:l+3 < θ.length):Zbt [.ref l,s.d] (upE θ l e)=.ok .non (upE θ l (Zff e s)):=by
  by_cases ct:e.state=.timeWait
  · simp [Zbt,Zdm,Zcu,Zct,h,ct,Zff]
  · by_cases c:s.num=e.rcv<;>simp [Zbt,Zdm,Zcu,Zct,h,ct,c,Zff]
@[simp] theorem Zro (h:l+3 < θ.length):ZaK [.ref l,s.d] (upE θ l e)=.ok .non (upE θ l (Zd2 e s)):=by
  simp [ZaK,Zev,h,Zd2]
@[simp] theorem ZpN (h:l+3 < θ.length):zr [.ref l,s.d] (upE θ l e)=.ok (.bl (ZaJ e s).1) (upE θ l (ZaJ e s).2):=by
  by_cases c1:e.nxt=e.first
  · simp [zr,ZaD,Zae,h,c1,ZaJ]
  · by_cases c2:s.ans=e.nxt
    · by_cases c3:e.has_closed=true<;>simp [zr,ZaD,Zae,h,c1,c2,c3,ZaJ]
    · simp [zr,ZaD,Zae,h,c1,c2,ZaJ]
@[simp] theorem ZtE (h:l+3 < θ.length):Zdf [.ref l,s.d] (upE θ l e)=.ok (.bl (isNewer e s)) (upE θ l e):=by
  by_cases c:s.num=e.told<;>simp [Zdf,Zgg,Ze0,h,c,isNewer]
theorem Zry (h:l+3 < θ.length):ZfB [.ref (l+1),.int n] (upE θ l e)=.ok (il (e.written.take n.toNat)) (upE θ l { e with written:=e.written.drop n.toNat }):=by
  by_cases c:0<n
  · simp [ZfB,Zge,h,ZfG,Zdi,c,show 0≤n by omega,show ¬n<0 by omega]
  · have z:n.toNat=0:=by omega
    by_cases c0:n<0
    · simp [ZfB,Zge,h,ZfG,Zdi,z,c0,ZcQ]
    · have n0:n=0:=by omega
      simp [ZfB,Zge,h,ZfG,Zdi,n0,ZcQ]
@[simp] theorem Zrq (h:l+3 < θ.length):zQ [.ref l,s.d,.int now] (upE θ l e)=.ok .non (upE θ l (zE e s now)):=by
  have tk:=fun (e:Zx) (n:Int)=>Zry (θ:=θ) (l:=l) (e:=e) (n:=n) h
  have h2:ZaC [.val (.ref l),.val s.d,.val (.int now),.val (.int s.ans),.val (.bl (Zag s.ans e.una)),.no] (upE θ l e)=.ok (.nx,[.val (.ref l),.val s.d,.val (.int now),.val (.int s.ans),.val (.bl (Zag s.ans e.una)),.no]) (upE θ l (ZbL e s now)):=by
    unfold ZbL
    by_cases c1:Zag s.ans e.una=true
    · rw [if_pos c1]
      by_cases c2:s.ans=e.nxt
      · rw [if_pos c2,c1]
        simp [ZaC,Zcg,h,tk,c2]
      · rw [if_neg c2,c1]
        simp [ZaC,Zcg,h,tk,c2]
    · rw [if_neg c1]
      simp [ZaC,c1]
  unfold zE
  obtain ⟨e1,he1⟩:∃x,x=ZbL e s now:=⟨_,rfl⟩
  rw [←he1] at h2 ⊢
  obtain ⟨g,hg⟩:∃x,x=Zag s.ans e.una:=⟨_,rfl⟩
  rw [←hg] at h2 ⊢
  clear he1
  by_cases c3:Zag e1.una s.ans=true
  · simp [zQ,Zbc,h,←hg,h2,ZaB,c3]
  · have w0:∀x:Zx,(if (g || isNewer e1 s)=true then Zd2 e1 s else e1)=x→zQ [.ref l,s.d,.int now] (upE θ l e)=.ok .non (upE θ l (if e1.wnd=0∨x.wnd=0 then { x with tries:=0 } else x)):=by
      intro x hx
      have h4:Zbk [.val (.ref l),.val s.d,.val (.int now),.val (.int s.ans),.val (.bl g),.val (.bl (decide (e1.wnd=0)))] (upE θ l e1)=.ok (.nx,[.val (.ref l),.val s.d,.val (.int now),.val (.int s.ans),.val (.bl g),.val (.bl (decide (e1.wnd=0)))]) (upE θ l x):=by
        rw [←hx]
        cases g
        · by_cases c:isNewer e1 s=true<;>simp [Zbk,h,c]
        · simp [Zbk,h]
      by_cases c5:e1.wnd=0
      · rw [if_pos (.inl c5)]
        simp [zQ,Zbc,h,←hg,h2,ZaB,c3,c5] at h4 ⊢
        simp [h4,Zbj,h]
      · by_cases c6:x.wnd=0
        · rw [if_pos (.inr c6)]
          simp [zQ,Zbc,h,←hg,h2,ZaB,c3,c5] at h4 ⊢
          simp [h4,Zbj,h,c6]
        · rw [if_neg (by intro z; exact z.elim c5 c6)]
          simp [zQ,Zbc,h,←hg,h2,ZaB,c3,c5] at h4 ⊢
          simp [h4,Zbj,h,c6]
    simp only [if_neg c3]
    exact w0 _ rfl
@[simp] theorem ZsX (h:l+3 < θ.length):ZU [.ref l,.int now] (upE θ l e)=.ok .non (upE θ l (Zaz e now)):=by
  by_cases c1:Zd4 e=true
  · by_cases c2:e.una=e.nxt
    · cases c:e.state<;>simp [ZU,zp,zk,ZaW,ZaV,ZaU,h,c,c1,c2,Zaz]
    · simp [ZU,zp,zk,h,c1,c2,Zaz]
  · simp [ZU,zp,zk,h,c1,Zaz]
@[simp] theorem ZuZ (h:l+3 < θ.length):Z2 [.ref l,s.d,.int now] (upE θ l e)=.ok (.bl (Zac e s now).1) (upE θ l (Zac e s now).2):=by
  by_cases c1:e.state=.synCome
  · simp [Z2,zI,zz,h,c1,Zac]
  · by_cases c2:Zag s.ans e.nxt=true
    · simp [Z2,zI,zz,Zaf,h,c1,c2,Zac]
    · simp [Z2,zI,zz,Zaf,h,c1,c2,Zac]
end
end
end My
namespace My
open PySem L2 L2.MM
noncomputable section
theorem Zi2 (m:EL) (n b:Int):(ZgW m n b).length≤m.length+1:=by
  unfold ZgW
  cases atE m n<;>simp
section
variable {θ:Sto} {l:Nat} {e:Zx} {s:Seg} {now n b:Int}
abbrev keepB:SM:=Zr (ZQ 4 (mCB zq (Zc (mOp ixM (Zd 1) (mC (.int 2))) (Zc (Zd 2) Zk)))) Zbb
theorem ZrD (h:l+3 < θ.length) (k:Nat) (x:Sl) (he:e.early.length<1000):keepB [.val (.ref l),.val s.d,.val (.int k),.val (.int b),x] (upE θ l e)=.ok (.nx,[.val (.ref l),.val s.d,.val (.int k),.val (.int b),.val (.int (Zn s.num k))]) (upE θ l (if inWin e (Zn s.num k)=true then { e with early:=ZgW e.early (Zn s.num k) b } else e)):=by
  have hd:=fun (e:Zx)=>dk3 (θ:=θ) (l:=l) (e:=e) h
  have hs:=fun (e:Zx) (m:EL)=>ZvC (θ:=θ) (l:=l) (e:=e) h m
  have hB:(e.early.map ed).length<BIG:=by simp [BIG]; omega
  obtain ⟨n,hn⟩:∃n,n=Zn s.num k:=⟨_,rfl⟩
  by_cases c:inWin e n=true
  · unfold ZgW
    cases c2:atE e.early n with
    | some v=>
      simp [Zbb,h,←hn,c,hd,hB,ZfN,c2,-List.length_map]
    | none=>
      simp [Zbb,h,←hn,c,hd,hB,ZfN,c2,ZrU,hs,-List.length_map,-List.map_append]
  · simp [Zbb,h,←hn,c]
theorem ZmP (h:l+3 < θ.length):∀(r:List Int) (k:Nat) (x y z:Sl) (e:Zx),e.early.length+r.length<1000→
    ∃x' y' z',forE 2 3 keepB k (r.map D.int) [.val (.ref l),.val s.d,x,y,z] (upE θ l e)=.ok (.nx,[.val (.ref l),.val s.d,x',y',z']) (upE θ l (Zbh e s.num k r))
  | [],k,x,y,z,e,_=>⟨x,y,z,rfl⟩
  | b::r,k,x,y,z,e,hl=>by
    have hl':e.early.length+r.length+1<1000:=by simpa [Nat.add_assoc] using hl
    show ∃x' y' z',(keepB [.val (.ref l),.val s.d,.val (.int k),.val (.int b),z] (upE θ l e)).bind (Zfu (forE 2 3 keepB (k+1) (r.map D.int)))=_
    rw [ZrD h k z (by omega)]
    exact ZmP h r (k+1) _ _ _ _ (by
      split
      · have:=Zi2 e.early (Zn s.num k) b
        show (ZgW e.early (Zn s.num k) b).length+r.length<1000
        omega
      · omega)
@[simp] theorem Zlk (h:l+3 < θ.length) (hl:e.early.length+s.data.length<1000):ZbX [.ref l,s.d] (upE θ l e)=.ok .non (upE θ l (ZaR e s)):=by
  obtain ⟨x,y,z,g⟩:=ZmP (s:=s) h s.data 0 .no .no .no e hl
  have h2:ZcW [.val (.ref l),.val s.d,.no,.no,.no] (upE θ l e)=.ok (.nx,[.val (.ref l),.val s.d,x,y,z]) (upE θ l (Zbh e s.num 0 s.data)):=by
    rw [←g]
    simp [ZcW,Zqz]
    rfl
  obtain ⟨e1,he1⟩:∃q,q=Zbh e s.num 0 s.data:=⟨_,rfl⟩
  unfold ZaR
  rw [←he1] at h2 ⊢
  by_cases c:0<s.data.length
  · rw [if_pos c]
    simp [ZbX,ZdH,h2,ZcV,h,c]
  · rw [if_neg c]
    simp [ZbX,ZdH,h2,ZcV,h,c]
@[simp] theorem ZtT (h:l+3 < θ.length) (e:Zx) (n:Int):zb ["End"] "early_fin" (.int n) (.ref l) (upE θ l e)=some (upE θ l { e with early_fin:=some n }):=Zls h e (some n)
@[simp] theorem Zu7 (r:Option Int):ZcF (Zhk r)=r.isNone:=by cases r<;>rfl
theorem Zlj (h:l+3 < θ.length):ZaS [.val (.ref l),.val s.d,.val (.int n)] (upE θ l e)=.ok (.nx,[.val (.ref l),.val s.d,.val (.int n)]) (upE θ l (if e.early_fin=none∧inWin e n=true then { e with early_fin:=some n } else e)):=by
  by_cases c2:e.early_fin=none
  · by_cases c3:inWin e n=true
    · rw [if_pos ⟨c2,c3⟩]
      have q:∀f,e.early_fin=f→f=none→ZaS [.val (.ref l),.val s.d,.val (.int n)] (upE θ l e)=.ok (.nx,[.val (.ref l),.val s.d,.val (.int n)]) (upE θ l { e with early_fin:=some n }):=by
        intro f hf h0
        have h1:e.early_fin.isNone=true:=by rw [hf,h0]; rfl
        simp [ZaS,h,h1,c3]
      exact q _ rfl c2
    · rw [if_neg fun z=>c3 z.2]
      have h1:e.early_fin.isNone=true:=by rw [c2]; rfl
      simp [ZaS,h,h1,c3]
  · rw [if_neg fun z=>c2 z.1]
    have h1:e.early_fin.isNone=false:=by cases q:e.early_fin<;>first | exact absurd q c2 | rfl
    simp [ZaS,h,h1]
@[simp] theorem Zmf (h:l+3 < θ.length):Zcn [.ref l,s.d] (upE θ l e)=.ok .non (upE θ l (Zca e s)):=by
  unfold Zca
  by_cases c1:bears s 1=true
  · obtain ⟨n,hn⟩:∃n,n=Zn s.num s.data.length:=⟨_,rfl⟩
    have k2:=Zlj (e:={ e with owes_answer:=true }) (s:=s) (n:=n) h
    rw [←hn,c1]
    simp [Zcn,Zen,Zdl,h,c1,←hn,k2]
    rfl
  · simp [Zcn,Zen,Zdl,c1]
@[simp] theorem ZzA (n:Int) (r:Option Int):neM (.int n) (Zhk r) θ=.ok (.bl (!decide (r=some n))) θ:=by
  cases r with
  | none=>rw [ZhP (by exact Zei rfl rfl rfl rfl)]; simp [look,Zhk]
  | some m=>simp [Zhk,eq_comm]
@[simp] theorem ZzT (n:Int) (r:Option Int):eqM (.int n) (Zhk r) θ=.ok (.bl (decide (r=some n))) θ:=by
  cases r with
  | none=>rw [ZjG (by exact Zei rfl rfl rfl rfl)]; simp [look,Zhk]
  | some m=>simp [Zhk,eq_comm]
abbrev Zq0:TMr:=ZhS (ZK (mOp neM (ZJ ["End"] "rcv" (Zd 0)) (ZJ ["End"] "early_fin" (Zd 0)))) (ZK (ZqA (ZJ ["End"] "rcv" (Zd 0)) (ZJ ["End"] "early" (Zd 0))))
abbrev Zq1:SM:=Zr (Zeg 1 (Znf (ZJ ["End"] "early" (Zd 0)) (ZJ ["End"] "rcv" (Zd 0))))
    (ZH ["End"] "rcv" (Zd 0) (mCB zq (Zc (ZJ ["End"] "rcv" (Zd 0)) (Zc (mC (.int 1)) Zk))))
theorem ZrH (h:l+3 < θ.length) (x:Sl):Zq0 [.val (.ref l),x] (upE θ l e)=.ok (!decide (e.early_fin=some e.rcv) && (atE e.early e.rcv).isSome) (upE θ l e):=by
  have hd:=fun (e:Zx)=>dk3 (θ:=θ) (l:=l) (e:=e) h
  by_cases c:e.early_fin=some e.rcv<;>simp [h,hd,ZfN,c]
theorem ZrI (h:l+3 < θ.length) {b:Int} (xs:List D) (hx:xs.length<BIG) (hv:atE e.early e.rcv=some b):Zq1 [.val (.ref l),.own xs] (upE θ l e)=.ok (.nx,[.val (.ref l),.own (xs++[.int b])]) (upE θ l { e with early:=Zdv e.early e.rcv,rcv:=Zn e.rcv 1 }):=by
  have hd:=fun (e:Zx)=>dk3 (θ:=θ) (l:=l) (e:=e) h
  have hs:=fun (e:Zx) (m:EL)=>ZvC (θ:=θ) (l:=l) (e:=e) h m
  simp [h,hd,ZfN,hv,ZlY,hs,hx]
theorem ZqZ {m:EL} {n b:Int} (h:atE m n=some b):(Zdv m n).length<m.length:=by
  induction m with
  | nil=>simp [atE] at h
  | cons p r ih=>
    unfold Zdv atE at *
    by_cases e:p.1=n
    · simp [e]
      exact Nat.lt_succ_of_le (List.length_filter_le ..)
    · simp [e] at h ⊢
      have:=ih (by simpa using h)
      simpa using this
theorem ZmS (h:l+3 < θ.length):∀(n:Nat) (e:Zx) (xs:List Int),e.early.length<n→xs.length+n<1000→ZcK Zq0 Zq1 n [.val (.ref l),.own (xs.map D.int)] (upE θ l e)=.ok (.nx,[.val (.ref l),.own ((xs++(drawn n e).1).map D.int)]) (upE θ l (drawn n e).2)
  | 0,e,xs,hn,_=>absurd hn (Nat.not_lt_zero _)
  | n+1,e,xs,hn,hx=>by
    rw [Zhl,ZrH h]
    unfold drawn
    by_cases c:e.early_fin=some e.rcv
    · simp [c]
    · cases c2:atE e.early e.rcv with
      | none=>simp [c]
      | some b=>
        have:=ZmS h n { e with early:=Zdv e.early e.rcv,rcv:=Zn e.rcv 1 } (xs++[b]) (by have:=ZqZ c2; simp only; omega) (by simp; omega)
        rw [if_neg c]
        simp only [c,decide_false,Bool.not_false,Bool.true_and,Option.isSome_some,R.bind,if_true]
        rw [ZrI h (xs.map D.int) (by simp [BIG]; omega) c2]
        simp only [R.bind,Zfu]
        rw [List.map_append] at this
        simpa [List.append_assoc] using this
theorem Zh6:∀(n:Nat) (e:Zx),(drawn n e).2.come=e.come
  | 0,e=>rfl
  | n+1,e=>by
    unfold drawn
    split
    · rfl
    · split
      · rfl
      · exact Zh6 n _
theorem Znm {r:List Int} {k:Int} (h:0≤k):((Zbe r none (some k)).length:Int)≤k:=by
  rw [ZfG r h]
  have:=List.length_take_le k.toNat r
  omega
theorem ZtD (h:l+3 < θ.length) (hc:e.come.length≤64) (r:List Int):ZfX [.ref (l+2),il r] (upE θ l e)=.ok (.int (Zbe r none (some (Z7 e))).length) (upE θ l (Zho e r)):=by
  have h1:e.come.length+(Zbe r none (some (Z7 e))).length≤100000:=by
    have:=Znm (r:=r) (k:=Z7 e) (by unfold Z7; omega)
    unfold Z7 at *
    omega
  simp [ZfX,ZjM,h,Zho,h1]
@[simp] theorem ZwG (h:l+3 < θ.length):Zd7 [.ref (l+1)] (upE θ l e)=.ok (.int (64-(e.written.length:Int))) (upE θ l e):=by
  simp [Zd7,Zid,h]
theorem ZtC (h:l+3 < θ.length) (hc:e.written.length≤64) (r:List Int):ZfX [.ref (l+1),il r] (upE θ l e)=.ok (.int (Zbe r none (some (64-(e.written.length:Int)))).length) (upE θ l { e with written:=e.written++Zbe r none (some (64-(e.written.length:Int))) }):=by
  have h1:e.written.length+(Zbe r none (some (64-(e.written.length:Int)))).length≤100000:=by
    have:=Znm (r:=r) (k:=64-(e.written.length:Int)) (by omega)
    omega
  simp [ZfX,ZjM,h,h1]
def Zf9 (e:Zx):Zx:=Zho (drawn 200 e).2 (drawn 200 e).1
theorem Zhf (h:l+3 < θ.length) (hc:e.come.length≤64) (he:e.early.length<200):Za9 [.ref l] (upE θ l e)=.ok .non (upE θ l (Zf9 e)):=by
  have g:=ZmS h 200 e [] he (by simp)
  have g1:ZbH [.val (.ref l),.own []] (upE θ l e)=.ok (.nx,[.val (.ref l),.own ((drawn 200 e).1.map D.int)]) (upE θ l (drawn 200 e).2):=by
    have q:ZbH=ZcK Zq0 Zq1 200:=rfl
    rw [q]
    simpa using g
  have hc1:(drawn 200 e).2.come.length≤64:=by rw [Zh6]; exact hc
  obtain ⟨e1,he1⟩:∃q,q=(drawn 200 e).2:=⟨_,rfl⟩
  obtain ⟨r1,hr1⟩:∃q,q=(drawn 200 e).1:=⟨_,rfl⟩
  unfold Zf9
  rw [←he1,←hr1] at g1 ⊢
  rw [←he1] at hc1
  have tl:=ZtD (e:=e1) h hc1 r1
  simp [Za9,Zdz,g1,h,tl]
@[simp] theorem ZtH (h:l+3 < θ.length):Zco [.ref l,.int now] (upE θ l e)=.ok .non (upE θ l (Zhp e now)):=by
  by_cases c1:e.state=.opn
  · simp [Zco,Zeo,Zdn,h,c1,Zhp]
  · by_cases c2:e.state=.waitOne<;>simp [Zco,Zeo,Ze2,Zdn,h,c1,c2,Zhp]
def Zb3 (e:Zx) (s:Seg):Zx:=Zf9 (Zca (ZaR e s) s)
def Zbq (e:Zx) (s:Seg) (now:Int):Zx:=
  if e.state=.opn∨e.state=.waitOne∨e.state=.waitTwo then
    (if (Zb3 e s).early_fin=some (Zb3 e s).rcv then Zhp (Zb3 e s) now else Zb3 e s)
  else e
theorem ZgX (num:Int):∀(r:List Int) (k:Nat) (e:Zx),(Zbh e num k r).early.length≤e.early.length+r.length
  | [],k,e=>Nat.le_refl _
  | b::r,k,e=>by
    unfold Zbh
    refine Nat.le_trans (ZgX num r (k+1) _) ?_
    split
    · have:=Zi2 e.early (Zn num k) b
      simp only [List.length_cons]
      omega
    · simp only [List.length_cons]; omega
theorem Ziz (e:Zx) (s:Seg):(Zca e s).early=e.early:=by
  unfold Zca
  split
  · rfl
  · split<;>rfl
theorem Zjy (e:Zx) (s:Seg):(ZaR e s).early.length≤e.early.length+s.data.length:=by
  unfold ZaR
  split<;>exact ZgX ..
theorem Zf6 (num:Int):∀(r:List Int) (k:Nat) (e:Zx),(Zbh e num k r).come=e.come
  | [],k,e=>rfl
  | b::r,k,e=>by
    unfold Zbh
    rw [Zf6 num r (k+1) _]
    split<;>rfl
theorem Zjx (e:Zx) (s:Seg):(Zca e s).come=e.come:=by
  unfold Zca
  split
  · rfl
  · split<;>rfl
theorem ZiA (e:Zx) (s:Seg):(ZaR e s).come=e.come:=by
  unfold ZaR
  split<;>exact Zf6 ..
theorem Ziw (h:l+3 < θ.length) (hc:e.come.length≤64) (hl:e.early.length+s.data.length<200):ZaL [.ref l,s.d,.int now] (upE θ l e)=.ok .non (upE θ l (Zbq e s now)):=by
  unfold Zbq
  by_cases c:e.state=.opn∨e.state=.waitOne∨e.state=.waitTwo
  · rw [if_pos c]
    have k1:=Zlk (e:=e) (s:=s) h (by omega)
    have k2:=Zmf (e:=ZaR e s) (s:=s) h
    have k3:=Zhf (e:=Zca (ZaR e s) s) h (by rw [Zjx,ZiA]; exact hc) (by rw [Ziz]; have:=Zjy e s; omega)
    have k4:Zf9 (Zca (ZaR e s) s)=Zb3 e s:=rfl
    rw [k4] at k3
    obtain ⟨e3,he3⟩:∃q,q=Zb3 e s:=⟨_,rfl⟩
    rw [←he3] at k3 ⊢
    have c':e.state∈[State.opn,.waitOne,.waitTwo]:=by simpa using c
    by_cases c2:e3.early_fin=some e3.rcv
    · simp [ZaL,ZbO,Zbi,h,c,k1,k2,k3,Zcf,c2]
    · simp [ZaL,ZbO,Zbi,h,c,k1,k2,k3,Zcf,c2]
  · rw [if_neg c]
    simp [ZaL,ZbO,Zbi,h,c]
def Za3 (e:Zx) (s:Seg) (now:Int):Zx:=
  if Zfw e s=false then ZeA e s now
  else if bears s 4=true then Zff e s
  else if bears s 2=true then { e with owes_answer:=true }
  else if bears s 16=true then (if (Zac e s now).1=true then Zbq (Zac e s now).2 s now else (Zac e s now).2)
  else e
theorem ZjD (e:Zx) (s:Seg) (now:Int):(Zac e s now).2.early=e.early:=by
  unfold Zac
  split
  · unfold ZaJ
    split
    · unfold Zbo; split<;>rfl
    · rfl
  · split
    · rfl
    · show (Zaz (zE e s now) now).early=e.early
      have h1:(ZbL e s now).early=e.early:=by
        unfold ZbL
        split
        · split<;>rfl
        · rfl
      have h2:(zE e s now).early=e.early:=by
        unfold zE
        simp only
        split
        · exact h1
        · split
          · split<;>exact h1
          · split<;>exact h1
      unfold Zaz
      split
      · exact h2
      · split
        · exact h2
        · split
          · exact h2
          · split<;>exact h2
theorem ZlS (e:Zx) (s:Seg) (now:Int):(Zac e s now).2.come=e.come:=by
  unfold Zac
  split
  · unfold ZaJ
    split
    · unfold Zbo; split<;>rfl
    · rfl
  · split
    · rfl
    · show (Zaz (zE e s now) now).come=e.come
      have h1:(ZbL e s now).come=e.come:=by
        unfold ZbL
        split
        · split<;>rfl
        · rfl
      have h2:(zE e s now).come=e.come:=by
        unfold zE
        simp only
        split
        · exact h1
        · split
          · split<;>exact h1
          · split<;>exact h1
      unfold Zaz
      split
      · exact h2
      · split
        · exact h2
        · split
          · exact h2
          · split<;>exact h2
theorem Zgp (h:l+3 < θ.length) (hc:e.come.length≤64) (hl:e.early.length+s.data.length<200):zh [.ref l,s.d,.int now] (upE θ l e)=.ok .non (upE θ l (Za3 e s now)):=by
  unfold Za3
  by_cases c1:Zfw e s=true
  · by_cases c2:bears s 4=true
    · simp [zh,zv,zj,zy,h,c1,c2]
    · by_cases c3:bears s 2=true
      · simp [zh,zv,zj,zy,zZ,h,c1,c2,c3]
      · by_cases c4:bears s 16=true
        · have hs:=Ziw (e:=(Zac e s now).2) (s:=s) (now:=now) h (by rw [ZlS]; exact hc) (by rw [ZjD]; exact hl)
          by_cases c5:(Zac e s now).1=true
          · simp [zh,zv,zj,zy,zZ,ZaG,h,c1,c2,c3,c4,c5,hs]
          · simp [zh,zv,zj,zy,zZ,ZaG,h,c1,c2,c3,c4,c5]
        · simp [zh,zv,zj,zy,zZ,ZaG,h,c1,c2,c3,c4]
  · simp [zh,zv,zj,h,c1]
theorem Zhg (h:l+3 < θ.length) (hc:e.come.length≤64) {r:List Int} (hb:Byt r) (hr:Zax r=true) (hf:ZeO e (ZbE r)=true) (hl:e.early.length+(ZbE r).data.length<200) (h1:¬e.state=.closed) (h2:¬e.state=.listen) (h3:¬e.state=.synSent):zV [.ref l,il r,.int now] (upE θ l e)=.ok (.bl true) (upE θ l (Za3 e (ZbE r) now)):=by
  simp [zV,Zdp,Zck,Zcj,Zci,Zc4,Zep,Zc9 hb,hr,ZmR hb hr,h,hf,h1,h2,h3,Zgp h hc hl]
def comes (e:Zx) (s:Seg) (now:Int):Zx:=
  match e.state with
  | .closed=>Zbo e s
  | .listen=>Zbs e s
  | .synSent=>Zai e s now
  | _=>Za3 e s now
theorem ZcY (h:l+3 < θ.length) (hc:e.come.length≤64) (hs:s.Ok) (hf:ZeO e s=true) (hl:e.early.length<150):zV [.ref l,il (putL s),.int now] (upE θ l e)=.ok (.bl true) (upE θ l (comes e s now)):=by
  have hb:=Zm0 hs.put
  have hr:=ZiN hs
  have hg:=Zni hs
  have hd:s.data.length≤16:=hs.data.2
  unfold comes
  cases c:e.state
  · simp only
    rw [Zhi h hb hr (by rw [hg]; exact hf) c,hg]
  · simp only
    rw [Zhh h hb hr (by rw [hg]; exact hf) c,hg]
  · simp only
    rw [Zgq h hb hr (by rw [hg]; exact hf) c,hg]
  all_goals
    simp only
    rw [Zhg h hc hb hr (by rw [hg]; exact hf) (by rw [hg]; omega) (by rw [c]; decide) (by rw [c]; decide) (by rw [c]; decide),hg]
def ZeU (e:Zx):Bool:=!e.has_closed && decide (e.state∈[State.synSent,.synCome,.opn,.closeWait])
def ZiD (e:Zx) (r:List Int):List Int:=Zbe r none (some (64-(e.written.length:Int)))
def Zjl (e:Zx) (r:List Int):Zx:=if ZeU e=true then { e with written:=e.written++ZiD e r,behind:=Zn e.behind (ZiD e r).length } else e
theorem Zrx (h:l+3 < θ.length) (hc:e.written.length≤64) (r:List Int):Zd6 [.ref l,il r] (upE θ l e)=.ok (.int (if ZeU e=true then (ZiD e r).length else 0)) (upE θ l (Zjl e r)):=by
  have hw:ZiD e r=Zbe r none (some (64-(e.written.length:Int))):=rfl
  unfold Zjl ZeU
  by_cases c:e.has_closed=true
  · simp [Zd6,Zfh,Zdx,h,c]
  · by_cases c2:e.state∈[State.synSent,.synCome,.opn,.closeWait]
    · have c2':e.state=State.synSent∨e.state=State.synCome∨e.state=State.opn∨e.state=State.closeWait:=by simpa using c2
      simp [Zd6,Zfh,Zdx,h,c,c2',←hw,ZtC h hc]
    · have c2':¬(e.state=State.synSent∨e.state=State.synCome∨e.state=State.opn∨e.state=State.closeWait):=by simpa using c2
      simp [Zd6,Zfh,Zdx,h,c,c2']
end
end
end My
namespace My
open PySem L2 L2.MM
noncomputable section
theorem Zqg {n k:Int} (h : -2147483648≤k∧k<2147483648):ZY (Zn n k) n=k:=by
  unfold ZY Zn; omega
theorem ZdP {n j k:Int} (h : -2147483648≤j-k∧j-k<2147483648):ZY (Zn n j) (Zn n k)=j-k:=by
  unfold ZY Zn; omega
@[simp] theorem Zqf (n:Int):ZY n n=0:=by
  unfold ZY; omega
@[simp] theorem Zgu (n:Int):Zag n n=false:=by simp [Zag]
theorem Zaj (n j k:Int):Zn (Zn n j) k=Zn n (j+k):=by
  unfold Zn; omega
theorem Zab (n k:Int):0≤Zn n k∧Zn n k≤4294967295:=by
  unfold Zn; omega
theorem ZnK {n:Int} (h:0≤n∧n≤4294967295):Zn n 0=n:=by
  unfold Zn; omega
theorem Zr2 {n k:Int} (h:0<k∧k<4294967296):¬Zn n k=n:=by
  unfold Zn; omega
theorem Zcy {n j k:Int} (h:0≤j∧0≤k∧j<4294967296∧k<4294967296):Zn n j=Zn n k↔j=k:=by
  unfold Zn; omega
def ZeD (num:Int):Nat→List Int→EL
  | _,[]=>[]
  | k,b::r=>(Zn num k,b)::ZeD num (k+1) r
theorem ZdZ (p:Int×Int) (m:EL) (n:Int):atE (p::m) n=if p.1=n then some p.2 else atE m n:=by
  unfold atE
  by_cases h:p.1=n<;>simp [h]
theorem ZsJ (m m':EL) (n:Int) (h:atE m n=none):atE (m++m') n=atE m' n:=by
  induction m with
  | nil=>rfl
  | cons p r ih=>
    rw [ZdZ] at h
    rw [List.cons_append,ZdZ]
    by_cases e:p.1=n
    · rw [if_pos e] at h; cases h
    · rw [if_neg e] at h ⊢
      exact ih h
theorem Znw (num:Int):∀(r:List Int) (k j:Nat),j<k→k+r.length<4294967296→atE (ZeD num k r) (Zn num j)=none
  | [],k,j,_,_=>rfl
  | b::r,k,j,h,hl=>by
    have hl':k+r.length+1<4294967296:=by simpa [Nat.add_assoc] using hl
    rw [ZeD,ZdZ,if_neg (by rw [Zcy (by omega)]; omega)]
    exact Znw num r (k+1) j (by omega) (by omega)
theorem ZmD (m:EL) (n:Int) (h:atE m n=none):Zdv m n=m:=by
  induction m with
  | nil=>rfl
  | cons p r ih=>
    rw [ZdZ] at h
    by_cases e:p.1=n
    · rw [if_pos e] at h; cases h
    · rw [if_neg e] at h
      unfold Zdv at *
      rw [List.filter_cons_of_pos (by simp [e]),ih h]
theorem Zn3 (num b:Int) (r:List Int) (k:Nat) (hl:k+1+r.length<4294967296):Zdv ((Zn num k,b)::ZeD num (k+1) r) (Zn num k)=ZeD num (k+1) r:=by
  have:=ZmD (ZeD num (k+1) r) (Zn num k) (Znw num r (k+1) k (by omega) hl)
  unfold Zdv at *
  rw [List.filter_cons_of_neg (by simp),this]
theorem ZhY (num:Int):∀(r:List Int) (k:Nat) (e:Zx),k+r.length<4294967296→(∀i:Nat,k≤i→i<k+r.length→inWin e (Zn num i)=true∧atE e.early (Zn num i)=none)→Zbh e num k r={ e with early:=e.early++ZeD num k r }
  | [],k,e,_,_=>by simp [Zbh,ZeD]
  | b::r,k,e,hl,h=>by
    have hl':k+r.length+1<4294967296:=by simpa [Nat.add_assoc] using hl
    obtain ⟨h1,h2⟩:=h k (Nat.le_refl _) (by simp)
    unfold Zbh
    rw [if_pos h1]
    have h3:ZgW e.early (Zn num k) b=e.early++[(Zn num k,b)]:=by unfold ZgW; rw [h2]
    rw [h3,ZhY num r (k+1) _ (by omega)]
    · simp [ZeD]
    · intro i hi hj
      obtain ⟨g1,g2⟩:=h i (by omega) (by simp; omega)
      refine ⟨g1,?_⟩
      show atE (e.early++[(Zn num k,b)]) (Zn num i)=none
      rw [ZsJ _ _ _ g2,ZdZ,if_neg (by rw [Zcy (by omega)]; omega)]
      rfl
theorem ZlZ (num:Int):∀(r:List Int) (k n:Nat) (e:Zx),k+r.length<4294967296→r.length<n→e.rcv=Zn num k→e.early=ZeD num k r→(∀i:Nat,k≤i→i<k+r.length→¬e.early_fin=some (Zn num i))→drawn n e=(r,{ e with early:=[],rcv:=Zn num (k+r.length:Nat) })
  | [],k,0,e,_,hn,_,_,_=>by simp at hn
  | [],k,n+1,e,_,_,h1,h2,_=>by
    unfold drawn
    have:atE e.early e.rcv=none:=by rw [h2]; rfl
    have he:e={ e with early:=[],rcv:=Zn num k }:=by
      obtain ⟨_⟩:=e
      simp only [ZeD] at h1 h2
      subst h1 h2
      rfl
    split
    · simpa using he
    · rw [this]
      simpa using he
  | b::r,k,0,e,_,hn,_,_,_=>by simp at hn
  | b::r,k,n+1,e,hl,hn,h1,h2,h3=>by
    have hl':k+r.length+1<4294967296:=by simpa [Nat.add_assoc] using hl
    have hn':r.length<n:=by simpa using hn
    unfold drawn
    rw [if_neg (by rw [h1]; exact h3 k (Nat.le_refl _) (by simp))]
    have:atE e.early e.rcv=some b:=by rw [h2,h1,ZeD,ZdZ]; simp
    rw [this]
    simp only
    have g:=ZlZ num r (k+1) n { e with early:=Zdv e.early e.rcv,rcv:=Zn e.rcv 1 } (by omega) hn' (by show Zn e.rcv 1=_; rw [h1,Zaj]; simp) (by show Zdv e.early e.rcv=_; rw [h2,h1,ZeD,Zn3 _ _ _ _ (by omega)]) (fun i hi hj=>h3 i (by omega) (by simp; omega))
    rw [g]
    simp [Nat.add_assoc,Nat.add_comm 1]
theorem Znn {r:List Int} {k:Int} (h:(r.length:Int)≤k):Zbe r none (some k)=r:=by
  rw [ZfG r (by omega)]
  exact List.take_of_length_le (by omega)
theorem ZgS {e:Zx} {s:Seg} (hd:s.data.length≤16) (hn:s.num=e.rcv) (hr:0≤e.rcv∧e.rcv≤4294967295) (he:e.early=[]) (hf:e.early_fin=none) (hw:e.come.length+s.data.length+(if bears s 1=true then 1 else 0)≤64) :
    Zb3 e s={ e with come:=e.come++s.data,rcv:=Zn e.rcv s.data.length,owes_answer:=e.owes_answer || decide (0<s.data.length) || bears s 1,early_fin:=if bears s 1=true then some (Zn e.rcv s.data.length) else none }:=by
  have w:∀i:Nat,i<s.data.length∨(i=s.data.length∧bears s 1=true)→inWin e (Zn e.rcv i)=true:=by
    intro i hi
    unfold inWin Z7
    rw [Zqg (by omega)]
    have:(i:Int)<64-e.come.length:=by
      rcases hi with hi | ⟨rfl,hi⟩
      · omega
      · rw [if_pos hi] at hw; omega
    simp; omega
  have k1:Zbh e s.num 0 s.data={ e with early:=ZeD e.rcv 0 s.data }:=by
    rw [hn,ZhY e.rcv s.data 0 e (by omega) (fun i _ hi=>⟨w i (.inl (by omega)),by rw [he]; rfl⟩),he]
    rfl
  have k2:ZaR e s={ e with early:=ZeD e.rcv 0 s.data,owes_answer:=e.owes_answer || decide (0<s.data.length) }:=by
    unfold ZaR
    rw [k1]
    by_cases c:0<s.data.length
    · rw [if_pos c]; simp [c]
    · rw [if_neg c]; simp [c]
  obtain ⟨oa,hoa⟩:∃x,x=(e.owes_answer || decide (0<s.data.length)):=⟨_,rfl⟩
  rw [←hoa] at k2 ⊢
  have k3:Zca (ZaR e s) s={ e with early:=ZeD e.rcv 0 s.data,owes_answer:=oa || bears s 1,early_fin:=if bears s 1=true then some (Zn e.rcv s.data.length) else none }:=by
    rw [k2]
    unfold Zca
    by_cases c:bears s 1=true
    · have iw:inWin ({ e with early:=ZeD e.rcv 0 s.data,owes_answer:=oa }) (Zn s.num s.data.length)=true:=by
        rw [hn]; exact w _ (.inr ⟨rfl,c⟩)
      rw [if_neg (by simp [c]),if_pos ⟨hf,iw⟩,hn]
      simp [c]
    · rw [if_pos (by simpa using c)]
      simp [c,hf]
  unfold Zb3 Zf9
  rw [k3]
  obtain ⟨bf,hbf⟩:∃x,x=bears s 1:=⟨_,rfl⟩
  rw [←hbf]
  rw [ZlZ e.rcv s.data 0 200 _ (by omega) (by omega) (by simpa using (ZnK hr).symm) rfl (by
    intro i _ hi
    simp only
    cases bf
    · simp
    · simp only [if_true,Option.some.injEq]
      rw [Zcy (by omega)]
      omega)]
  unfold Zho
  simp only
  rw [Znn (by unfold Z7; simp only; split at hw<;>omega)]
  simp [he]
end
end My
namespace My
open PySem L2 L2.MM
noncomputable section
@[simp] theorem ZAC {f:Int} (h0:0≤f) (h1:f≤31):bit f 1=f % 2:=(Zrg ⟨h0,h1⟩).1
@[simp] theorem Zwt {f:Int} (h0:0≤f) (h1:f≤31):bit f 2=f/2 % 2:=(Zrg ⟨h0,h1⟩).2.1
@[simp] theorem ZAB {f:Int} (h0:0≤f) (h1:f≤31):bit f 4=f/4 % 2:=(Zrg ⟨h0,h1⟩).2.2.1
@[simp] theorem ZzW {f:Int} (h0:0≤f) (h1:f≤31):bit f 16=f/16 % 2:=(Zrg ⟨h0,h1⟩).2.2.2.2
@[simp] theorem Zwu {a b c d f w m k:Int} {x:List Int}:bears ⟨a,b,c,d,f,w,m,x⟩ k=decide (bit f k=1):=rfl
@[simp] theorem ZwP {a b c d f w m:Int} {x:List Int}:ZnT ⟨a,b,c,d,f,w,m,x⟩=x.length+bit f 2+bit f 1:=rfl
def ZpQ:Option Seg→List Int
  | none=>[]
  | some s=>putL s
@[simp] theorem ZtX:ZpQ none=[]:=rfl
@[simp] theorem ZtW (s:Seg):ZpQ (some s)=putL s:=rfl
theorem ZmX {base:Sto} {l:Nat} {e:Zx} {t:Int} {r:Option Seg} {e':Zx} (hl:l+3<base.length) (g:Zah e t=(r,e')) (hp:∀s,r=some s→s.Put):ZcM [.ref l,.int t] (upE base l e)=.ok (il (ZpQ r)) (upE base l e'):=by
  rw [Zty hl (by rw [g]; exact hp),g]
  unfold Zjo
  rw [g]
  cases r<;>rfl
theorem ZnH {base:Sto} {l:Nat} {e:Zx} {t:Int} {e':Zx} (hl:l+3<base.length) (g:Zah e t=(none,e')):ZcM [.ref l,.int t] (upE base l e)=.ok (il []) (upE base l e'):=ZmX hl g (fun s h=>by cases h)
theorem ZiL {base:Sto} {l:Nat} {e:Zx} {t:Int} {e':Zx} {s:Seg} (hl:l+3<base.length) (g:Zah e t=(some s,e')) (hp:s.Ok):ZcM [.ref l,.int t] (upE base l e)=.ok (il (putL s)) (upE base l e'):=ZmX hl g (fun s h=>by cases h; exact hp.put)
theorem Zt0 (s:Seg):putL s≠[]:=fun z=>by
  have:=ZmZ (s:=s)
  rw [z] at this
  simp at this
  split at this<;>omega
def synE (a b f g W m:Int):Zx:={ newEnd a b f false with state:=.synCome,rcv:=Zn g 1,wnd:=W,told:=g,told_by:=0,most:=if m=0 then 12 else m }
def Zdq (a b f g W m t:Int):Zx:={ synE a b f g W m with nxt:=Zn f 1,since:=t }
def Zds (a b f g W m t:Int):Zx:={ newEnd a b f false with state:=.opn,una:=Zn f 1,nxt:=Zn f 1,rcv:=Zn g 1,wnd:=W,told:=Zn g 1,told_by:=Zn f 1,most:=if m=0 then 12 else m,since:=t }
section
variable {a b f g W m t t' x:Int} {ex:List Int} {fl:Int}
theorem Zv0 (hf:fl=2∨fl=3):comes (newEnd a x f false) ⟨b,a,g,0,fl,W,m,ex⟩ t=synE a b f g W m:=by
  rcases hf with rfl | rfl<;>simp [comes,newEnd,Zbs,hearSyn,synE]
theorem ZvZ:Zah (synE a b f g W m) t=(some ⟨a,b,f,Zn g 1,18,64,16,[]⟩,Zdq a b f g W m t):=by
  simp [Zah,Zbx,Z9,ZfC,newEnd,ZfV,Z1,synE,Zdq]
theorem ZvY:comes (Zdq a b f g W m t) ⟨b,a,Zn g 1,Zn f 1,16,W,0,[]⟩ t'=Zds a b f g W m t:=by
  have h2:¬Zn f 1=f:=Zr2 (by omega)
  have ft:Zfw (Zdq a b f g W m t) ⟨b,a,Zn g 1,Zn f 1,16,W,0,[]⟩=true:=by
    simp [Zfw,Zdq,synE,newEnd]
  have go:Zac (Zdq a b f g W m t) ⟨b,a,Zn g 1,Zn f 1,16,W,0,[]⟩ t'=(true,Zds a b f g W m t):=by
    simp [Zac,ZaJ,Zdq,synE,newEnd,h2,Zd2,Zds]
  have st:Zb3 (Zds a b f g W m t) ⟨b,a,Zn g 1,Zn f 1,16,W,0,[]⟩=Zds a b f g W m t:=by
    rw [ZgS (by simp) rfl (Zab _ _) rfl rfl (by simp [Zds,newEnd])]
    simp [Zds,newEnd,Zaj]
  have hs:Zbq (Zds a b f g W m t) ⟨b,a,Zn g 1,Zn f 1,16,W,0,[]⟩ t'=Zds a b f g W m t:=by
    unfold Zbq
    rw [st]
    simp [Zds,newEnd]
  have:comes (Zdq a b f g W m t) ⟨b,a,Zn g 1,Zn f 1,16,W,0,[]⟩ t'=Za3 (Zdq a b f g W m t) ⟨b,a,Zn g 1,Zn f 1,16,W,0,[]⟩ t':=rfl
  rw [this]
  unfold Za3
  rw [ft,go,hs]
  simp
end
section
variable {θ:Sto} {l:Nat} {e:Zx} {s:Seg} {now n:Int}
theorem Zl2 (θ:Sto) (e e':Zx):upE (θ++cells θ.length e) θ.length e'=θ++cells θ.length e':=by
  have h0:∀(i:Nat) (c:Cell) (r:Sto),(θ++r).set (θ.length+i) c=θ++r.set i c:=by
    intro i c r
    rw [List.set_append_right _ _ (by omega)]
    congr 2
    omega
  have h1:∀(c:Cell) (r:Sto),(θ++r).set θ.length c=θ++r.set 0 c:=fun c r=>h0 0 c r
  unfold upE cells
  rw [h1,h0,h0,h0]
  rfl
theorem Zhy {a b n k f w:Int} {x:List Int} (θ:Sto):Zcr [.tup [.int a,.int b],.int n,.int k,.int f,.int w,il x] θ=.ok (Seg.mk b a n k f w 0 x).d θ:=by
  simp [Zcr,Zg9,Zs3]
theorem Zfs {a b n k f w m:Int} {x:List Int} (ha:0≤a∧a≤65535) (hb:0≤b∧b≤65535) (hn:0≤n∧n≤4294967295) (hk:0≤k∧k≤4294967295) (hf:0≤f∧f≤31) (hw:0≤w∧w≤65535) (hm:m=0∨(4≤m∧m≤65535∧f/2 % 2=1)) (hx:(∀z∈x,0≤z∧z≤255)∧x.length≤16):(Seg.mk a b n k f w m x).Ok:=⟨ha,hb,hn,hk,hf,hw,hm,hx⟩
theorem Zea:(∀z∈([]:List Int),0≤z∧z≤255)∧([]:List Int).length≤16:=⟨by simp,by simp⟩
theorem ZlW {n:Int} (h:0≤n∧n≤4294967295):0≤Zby n∧Zby n≤4294967295:=by
  unfold Zby
  split<;>omega
theorem ZnA {ns:List Int} {base W m:Int} (θ:Sto) (hW:0≤W∧W≤65535) (hm:m=0∨(4≤m∧m≤65535)) :
    ZdS [.scr ns,.int base,.int W,.int m] θ=.ok (.tup [.ref θ.length,.tup [.int (mix ns base % 65536),.int (mix ns (base+1) % 65536)],.int (Zn (Zby (mix ns (base+2))) 1),.int (Zn (Zby (mix ns (base+3))) 1)])
      (θ++cells θ.length (Zds (mix ns base % 65536) (mix ns (base+1) % 65536) (Zby (mix ns (base+2))) (Zby (mix ns (base+3))) W m 0)):=by
  obtain ⟨a,ha⟩:∃x,x=mix ns base % 65536:=⟨_,rfl⟩
  obtain ⟨b,hb⟩:∃x,x=mix ns (base+1) % 65536:=⟨_,rfl⟩
  obtain ⟨f,hf⟩:∃x,x=Zby (mix ns (base+2)):=⟨_,rfl⟩
  obtain ⟨g,hg⟩:∃x,x=Zby (mix ns (base+3)):=⟨_,rfl⟩
  have ra:0≤a∧a≤65535:=by omega
  have rb:0≤b∧b≤65535:=by omega
  have rf:0≤f∧f≤4294967295:=by rw [hf]; exact ZlW (by have:=Zqt ns (base+2); omega)
  have rg:0≤g∧g≤4294967295:=by rw [hg]; exact ZlW (by have:=Zqt ns (base+3); omega)
  rw [←ha,←hb,←hf,←hg]
  have k1:(Seg.mk b a g 0 2 W m []).Ok:=Zfs rb ra rg (by omega) (by omega) hW (hm.imp id fun h=>⟨h.1,h.2,by decide⟩) Zea
  have k2:(Seg.mk a b f (Zn g 1) 18 64 16 []).Ok:=Zfs ra rb rf (Zab _ _) (by omega) (by omega) (.inr (by decide)) Zea
  have k3:(Seg.mk b a (Zn g 1) (Zn f 1) 16 W 0 []).Ok:=Zfs rb ra (Zab _ _) (Zab _ _) (by omega) hW (.inl rfl) Zea
  have hl:θ.length+3<(θ++cells θ.length (newEnd a 7 f false)).length:=by simp [cells]
  have q1:=ZpI (a:=a) (b:=7) (c:=f) (act:=false) θ
  have q2:=ZcY (e:=newEnd a 7 f false) (now:=0) hl (by simp [newEnd]) k1 (by simp [ZeO,newEnd]) (by simp [newEnd])
  have q3:=ZiL hl (ZvZ (a:=a) (b:=b) (f:=f) (g:=g) (W:=W) (m:=m) (t:=0)) k2
  have q4:=ZcY (e:=Zdq a b f g W m 0) (now:=0) hl (by simp [Zdq,synE,newEnd]) k3 (by simp [ZeO,newEnd,Zdq,synE]) (by simp [newEnd,Zdq,synE])
  rw [Zv0 (.inl rfl)] at q2
  rw [ZvY] at q4
  rw [Zl2,Zl2] at q2 q3 q4
  have b1:=fun θ=>ZfO k1 θ
  have b3:=fun θ=>ZfO k3 θ
  obtain ⟨e1,he1⟩:∃x,x=newEnd a 7 f false:=⟨_,rfl⟩
  obtain ⟨e2,he2⟩:∃x,x=synE a b f g W m:=⟨_,rfl⟩
  obtain ⟨e3,he3⟩:∃x,x=Zdq a b f g W m 0:=⟨_,rfl⟩
  obtain ⟨e4,he4⟩:∃x,x=Zds a b f g W m 0:=⟨_,rfl⟩
  rw [←he1] at q1 q2
  rw [←he2] at q2 q3
  rw [←he3] at q3 q4
  rw [←he4] at q4 ⊢
  simp [ZdS,Zin,←ha,←hb,←hf,←hg,ZhF,b1,b3,q1,q2,q3,q4]
end
end
end My
namespace My
open PySem L2 L2.MM
noncomputable section
theorem Zsh (x y z:Int) (θ:Sto):ZbS (.int x) (.tup [.int y,.int z]) θ=.ok (.bl (!decide (x=y∨x=z))) θ:=by
  have e:inD θ (.int x) (.tup [.int y,.int z])=some (decide (y=x) || (decide (z=x) || false)):=rfl
  have e2:(decide (y=x) || (decide (z=x) || false))=decide (x=y∨x=z):=by
    rw [Bool.eq_iff_iff]
    simp only [Bool.or_eq_true,decide_eq_true_eq,Bool.false_eq_true,or_false]
    constructor
    · rintro (h | h)
      · exact .inl h.symm
      · exact .inr h.symm
    · rintro (h | h)
      · exact .inl h.symm
      · exact .inr h.symm
  unfold ZbS
  rw [e,e2]
theorem ZrC {z:Int} (h:0≤z∧z≤255) (θ:Sto):ZgC [.int z] θ=.ok (.bl true) θ:=by
  have h1:ZgZ [.int z,.ty "int"] θ=.ok (.bl true) θ:=rfl
  have h2:ZgZ [.int z,.ty "bool"] θ=.ok (.bl false) θ:=rfl
  simp [ZgC,Zmb,h1,h2,h.1,h.2]
theorem ZsE {α:Type} (xs:List α):ZjL (xs.map fun _=>D.bl true)=some (List.replicate xs.length true):=by
  induction xs with
  | nil=>rfl
  | cons x xs ih=>rw [List.map_cons,ZjL,ih]; rfl
theorem Zrj (n:Nat):(List.replicate n true).all id=true:=by
  induction n with
  | zero=>rfl
  | succ n ih=>rw [List.replicate_succ,List.all_cons,ih]; rfl
theorem ZrB {a:List Int} (h:Byt a) (hr:Zax a=true) (θ:Sto):ZgA [il a] θ=.ok (ZbE a).d θ:=by
  obtain ⟨l1,l2,l3,l4⟩:=ZgY hr
  have hr':=hr
  unfold Zax at hr'
  simp only [Bool.and_eq_true,decide_eq_true_eq,Bool.or_eq_true] at hr'
  obtain ⟨r1,r2,r3,r4,r5,r6,r7⟩:=hr'
  have gg:∀i:Nat,i<a.length→0≤gt a i∧gt a i≤255:=fun i hi=>by
    unfold gt
    have:=h.1 a[i] (List.getElem_mem hi)
    rw [List.getD_eq_getElem?_getD,List.getElem?_eq_getElem hi]
    exact this
  have b13:=gg 13 (by omega)
  have b18:=gg 18 (by omega)
  have b19:=gg 19 (by omega)
  have ix:∀i:Nat,i<a.length→ixM (il a) (.int (i:Int)) θ=.ok (.int (gt a i)) θ:=fun i hi=>Zcs (a:=a) (θ:=θ) (i:=(i:Int)) (by omega) (by omega)
  have i12:ixM (il a) (.int 12) θ=.ok (.int (gt a 12)) θ:=ix 12 (by omega)
  have i13:ixM (il a) (.int 13) θ=.ok (.int (gt a 13)) θ:=ix 13 (by omega)
  have i18:ixM (il a) (.int 18) θ=.ok (.int (gt a 18)) θ:=ix 18 (by omega)
  have i19:ixM (il a) (.int 19) θ=.ok (.int (gt a 19)) θ:=ix 19 (by omega)
  have z5:gt a 18+gt a 19=0:=by unfold at2 at r5; simp only [Nat.reduceAdd] at r5; omega
  have len20:¬(a.length:Int)<20:=by omega
  have R1:∀r,b_l_read_1 (.val (il a)::r) θ=.ok (.nx,.val (il a)::r) θ:=by
    intro r
    simp [b_l_read_1,isT,len20]
  have R2:∀r,b_l_read_2 (.val (il a)::r) θ=.ok (.nx,.val (il a)::r) θ:=by
    intro r
    have cp:=ZnR (ρ:=.val (il a)::r) (θ:=θ) (fi:=mIn (Zd 0)) (src:=[]) (elt:=mCB ZgC (Zc (Zd 0) Zk)) (d:=il a) (xs:=a.map D.int) (θ':=θ) (fun _=>.bl true) (by simp) rfl (by have:=h.2; simp [BIG]; omega) (by
      intro x hx
      obtain ⟨z,hz,rfl⟩:=List.mem_map.mp hx
      simp [ZrC (h.1 z hz)])
    have al:Zrk [D.lst ((a.map D.int).map fun _=>D.bl true)] θ=.ok (.bl true) θ:=by
      rw [Zvl,ZsE]
      simp only [Zrj]
    obtain ⟨q,hq⟩:∃x,x=D.lst ((a.map D.int).map fun _=>D.bl true):=⟨_,rfl⟩
    rw [←hq] at cp al
    simp [b_l_read_2,cp,al]
  have hb:Zbr a=gt a 12/4:=by unfold Zbr; rcases r2 with e | e<;>rw [e]<;>rfl
  have q4:gt a 12/4≤a.length∧(a.length:Int)≤gt a 12/4+16:=by rw [←hb]; omega
  have R3:∀r,b_l_read_3 (.val (il a)::r) θ=.ok (.nx,.val (il a)::r) θ:=by
    intro r
    simp [b_l_read_3,i12,i13,i18,i19,Zsh,r2,z5,show ¬(31:Int)<gt a 13 by omega]
  have fo:=ZiF h θ
  rw [r7] at fo
  have R4:∀r,b_l_read_4 (.val (il a)::.val (.int (gt a 12/4))::r) θ=.ok (.nx,.val (il a)::.val (.int (gt a 12/4))::r) θ:=by
    intro r
    simp [b_l_read_4,fo,q4.1,q4.2]
  obtain ⟨hd,hhd⟩:∃x,x=gt a 12/4:=⟨_,rfl⟩
  rw [←hhd] at R4 hb q4
  have R6:∀x y,b_l_read_6 [.val (il a),.val (.int hd),.val (.int 0),x,y] θ=.ok (.nx,[.val (il a),.val (.int hd),.val (.int (if Zbr a=24 then at2 a 22 else 0)),x,y]) θ:=by
    intro x y
    by_cases c:hd=24
    · have lo:=(l2.resolve_left (by rw [hb,c]; decide)).2
      have i20:gt a 20=2∧gt a 21=4∧gt a 13/2 % 2=1∧4≤at2 a 22:=by
        have:=lo.2
        unfold longOk at this
        simp only [Bool.and_eq_true,decide_eq_true_eq] at this
        obtain ⟨t1,t2,t3,t4⟩:=this
        rw [Zwt (by omega) (by omega)] at t1
        exact ⟨t2,t3,t1,t4⟩
      obtain ⟨e20,e21,e13,e22⟩:=i20
      have i22:ixM (il a) (.int 22) θ=.ok (.int (gt a 22)) θ:=ix 22 (by omega)
      have i23:ixM (il a) (.int 23) θ=.ok (.int (gt a 23)) θ:=ix 23 (by omega)
      have cu:Zbe a (some 20) (some 22)=[2,4]:=by
        have:Zbe a (some 20) (some 22)=[gt a 20,gt a 21]:=by
          rw [ZjI _ (by decide) (by decide),show (20:Int).toNat=20 from rfl,show (22:Int).toNat-20=2 from rfl,List.drop_eq_getElem_cons (show 20<a.length by omega),List.drop_eq_getElem_cons (show 21<a.length by omega)]
          rw [List.take_succ_cons,List.take_succ_cons,List.take_zero]
          unfold gt
          rw [List.getD_eq_getElem?_getD,List.getD_eq_getElem?_getD,List.getElem?_eq_getElem (show 20<a.length by omega),List.getElem?_eq_getElem (show 21<a.length by omega)]
          rfl
        rw [this,e20,e21]
      have m22:gt a 22*256+gt a 23=at2 a 22:=by unfold at2; simp only [Nat.reduceAdd]; omega
      have mb:Zd0 (gt a 22) 256:=.inr (by omega)
      rw [hb,if_pos c]
      simp [b_l_read_6,Zil,c,i22,i23,i13,e13,cu,m22,mb,show ¬at2 a 22<4 by omega]
    · rw [hb,if_neg c]
      simp [b_l_read_6,c]
  have cp:=fun y z=>Zi0 (ρ:=[.val (il a),.val (.int hd),.val (.int (if Zbr a=24 then at2 a 22 else 0)),y,z]) (θ:=θ) (fi:=ZcC (Zc (mC (.int 8)) Zk)) (src:=[0])
    (elt:=mOp ZO (mOp Zcq (mC (.int 256)) (mOp ixM (Zd 1) (mOp Zcq (mC (.int 2)) (Zd 0)))) (mOp ixM (Zd 1) (mOp ZO (mOp Zcq (mC (.int 2)) (Zd 0)) (mC (.int 1))))) (lo:=0) (n:=8) (θ':=θ) (fun k=>.int (256*gt a (2*k).toNat+gt a (2*k+1).toNat))
    (by simp) (by simp [BIG]) (by
      intro i hi
      have j1:=Zcs (a:=a) (θ:=θ) (i:=2*(i:Int)) (by omega) (by omega)
      have j2:=Zcs (a:=a) (θ:=θ) (i:=2*(i:Int)+1) (by omega) (by omega)
      simp [Zd0,j1,j2])
  have wl:(List.range 8).map (fun (i:Nat)=>D.int (256*gt a (2*((0:Int)+(i:Int))).toNat+gt a (2*((0:Int)+(i:Int))+1).toNat))=[.int (at2 a 0),.int (at2 a 2),.int (at2 a 4),.int (at2 a 6),.int (at2 a 8),.int (at2 a 10),.int (at2 a 12),.int (at2 a 14)]:=rfl
  have dr:Zbe a (some hd) none=a.drop hd.toNat:=Zdi a (by omega)
  have c4:at2 a 4*65536+at2 a 6=at4 a 4:=by unfold at4; simp only [Nat.reduceAdd]; omega
  have c8:at2 a 8*65536+at2 a 10=at4 a 8:=by unfold at4; simp only [Nat.reduceAdd]; omega
  obtain ⟨most,hmo⟩:∃x,x=if Zbr a=24 then at2 a 22 else 0:=⟨_,rfl⟩
  rw [←hmo] at R6 cp
  unfold ZbE
  rw [←hmo,hb]
  obtain ⟨W,hW⟩:∃x,x=(List.range 8).map (fun (i:Nat)=>D.int (256*gt a (2*((0:Int)+(i:Int))).toNat+gt a (2*((0:Int)+(i:Int))+1).toNat)):=⟨_,rfl⟩
  rw [←hW] at wl
  simp only [←hW] at cp
  have w0:ixM (.lst W) (.int 0) θ=.ok (.int (at2 a 0)) θ:=by rw [wl]; rfl
  have w1:ixM (.lst W) (.int 1) θ=.ok (.int (at2 a 2)) θ:=by rw [wl]; rfl
  have w2:ixM (.lst W) (.int 2) θ=.ok (.int (at2 a 4)) θ:=by rw [wl]; rfl
  have w3:ixM (.lst W) (.int 3) θ=.ok (.int (at2 a 6)) θ:=by rw [wl]; rfl
  have w4:ixM (.lst W) (.int 4) θ=.ok (.int (at2 a 8)) θ:=by rw [wl]; rfl
  have w5:ixM (.lst W) (.int 5) θ=.ok (.int (at2 a 10)) θ:=by rw [wl]; rfl
  have w7:ixM (.lst W) (.int 7) θ=.ok (.int (at2 a 14)) θ:=by rw [wl]; rfl
  obtain ⟨wd,hwd⟩:∃x,x=D.lst W:=⟨_,rfl⟩
  rw [←hwd] at w0 w1 w2 w3 w4 w5 w7
  simp only [←hwd] at cp
  have mb:∀x:Int,Zd0 x 65536:=fun x=>.inr (by omega)
  simp [ZgA,Zl9,R1,R2,i12,R3,←hhd,R4,R6,cp,w0,w1,w2,w3,w4,w5,w7,mb,i13,dr,c4,c8,Seg.d]
end
end My
namespace My
open PySem L2 L2.MM
noncomputable section
inductive Gives (t:Int):Zx→List Seg→Zx→Prop
  | nil {e e':Zx} (h:Zah e t=(none,e')):Gives t e [] e'
  | cons {e e1 e':Zx} {s:Seg} {r:List Seg} (h:Zah e t=(some s,e1)) (hs:s.Ok) (hr:Gives t e1 r e'):Gives t e (s::r) e'
section
variable {θ:Sto} {l:Nat} {t:Int}
abbrev ZuD:SM:=Zr (ZQ 4 (mCB ZcM (Zc (Zd 0) (Zc (Zd 1) Zk)))) (Zr ZdD (Zeg 2 (mCB ZgA (Zc (Zd 4) Zk))))
theorem ZtL (h:l+3 < θ.length) {e e':Zx} (g:Zah e t=(none,e')) (acc:List D) (x y:Sl):ZuD [.val (.ref l),.val (.int t),.own acc,x,y] (upE θ l e)=.ok (.rt (.lst acc),[.val (.ref l),.val (.int t),.val (.lst acc),x,.val (il [])]) (upE θ l e'):=by
  simp [ZnH h g,ZdD,ZcQ]
theorem ZtK (h:l+3 < θ.length) {e e':Zx} {s:Seg} (g:Zah e t=(some s,e')) (hs:s.Ok) (acc:List D) (ha:acc.length<BIG) (x y:Sl):ZuD [.val (.ref l),.val (.int t),.own acc,x,y] (upE θ l e)=.ok (.nx,[.val (.ref l),.val (.int t),.own (acc++[s.d]),x,.val (il (putL s))]) (upE θ l e'):=by
  have lr:=ZrB (Zm0 hs.put) (ZiN hs) (upE θ l e')
  rw [Zni hs] at lr
  simp [ZiL h g hs,ZdD,ZcQ,Zt0,lr,ha]
theorem ZtJ (h:l+3 < θ.length) {e e':Zx} {segs:List Seg} (g:Gives t e segs e'):∀(xs:List D) (acc:List D) (x y:Sl),segs.length<xs.length→acc.length+segs.length<1000→
    ∃ρ,ZcR (.rng 0 40) ((List.range 40).map fun (i:Nat)=>D.int (0+(i:Int))) (gNm 3) ZuD xs [.val (.ref l),.val (.int t),.own acc,x,y] (upE θ l e)=.ok (.rt (.lst (acc++segs.map Seg.d)),ρ) (upE θ l e'):=by
  induction g with
  | nil g=>
    intro xs acc x y hx ha
    match xs,hx with
    | d::xs,_=>
      refine ⟨[.val (.ref l),.val (.int t),.val (.lst acc),.val d,.val (il [])],?_⟩
      simp only [ZcR,Zc5,if_true]
      have:gNm 3 d [.val (.ref l),.val (.int t),.own acc,x,y]=some [.val (.ref l),.val (.int t),.own acc,.val d,y]:=rfl
      rw [this]
      simp only
      rw [ZtL h g]
      simp [Zfu,R.bind]
  | cons g hs _ ih=>
    intro xs acc x y hx ha
    match xs,hx with
    | d::xs,hx=>
      obtain ⟨ρ,q⟩:=ih xs (acc++[Seg.d _]) (.val d) (.val (il (putL _))) (by simpa using hx) (by simp at ha ⊢; omega)
      refine ⟨ρ,?_⟩
      simp only [ZcR,Zc5,if_true]
      have:gNm 3 d [.val (.ref l),.val (.int t),.own acc,x,y]=some [.val (.ref l),.val (.int t),.own acc,.val d,y]:=rfl
      rw [this]
      simp only
      rw [ZtK h g hs acc (by simp [BIG] at ha ⊢; omega)]
      simp only [R.bind,Zfu]
      rw [q]
      simp
theorem ZfQ (h:l+3 < θ.length) {e e':Zx} {segs:List Seg} (g:Gives t e segs e') (hl:segs.length<40):Zbw [.ref l,.int t] (upE θ l e)=.ok (.lst (segs.map Seg.d)) (upE θ l e'):=by
  obtain ⟨ρ,q⟩:=ZtJ h g ((List.range 40).map fun (i:Nat)=>D.int (0+(i:Int))) [] .no .no (by simpa using hl) (by simp; omega)
  have q2:Ze6 [.val (.ref l),.val (.int t),.own [],.no,.no] (upE θ l e)=.ok (.rt (.lst (segs.map Seg.d)),ρ) (upE θ l e'):=by
    rw [List.nil_append] at q
    rw [←q]
    simp [Ze6,ZdR]
  simp [Zbw,Zji,q2]
end
end
end My
namespace My
open PySem L2 L2.MM
noncomputable section
theorem Zq8 {nE:EM} {src:List Nat} {elt:EM} {ρ:List Sl} {θ:Sto} {j:Int} (F:Nat→Int) (hn:nE ρ θ=.ok (.int j) θ) (h0:0≤j) (h1:j≤1000) (he:∀i:Nat,i<j.toNat→elt (ZeQ src ρ (.int (i:Int))) θ=.ok (.int (F i)) θ) :
    ZeN (ZcC (Zc nE Zk)) src elt ρ θ=.ok (il ((List.range j.toNat).map F)) θ:=by
  have:=Zi0 (ρ:=ρ) (θ:=θ) (fi:=ZcC (Zc nE Zk)) (src:=src) (elt:=elt) (lo:=0) (n:=j.toNat) (θ':=θ) (fun k=>.int (F k.toNat)) (by simp [hn]; omega) (by simp [BIG]; omega) (by
    intro i hi
    simpa using he i hi)
  rw [this]
  simp [il]
end
end My
namespace My
open PySem L2 L2.MM
noncomputable section
structure Q where
  st:State
  una:Int
  nxt:Int
  beh:Int
  rcv:Int
  told:Int
  by_:Int
  wnd:Int
  most:Int
  written:List Int
  come:List Int
  fin:Option Int
  cl:Bool
  oa:Bool
  pr:Bool
  since:Int
  wait:Int
  tries:Int
def qE (a b f g:Int) (q:Q):Zx:=⟨a,b,q.st,.none,f,Zn f q.una,Zn f q.nxt,Zn g q.rcv,q.wnd,Zn g q.told,Zn f q.by_,q.most,q.written,q.come,[],q.fin.map (Zn g ·),q.cl,Zn f q.beh,none,false,q.oa,q.pr,q.since,q.wait,q.tries⟩
def q0 (W m:Int) (t:Int):Q:=⟨.opn,1,1,1,1,1,1,W,if m=0 then 12 else m,[],[],none,false,false,false,t,1000,0⟩
theorem Zzy {n j k:Int} (h1 : -2147483648≤j-k) (h2:j-k<2147483648):ZY (Zn n j) (Zn n k)=j-k:=ZdP ⟨h1,h2⟩
theorem ZhI {n j k:Int} (h1 : -2147483648≤j-k) (h2:j-k<2147483648):Zag (Zn n j) (Zn n k)=decide (0<j-k):=by
  unfold Zag
  rw [Zzy h1 h2]
theorem Zr3 (n:Nat) (xs:List Int):pls n (xs.map D.int)=true:=by
  induction xs with
  | nil=>simp [pls]
  | cons x r ih=>simp [pls,ih,pl]
theorem Zqp (xs:List Int):Zez (xs.map D.int)=true:=by
  induction xs with
  | nil=>simp [Zez]
  | cons x r ih=>simp [Zez,ih,noB]
theorem Zt6 (n:Nat) (s:Seg):pl (n+2) s.d=true:=by
  unfold Seg.d
  simp only [pl,pls,pl,Bool.true_and,Bool.and_true]
  unfold itp
  simp only [pl]
  exact Zr3 _ _
theorem Zsi (s:Seg):noB s.d=true:=by
  unfold Seg.d
  simp only [noB,Zez,Bool.true_and,Bool.and_true]
  unfold itp
  simp only [noB]
  exact Zqp _
theorem Zlv (n:Nat) (r:List Seg):pls (n+2) (r.map Seg.d)=true:=by
  induction r with
  | nil=>simp [pls]
  | cons s r ih=>simp [pls,ih,Zt6]
theorem ZiU (r:List Seg):Zez (r.map Seg.d)=true:=by
  induction r with
  | nil=>simp [Zez]
  | cons s r ih=>simp [Zez,ih,Zsi]
theorem ZrN {s t:Seg} (h:s.d=t.d):s=t:=by
  obtain ⟨⟩:=s
  obtain ⟨⟩:=t
  unfold Seg.d itp at h
  simp only [D.tup.injEq,List.cons.injEq,D.int.injEq,and_true] at h
  obtain ⟨h1,h2,h3,h4,h5,h6,h7,h8⟩:=h
  have:∀xs ys:List Int,xs.map D.int=ys.map D.int→xs=ys:=by
    intro xs
    induction xs with
    | nil=>intro ys hy; cases ys with
      | nil=>rfl
      | cons _ _=>simp at hy
    | cons x xs ih=>intro ys hy; cases ys with
      | nil=>simp at hy
      | cons y ys=>
        simp only [List.map_cons,List.cons.injEq,D.int.injEq] at hy
        rw [hy.1,ih ys hy.2]
  have:=this _ _ h8
  subst h1 h2 h3 h4 h5 h6 h7 this
  rfl
open Classical in
theorem Zjv (x y:List Seg) (θ:Sto):neM (.lst (x.map Seg.d)) (.lst (y.map Seg.d)) θ=.ok (.bl (!decide (x=y))) θ:=by
  rw [ZhP (Zei (by simpa [pl,look] using Zlv 6 x) (by simpa [pl,look] using Zlv 6 y) (by simpa [noB,look] using ZiU x) (by simpa [noB,look] using ZiU y))]
  congr 3
  simp only [look,D.lst.injEq]
  have:∀x y:List Seg,x.map Seg.d=y.map Seg.d↔x=y:=by
    intro x
    induction x with
    | nil=>intro y; cases y<;>simp
    | cons s x ih=>intro y; cases y with
      | nil=>simp
      | cons t y=>
        simp only [List.map_cons,List.cons.injEq,ih]
        exact ⟨fun h=>⟨ZrN h.1,h.2⟩,fun h=>⟨by rw [h.1],h.2⟩⟩
  exact decide_eq_decide.mpr (this x y)
end
end My
namespace My
open PySem L2 L2.MM
noncomputable section
section
variable {e:Zx} {t:Int}
structure Calm (e:Zx) (t:Int):Prop where
  rst:e.owed_reset=none
  st:e.state∉[State.closed,.listen,.synSent,.synCome]
  tw:e.state=.timeWait→t-e.since<120000
  due:¬e.nxt=e.una→t-e.since<e.wait
theorem Calm.go (c:Calm e t):Zah e t=Zbx e t:=by
  have hs:=c.st
  simp only [List.mem_cons,List.not_mem_nil,or_false,not_or] at hs
  have h1:¬(e.state=.timeWait∧120000≤t-e.since):=fun h=>by have:=c.tw h.1; omega
  have h2:¬(e.state=.closed∨e.state=.listen):=fun h=>h.elim hs.1 hs.2.1
  have h3:¬(¬e.nxt=e.una∧Zcb e t=true):=fun h=>by
    have:=c.due h.1
    have h2:=h.2
    unfold Zcb at h2
    simp at h2
    omega
  unfold Zah
  rw [c.rst]
  simp only [if_neg h1]
  rw [if_neg h2,if_neg h3]
theorem Calm.notSyn (c:Calm e t):¬(e.state=.synSent∨e.state=.synCome):=by
  have hs:=c.st
  simp only [List.mem_cons,List.not_mem_nil,or_false,not_or] at hs
  exact fun h=>h.elim hs.2.2.1 hs.2.2.2
theorem Calm.quiet (c:Calm e t) (hm:Za8 e=false∨(¬e.nxt=e.una∧e.wnd-ZY e.nxt e.una≤0)) (hp:e.probes=false):Zah e t=zR e:=by
  have a1:Z9 e t=(none,e):=by
    unfold Z9
    rw [if_neg c.notSyn,if_pos (hm.elim .inr fun h=>.inl h.2)]
  have a2:ZZ e t=(none,e):=by
    unfold ZZ
    rw [if_pos (hm.elim (fun h=>.inr (.inr h)) fun h=>.inl h.1)]
    obtain ⟨⟩:=e
    simp only at hp
    subst hp
    rfl
  rw [c.go]
  unfold Zbx
  rw [a1]
  simp only [a2]
theorem ZqM (c:Calm e t) (hm:Za8 e=false∨(¬e.nxt=e.una∧e.wnd-ZY e.nxt e.una≤0)) (hp:e.probes=false) (ho:e.owes_answer=false):Zah e t=(none,e):=by
  rw [c.quiet hm hp]
  simp [zR,ho]
theorem Zn2 (c:Calm e t) (hm:Za8 e=false∨(¬e.nxt=e.una∧e.wnd-ZY e.nxt e.una≤0)) (hp:e.probes=false) (ho:e.owes_answer=true):Zah e t=(some (Zdd e e.nxt 0 []),{ e with owes_answer:=false }):=by
  rw [c.quiet hm hp]
  simp [zR,ho]
theorem ZqO (c:Calm e t) (hw:0<e.wnd-ZY e.nxt e.una) (hm:Za8 e=true):Zah e t=(some (zW { (if e.nxt=e.una then Z1 e t else e) with owes_answer:=false } (e.wnd-ZY e.nxt e.una)).1,(zW { (if e.nxt=e.una then Z1 e t else e) with owes_answer:=false } (e.wnd-ZY e.nxt e.una)).2):=by
  have a1:Z9 e t=(some (zW { (if e.nxt=e.una then Z1 e t else e) with owes_answer:=false } (e.wnd-ZY e.nxt e.una)).1,(zW { (if e.nxt=e.una then Z1 e t else e) with owes_answer:=false } (e.wnd-ZY e.nxt e.una)).2):=by
    unfold Z9
    rw [if_neg c.notSyn,if_neg (by rw [hm]; simp; omega)]
  rw [c.go]
  unfold Zbx
  rw [a1]
end
section
variable {e:Zx} {s:Seg} {t:Int}
theorem ZsD (hs:e.state∉[State.closed,.listen,.synSent]) (hf:Zfw e s=true) (h4:bears s 4=false) (h2:bears s 2=false) (h16:bears s 16=true):comes e s t=if (Zac e s t).1=true then Zbq (Zac e s t).2 s t else (Zac e s t).2:=by
  have:comes e s t=Za3 e s t:=by
    unfold comes
    simp only [List.mem_cons,List.not_mem_nil,or_false,not_or] at hs
    split
    · rename_i h; exact absurd h hs.1
    · rename_i h; exact absurd h hs.2.1
    · rename_i h; exact absurd h hs.2.2
    · rfl
  rw [this]
  unfold Za3
  rw [hf,h4,h2,h16]
  simp
end
end
end My
namespace My
open PySem L2 L2.MM
noncomputable section
section
variable {a b f g W m t:Int}
def qO (W m:Int) (t:Int):Q:=⟨.opn,1,1,1,1,1,1,W,m,[],[],none,false,false,false,t,1000,0⟩
structure ZAD (q:Q) (t:Int):Prop where
  st:q.st∉[State.closed,.listen,.synSent,.synCome]
  tw:q.st=.timeWait→t-q.since<120000
  due:¬q.nxt=q.una→t-q.since<q.wait
  pr:q.pr=false
  un:q.beh≤q.nxt∧q.nxt-q.beh<1000∧0≤q.una∧q.una≤q.nxt∧q.nxt<1000
  fin:q.beh=q.nxt→q.st∉[State.waitOne,.closing,.lastAck]
end
end
end My
namespace My
open PySem L2 L2.MM
noncomputable section
theorem Znj {nE:EM} {body:SM} {k:Nat} {ρ:List Sl} {θ:Sto} {j:Int} (Inv:Nat→List Sl→Sto→Prop) (Ret:D→Prop) (hn:nE ρ θ=.ok (.int j) θ) (h0:0≤j) (h1:j≤1000) (hi:Inv 0 ρ θ)
    (step:∀(i:Nat) ρ θ,i<j.toNat→Inv i ρ θ→(∃ρ' θ',body (ρ.set k (.val (.int (i:Int)))) θ=.ok (.nx,ρ') θ'∧Inv (i+1) ρ' θ')∨(∃d ρ' θ',body (ρ.set k (.val (.int (i:Int)))) θ=.ok (.rt d,ρ') θ'∧Ret d)) (hk:∀i ρ θ,Inv i ρ θ→k < ρ.length) :
    (∃ρ' θ',ZdR (ZcC (Zc nE Zk)) (gNm k) body ρ θ=.ok (.nx,ρ') θ'∧Inv j.toNat ρ' θ')∨(∃d ρ' θ',ZdR (ZcC (Zc nE Zk)) (gNm k) body ρ θ=.ok (.rt d,ρ') θ'∧Ret d):=by
  obtain ⟨all,hall⟩:∃x,x=(List.range j.toNat).map fun (i:Nat)=>D.int (0+(i:Int)):=⟨_,rfl⟩
  have hm:ZdR (ZcC (Zc nE Zk)) (gNm k) body ρ θ=ZcR (.rng 0 j.toNat) all (gNm k) body all ρ θ:=by
    unfold ZdR
    have:ZcC (Zc nE Zk) ρ θ=.ok (.rng 0 j.toNat) θ:=by simp [hn]; omega
    rw [this,R.bind_ok]
    simp only [Zc5,←hall]
  rw [hm]
  have key:∀(m:Nat) ρ θ,m≤j.toNat→Inv (j.toNat-m) ρ θ→(∃ρ' θ',ZcR (.rng 0 j.toNat) all (gNm k) body (all.drop (j.toNat-m)) ρ θ=.ok (.nx,ρ') θ'∧Inv j.toNat ρ' θ')∨(∃d ρ' θ',ZcR (.rng 0 j.toNat) all (gNm k) body (all.drop (j.toNat-m)) ρ θ=.ok (.rt d,ρ') θ'∧Ret d):=by
    intro m
    induction m with
    | zero=>
      intro ρ θ _ hI
      left
      refine ⟨ρ,θ,?_,by simpa using hI⟩
      rw [Nat.sub_zero,List.drop_eq_nil_of_le (by rw [hall]; simp)]
      simp [ZcR,hall]
    | succ m ih=>
      intro ρ θ hm hI
      have hlt:j.toNat-(m+1)<j.toNat:=by omega
      have hla:j.toNat-(m+1)<all.length:=by rw [hall]; simpa using hlt
      have e:j.toNat-(m+1)+1=j.toNat-m:=by omega
      have hx:all[j.toNat-(m+1)]=D.int (((j.toNat-(m+1):Nat):Int)):=by simp [hall]
      have hg:gNm k (D.int (((j.toNat-(m+1):Nat):Int))) ρ=some (ρ.set k (.val (.int ((j.toNat-(m+1):Nat):Int)))):=by
        have:=hk _ _ _ hI
        simp [gNm,this]
      have hit:(Src.rng 0 j.toNat).items θ=some all:=by rw [Zc5,hall]
      rw [List.drop_eq_getElem_cons hla,hx,e]
      simp only [ZcR,hit,if_true,hg]
      rcases step _ ρ θ hlt hI with ⟨ρ',θ',h,hI'⟩ | ⟨d,ρ',θ',h,hR⟩
      · rw [h,R.bind_ok,ZdI]
        exact ih ρ' θ' (by omega) (by rw [←e]; exact hI')
      · right
        exact ⟨d,ρ',θ',by rw [h]; rfl,hR⟩
  have:=key j.toNat ρ θ (Nat.le_refl _) (by rw [Nat.sub_self]; exact hi)
  rw [Nat.sub_self,List.drop_zero] at this
  exact this
theorem ZqR {α:Type} {F:α→D} {fE:EM} {body:SM} {k:Nat} {ρ:List Sl} {θ θ0:Sto} (Inv:List α→List Sl→Sto→Prop) (Ret:D→Prop) (xs:List α) (hn:fE ρ θ0=.ok (.lst (xs.map F)) θ) (hi:Inv xs ρ θ)
    (step:∀x r ρ θ,Inv (x::r) ρ θ→(∃ρ' θ',body (ρ.set k (.val (F x))) θ=.ok (.nx,ρ') θ'∧Inv r ρ' θ')∨(∃d ρ' θ',body (ρ.set k (.val (F x))) θ=.ok (.rt d,ρ') θ'∧Ret d)) (hk:∀i ρ θ,Inv i ρ θ→k < ρ.length) :
    (∃ρ' θ',ZdR (mIn fE) (gNm k) body ρ θ0=.ok (.nx,ρ') θ'∧Inv [] ρ' θ')∨(∃d ρ' θ',ZdR (mIn fE) (gNm k) body ρ θ0=.ok (.rt d,ρ') θ'∧Ret d):=by
  have hm:ZdR (mIn fE) (gNm k) body ρ θ0=ZcR (.seq (.lst (xs.map F))) (xs.map F) (gNm k) body (xs.map F) ρ θ:=by
    unfold ZdR
    have:mIn fE ρ θ0=.ok (.seq (.lst (xs.map F))) θ:=by simp [hn]
    rw [this,R.bind_ok]
    rfl
  rw [hm]
  have key:∀(ys:List α) ρ θ,Inv ys ρ θ→(∃ρ' θ',ZcR (.seq (.lst (xs.map F))) (xs.map F) (gNm k) body (ys.map F) ρ θ=.ok (.nx,ρ') θ'∧Inv [] ρ' θ')∨(∃d ρ' θ',ZcR (.seq (.lst (xs.map F))) (xs.map F) (gNm k) body (ys.map F) ρ θ=.ok (.rt d,ρ') θ'∧Ret d):=by
    intro ys
    induction ys with
    | nil=>
      intro ρ θ hI
      left
      refine ⟨ρ,θ,?_,hI⟩
      have hit:(Src.seq (.lst (xs.map F))).items θ=some (xs.map F):=rfl
      simp [ZcR,hit]
    | cons y ys ih=>
      intro ρ θ hI
      have hg:gNm k (F y) ρ=some (ρ.set k (.val (F y))):=by
        have:=hk _ _ _ hI
        simp [gNm,this]
      have hit:(Src.seq (.lst (xs.map F))).items θ=some (xs.map F):=rfl
      rw [List.map_cons]
      simp only [ZcR,hit,if_true,hg]
      rcases step _ _ ρ θ hI with ⟨ρ',θ',h,hI'⟩ | ⟨d,ρ',θ',h,hR⟩
      · rw [h,R.bind_ok,ZdI]
        exact ih ρ' θ' hI'
      · right
        exact ⟨d,ρ',θ',by rw [h]; rfl,hR⟩
  exact key xs ρ θ hi
end
end My
namespace My
open PySem L2 L2.MM
noncomputable section
def ZcN (q:Q):Int:=if 16<q.most then 16 else q.most
def room (q:Q):Int:=q.wnd-(q.nxt-q.una)
def ZaX (q:Q):Prop:=q.st∈[State.opn,.waitOne,.closeWait,.closing,.lastAck]∧q.nxt<q.beh
def Zbl (q:Q):Prop:=q.st∈[State.waitOne,.closing,.lastAck]∧q.nxt=q.beh
instance (q:Q):Decidable (ZaX q):=by unfold ZaX; infer_instance
instance (q:Q):Decidable (Zbl q):=by unfold Zbl; infer_instance
def Zaa (q:Q) (r:Int):Int:=mn3 (ZcN q) (q.beh-q.nxt) r
def sinceQ (q:Q) (t:Int):Q:=if q.nxt=q.una then { q with since:=t,wait:=1000,tries:=0 } else q
def Zdw (a b f g:Int) (q:Q) (r:Int):Seg:=⟨a,b,Zn f q.nxt,Zn g q.rcv,if q.nxt+Zaa q r=q.beh then 24 else 16,64-q.come.length,0,(q.written.drop (q.nxt-q.una).toNat).take (Zaa q r).toNat⟩
def finS (a b f g:Int) (q:Q):Seg:=⟨a,b,Zn f q.nxt,Zn g q.rcv,17,64-q.come.length,0,[]⟩
def ZjS (a b f g:Int) (q:Q):Seg:=⟨a,b,Zn f q.nxt,Zn g q.rcv,16,64-q.come.length,0,[]⟩
def Zb6 (q:Q) (r:Int) (t:Int):Q:={ sinceQ q t with nxt:=q.nxt+Zaa q r,oa:=false,pr:=false }
def nextF (q:Q) (t:Int):Q:={ sinceQ q t with nxt:=q.nxt+1,oa:=false,pr:=false }
structure WF (q:Q):Prop where
  una:0≤q.una∧q.una≤q.nxt
  nxt:q.nxt≤q.beh+1∧q.beh<1000000
  wr:q.una≤q.beh→(q.written.length:Int)=q.beh-q.una
  wnd:0≤q.wnd∧q.wnd≤65535
  most:4≤q.most
  come:q.come.length≤64
  byt:∀z∈q.written,0≤z∧z≤255
structure CalmQ (q:Q) (t:Int):Prop where
  st:q.st∉[State.closed,.listen,.synSent,.synCome]
  tw:q.st=.timeWait→t-q.since<120000
  due:¬q.nxt=q.una→t-q.since<q.wait
section
variable {a b f g t:Int} {q:Q}
theorem CalmQ.on (h:CalmQ q t):Calm (qE a b f g q) t:=⟨rfl,h.st,h.tw,fun z=>h.due fun y=>z (by show Zn f q.nxt=Zn f q.una; rw [y])⟩
theorem WF.uns (w:WF q):ZcL (qE a b f g q)=q.beh-q.nxt:=by
  obtain ⟨u,n,_⟩:=w
  exact ZdP (by omega)
theorem WF.off (w:WF q):ZY (qE a b f g q).nxt (qE a b f g q).una=q.nxt-q.una:=by
  obtain ⟨u,n,_⟩:=w
  exact ZdP (by omega)
theorem WF.same (w:WF q):(qE a b f g q).nxt=(qE a b f g q).una↔q.nxt=q.una:=by
  obtain ⟨u,n,_⟩:=w
  exact Zcy (by omega)
theorem WF.newD (w:WF q):Za7 (qE a b f g q)=decide (ZaX q):=by
  unfold Za7
  rw [w.uns,Bool.eq_iff_iff,Bool.and_eq_true,decide_eq_true_iff,decide_eq_true_iff,decide_eq_true_iff]
  exact and_congr Iff.rfl (by omega)
theorem WF.newF (w:WF q):hasNewFin (qE a b f g q)=decide (Zbl q):=by
  unfold hasNewFin
  rw [w.uns,Bool.eq_iff_iff,Bool.and_eq_true,decide_eq_true_iff,decide_eq_true_iff,decide_eq_true_iff]
  exact and_congr Iff.rfl (by omega)
theorem WF.more (w:WF q):Za8 (qE a b f g q)=(decide (ZaX q) || decide (Zbl q)):=by
  unfold Za8
  rw [w.newD,w.newF]
theorem Zlp (w:WF q) (t:Int):(if (qE a b f g q).nxt=(qE a b f g q).una then Z1 (qE a b f g q) t else qE a b f g q)=qE a b f g (sinceQ q t):=by
  unfold sinceQ
  by_cases c:q.nxt=q.una
  · rw [if_pos (w.same.mpr c),if_pos c]; rfl
  · rw [if_neg fun z=>c (w.same.mp z),if_neg c]
theorem zA (q:Q) (t:Int):(sinceQ q t).nxt=q.nxt∧(sinceQ q t).una=q.una∧(sinceQ q t).beh=q.beh∧(sinceQ q t).rcv=q.rcv∧(sinceQ q t).st=q.st∧(sinceQ q t).most=q.most∧(sinceQ q t).written=q.written∧(sinceQ q t).come=q.come∧(sinceQ q t).wnd=q.wnd∧(sinceQ q t).told=q.told∧(sinceQ q t).by_=q.by_∧(sinceQ q t).fin=q.fin∧(sinceQ q t).cl=q.cl:=by
  unfold sinceQ
  split<;>exact ⟨rfl,rfl,rfl,rfl,rfl,rfl,rfl,rfl,rfl,rfl,rfl,rfl,rfl⟩
theorem Zdj (w:WF q) (hd:q.nxt<q.beh) {r:Int} (hr:0<r):0<Zaa q r∧Zaa q r≤q.beh-q.nxt∧Zaa q r≤r∧Zaa q r≤16:=by
  have:=w.most
  unfold Zaa mn3 ZcN
  split<;>split<;>split<;>omega
theorem ZhH (w:WF q) (hd:ZaX q) {r:Int} (hr:0<r) (p0:Bool):zW (qE a b f g { q with oa:=false,pr:=p0 }) r=(Zdw a b f g q r,qE a b f g { q with nxt:=q.nxt+Zaa q r,oa:=false,pr:=false }):=by
  obtain ⟨c1,c2,c3,c4⟩:=Zdj w hd.2 hr
  have hu:=w.una
  have hn:=w.nxt
  have wf2:WF { q with oa:=false,pr:=p0 }:=⟨w.una,w.nxt,w.wr,w.wnd,w.most,w.come,w.byt⟩
  unfold zW
  rw [if_pos (by rw [wf2.newD]; exact decide_eq_true hd)]
  have e0:({ qE a b f g { q with oa:=false,pr:=p0 } with probes:=false }:Zx)=qE a b f g { q with oa:=false,pr:=false }:=rfl
  rw [e0]
  have wf3:WF { q with oa:=false,pr:=false }:=⟨w.una,w.nxt,w.wr,w.wnd,w.most,w.come,w.byt⟩
  have nm:Zfb (qE a b f g { q with oa:=false,pr:=false }) r=Zaa q r:=by
    unfold Zfb Zaa
    rw [wf3.uns]
    rfl
  unfold Zfc
  simp only [nm]
  have e1:({ qE a b f g { q with oa:=false,pr:=false } with nxt:=Zn (qE a b f g { q with oa:=false,pr:=false }).nxt (Zaa q r) }:Zx)=qE a b f g { q with nxt:=q.nxt+Zaa q r,oa:=false,pr:=false }:=by
    have:Zn (Zn f q.nxt) (Zaa q r)=Zn f (q.nxt+Zaa q r):=Zaj _ _ _
    show ({ qE a b f g { q with oa:=false,pr:=false } with nxt:=Zn (Zn f q.nxt) (Zaa q r) }:Zx)=_
    rw [this]
    rfl
  rw [e1]
  have u1:ZcL (qE a b f g { q with nxt:=q.nxt+Zaa q r,oa:=false,pr:=false })=q.beh-(q.nxt+Zaa q r):=ZdP (by show _∧_; simp only; omega)
  rw [u1,wf3.off]
  have cu:Zbe (qE a b f g { q with oa:=false,pr:=false }).written (some (q.nxt-q.una)) (some (q.nxt-q.una+Zaa q r))=(q.written.drop (q.nxt-q.una).toNat).take (Zaa q r).toNat:=by
    rw [ZjI _ (by omega) (by omega)]
    congr 1
    omega
  simp only [cu]
  refine Prod.ext ?_ rfl
  unfold Zdd Zdw Z7
  by_cases c:q.nxt+Zaa q r=q.beh
  · rw [if_pos (by omega),if_pos c]; rfl
  · rw [if_neg (by omega),if_neg c]; rfl
theorem ZiQ (w:WF q) (hd:Zbl q) (r:Int) (p0:Bool):zW (qE a b f g { q with oa:=false,pr:=p0 }) r=(finS a b f g q,qE a b f g { q with nxt:=q.nxt+1,oa:=false,pr:=false }):=by
  have wf2:WF { q with oa:=false,pr:=p0 }:=⟨w.una,w.nxt,w.wr,w.wnd,w.most,w.come,w.byt⟩
  have nd:¬ZaX { q with oa:=false,pr:=p0 }:=fun z=>by
    have h1:=z.2
    have h2:=hd.2
    simp only at h1
    omega
  unfold zW
  rw [if_neg (by rw [wf2.newD,decide_eq_false nd]; decide)]
  unfold ZhO
  refine Prod.ext rfl ?_
  show ({ qE a b f g { q with oa:=false,pr:=false } with nxt:=Zn (Zn f q.nxt) 1 }:Zx)=_
  rw [Zaj]
  rfl
theorem Zsu (c:CalmQ q t) (w:WF q) (hr:0<room q) (hd:ZaX q):Zah (qE a b f g q) t=(some (Zdw a b f g q (room q)),qE a b f g (Zb6 q (room q) t)):=by
  have o:=w.off (a:=a) (b:=b) (f:=f) (g:=g)
  have ro:(qE a b f g q).wnd-ZY (qE a b f g q).nxt (qE a b f g q).una=room q:=by rw [o]; rfl
  rw [ZqO c.on (by rw [ro]; exact hr) (by rw [w.more,decide_eq_true hd]; rfl),Zlp w,ro]
  obtain ⟨s1,s2,s3,s4,s5,s6,s7,s8,s9,s10,s11,s12,s13⟩:=zA q t
  have wf':WF (sinceQ q t):=⟨by rw [s1,s2]; exact w.una,by rw [s1,s3]; exact w.nxt,by rw [s2,s3,s7]; exact w.wr,by rw [s9]; exact w.wnd,by rw [s6]; exact w.most,by rw [s8]; exact w.come,by rw [s7]; exact w.byt⟩
  have e0:({ qE a b f g (sinceQ q t) with owes_answer:=false }:Zx)=qE a b f g { sinceQ q t with oa:=false,pr:=(sinceQ q t).pr }:=rfl
  rw [e0,ZhH wf' (by unfold ZaX; rw [s5,s1,s3]; exact hd) hr]
  have cc:Zaa (sinceQ q t) (room q)=Zaa q (room q):=by unfold Zaa ZcN; rw [s1,s3,s6]
  have dd:Zdw a b f g (sinceQ q t) (room q)=Zdw a b f g q (room q):=by unfold Zdw; rw [cc,s1,s2,s3,s4,s7,s8]
  rw [dd,cc,s1]
  rfl
theorem Zst (c:CalmQ q t) (w:WF q) (hr:0<room q) (hd:Zbl q):Zah (qE a b f g q) t=(some (finS a b f g q),qE a b f g (nextF q t)):=by
  have o:=w.off (a:=a) (b:=b) (f:=f) (g:=g)
  have ro:(qE a b f g q).wnd-ZY (qE a b f g q).nxt (qE a b f g q).una=room q:=by rw [o]; rfl
  rw [ZqO c.on (by rw [ro]; exact hr) (by rw [w.more,decide_eq_true hd]; simp),Zlp w,ro]
  obtain ⟨s1,s2,s3,s4,s5,s6,s7,s8,s9,s10,s11,s12,s13⟩:=zA q t
  have wf':WF (sinceQ q t):=⟨by rw [s1,s2]; exact w.una,by rw [s1,s3]; exact w.nxt,by rw [s2,s3,s7]; exact w.wr,by rw [s9]; exact w.wnd,by rw [s6]; exact w.most,by rw [s8]; exact w.come,by rw [s7]; exact w.byt⟩
  have e0:({ qE a b f g (sinceQ q t) with owes_answer:=false }:Zx)=qE a b f g { sinceQ q t with oa:=false,pr:=(sinceQ q t).pr }:=rfl
  rw [e0,ZiQ wf' (by unfold Zbl; rw [s5,s1,s3]; exact hd)]
  have dd:finS a b f g (sinceQ q t)=finS a b f g q:=by unfold finS; rw [s1,s4,s8]
  rw [dd,s1]
  rfl
theorem Zf8 (c:CalmQ q t) (w:WF q) (hn:¬(ZaX q∨Zbl q)∨(¬q.nxt=q.una∧room q≤0)) (hp:q.pr=false):Zah (qE a b f g q) t=if q.oa=true then (some (ZjS a b f g q),qE a b f g { q with oa:=false }) else (none,qE a b f g q):=by
  have o:=w.off (a:=a) (b:=b) (f:=f) (g:=g)
  have hm:Za8 (qE a b f g q)=false∨(¬(qE a b f g q).nxt=(qE a b f g q).una∧(qE a b f g q).wnd-ZY (qE a b f g q).nxt (qE a b f g q).una≤0):=by
    rcases hn with h | ⟨h1,h2⟩
    · left
      rw [w.more,decide_eq_false fun z=>h (.inl z),decide_eq_false fun z=>h (.inr z)]; rfl
    · right
      exact ⟨fun z=>h1 (w.same.mp z),by rw [o]; exact h2⟩
  by_cases h:q.oa=true
  · rw [if_pos h,Zn2 c.on hm hp h]; rfl
  · rw [if_neg h,ZqM c.on hm hp (by simpa [qE] using h)]
end
def zL (a b f g:Int) (t:Int):Nat→Q→List Seg×Q
  | 0,q=>([],q)
  | n+1,q=>
    if 0<room q∧ZaX q then (Zdw a b f g q (room q)::(zL a b f g t n (Zb6 q (room q) t)).1,(zL a b f g t n (Zb6 q (room q) t)).2)
    else if 0<room q∧Zbl q then (finS a b f g q::(zL a b f g t n (nextF q t)).1,(zL a b f g t n (nextF q t)).2)
    else if q.oa=true then ([ZjS a b f g q],{ q with oa:=false }) else ([],q)
section
variable {a b f g t:Int}
theorem WF.next {q:Q} (w:WF q) (hr:0<room q) (hd:ZaX q):WF (Zb6 q (room q) t):=by
  obtain ⟨c1,c2,c3,c4⟩:=Zdj w hd.2 hr
  obtain ⟨s1,s2,s3,s4,s5,s6,s7,s8,s9,s10,s11,s12,s13⟩:=zA q t
  have h1:=w.una
  have h2:=w.nxt
  refine ⟨?_,?_,?_,?_,?_,?_,?_⟩
  · show 0≤(sinceQ q t).una∧(sinceQ q t).una≤q.nxt+Zaa q (room q); rw [s2]; omega
  · show q.nxt+Zaa q (room q)≤(sinceQ q t).beh+1∧(sinceQ q t).beh<1000000; rw [s3]; omega
  · show (sinceQ q t).una≤(sinceQ q t).beh→((sinceQ q t).written.length:Int)=(sinceQ q t).beh-(sinceQ q t).una; rw [s2,s3,s7]; exact w.wr
  · show 0≤(sinceQ q t).wnd∧(sinceQ q t).wnd≤65535; rw [s9]; exact w.wnd
  · show 4≤(sinceQ q t).most; rw [s6]; exact w.most
  · show (sinceQ q t).come.length≤64; rw [s8]; exact w.come
  · show ∀z∈(sinceQ q t).written,_; rw [s7]; exact w.byt
theorem WF.nextF {q:Q} (w:WF q) (hd:Zbl q):WF (My.nextF q t):=by
  obtain ⟨s1,s2,s3,s4,s5,s6,s7,s8,s9,s10,s11,s12,s13⟩:=zA q t
  have h1:=w.una
  have h2:=w.nxt
  have h3:=hd.2
  refine ⟨?_,?_,?_,?_,?_,?_,?_⟩
  · show 0≤(sinceQ q t).una∧(sinceQ q t).una≤q.nxt+1; rw [s2]; omega
  · show q.nxt+1≤(sinceQ q t).beh+1∧(sinceQ q t).beh<1000000; rw [s3]; omega
  · show (sinceQ q t).una≤(sinceQ q t).beh→((sinceQ q t).written.length:Int)=(sinceQ q t).beh-(sinceQ q t).una; rw [s2,s3,s7]; exact w.wr
  · show 0≤(sinceQ q t).wnd∧(sinceQ q t).wnd≤65535; rw [s9]; exact w.wnd
  · show 4≤(sinceQ q t).most; rw [s6]; exact w.most
  · show (sinceQ q t).come.length≤64; rw [s8]; exact w.come
  · show ∀z∈(sinceQ q t).written,_; rw [s7]; exact w.byt
theorem ZhE (q:Q) (t:Int) (c:CalmQ q t):t-(sinceQ q t).since<(sinceQ q t).wait∧((sinceQ q t).st=.timeWait→t-(sinceQ q t).since<120000):=by
  unfold sinceQ
  by_cases h:q.nxt=q.una
  · rw [if_pos h]; simp only; exact ⟨by omega,fun _=>by omega⟩
  · rw [if_neg h]; exact ⟨c.due h,c.tw⟩
theorem CalmQ.next {q:Q} {r:Int} (c:CalmQ q t):CalmQ (Zb6 q r t) t:=by
  obtain ⟨w1,w2⟩:=ZhE q t c
  obtain ⟨s1,s2,s3,s4,s5,_⟩:=zA q t
  exact ⟨by show (sinceQ q t).st∉_; rw [s5]; exact c.st,w2,fun _=>w1⟩
theorem CalmQ.nextF {q:Q} (c:CalmQ q t):CalmQ (My.nextF q t) t:=by
  obtain ⟨w1,w2⟩:=ZhE q t c
  obtain ⟨s1,s2,s3,s4,s5,_⟩:=zA q t
  exact ⟨by show (sinceQ q t).st∉_; rw [s5]; exact c.st,w2,fun _=>w1⟩
theorem Znl {q:Q} {r:Int} (w:WF q) (hr:0<r) (hd:ZaX q) (ha:0≤a∧a≤65535) (hb:0≤b∧b≤65535):(Zdw a b f g q r).Ok:=by
  obtain ⟨c1,c2,c3,c4⟩:=Zdj w hd.2 hr
  have:=w.come
  refine Zfs ha hb (Zab _ _) (Zab _ _) (by split<;>omega) (by omega) (.inl rfl) ⟨fun z hz=>w.byt z (List.mem_of_mem_drop (List.mem_of_mem_take hz)),?_⟩
  rw [List.length_take]
  omega
theorem ZqT {q:Q} (w:WF q) (ha:0≤a∧a≤65535) (hb:0≤b∧b≤65535):(finS a b f g q).Ok:=by
  have:=w.come
  exact Zfs ha hb (Zab _ _) (Zab _ _) (by omega) (by omega) (.inl rfl) Zea
theorem ZsL {q:Q} (w:WF q) (ha:0≤a∧a≤65535) (hb:0≤b∧b≤65535):(ZjS a b f g q).Ok:=by
  have:=w.come
  exact Zfs ha hb (Zab _ _) (Zab _ _) (by omega) (by omega) (.inl rfl) Zea
theorem ZjF (ha:0≤a∧a≤65535) (hb:0≤b∧b≤65535):∀(n:Nat) (q:Q),WF q→CalmQ q t→q.pr=false→(q.beh+1-q.nxt<n)→(¬q.nxt=q.una∨0<q.wnd∨¬(ZaX q∨Zbl q))→Gives t (qE a b f g q) (zL a b f g t n q).1 (qE a b f g (zL a b f g t n q).2)
  | 0,q,w,_,_,hn,_=>by have:=w.nxt; omega
  | n+1,q,w,c,hp,hn,h0=>by
    unfold zL
    by_cases h1:0<room q∧ZaX q
    · obtain ⟨c1,c2,c3,c4⟩:=Zdj w h1.2.2 h1.1
      have hu:=w.una
      rw [if_pos h1]
      refine .cons (Zsu c w h1.1 h1.2) (Znl w h1.1 h1.2 ha hb) (ZjF ha hb n _ (w.next h1.1 h1.2) c.next rfl ?_ (.inl ?_))
      · show (sinceQ q t).beh+1-(q.nxt+Zaa q (room q))<n
        rw [(zA q t).2.2.1]; omega
      · show ¬q.nxt+Zaa q (room q)=(sinceQ q t).una
        rw [(zA q t).2.1]; omega
    · rw [if_neg h1]
      by_cases h2:0<room q∧Zbl q
      · have hu:=w.una
        rw [if_pos h2]
        refine .cons (Zst c w h2.1 h2.2) (ZqT w ha hb) (ZjF ha hb n _ (w.nextF h2.2) c.nextF rfl ?_ (.inl ?_))
        · show (sinceQ q t).beh+1-(q.nxt+1)<n
          rw [(zA q t).2.2.1]; omega
        · show ¬q.nxt+1=(sinceQ q t).una
          rw [(zA q t).2.1]; omega
      · rw [if_neg h2]
        have st:¬(ZaX q∨Zbl q)∨(¬q.nxt=q.una∧room q≤0):=by
          by_cases hm:ZaX q∨Zbl q
          · right
            have hr:room q≤0:=by
              rcases hm with hm | hm
              · exact Int.not_lt.mp fun z=>h1 ⟨z,hm⟩
              · exact Int.not_lt.mp fun z=>h2 ⟨z,hm⟩
            refine ⟨?_,hr⟩
            rcases h0 with h | h | h
            · exact h
            · intro z
              unfold room at hr
              omega
            · exact absurd hm h
          · exact .inl hm
        have gs:=Zf8 (a:=a) (b:=b) (f:=f) (g:=g) c w st hp
        by_cases ho:q.oa=true
        · rw [if_pos ho] at gs ⊢
          refine .cons gs (ZsL w ha hb) (.nil ?_)
          have c':CalmQ { q with oa:=false } t:=⟨c.st,c.tw,c.due⟩
          have w':WF { q with oa:=false }:=⟨w.una,w.nxt,w.wr,w.wnd,w.most,w.come,w.byt⟩
          exact Zf8 (a:=a) (b:=b) (f:=f) (g:=g) c' w' st hp
        · rw [if_neg ho] at gs ⊢
          exact .nil gs
end
end
end My
namespace My
open PySem L2 L2.MM
noncomputable section
def ZjR:List Seg→Int
  | []=>0
  | s::r=>s.data.length+s.flags % 2+ZjR r
structure Kept (q q':Q):Prop where
  st:q'.st=q.st
  una:q'.una=q.una
  beh:q'.beh=q.beh
  rcv:q'.rcv=q.rcv
  told:q'.told=q.told
  by_:q'.by_=q.by_
  wnd:q'.wnd=q.wnd
  most:q'.most=q.most
  written:q'.written=q.written
  come:q'.come=q.come
  fin:q'.fin=q.fin
  cl:q'.cl=q.cl
theorem Kept.refl (q:Q):Kept q q:=⟨rfl,rfl,rfl,rfl,rfl,rfl,rfl,rfl,rfl,rfl,rfl,rfl⟩
theorem Kept.trans {q r s:Q} (h:Kept q r) (k:Kept r s):Kept q s:=⟨k.st.trans h.st,k.una.trans h.una,k.beh.trans h.beh,k.rcv.trans h.rcv,k.told.trans h.told,k.by_.trans h.by_,k.wnd.trans h.wnd,k.most.trans h.most,k.written.trans h.written,k.come.trans h.come,k.fin.trans h.fin,k.cl.trans h.cl⟩
theorem ZhW (q:Q) (t:Int):Kept q (sinceQ q t):=by
  unfold sinceQ
  split<;>exact ⟨rfl,rfl,rfl,rfl,rfl,rfl,rfl,rfl,rfl,rfl,rfl,rfl⟩
theorem ZfE (q:Q) (r t:Int):Kept q (Zb6 q r t):=
  have k:=ZhW q t
  ⟨k.st,k.una,k.beh,k.rcv,k.told,k.by_,k.wnd,k.most,k.written,k.come,k.fin,k.cl⟩
theorem ZhX (q:Q) (t:Int):Kept q (nextF q t):=
  have k:=ZhW q t
  ⟨k.st,k.una,k.beh,k.rcv,k.told,k.by_,k.wnd,k.most,k.written,k.come,k.fin,k.cl⟩
section
variable {a b f g t:Int}
theorem Zq5 {q:Q} {r:Int} (w:WF q) (hr:0<r) (hd:ZaX q):((Zdw a b f g q r).data.length:Int)=Zaa q r:=by
  obtain ⟨c1,c2,c3,c4⟩:=Zdj w hd.2 hr
  have h1:=w.una
  have h2:=hd.2
  have h3:=w.wr (by omega)
  show (((q.written.drop (q.nxt-q.una).toNat).take (Zaa q r).toNat).length:Int)=_
  rw [List.length_take,List.length_drop]
  omega
theorem Zh2:∀(n:Nat) (q:Q),WF q→Kept q (zL a b f g t n q).2∧(zL a b f g t n q).2.nxt=q.nxt+ZjR (zL a b f g t n q).1∧WF (zL a b f g t n q).2∧((zL a b f g t n q).1.length:Int)≤(if 0<room q then room q else 0)+1
  | 0,q,w=>⟨Kept.refl q,by simp [zL,ZjR],w,by simp [zL]; split<;>omega⟩
  | n+1,q,w=>by
    unfold zL
    by_cases h1:0<room q∧ZaX q
    · obtain ⟨c1,c2,c3,c4⟩:=Zdj w h1.2.2 h1.1
      rw [if_pos h1]
      obtain ⟨k,a1,w1,l1⟩:=Zh2 n (Zb6 q (room q) t) (w.next h1.1 h1.2)
      have kd:=ZfE q (room q) t
      refine ⟨kd.trans k,?_,w1,?_⟩
      · simp only
        rw [a1]
        show q.nxt+Zaa q (room q)+ZjR _=q.nxt+(((Zdw a b f g q (room q)).data.length:Int)+(Zdw a b f g q (room q)).flags % 2+ZjR _)
        rw [Zq5 w h1.1 h1.2]
        have:(Zdw a b f g q (room q)).flags % 2=0:=by
          show (if q.nxt+Zaa q (room q)=q.beh then 24 else 16:Int) % 2=0
          split<;>rfl
        omega
      · have rr:room (Zb6 q (room q) t)=room q-Zaa q (room q):=by
          show (Zb6 q (room q) t).wnd-((Zb6 q (room q) t).nxt-(Zb6 q (room q) t).una)=_
          rw [kd.wnd,kd.una]
          show q.wnd-(q.nxt+Zaa q (room q)-q.una)=q.wnd-(q.nxt-q.una)-Zaa q (room q)
          omega
        rw [rr] at l1
        rw [if_pos h1.1]
        simp only [List.length_cons]
        split at l1<;>omega
    · rw [if_neg h1]
      by_cases h2:0<room q∧Zbl q
      · rw [if_pos h2]
        obtain ⟨k,a1,w1,l1⟩:=Zh2 n (nextF q t) (w.nextF h2.2)
        have kd:=ZhX q t
        refine ⟨kd.trans k,?_,w1,?_⟩
        · simp only
          rw [a1]
          show q.nxt+1+ZjR _=q.nxt+(((finS a b f g q).data.length:Int)+(finS a b f g q).flags % 2+ZjR _)
          have e1:(finS a b f g q).data.length=0:=rfl
          have e2:(finS a b f g q).flags % 2=1:=rfl
          rw [e1,e2]
          omega
        · have rr:room (nextF q t)=room q-1:=by
            unfold room
            rw [kd.wnd,kd.una]
            show q.wnd-(q.nxt+1-q.una)=_
            omega
          rw [rr] at l1
          rw [if_pos h2.1]
          simp only [List.length_cons]
          split at l1<;>omega
      · rw [if_neg h2]
        split
        · refine ⟨⟨rfl,rfl,rfl,rfl,rfl,rfl,rfl,rfl,rfl,rfl,rfl,rfl⟩,?_,⟨w.una,w.nxt,w.wr,w.wnd,w.most,w.come,w.byt⟩,?_⟩
          · simp only [ZjR]
            have e1:(ZjS a b f g q).data.length=0:=rfl
            have e2:(ZjS a b f g q).flags % 2=0:=rfl
            rw [e1,e2]
            omega
          · simp only [List.length_cons,List.length_nil]
            split<;>omega
        · refine ⟨Kept.refl q,by simp [ZjR],w,?_⟩
          simp only [List.length_nil]
          split<;>omega
end
section
variable {a b f g t:Int}
def qIn (q:Q) (n:Int) (x:List Int) (fin:Bool):Q:={ q with come:=q.come++x,rcv:=n,oa:=q.oa || decide (0<x.length) || fin,fin:=if fin then some (q.rcv+x.length) else none }
end
end
end My
namespace My
open PySem L2 L2.MM
noncomputable section
section
variable {a b f g t:Int}
theorem ZgG:∀(n:Nat) (q:Q),WF q→(q.beh+1-q.nxt<n)→¬(0<room (zL a b f g t n q).2∧(ZaX (zL a b f g t n q).2∨Zbl (zL a b f g t n q).2))
  | 0,q,w,hn=>by have:=w.nxt; omega
  | n+1,q,w,hn=>by
    unfold zL
    by_cases h1:0<room q∧ZaX q
    · obtain ⟨c1,c2,c3,c4⟩:=Zdj w h1.2.2 h1.1
      rw [if_pos h1]
      refine ZgG n _ (w.next h1.1 h1.2) ?_
      show (sinceQ q t).beh+1-(q.nxt+Zaa q (room q))<n
      rw [(zA q t).2.2.1]; omega
    · rw [if_neg h1]
      by_cases h2:0<room q∧Zbl q
      · rw [if_pos h2]
        refine ZgG n _ (w.nextF h2.2) ?_
        show (sinceQ q t).beh+1-(q.nxt+1)<n
        rw [(zA q t).2.2.1]; omega
      · rw [if_neg h2]
        have key:¬(0<room q∧(ZaX q∨Zbl q)):=fun z=>z.2.elim (fun y=>h1 ⟨z.1,y⟩) fun y=>h2 ⟨z.1,y⟩
        split<;>exact key
def probing (q:Q) (t:Int):Q:=if q.pr=true then q else { q with pr:=true,since:=t,wait:=1000,tries:=0 }
theorem ZeS {q:Q} (c:CalmQ q t) (w:WF q) (hn:q.nxt=q.una) (hw:q.wnd=0) (hm:ZaX q∨Zbl q) (hd:q.pr=false∨t-q.since<q.wait):Zah (qE a b f g q) t=if q.oa=true then (some (ZjS a b f g (probing q t)),qE a b f g { probing q t with oa:=false }) else (none,qE a b f g (probing q t)):=by
  have o:=w.off (a:=a) (b:=b) (f:=f) (g:=g)
  have mo:Za8 (qE a b f g q)=true:=by
    rw [w.more]
    rcases hm with h | h
    · rw [decide_eq_true h]; rfl
    · rw [decide_eq_true h]; simp
  have a1:Z9 (qE a b f g q) t=(none,qE a b f g q):=by
    unfold Z9
    rw [if_neg c.on.notSyn,if_pos (.inl (by rw [o]; show q.wnd-(q.nxt-q.una)≤0; omega))]
  have pb:(if (qE a b f g q).probes=true then qE a b f g q else Z1 { qE a b f g q with probes:=true } t)=qE a b f g (probing q t):=by
    unfold probing
    by_cases h:q.pr=true
    · rw [if_pos (show (qE a b f g q).probes=true from h),if_pos h]
    · rw [if_neg (show ¬(qE a b f g q).probes=true from h),if_neg h]; rfl
  have nd:Zcb (qE a b f g (probing q t)) t=false:=by
    unfold Zcb probing
    by_cases h:q.pr=true
    · rw [if_pos h]
      have:=hd.resolve_left (by rw [h]; decide)
      show decide (q.wait≤t-q.since)=false
      simp; omega
    · rw [if_neg h]
      show decide ((1000:Int)≤t-t)=false
      simp
  have a2:ZZ (qE a b f g q) t=(none,qE a b f g (probing q t)):=by
    unfold ZZ
    rw [if_neg (by rw [mo]; simp; exact ⟨w.same.mpr hn,hw⟩)]
    simp only [pb,nd]
    simp
  rw [c.on.go]
  unfold Zbx
  rw [a1]
  simp only [a2]
  have oo:(qE a b f g (probing q t)).owes_answer=q.oa:=by
    show (probing q t).oa=q.oa
    unfold probing
    split<;>rfl
  unfold zR
  rw [oo]
  by_cases h:q.oa=true
  · rw [if_pos h,if_pos h]; rfl
  · rw [if_neg h,if_neg h]
end
end
end My
namespace My
open PySem L2 L2.MM
noncomputable section
section
variable {a b f g t:Int} {q:Q}
def Ze9 (q:Q):List Int:=q.written.take (mn (q.nxt-q.una) (ZcN q)).toNat
def Zis (a b f g:Int) (q:Q):Seg:=⟨a,b,Zn f q.una,Zn g q.rcv,if 0<(Ze9 q).length then 16 else 17,64-q.come.length,0,Ze9 q⟩
structure Due (q:Q) (t:Int):Prop where
  st:q.st∉[State.closed,.listen,.synSent,.synCome,.timeWait]
  nx:¬q.nxt=q.una
  due:q.wait≤t-q.since
theorem ZuG (w:WF q) (d:Due q t):Zah (qE a b f g q) t=again (qE a b f g q) t:=by
  have hs:=d.st
  simp only [List.mem_cons,List.not_mem_nil,or_false,not_or] at hs
  have h1:¬((qE a b f g q).state=.timeWait∧120000≤t-(qE a b f g q).since):=fun h=>hs.2.2.2.2 h.1
  have h2:¬((qE a b f g q).state=.closed∨(qE a b f g q).state=.listen):=fun h=>h.elim hs.1 hs.2.1
  have h3:¬(qE a b f g q).nxt=(qE a b f g q).una∧Zcb (qE a b f g q) t=true:=⟨fun z=>d.nx (w.same.mp z),by
    unfold Zcb
    show decide (q.wait≤t-q.since)=true
    exact decide_eq_true d.due⟩
  unfold Zah
  have ow:(qE a b f g q).owed_reset=none:=rfl
  rw [ow]
  simp only [if_neg h1]
  rw [if_neg h2,if_pos h3]
theorem ZqP (w:WF q) (d:Due q t) (ht:¬q.tries=6):Zah (qE a b f g q) t=(some (Zis a b f g q),qE a b f g { q with tries:=q.tries+1,wait:=mn (2*q.wait) 16000,since:=t }):=by
  have hs:=d.st
  simp only [List.mem_cons,List.not_mem_nil,or_false,not_or] at hs
  have hn:=w.una
  have h2:¬((qE a b f g q).state=.synSent∨(qE a b f g q).state=.synCome):=fun h=>h.elim hs.2.2.1 hs.2.2.2.1
  have ad:ZbA (qE a b f g q)=Ze9 q:=by
    unfold ZbA Ze9
    rw [w.off]
    show Zbe q.written none (some (mn (q.nxt-q.una) (ZcN q)))=_
    have hm:=w.most
    rw [ZfG _ (by unfold mn ZcN; split<;>split<;>omega)]
  rw [ZuG w d]
  unfold again
  rw [if_neg (show ¬(qE a b f g q).tries=6 from ht),ad]
  simp only [if_neg h2]
  refine Prod.ext ?_ rfl
  unfold Zis Zdd
  by_cases c:0<(Ze9 q).length
  · rw [if_pos c,if_pos c]; rfl
  · rw [if_neg c,if_neg c]; rfl
theorem Zrl (w:WF q) (ha:0≤a∧a≤65535) (hb:0≤b∧b≤65535):(Zis a b f g q).Ok:=by
  have:=w.come
  have hm:=w.most
  refine Zfs ha hb (Zab _ _) (Zab _ _) (by split<;>omega) (by omega) (.inl rfl) ⟨fun z hz=>w.byt z (List.mem_of_mem_take hz),?_⟩
  unfold Ze9
  rw [List.length_take]
  have h16:ZcN q≤16:=by unfold ZcN; split<;>omega
  have:mn (q.nxt-q.una) (ZcN q)≤16:=by unfold mn; split<;>omega
  omega
def trQ (q:Q) (n W:Int):Int:=if q.wnd=0∨W=0 then 0 else (if n=q.nxt then q.tries else 0)
def zG (q:Q) (n W t:Int):Q:={ q with una:=n,written:=q.written.drop (n-q.una).toNat,by_:=n,told:=q.rcv,wnd:=W,since:=if n=q.nxt then q.since else t,wait:=if n=q.nxt then q.wait else 1000,tries:=trQ q n W }
end
end
end My
namespace My
open PySem L2 L2.MM
noncomputable section
section
variable {a b f g t:Int} {q:Q}
end
end
end My
namespace My
open PySem L2 L2.MM
noncomputable section
section
variable {a b f g t:Int} {q:Q}
abbrev S3:List State:=[.opn,.waitOne,.waitTwo]
theorem S3.cases {s:State} (h:s∈S3):s=.opn∨s=.waitOne∨s=.waitTwo:=by simpa using h
theorem Zgb {n W:Int} {x:List Int} {q':Q} (hst:q.st∈S3) (hx:x.length≤16) (hq:q.come.length≤63) (go:Zac (qE a b f g q) ⟨b,a,Zn g q.rcv,Zn f n,16,W,0,x⟩ t=(true,qE a b f g q')) (h1:q'.st∈S3) (h2:q'.fin=none) (h3:q'.rcv=q.rcv) (h4:q'.come.length+x.length≤63) :
    comes (qE a b f g q) ⟨b,a,Zn g q.rcv,Zn f n,16,W,0,x⟩ t=qE a b f g (qIn q' (q.rcv+x.length) x false):=by
  have hs:=S3.cases hst
  have hs':=S3.cases h1
  obtain ⟨s,hsg⟩:∃s:Seg,s=⟨b,a,Zn g q.rcv,Zn f n,16,W,0,x⟩:=⟨_,rfl⟩
  have b4:bears s 4=false:=by rw [hsg]; simp
  have b2:bears s 2=false:=by rw [hsg]; simp
  have b16:bears s 16=true:=by rw [hsg]; simp
  have b1:bears s 1=false:=by rw [hsg]; simp
  have nr:s.num=(qE a b f g q).rcv:=by rw [hsg]; rfl
  have cm:(qE a b f g q).come=q.come:=rfl
  have ft:Zfw (qE a b f g q) s=true:=by
    unfold Zfw inWin Z7
    rw [nr,cm,Zqf]
    have:(q.come.length:Int)<64:=by omega
    simp [this]
  rw [←hsg] at go ⊢
  rw [ZsD (show (qE a b f g q).state∉_ by show q.st∉_; rcases hs with h | h | h<;>rw [h]<;>decide) ft b4 b2 b16,go]
  simp only [if_true]
  unfold Zbq
  have sh:(qE a b f g q').state=q'.st:=rfl
  have sda:s.data=x:=by rw [hsg]
  have fn:(qE a b f g q').early_fin=none:=by show q'.fin.map _=none; rw [h2]; rfl
  have stm:=ZgS (e:=qE a b f g q') (s:=s) (by rw [sda]; exact hx) (by rw [nr]; show Zn g q.rcv=Zn g q'.rcv; rw [h3]) (Zab _ _) rfl fn (by rw [sda,b1]; show q'.come.length+x.length+_≤64; simp; omega)
  rw [if_pos (by rw [sh]; rcases hs' with h | h | h<;>simp [h]),stm,b1,sda]
  have rr:Zn (qE a b f g q').rcv (x.length:Int)=Zn g (q.rcv+x.length):=by
    show Zn (Zn g q'.rcv) _=_
    rw [Zaj,h3]
  rw [rr]
  simp only [Bool.false_eq_true,if_false,reduceCtorEq,Bool.or_false]
  unfold qIn qE
  simp
theorem ZgF {W:Int} {x:List Int} (w:WF q) (hst:q.st∈S3) (hx:q.nxt≤q.beh∨¬q.una=q.nxt∨q.st=.waitTwo) (ht:0≤q.told∧q.told≤q.rcv∧q.rcv<1000000) (hby:0≤q.by_∧q.by_≤q.una) :
    Zac (qE a b f g q) ⟨b,a,Zn g q.rcv,Zn f q.una,16,W,0,x⟩ t=(true,qE a b f g { q with wnd:=W,told:=q.rcv,by_:=q.una,tries:=if q.wnd=0∨W=0 then 0 else q.tries }):=by
  have hun:=w.una
  have hb:=w.nxt
  have hs:=S3.cases hst
  have p1:Zag (Zn f q.una) (Zn f q.nxt)=false:=by rw [ZhI (by omega) (by omega)]; simp; omega
  have ho:ZbL (qE a b f g q) ⟨b,a,Zn g q.rcv,Zn f q.una,16,W,0,x⟩ t=qE a b f g q:=by
    unfold ZbL
    rw [if_neg (by show ¬Zag (Zn f q.una) (Zn f q.una)=true; rw [Zgu]; decide)]
  have nw:isNewer (qE a b f g q) ⟨b,a,Zn g q.rcv,Zn f q.una,16,W,0,x⟩=true:=by
    unfold isNewer
    show (if Zn g q.rcv=Zn g q.told then !Zag (Zn f q.by_) (Zn f q.una) else Zag (Zn g q.rcv) (Zn g q.told))=true
    rw [ZhI (by omega) (by omega),ZhI (by omega) (by omega)]
    by_cases c:q.rcv=q.told
    · rw [if_pos (by rw [c])]
      simp; omega
    · rw [if_neg (by rw [Zcy (by omega)]; exact c)]
      simp; omega
  have ha:zE (qE a b f g q) ⟨b,a,Zn g q.rcv,Zn f q.una,16,W,0,x⟩ t=qE a b f g { q with wnd:=W,told:=q.rcv,by_:=q.una,tries:=if q.wnd=0∨W=0 then 0 else q.tries }:=by
    unfold zE
    simp only [ho]
    rw [if_neg (by show ¬Zag (Zn f q.una) (Zn f q.una)=true; rw [Zgu]; decide),nw]
    simp only [Bool.or_true,if_true]
    have tw:Zd2 (qE a b f g q) ⟨b,a,Zn g q.rcv,Zn f q.una,16,W,0,x⟩=qE a b f g { q with wnd:=W,told:=q.rcv,by_:=q.una }:=rfl
    rw [tw]
    by_cases c:q.wnd=0∨W=0
    · rw [if_pos (by show q.wnd=0∨W=0; exact c),if_pos c]; rfl
    · rw [if_neg (by show ¬(q.wnd=0∨W=0); exact c),if_neg c]
  have ed:Zaz (qE a b f g { q with wnd:=W,told:=q.rcv,by_:=q.una,tries:=if q.wnd=0∨W=0 then 0 else q.tries }) t=qE a b f g { q with wnd:=W,told:=q.rcv,by_:=q.una,tries:=if q.wnd=0∨W=0 then 0 else q.tries }:=by
    unfold Zaz
    by_cases c:Zd4 (qE a b f g { q with wnd:=W,told:=q.rcv,by_:=q.una,tries:=if q.wnd=0∨W=0 then 0 else q.tries })=false∨¬(qE a b f g { q with wnd:=W,told:=q.rcv,by_:=q.una,tries:=if q.wnd=0∨W=0 then 0 else q.tries }).una=(qE a b f g { q with wnd:=W,told:=q.rcv,by_:=q.una,tries:=if q.wnd=0∨W=0 then 0 else q.tries }).nxt
    · rw [if_pos c]
    · have hw2:q.st=.waitTwo:=by
        rcases hx with h | h | h
        · exact absurd (.inl (by show Zag (Zn f q.nxt) (Zn f q.beh)=false; rw [ZhI (by omega) (by omega)]; simp; omega)) c
        · exact absurd (.inr (by show ¬Zn f q.una=Zn f q.nxt; rw [Zcy (by omega)]; exact h)) c
        · exact h
      rw [if_neg c]
      simp [qE,hw2]
  have sh:(qE a b f g q).state=q.st:=rfl
  have sh2:(qE a b f g { q with wnd:=W,told:=q.rcv,by_:=q.una,tries:=if q.wnd=0∨W=0 then 0 else q.tries }).state=q.st:=rfl
  unfold Zac
  rw [if_neg (by rw [sh]; rcases hs with h | h | h<;>rw [h]<;>decide),if_neg (by show ¬Zag (Zn f q.una) (Zn f q.nxt)=true; rw [p1]; decide),ha,ed,sh2]
  rcases hs with h | h | h<;>simp [h]
def Zeh (q:Q):Q:=if q.beh<q.nxt∧q.una=q.nxt∧q.st=.waitOne then { q with st:=.waitTwo } else q
theorem ZqK {n W:Int} {x:List Int} (w:WF q) (hst:q.st∈S3) (hu:q.una<n) (hn:n≤q.nxt) (h0:0≤q.rcv∧q.rcv<1000000) :
    Zac (qE a b f g q) ⟨b,a,Zn g q.rcv,Zn f n,16,W,0,x⟩ t=(true,qE a b f g (Zeh (zG q n W t))):=by
  have hun:=w.una
  have hb:=w.nxt
  have hs:=S3.cases hst
  obtain ⟨s,hsg⟩:∃s:Seg,s=⟨b,a,Zn g q.rcv,Zn f n,16,W,0,x⟩:=⟨_,rfl⟩
  obtain ⟨e,he⟩:∃e,e=qE a b f g q:=⟨_,rfl⟩
  have an:s.ans=Zn f n:=by rw [hsg]
  have pa:Zag s.ans e.nxt=false:=by
    rw [an,he]
    show Zag (Zn f n) (Zn f q.nxt)=false
    rw [ZhI (by omega) (by omega)]
    simp; omega
  have pu:Zag s.ans e.una=true:=by
    rw [an,he]
    show Zag (Zn f n) (Zn f q.una)=true
    rw [ZhI (by omega) (by omega)]
    simp; omega
  have ou:ZY s.ans e.una=n-q.una:=by
    rw [an,he]
    show ZY (Zn f n) (Zn f q.una)=_
    exact ZdP (by omega)
  have ae:s.ans=e.nxt↔n=q.nxt:=by
    rw [an,he]
    show Zn f n=Zn f q.nxt↔_
    exact Zcy (by omega)
  have ho:ZbL e s t=qE a b f g { q with una:=n,written:=q.written.drop (n-q.una).toNat,since:=if n=q.nxt then q.since else t,wait:=if n=q.nxt then q.wait else 1000,tries:=if n=q.nxt then q.tries else 0 }:=by
    unfold ZbL
    rw [if_pos pu,ou]
    by_cases c:n=q.nxt
    · rw [if_pos (ae.mpr c),if_pos c,if_pos c,if_pos c,an,he]
      rfl
    · rw [if_neg fun z=>c (ae.mp z),if_neg c,if_neg c,if_neg c,an,he]
      rfl
  have ha:zE e s t=qE a b f g (zG q n W t):=by
    unfold zE
    simp only [ho]
    have p2:Zag (qE a b f g { q with una:=n,written:=q.written.drop (n-q.una).toNat,since:=if n=q.nxt then q.since else t,wait:=if n=q.nxt then q.wait else 1000,tries:=if n=q.nxt then q.tries else 0 }).una s.ans=false:=by
      rw [an]
      exact Zgu _
    rw [if_neg (by rw [p2]; decide),pu]
    simp only [Bool.true_or,if_true]
    unfold zG trQ
    by_cases c:q.wnd=0∨W=0
    · rw [if_pos c,if_pos (by rw [hsg]; exact c),hsg]
      rfl
    · rw [if_neg c,if_neg (by rw [hsg]; exact c),hsg]
      rfl
  have ea:Zaz (qE a b f g (zG q n W t)) t=qE a b f g (Zeh (zG q n W t)):=by
    have sf:Zd4 (qE a b f g (zG q n W t))=decide (q.beh<q.nxt):=by
      show Zag (Zn f q.nxt) (Zn f q.beh)=_
      rw [ZhI (by omega) (by omega)]
      exact decide_eq_decide.mpr (by omega)
    have un:(qE a b f g (zG q n W t)).una=(qE a b f g (zG q n W t)).nxt↔n=q.nxt:=by
      show Zn f n=Zn f q.nxt↔_
      exact Zcy (by omega)
    unfold Zaz Zeh
    show (if Zd4 (qE a b f g (zG q n W t))=false∨¬(qE a b f g (zG q n W t)).una=(qE a b f g (zG q n W t)).nxt then _ else _)=qE a b f g (if q.beh<q.nxt∧n=q.nxt∧q.st=.waitOne then _ else _)
    rw [sf]
    by_cases c:q.beh<q.nxt∧n=q.nxt
    · rw [if_neg (by intro z; rcases z with z | z; · simp at z; omega
                     · exact z (un.mpr c.2))]
      rcases hs with h | h | h
      · have nn:¬(q.beh<q.nxt∧n=q.nxt∧q.st=.waitOne):=by rw [h]; intro z; exact absurd z.2.2 (by decide)
        rw [if_neg nn]
        simp [qE,zG,h]
      · have nn:q.beh<q.nxt∧n=q.nxt∧q.st=.waitOne:=⟨c.1,c.2,h⟩
        rw [if_pos nn]
        simp [qE,zG,h]
      · have nn:¬(q.beh<q.nxt∧n=q.nxt∧q.st=.waitOne):=by rw [h]; intro z; exact absurd z.2.2 (by decide)
        rw [if_neg nn]
        simp [qE,zG,h]
    · rw [if_pos (by
        by_cases c1:q.beh<q.nxt
        · right; intro z; exact c ⟨c1,un.mp z⟩
        · left; simpa using c1),if_neg (fun z=>c ⟨z.1,z.2.1⟩)]
  have sh:(qE a b f g (Zeh (zG q n W t))).state=(Zeh (zG q n W t)).st:=rfl
  have so:e.state=q.st:=by rw [he]; rfl
  rw [←hsg,←he]
  unfold Zac
  rw [if_neg (by rw [so]; rcases hs with h | h | h<;>rw [h]<;>decide),if_neg (by rw [pa]; decide),ha,ea,sh]
  have:¬(Zeh (zG q n W t)).st=.closed:=by
    unfold Zeh
    split
    · simp
    · show ¬q.st=.closed
      rcases hs with h | h | h<;>rw [h]<;>decide
  simp [this]
end
end
end My
namespace PySem.W.Fast
def tw3457715282591580192:=0
def tw11241693690787940384:=0
def tw2354364833505832992:=0
def tw14309879410420337728:=0
def tw14981359721844454496:=0
def tw2055893573754965120:=0
def tw11163332921106810016:=0
def tw11190272403129498784:=0
def tw13892309882147028224:=0
def tw15090637482748636416:=0
def tw927571156049492320:=0
def tw2251327534391428512:=0
def tw14479641652444275200:=0
def tw17815549319595144704:=0
def tw5790788901972518432:=0
def tw1062845706001871424:=0
def tw11329600866016429728:=0
def tw8543611594293355168:=0
def tw13927602555172903584:=0
def tw15798358158104145600:=0
def tw11967797230316669632:=0
def tw13468557718003857120:=0
def tw3481862630820644608:=0
def tw5806093743841335072:=0
def tw2057993808804502336:=0
def tw1080869668216378401:=0
def tw5435091839663708193:=0
def tw11798318167540414497:=0
def tw13485330802259086369:=0
def tw14223759621849856065:=0
def tw1601080161121163393:=0
def tw9579041968127954081:=0
def tw15677573891863160033:=0
def tw15787130860484769025:=0
def tw12651332530025616641:=0
def tw17219931075338286401:=0
def tw7223065536652364129:=0
def tw357332890983686497:=0
def tw15671101545095982433:=0
def tw1331652966562468289:=0
def tw8258170500395272673:=0
def tw10979139015943476705:=0
def tw15948456175988299233:=0
def tw4545419290353953249:=0
def tw15472204876136514049:=0
def tw11384423384094620161:=0
def tw13598683905560256065:=0
def tw5980040857088663105:=0
def tw12402696870278091329:=0
def tw11523554902326634049:=0
def tw17098660591233904225:=0
def tw10338024791971362401:=0
def tw11274040259476748897:=0
def tw18422400236818540161:=0
def tw1963214439005366913:=0
def tw4147325767758554849:=0
def tw620888990417345249:=0
def tw3280304386336528193:=0
def tw11527356718123846497:=0
def tw17560705613988939681:=0
def tw4890779019981922273:=0
def tw1005418056795744258:=0
def tw7388426589069255778:=0
def tw12173142489536158818:=0
def tw4849119681096009858:=0
def tw1780159431954413762:=0
def tw1104825235276799202:=0
def tw4918415658834962658:=0
def tw14587451498158733538:=0
def tw5924110005677987074:=0
def tw13558822721745345794:=0
def tw8593486784071171362:=0
def tw11940745444659838274:=0
def tw8019967631557963138:=0
def tw784064976225394082:=0
def tw14870057544914941378:=0
def tw5636149730642440674:=0
def tw12969905856301094402:=0
def tw3958867329476121122:=0
def tw11146567954476559906:=0
def tw6808015853303519810:=0
def tw896534197179670114:=0
def tw9182236567092655746:=0
def tw17166645139773643490:=0
def tw16672463881112868610:=0
def tw14546244356002221986:=0
def tw16263265617102867555:=0
def tw1605413031599869059:=0
def tw13471690492566322499:=0
def tw16284593858281875811:=0
def tw6214568914528353731:=0
def tw10882214976692139523:=0
def tw14406462092644828707:=0
def tw3308023353023055427:=0
def tw11174042178757188163:=0
def tw5938802176465493571:=0
def tw11318365701552906851:=0
def tw16870295700620695171:=0
def tw6610071147708917475:=0
def tw490328623338080035:=0
def tw4314565042969390019:=0
def tw10277834079651921859:=0
def tw9307352116410470371:=0
def tw243940599668105187:=0
def tw5787243190327536611:=0
def tw2855040339333306436:=0
def tw2316451836089463908:=0
def tw16471148641181072516:=0
def tw13639180148518387908:=0
def tw12974753956399773892:=0
def tw16727452712647943428:=0
def tw4920397154409955620:=0
def tw610858214565717316:=0
def tw3584692803583948100:=0
def tw17881195567813191140:=0
def tw9516887314904312292:=0
def tw16885785205592487492:=0
def tw5855018628346606180:=0
def tw10998450247815558756:=0
def tw11628444895780474564:=0
def tw12658315888110268100:=0
def tw13665950959543428836:=0
def tw15049928766497445604:=0
def tw7334512967630963460:=0
def tw11726362540895524676:=0
def tw18038422548596321092:=0
def tw12982606304149343172:=0
def tw17204853926915520452:=0
def tw5571964644528963653:=0
def tw11593550656821144677:=0
def tw16095820386854362501:=0
def tw5919807442624506277:=0
def tw8697612469339498949:=0
def tw5423459368617051653:=0
def tw4767444305509635621:=0
def tw3963273507131400805:=0
def tw7789700933950179045:=0
def tw1846540077196624613:=0
def tw15150136177871853413:=0
def tw14221935892433786725:=0
def tw7407024286507901829:=0
def tw10916861066275829637:=0
def tw14382225075381093253:=0
def tw7027935312300577701:=0
def tw7937284110642065381:=0
def tw7084910142155287525:=0
def tw16694819719916085254:=0
def tw18309539997230622758:=0
def tw3289668832187125862:=0
def tw9187423058871032998:=0
def tw18301501267529196710:=0
def tw2977043740601422054:=0
def tw4747230425546970342:=0
def tw3580960726839034182:=0
def tw15679377177512972646:=0
def tw1780959339381744070:=0
def tw16041616174647918054:=0
def tw13898429085631290886:=0
def tw2765109182169171462:=0
def tw5871154424796747430:=0
def tw9351700293590114982:=0
def tw13155972907781612230:=0
def tw1602717564749233926:=0
def tw8924028750466027302:=0
def tw2317048240429898534:=0
def tw14826237091125379878:=0
def tw15006135262598817670:=0
def tw5402792452605284262:=0
def tw17700411181160334278:=0
def tw9895089956320842694:=0
def tw4039962529018521542:=0
def tw14605522799478934502:=0
def tw6369129856264900582:=0
def tw14622327218670922759:=0
def tw4192251944371327047:=0
def tw10311452307251369031:=0
def tw14434948298512850023:=0
def tw7916623750609978535:=0
def tw3130644919424134375:=0
def tw7968773609874880743:=0
def tw16089921271072598279:=0
def tw4190971651138211111:=0
def tw12138432592817880391:=0
def tw13986086917336630631:=0
def tw12868957840168467879:=0
def tw11848126250229462439:=0
def tw9475854570563762599:=0
def tw16971672968615148999:=0
def tw5479845673821129255:=0
def tw15484262378239498919:=0
def tw1592950572152704711:=0
def tw16429480138886781671:=0
def tw15469851037366649639:=0
def tw13591146536304145191:=0
def tw3944254215896957767:=0
def tw3751510414409494343:=0
def tw16286312073139129191:=0
def tw2341731911343358887:=0
def tw3550183798965692327:=0
def tw3180925775373056999:=0
def tw14164511840238256103:=0
def tw3272160883167723624:=0
def tw2617680449407681672:=0
def tw3678768846136715400:=0
def tw13313578408041746728:=0
def tw15509356300571797800:=0
def tw8119555570273354056:=0
def tw10414367013483226472:=0
def tw452863939774946728:=0
def tw9021059252361431528:=0
def tw11828417640126501352:=0
def tw2396067157509505544:=0
def tw4576958550811480616:=0
def tw12177407696290608712:=0
def tw18064006725698922120:=0
def tw9398594117495152264:=0
def tw9479640576708121256:=0
def tw17635382937306472104:=0
def tw14821333645481103080:=0
def tw1985381137825419016:=0
def tw7086534887805486920:=0
def tw3581236589495818088:=0
def tw3412539389514976136:=0
def tw2822001155418454952:=0
def tw10958840567281485768:=0
def tw4861592012227163241:=0
def tw12317234626600166505:=0
def tw1572001164612589737:=0
def tw12879400599542421673:=0
def tw6722276385899622601:=0
def tw12623617575971248329:=0
def tw4016137731354161353:=0
def tw734584044950699273:=0
def tw3602550578080429353:=0
def tw11158803102457768265:=0
def tw11254624252226909545:=0
def tw16794649210413673833:=0
def tw4822573632145666441:=0
def tw16258329010420337065:=0
def tw3753861478861140393:=0
def tw17802381939021639145:=0
def tw14095237018078031465:=0
def tw9887951869549492937:=0
def tw2509493753158848233:=0
def tw5836815041347571433:=0
def tw12535611954759758601:=0
def tw10520352346718119753:=0
def tw8503982780676634441:=0
def tw9583726155113172873:=0
def tw13619193911826323433:=0
def tw571780683973056489:=0
def tw9054184235754674218:=0
def tw11570407499515118666:=0
def tw6220816735302355082:=0
def tw11975842010012384490:=0
def tw5019865528000587018:=0
def tw13383834649897974058:=0
def tw5535449469684897098:=0
def tw17519367712239611274:=0
def tw16393847718525517226:=0
def tw9288277533991299498:=0
def tw2766293096904585674:=0
def tw7613480217975007722:=0
def tw17890178490035847690:=0
def tw12024726846573538826:=0
def tw10069774804289254922:=0
def tw489801529475128874:=0
def tw14834358275302961738:=0
def tw3968605849812024906:=0
def tw3505134729209245290:=0
def tw12014380367510018730:=0
def tw4378606171254277802:=0
def tw317142406065092298:=0
def tw2449386609287349098:=0
def tw6482418250984039370:=0
def tw10382379177760076778:=0
def tw3564474795743167466:=0
def tw3800320344158043114:=0
def tw7121934623341151275:=0
def tw10478412236391701547:=0
def tw10313829465135265867:=0
def tw810750590522816587:=0
def tw11388686077182432363:=0
def tw3475916459407628395:=0
def tw18440644938000401547:=0
def tw2874220123673578635:=0
def tw7282341004303162571:=0
def tw13359765717291912427:=0
def tw10229405320885123371:=0
def tw14067263379042868651:=0
def tw10605155139893535147:=0
def tw1644629193392188843:=0
def tw11958931413129759243:=0
def tw2802891009014840843:=0
def tw9440736672693633579:=0
def tw18057188978288055851:=0
def tw17235344311960423051:=0
def tw1874787635029933739:=0
def tw5492863694865488587:=0
def tw14130252295673426795:=0
def tw9603942599062008715:=0
def tw4737684310786746315:=0
def tw10564919721903192108:=0
def tw2486357883162790988:=0
def tw13079430095414728780:=0
def tw5240025318841850956:=0
def tw43239906754718796:=0
def tw13266221245112129644:=0
def tw1196465614088136844:=0
def tw14211777869914248364:=0
def tw17422034096099714220:=0
def tw3309285013559193804:=0
def tw7320605215762564300:=0
def tw8952352728729216300:=0
def tw12537985743000567084:=0
def tw12035915053815594316:=0
def tw8860923691254007148:=0
def tw13294810461883689356:=0
def tw4156239444706266636:=0
def tw13348016717228362252:=0
def tw16507200010908753484:=0
def tw9184425472032588428:=0
def tw603595609370012332:=0
def tw16054251887025831596:=0
def tw7496568254860971724:=0
def tw1148807622868233932:=0
def tw18276316231055347436:=0
def tw3916178128394366700:=0
def tw12460399260458893036:=0
def tw1111761581512545004:=0
def tw17338236750213614348:=0
def tw17537026672108113708:=0
def tw7764713497986405196:=0
def tw11515961564079367020:=0
def tw9253636864868022124:=0
def tw15167783703190292493:=0
def tw7099550858667531341:=0
def tw3812659705249659981:=0
def tw14025565908300897389:=0
def tw7802067574479294829:=0
def tw7344978554082241901:=0
def tw11827109693464099213:=0
def tw13634592202549204397:=0
def tw17562994392998563309:=0
def tw6986184672878002765:=0
def tw9927239697904974413:=0
def tw5824555756821466701:=0
def tw16063130846952907373:=0
def tw1070026805803967149:=0
def tw14688879497445127885:=0
def tw17654819184739933933:=0
def tw9386009449472332557:=0
def tw4826914557228768013:=0
def tw353382306845333325:=0
def tw17840399874930396045:=0
def tw14666335646387429261:=0
def tw17620036853292618669:=0
def tw12745230501566472109:=0
def tw873848674819582925:=0
def tw113714196208375757:=0
def tw2953403063252450253:=0
def tw15843709639550322669:=0
def tw10001674610734888046:=0
def tw14952202579766412430:=0
def tw7407052346513040654:=0
def tw14634933795146754318:=0
def tw13891725683842166062:=0
def tw2174181126115707182:=0
def tw2825807822801038638:=0
def tw6947868381081443662:=0
def tw12788710840783713614:=0
def tw16618630533257684302:=0
def tw134079604825610606:=0
def tw106647349813590414:=0
def tw13007804298342194574:=0
def tw13541355027546343854:=0
def tw3897736553216143790:=0
def tw13455383002231047726:=0
def tw4767365682597401134:=0
def tw6797253598661097006:=0
def tw7333239439762885294:=0
def tw6726181705932188366:=0
def tw3757096973659551470:=0
def tw5419438695291583278:=0
def tw15899825312542755694:=0
def tw3316099415486105486:=0
def tw11975912054056948622:=0
def tw4313949979414710158:=0
def tw6132283473911818158:=0
def tw6703406506503679918:=0
def tw7456286305977490350:=0
def tw11643079550172461199:=0
def tw1345574592556988559:=0
def tw12505530983425244367:=0
def tw15667751556246070511:=0
def tw3015885810708418927:=0
def tw5473334937890579887:=0
def tw393874869195206095:=0
def tw16739456033998097903:=0
def tw6807978652743630351:=0
def tw7907497390217078351:=0
def tw4592940640135670351:=0
def tw2387575839873153679:=0
def tw7934863801497250447:=0
def tw120675440933757615:=0
def tw14503819007363114831:=0
def tw14564084457586560943:=0
def tw1626367567739750351:=0
def tw3696783153513110479:=0
def tw18121423873745823695:=0
def tw7414956408750838767:=0
def tw12688625232394331216:=0
def tw7277291401854895216:=0
def tw5243277420016433296:=0
def tw15401409876606411952:=0
def tw7433681113615830256:=0
def tw12395443908455049488:=0
def tw7937460241091135792:=0
def tw17714032536339268944:=0
def tw10996597948430641488:=0
def tw15552992313195780464:=0
def tw4942594383957816720:=0
def tw17523796209181693392:=0
def tw14539910610894803408:=0
def tw7038316377385259536:=0
def tw15697223028213914160:=0
def tw10708757726163194480:=0
def tw9180464148183935632:=0
def tw16947626020687608528:=0
def tw10091610062493125360:=0
def tw1033346967248482128:=0
def tw8533255977250246480:=0
def tw3271531457980307344:=0
def tw11144845620149814256:=0
def tw6598106424362646512:=0
def tw12274750628862891121:=0
def tw8127754472390177937:=0
def tw843382024954447025:=0
def tw18298638093143793841:=0
def tw4243795849035636913:=0
def tw5731170077604092113:=0
def tw15155675838136854737:=0
def tw809789749895904529:=0
def tw5311277978721285489:=0
def tw9010092997592481137:=0
def tw46748165158850001:=0
def tw12584636440639299025:=0
def tw13258887407802982929:=0
def tw55018795852886577:=0
def tw1938989408981382705:=0
def tw14179562759725223505:=0
def tw18049284700793209521:=0
def tw13016032832402564817:=0
def tw12063833521183147793:=0
def tw3272586197954252561:=0
def tw6534403005484705713:=0
def tw9434305250544547761:=0
def tw1749684179755799505:=0
def tw12089103659434263505:=0
def tw9761136234573992978:=0
def tw4136005675755022450:=0
def tw14253030239394346130:=0
def tw11665519847547205810:=0
def tw11824506002315309266:=0
def tw5097736005889823090:=0
def tw17795882003056465266:=0
def tw6550690735517668722:=0
def tw4554216057172053394:=0
def tw3148051553443023282:=0
def tw14019351711239086514:=0
def tw16909777940496685522:=0
def tw11089276978588101138:=0
def tw5845053622186089010:=0
def tw16934728492563287698:=0
def tw13686950466255576722:=0
def tw17431672991458499250:=0
def tw9924250350914129586:=0
def tw1953780261149531826:=0
def tw8539900387092862674:=0
def tw9816053240237083378:=0
def tw8273716583187555090:=0
def tw507685337627172626:=0
def tw16704725138555796306:=0
def tw16278845473287258994:=0
def tw2189807234229392274:=0
def tw17164483214893047698:=0
def tw5157120941967842226:=0
def tw11940673891990435859:=0
def tw13962775661223072819:=0
def tw14535346730106176595:=0
def tw9977526847663762547:=0
def tw783328992249419923:=0
def tw1698529264661437619:=0
def tw7504136638953745619:=0
def tw2576374148913327315:=0
def tw13995850254303705363:=0
def tw11137949096407637363:=0
def tw8470570794377859443:=0
def tw16382374582963099027:=0
def tw14928856391112576435:=0
def tw11745518168468879795:=0
def tw1080308485096177139:=0
def tw10107194387308823091:=0
def tw4249217731454334547:=0
def tw15233608689455819379:=0
def tw17133210134366185107:=0
def tw6705108202660537075:=0
def tw12945175507020499763:=0
def tw13076446987399379795:=0
def tw16821784108616445811:=0
def tw5067665742439498707:=0
def tw6019382848119501779:=0
def tw6844061567097835507:=0
def tw11733205178949868531:=0
def tw15457595105382818836:=0
def tw8420515367576680532:=0
def tw8255003798572887124:=0
def tw10393920595717975156:=0
def tw8503010691647473812:=0
def tw6161389553835736244:=0
def tw445922363073212756:=0
def tw8236368687222818196:=0
def tw15266757610809739668:=0
def tw9167815311617085876:=0
def tw15527259799540402644:=0
def tw2368430637642145268:=0
def tw12919179152940262900:=0
def tw5900484866745675348:=0
def tw138208617336100500:=0
def tw15801513314098041524:=0
def tw4464914581724236532:=0
def tw1073567941381156596:=0
def tw18264031907941679956:=0
def tw15001145385467877268:=0
def tw11878388400834459669:=0
def tw15222297909672503317:=0
def tw6754976691256799285:=0
def tw9308997751618048085:=0
def tw7293546467471384789:=0
def tw3750341659697801525:=0
def tw12299762695461143957:=0
def tw2675775060574997909:=0
def tw18308897501946293653:=0
def tw12552872027093236117:=0
def tw6190888694355129941:=0
def tw2493631063304833653:=0
def tw15973521302817442421:=0
def tw15134618004771612309:=0
def tw225859545696182997:=0
def tw16202558822597479125:=0
def tw7434310545059931893:=0
def tw17509473267599725333:=0
def tw10434674848559440693:=0
def tw10174811093705307989:=0
def tw8818567949289324373:=0
def tw13623249664850825077:=0
def tw16358061293865640885:=0
def tw17609030882836853749:=0
def tw9661581945340399638:=0
def tw9303335182314844182:=0
def tw1129277494307025942:=0
def tw2340364197310350390:=0
def tw6152231900206521654:=0
def tw11174901482745982262:=0
def tw1781765291162792374:=0
def tw2738960592786851318:=0
def tw15636368385376554486:=0
def tw9915152242968966678:=0
def tw3132394979117066774:=0
def tw12465977202958586550:=0
def tw17587771060990080790:=0
def tw15369044261408080726:=0
def tw4196639221598049110:=0
def tw338799737576436662:=0
def tw4899451261399734295:=0
def tw7456160369624829975:=0
def tw10769372262309141655:=0
def tw2932458101241940215:=0
def tw16686515230011236631:=0
def tw13468580683007486263:=0
def tw2742224344057940311:=0
def tw3560339019623980407:=0
def tw350620919749644727:=0
def tw11743714462008120759:=0
def tw7964115443174407639:=0
def tw10954226329561523703:=0
def tw11464681010831358455:=0
def tw7434319912308933175:=0
def tw11645395771965706807:=0
def tw13431954380596736599:=0
def tw4993502078135098007:=0
def tw9668136134979192503:=0
def tw14746999475485279927:=0
def tw847474961124262615:=0
def tw13853850748685303511:=0
def tw8913399551856847639:=0
def tw14637076590225824631:=0
def tw1556129435370048375:=0
def tw3107828326357354423:=0
def tw15132865988413049783:=0
def tw17955851837644435383:=0
def tw14004707228930468984:=0
def tw13041550729507244184:=0
def tw10362057253881412760:=0
def tw532819956223245496:=0
def tw4118840391636388056:=0
def tw11902842066102475000:=0
def tw10652083309702076696:=0
def tw16787949348723349816:=0
def tw4525668079752805784:=0
def tw9075951814116546008:=0
def tw8922449078891992:=0
def tw10746227754267162072:=0
def tw17046146931927202264:=0
def tw13538577923271075320:=0
def tw8367612522513023480:=0
def tw4286373057155859032:=0
def tw9168169783479163512:=0
def tw13666400379117731448:=0
def tw15254419186587742872:=0
def tw193361296432208600:=0
def tw18049653894917130968:=0
def tw7501317149732849400:=0
def tw8057772344429861624:=0
def tw13765103470216926008:=0
def tw3913165135116137272:=0
def tw280128228976739160:=0
def tw2225499831204463512:=0
def tw7325262862082334680:=0
def tw13768785750902171608:=0
def tw3256794114458515481:=0
def tw18271372435860831353:=0
def tw11685292864399131801:=0
def tw11952979485623445657:=0
def tw3433202181130926265:=0
def tw6573365292007875801:=0
def tw6590549301101686041:=0
def tw8721575286044559673:=0
def tw17229804957038121337:=0
def tw16049770594374967673:=0
def tw11107854484968530425:=0
def tw11612053804471510553:=0
def tw4013436057238316601:=0
def tw1019527943110681145:=0
def tw12028649818009798233:=0
def tw11184358590481136217:=0
def tw10018595864278749817:=0
def tw15023228538516985497:=0
def tw755789128018904793:=0
def tw9755669979969764121:=0
def tw14189799333983227705:=0
def tw937758222820441945:=0
def tw14217995765050709881:=0
def tw5947428791550742425:=0
def tw2798614081797421049:=0
def tw13442382282359029882:=0
def tw11358146700715572378:=0
def tw12321782756856200378:=0
def tw1227740072217398522:=0
def tw5940376272027058490:=0
def tw5032593317317816634:=0
def tw16176708994205034842:=0
def tw10333424346258176474:=0
def tw17175442708685883898:=0
def tw5016999820940291642:=0
def tw1279348418193162970:=0
def tw2609501887446916858:=0
def tw11472825334619847418:=0
def tw7501608268012069658:=0
def tw5582528254591911706:=0
def tw10485975063662147450:=0
def tw6263566529849315322:=0
def tw1421337921885255899:=0
def tw18414329347273061691:=0
def tw15138349082838023675:=0
def tw18141175024284519931:=0
def tw6612493194815903259:=0
def tw16725803881271169627:=0
def tw7867308449336402523:=0
def tw13233105940611003003:=0
def tw12198754624174677659:=0
def tw7961960373734492859:=0
def tw18226586700252018395:=0
def tw17045718362967313179:=0
def tw13826427775277043515:=0
def tw14706372047613529947:=0
def tw3370616879851550619:=0
def tw7454667045741081595:=0
def tw1466641399486999580:=0
def tw17714031400756280444:=0
def tw13252673364479511740:=0
def tw9967249306588893372:=0
def tw13659042726128391388:=0
def tw1009037685880296732:=0
def tw12445431504033664284:=0
def tw4487595784446562620:=0
def tw13286169150288986524:=0
def tw15153587247377352092:=0
def tw6054221147375325596:=0
def tw10998210438335028636:=0
def tw15203981004612704796:=0
def tw10684979918873926236:=0
def tw9262407804862405212:=0
def tw12333311027515508316:=0
def tw16814922463986613884:=0
def tw9159646732604905116:=0
def tw5029600060195219100:=0
def tw10870500444765072028:=0
def tw9168537472803430140:=0
def tw3230804916564929404:=0
def tw7975932187386322844:=0
def tw13042042418784112572:=0
def tw14093369900201499612:=0
def tw3157598964987435004:=0
def tw14250481067303969788:=0
def tw2956028337581469692:=0
def tw1367604600689914876:=0
def tw2222215488427694141:=0
def tw4164422473299711069:=0
def tw17357921560769801341:=0
def tw1269434333663765693:=0
def tw8766294384810305725:=0
def tw16323141924912616701:=0
def tw3327976405653053789:=0
def tw3016291696705440285:=0
def tw1291757640131880509:=0
def tw6849689508333251133:=0
def tw5467692781778781885:=0
def tw9174436759362784957:=0
def tw5688057207525911421:=0
def tw10034236494692146109:=0
def tw11111892678718725085:=0
def tw15789731477899355166:=0
def tw1499317569028983870:=0
def tw1672451059801706590:=0
def tw10010982541660735614:=0
def tw15841814276105712798:=0
def tw9676548931522552990:=0
def tw9604654078414723262:=0
def tw14828705922082597118:=0
def tw15451245521159857438:=0
def tw5868850821664736606:=0
def tw17310872051413619038:=0
def tw7349411174672482718:=0
def tw10906459012859458974:=0
def tw15481597706002508254:=0
def tw9079285122334725694:=0
def tw11494249722816903742:=0
def tw4454326463472396862:=0
def tw496347326453474910:=0
def tw18238009443401829150:=0
def tw1274732339054894910:=0
def tw6596538441855258462:=0
def tw15642767056956451678:=0
def tw11784542668754092958:=0
def tw14835584210534271902:=0
def tw12261685253014069150:=0
def tw16114148662054865854:=0
def tw14928584476436601951:=0
def tw8824725730361423999:=0
def tw8276397857030524031:=0
def tw9355385487845622975:=0
def tw2933910606724181183:=0
def tw14138321230756205759:=0
def tw13291834385004188927:=0
def tw16299586726958620927:=0
def tw17269345993464876319:=0
def tw12533353025717804319:=0
def tw7983668732298238271:=0
def tw16740586021255912799:=0
def tw1941167416950497919:=0
def tw9622146163709722239:=0
def tw15491877304844984991:=0
def tw6449665016873848511:=0
def tw7917386271110895295:=0
def tw11591112805942052575:=0
def tw6717276693300084447:=0
def tw9029453955545248543:=0
def tw12680772156738642751:=0
def tw956160802258299711:=0
def tw9939603042416917311:=0
def tw12749304798542543711:=0
def tw15598736704000637951:=0
def tw14520118779285273492:=0
end PySem.W.Fast
namespace My
open PySem L2 L2.MM
noncomputable section
def Ziq:SM:=(Zr (ZQ 5 (mCB Zcr (Zc (mOp ixM (Zd 0) (mC (.int 1))) (Zc (mCB Za6 (Zc (mOp ixM (Zd 0) (mC (.int 3))) (Zc (Zd 1) Zk))) (Zc (mCB Za6 (Zc (mOp ixM (Zd 0) (mC (.int 2))) (Zc (Zd 2) Zk))) (Zc (mC (.int 16)) (Zc (Zd 3) (Zc (Zb7 Zk) Zk))))))))
  (zn (mCB zV (Zc (mOp ixM (Zd 0) (mC (.int 0))) (Zc (mCB Zb8 (Zc (Zd 5) Zk)) (Zc (Zd 4) Zk))))))
def Zb9:GM:=ZR 5 6 Ziq
def ZfK:SM:=(mIf (ZK (mOp gtM (mOp Zbd (mCB ZbC (Zc (Zd 0) (Zc (mOp ZO (mC (.int 14)) (Zd 2)) Zk))) (mC (.int 3))) (mC (.int 0)))) (ZM (Zb7 Zk)) ZN)
def Zim:SM:=(Zr ZfK
  (Zr (ZQ 6 (mCB Zcr (Zc (mOp ixM (Zd 1) (mC (.int 1))) (Zc (mCB Za6 (Zc (mOp ixM (Zd 1) (mC (.int 3))) (Zc (Zd 3) Zk))) (Zc (mCB Za6 (Zc (mOp ixM (Zd 1) (mC (.int 2))) (Zc (Zd 4) Zk))) (Zc (mC (.int 16)) (Zc (mC (.int 0)) (Zc (Zb7 (Zc (Zd 2) Zk)) Zk))))))))
  (Zr (zn (mCB zV (Zc (mOp ixM (Zd 1) (mC (.int 0))) (Zc (mCB Zb8 (Zc (Zd 6) Zk)) (Zc (Zd 5) Zk)))))
  (Zr (ZQ 7 (ZaM (Zc (mCB Za6 (Zc (mOp ixM (Zd 1) (mC (.int 2))) (Zc (Zd 4) Zk))) (Zc (mCB Za6 (Zc (mOp ixM (Zd 1) (mC (.int 3))) (Zc (mOp ZO (Zd 3) (mC (.int 1))) Zk))) Zk))))
  (ZM (Zb7 (Zc (mOp ZO (mOp ZO (mOp ixM (Zd 1) (mC (.int 1))) (Zd 7)) (ZaM (Zc (mC (.int 16)) (Zc (mOp Zfo (mC (.int 63)) (Zd 3)) (Zc (mC (.int 0)) (Zc (ZaM Zk) Zk)))))) Zk)))))))
def l_owed:GM:=ZR 6 8 Zim
def ZdC:SM:=(mIf (zY (Zd 4)) (ZQ 5 (mOp ZO (mC (.int 16)) (mOp Zcq (mC (.int 8)) (mCB ZnY (Zc (mOp eqM (mOp ZO (Zd 2) (mC (.int 1))) (mCB Zc1 (Zc (Zd 3) Zk))) Zk))))) ZN)
def Zfj:SM:=(Zr (ZQ 4 (mCB ZeB (Zc (mSl (Zd 3) (Za1 (Zd 2)) (Za1 (mOp ZO (Zd 2) (mC (.int 1))))) Zk)))
  (Zr (ZQ 5 (mC (.int 17)))
  (Zr ZdC
  (Zr (ZQ 6 (ZaM (Zc (mCB Za6 (Zc (mOp ixM (Zd 0) (mC (.int 2))) (Zc (Zd 2) Zk))) (Zc (mCB Za6 (Zc (mOp ixM (Zd 0) (mC (.int 3))) (Zc (Zd 1) Zk))) Zk))))
  (ZM (mOp ZO (mOp ZO (mOp ixM (Zd 0) (mC (.int 1))) (Zd 6)) (ZaM (Zc (Zd 5) (Zc (mOp Zfo (mC (.int 64)) (Zd 1)) (Zc (mC (.int 0)) (Zc (Zd 4) Zk)))))))))))
def Zc2:GM:=ZR 4 7 Zfj
def ZcJ:SM:=(mIf (ZK (mOp neM (mCB Zbw (Zc (mOp ixM (Zd 1) (mC (.int 0))) (Zc (Zd 6) Zk))) (Zb7 (Zc (Zd 7) Zk)))) (ZM (Zuv (mC (.int 1)))) ZN)
def ZcI:SM:=(mIf (mOr (zY (Zd 10)) (ZK (mOp eqM (mOp Zbd (Zd 9) (mC (.int 5))) (mC (.int 4))))) (zn (mCB Zb9 (Zc (Zd 1) (Zc (Zd 4) (Zc (Zd 5) (Zc (mC (.int 0)) (Zc (Zd 6) Zk))))))) ZN)
def Zhb:SM:=(ZdR (ZcC (Zc (mOp Zbd (mCB ZbC (Zc (Zd 0) (Zc (mOp ZO (mC (.int 34)) (Zd 2)) Zk))) (mC (.int 10))) Zk)) (gNm 9) (Zr (ZQ 6 (mOp ZO (Zd 6) (Zd 8)))
    (Zr ZcJ
    (Zr (ZQ 8 (mCB Ziy (Zc (mOp Zcq (mC (.int 2)) (Zd 8)) (Zc (mC (.int 16000)) Zk))))
    (Zr (ZQ 10 (mOp eqM (mOp Zbd (mCB ZbC (Zc (Zd 0) (Zc (mOp ZO (mOp ZO (mC (.int 40)) (Zd 2)) (Zd 9)) Zk))) (mC (.int 2))) (mC (.int 0))))
    ZcI)))))
def Zjk:SM:=(Zr (ZQ 7 (mOp ZO (mOp ZO (mSl (Zd 3) Zas (Za1 (mC (.int 4)))) (ZaM (Zc (mOp Zfo (mOp ixM (Zd 3) (mC (.int 4))) (mOp Zcq (mOp Zbd (mOp Zfp (mOp ixM (Zd 3) (mC (.int 4))) (mC (.int 8))) (mC (.int 2))) (mC (.int 8)))) Zk))) (mSl (Zd 3) (Za1 (mC (.int 5))) Zas)))
  (Zr (ZQ 8 (mC (.int 1000)))
  (Zr Zhb
  (ZM (Zd 6)))))
def l_again:GM:=ZR 7 11 Zjk
def Zfm:SM:=(mIf (zY (Zd 4)) (zn (mCB Zfa (Zc (Zd 2) Zk))) ZN)
def Zfl:SM:=(mIf (ZK (mOp neM (mCB Zbw (Zc (Zd 2) (Zc (Zd 5) Zk))) (Zd 9))) (ZM (mC (.bl false))) ZN)
def Zfk:SM:=(mIf (ZK (mOp eqM (Zd 7) (mOp ZO (mCB Zc1 (Zc (Zd 3) Zk)) (mCB ZnY (Zc (Zd 4) Zk))))) (ZM (mC (.bl true))) ZN)
def ZgO:SM:=(mIf (ZK (mOp neM (mCB Zbw (Zc (Zd 2) (Zc (mOp ZO (Zd 5) (mOp Zbd (mCB ZbC (Zc (Zd 0) (Zc (mOp ZO (mC (.int 24)) (Zd 8)) Zk))) (mC (.int 1000)))) Zk))) (Zb7 Zk))) (ZM (mC (.bl false))) ZN)
def ZgN:SM:=(mIf (ZK (mOp neM (mCB Zbw (Zc (Zd 2) (Zc (Zd 5) Zk))) (Zb7 (Zc (Zd 10) Zk)))) (ZM (mC (.bl false))) ZN)
def ZgM:SM:=(mIf (mOr (ZK (mOp ltM (Zd 5) (mC (.int 0)))) (ZK (mOp ZbS (mCB ZfW (Zc (Zd 2) Zk)) (ZaM (Zc (mC (.str "open")) (Zc (mC (.str "wait one")) Zk)))))) (ZM (mC (.bl false))) ZN)
def Zjh:SM:=(ZdR (ZcC (Zc (mC (.int 9)) Zk)) (gNm 8) (Zr (ZQ 9 (mCB l_owed (Zc (Zd 0) (Zc (Zd 1) (Zc (Zd 8) (Zc (Zd 6) (Zc (Zd 7) (Zc (Zd 5) Zk))))))))
    (Zr (ZQ 6 (mOp ZO (Zd 6) (mCB Zc1 (Zc (Zd 9) Zk))))
    (Zr Zfl
    (Zr Zfk
    (Zr ZgO
    (Zr (ZQ 5 (mOp ZO (Zd 5) (mC (.int 1000))))
    (Zr (ZQ 10 (mCB Zc2 (Zc (Zd 1) (Zc (Zd 6) (Zc (Zd 7) (Zc (Zd 3) Zk))))))
    (Zr ZgN
    (Zr (ZQ 5 (mCB l_again (Zc (Zd 0) (Zc (Zd 1) (Zc (Zd 8) (Zc (Zd 10) (Zc (Zd 6) (Zc (Zd 7) (Zc (Zd 5) Zk)))))))))
    (Zr ZgM
    (Zr (ZQ 7 (mOp ZO (Zd 7) (mC (.int 1))))
    (zn (mCB Zb9 (Zc (Zd 1) (Zc (Zd 6) (Zc (Zd 7) (Zc (mC (.int 0)) (Zc (Zd 5) Zk)))))))))))))))))))
def Zjg:SM:=(ZdR (mIn (mCB Zbw (Zc (Zd 2) (Zc (Zd 5) Zk)))) (gNm 12) (ZQ 11 (mOp ZO (Zd 11) (mCB ZhU (Zc (mOp ixM (Zd 12) (mC (.int 7))) Zk)))))
def ZjO:SM:=(Zr (ZQ 1 (mCB ZdS (Zc (Zd 0) (Zc (mC (.int 0)) (Zc (mC (.int 0)) (Zc (mC (.int 16)) Zk))))))
  (Zr (ZQ 2 (mOp ixM (Zd 1) (mC (.int 0))))
  (Zr (ZQ 3 (ZeN (ZcC (Zc (mOp Zbd (mCB ZbC (Zc (Zd 0) (Zc (mC (.int 12)) Zk))) (mC (.int 21))) Zk)) [0] (mOp Zbd (mCB ZbC (Zc (Zd 1) (Zc (mOp ZO (mC (.int 11)) (Zd 0)) Zk))) (mC (.int 256)))))
  (Zr (zn (mCB Zd6 (Zc (Zd 2) (Zc (Zd 3) Zk))))
  (Zr (ZQ 4 (Zmu (mOp eqM (mOp Zbd (mCB ZbC (Zc (Zd 0) (Zc (mC (.int 13)) Zk))) (mC (.int 2))) (mC (.int 0))) (ZlK (Zd 3))))
  (Zr Zfm
  (Zr (ZQ 5 (mC (.int 100)))
  (Zr (ZQ 6 (mC (.int 0)))
  (Zr (ZQ 7 (mC (.int 0)))
  (Zr Zjh
  (Zr (zn (mCB Zb9 (Zc (Zd 1) (Zc (Zd 6) (Zc (Zd 7) (Zc (mC (.int 500)) (Zc (Zd 5) Zk)))))))
  (Zr (ZQ 11 (Zb7 Zk))
  (Zr Zjg
  (ZM (mOp eqM (Zd 11) (mSl (Zd 3) (Za1 (Zd 7)) Zas))))))))))))))))
def ZlM:GM:=ZR 1 13 ZjO
theorem Zsl {n:Nat} {F:Nat→Int} (h:∀i,0≤F i∧F i≤255):∀z∈(List.range n).map F,0≤z∧z≤255:=by
  intro z hz
  obtain ⟨i,_,rfl⟩:=List.mem_map.mp hz
  exact h i
abbrev Za0 (a b f g:Int):D:=.tup [.ref 0,.tup [.int a,.int b],.int (Zn f 1),.int (Zn g 1)]
section
variable {a b f g t:Int}
theorem Zmz {n:Nat} {q:Q} (h:room q≤0) (ho:q.oa=false):(zL a b f g t n q).1=[]:=by
  cases n with
  | zero=>rfl
  | succ n=>
    unfold zL
    rw [if_neg (by omega),if_neg (by omega),if_neg (by rw [ho]; decide)]
theorem Zi6 {n:Nat} {q:Q} (h:q.beh<q.nxt) (ho:q.oa=false):(zL a b f g t n q).1=[]:=by
  cases n with
  | zero=>rfl
  | succ n=>
    unfold zL
    rw [if_neg (by intro z; have:=z.2.2; omega),if_neg (by intro z; have:=z.2.2; omega),if_neg (by rw [ho]; decide)]
theorem ZqQ {n:Nat} {q:Q} (h:q.nxt=q.beh) (ho:q.oa=false):(zL a b f g t n q).1.length≤1:=by
  cases n with
  | zero=>simp [zL]
  | succ n=>
    unfold zL
    rw [if_neg (by intro z; have:=z.2.2; omega)]
    by_cases h2:0<room q∧Zbl q
    · rw [if_pos h2]
      simp only [List.length_cons]
      rw [Zi6 (by show (sinceQ q t).beh<q.nxt+1; rw [(zA q t).2.2.1]; omega) rfl]
      simp
    · rw [if_neg h2,if_neg (by rw [ho]; decide)]
      simp
theorem ZlT:∀(n:Nat) (q:Q),WF q→4*((zL a b f g t n q).1.length:Int)≤q.beh+1-q.nxt+8
  | 0,q,w=>by have:=w.nxt; simp [zL]; omega
  | n+1,q,w=>by
    have hw:=w.nxt
    unfold zL
    by_cases h1:0<room q∧ZaX q
    · obtain ⟨c1,c2,c3,c4⟩:=Zdj w h1.2.2 h1.1
      have kd:=ZfE q (room q) t
      rw [if_pos h1]
      simp only [List.length_cons]
      by_cases c:4≤Zaa q (room q)
      · have ih:=ZlT n (Zb6 q (room q) t) (w.next h1.1 h1.2)
        rw [kd.beh] at ih
        have:(Zb6 q (room q) t).nxt=q.nxt+Zaa q (room q):=rfl
        rw [this] at ih
        omega
      · have cs:Zaa q (room q)=q.beh-q.nxt∨Zaa q (room q)=room q:=by
          have hm:=w.most
          unfold Zaa mn3 ZcN at c ⊢
          split at c<;>split at c<;>split at c<;>simp_all<;>omega
        rcases cs with e | e
        · have:=ZqQ (a:=a) (b:=b) (f:=f) (g:=g) (t:=t) (n:=n) (q:=Zb6 q (room q) t) (by rw [kd.beh]; show q.nxt+Zaa q (room q)=q.beh; omega) rfl
          omega
        · have:=Zmz (a:=a) (b:=b) (f:=f) (g:=g) (t:=t) (n:=n) (q:=Zb6 q (room q) t) (by
            show (Zb6 q (room q) t).wnd-((Zb6 q (room q) t).nxt-(Zb6 q (room q) t).una)≤0
            rw [kd.wnd,kd.una]
            show q.wnd-(q.nxt+Zaa q (room q)-q.una)≤0
            rw [e]; unfold room; omega) rfl
          rw [this]
          simp
          omega
    · rw [if_neg h1]
      by_cases h2:0<room q∧Zbl q
      · have h3:=h2.2.2
        rw [if_pos h2]
        simp only [List.length_cons]
        rw [Zi6 (by show (sinceQ q t).beh<q.nxt+1; rw [(zA q t).2.2.1]; omega) rfl]
        simp
        omega
      · rw [if_neg h2]
        split
        · simp; omega
        · simp; omega
end
section
variable {a b f g t:Int} {q:Q}
def Zju (a b f g:Int) (q:Q):Seg:=if q.nxt<q.beh then Zdw a b f g q 1 else finS a b f g q
theorem ZjE (c:CalmQ q t) (w:WF q) (hn:q.nxt=q.una) (hw:q.wnd=0) (hm:ZaX q∨Zbl q) (hp:q.pr=true) (ho:q.oa=false) (hd:q.wait≤t-q.since):Zah (qE a b f g q) t=(some (Zju a b f g q),qE a b f g { q with since:=t,nxt:=q.nxt+1,pr:=false }):=by
  have o:=w.off (a:=a) (b:=b) (f:=f) (g:=g)
  have mo:Za8 (qE a b f g q)=true:=by
    rw [w.more]
    rcases hm with h | h
    · rw [decide_eq_true h]; rfl
    · rw [decide_eq_true h]; simp
  have a1:Z9 (qE a b f g q) t=(none,qE a b f g q):=by
    unfold Z9
    rw [if_neg c.on.notSyn,if_pos (.inl (by rw [o]; show q.wnd-(q.nxt-q.una)≤0; omega))]
  have pb:(if (qE a b f g q).probes=true then qE a b f g q else Z1 { qE a b f g q with probes:=true } t)=qE a b f g q:=by
    rw [if_pos (show (qE a b f g q).probes=true from hp)]
  have nd:Zcb (qE a b f g q) t=true:=by
    unfold Zcb
    show decide (q.wait≤t-q.since)=true
    exact decide_eq_true hd
  have w':WF { q with since:=t }:=⟨w.una,w.nxt,w.wr,w.wnd,w.most,w.come,w.byt⟩
  have eq1:qE a b f g { ({ q with since:=t }:Q) with oa:=false,pr:=true }={ qE a b f g q with since:=t }:=by
    unfold qE
    simp only [ho,hp]
  have pc:zW { qE a b f g q with since:=t } 1=(Zju a b f g q,qE a b f g { q with since:=t,nxt:=q.nxt+1,oa:=false,pr:=false }):=by
    unfold Zju
    rcases hm with h | h
    · have c1:Zaa q 1=1:=by
        have:=Zdj w h.2 (r:=1) (by omega)
        omega
      have pc:=ZhH (a:=a) (b:=b) (f:=f) (g:=g) (q:={ q with since:=t }) w' h (r:=1) (by omega) true
      have cc:Zaa { q with since:=t } 1=1:=c1
      rw [eq1,cc] at pc
      rw [if_pos h.2]
      exact pc
    · have pc:=ZiQ (a:=a) (b:=b) (f:=f) (g:=g) (q:={ q with since:=t }) w' h 1 true
      rw [eq1] at pc
      rw [if_neg (by have:=h.2; omega)]
      exact pc
  have a2:ZZ (qE a b f g q) t=(some (Zju a b f g q),qE a b f g { q with since:=t,nxt:=q.nxt+1,pr:=false }):=by
    unfold ZZ
    rw [if_neg (by rw [mo]; simp; exact ⟨w.same.mpr hn,hw⟩)]
    simp only [pb,nd,if_true]
    rw [pc]
    refine Prod.ext rfl ?_
    unfold qE
    simp only [ho]
  rw [c.on.go]
  unfold Zbx
  rw [a1]
  simp only [a2]
end
def ZfH:List Seg→List Int
  | []=>[]
  | s::r=>s.data++ZfH r
section
variable {a b f g t:Int}
theorem Zh3:∀(n:Nat) (q:Q),WF q→ZfH (zL a b f g t n q).1++(zL a b f g t n q).2.written.drop ((zL a b f g t n q).2.nxt-(zL a b f g t n q).2.una).toNat=q.written.drop (q.nxt-q.una).toNat
  | 0,q,w=>by simp [zL,ZfH]
  | n+1,q,w=>by
    have hu:=w.una
    unfold zL
    by_cases h1:0<room q∧ZaX q
    · obtain ⟨c1,c2,c3,c4⟩:=Zdj w h1.2.2 h1.1
      have k:=ZfE q (room q) t
      rw [if_pos h1]
      have ih:=Zh3 n (Zb6 q (room q) t) (w.next h1.1 h1.2)
      simp only [ZfH]
      rw [List.append_assoc,ih,k.written,k.una]
      show (q.written.drop (q.nxt-q.una).toNat).take (Zaa q (room q)).toNat++q.written.drop (q.nxt+Zaa q (room q)-q.una).toNat=_
      have:(q.nxt+Zaa q (room q)-q.una).toNat=(q.nxt-q.una).toNat+(Zaa q (room q)).toNat:=by omega
      rw [this,←List.drop_drop,List.take_append_drop]
    · rw [if_neg h1]
      by_cases h2:0<room q∧Zbl q
      · have k:=ZhX q t
        have h3:=h2.2.2
        have h4:=w.wr (by omega)
        rw [if_pos h2]
        have ih:=Zh3 n (nextF q t) (w.nextF h2.2)
        simp only [ZfH]
        rw [List.append_assoc,ih,k.written,k.una]
        show []++q.written.drop (q.nxt+1-q.una).toNat=_
        rw [List.nil_append,List.drop_eq_nil_of_le (by omega),List.drop_eq_nil_of_le (by omega)]
      · rw [if_neg h2]
        split
        · simp [ZfH,ZjS]
        · simp [ZfH]
end
structure A22 (data:List Int) (cl:Bool) (q:Q) (came u:Int):Prop where
  wf:WF q
  st:q.st=if u=data.length+1 then .waitTwo else if cl=true then .waitOne else .opn
  una:q.una=1+u
  nxt:q.nxt=1+u
  beh:q.beh=1+data.length
  wr:q.written=data.drop u.toNat
  wnd:q.wnd=0
  most:q.most=16
  come:(q.come.length:Int)=came
  rcv:q.rcv=1+came
  told:0≤q.told∧q.told≤1+came
  by_:0≤q.by_∧q.by_≤1+u
  fin:q.fin=none
  pr:q.pr=false
  uQ:0≤u∧u≤data.length+(if cl=true then 1 else 0)
  cm:0≤came∧came≤20
  len:data.length≤30
section
variable {a b f g t came u:Int} {data:List Int} {cl:Bool} {q:Q} {ns:List Int} {B:Sto}
theorem A22.s3 (p:A22 data cl q came u):q.st∈S3:=by
  rw [p.st]
  split
  · simp
  · split<;>simp
theorem A22.end3 (p:A22 data cl q came u):q.nxt≤q.beh∨¬q.una=q.nxt∨q.st=.waitTwo:=by
  have hu:=p.uQ
  by_cases c:u=data.length+1
  · right; right
    rw [p.st,if_pos c]
  · left
    rw [p.nxt,p.beh]
    split at hu<;>omega
theorem A22.more (p:A22 data cl q came u):(ZaX q∨Zbl q)↔u<data.length+(if cl=true then 1 else 0):=by
  have hu:=p.uQ
  constructor
  · rintro (h | h)
    · have:=h.2
      rw [p.nxt,p.beh] at this
      split<;>omega
    · have h1:=h.1
      have h2:=h.2
      rw [p.nxt,p.beh] at h2
      rw [p.st,if_neg (by omega)] at h1
      cases cl
      · simp at h1
      · simp; omega
  · intro h
    have nl:¬u=data.length+1:=by split at h<;>omega
    by_cases c:u<data.length
    · left
      refine ⟨?_,by rw [p.nxt,p.beh]; omega⟩
      rw [p.st,if_neg nl]
      cases cl<;>simp
    · right
      have hc:cl=true:=by
        cases cl
        · simp at h
          omega
        · rfl
      refine ⟨?_,by rw [p.nxt,p.beh]; rw [hc] at h; simp at h; omega⟩
      rw [p.st,if_neg nl,hc]
      simp
theorem A22.same (p:A22 data cl q came u):q.nxt=q.una:=by rw [p.nxt,p.una]
theorem A22.calm (p:A22 data cl q came u):CalmQ q t:=by
  have hs:=S3.cases p.s3
  refine ⟨by rcases hs with h | h | h<;>rw [h]<;>decide,fun z=>(by rcases hs with h | h | h<;>rw [h] at z<;>cases z),fun z=>absurd p.same z⟩
structure B22 (data:List Int) (cl:Bool) (q:Q) (came u now:Int):Prop where
  a:A22 data cl { q with pr:=false } came u
  pr:q.pr=true
  oa:q.oa=false
  since:q.since=now
  wait:q.wait=1000
  tries:q.tries=0
  lt:u<data.length+(if cl=true then 1 else 0)
theorem B22.wf (p:B22 data cl q came u t):WF q:=⟨p.a.wf.una,p.a.wf.nxt,p.a.wf.wr,p.a.wf.wnd,p.a.wf.most,p.a.wf.come,p.a.wf.byt⟩
theorem A22.given (p:A22 data cl q came u) (ha:0≤a∧a≤65535) (hb:0≤b∧b≤65535):∃q',Gives t (qE a b f g q) (if q.oa=true then [⟨a,b,Zn f (1+u),Zn g (1+came),16,64-came,0,[]⟩] else []) (qE a b f g q')∧(u<data.length+(if cl=true then 1 else 0)→B22 data cl q' came u t):=by
  have w:=p.wf
  have ak:∀r:Q,r.nxt=1+u→r.rcv=1+came→(r.come.length:Int)=came→ZjS a b f g r=⟨a,b,Zn f (1+u),Zn g (1+came),16,64-came,0,[]⟩:=fun r h1 h2 h3=>by
    unfold ZjS
    rw [h1,h2,h3]
  have ok:(Seg.mk a b (Zn f (1+u)) (Zn g (1+came)) 16 (64-came) 0 []).Ok:=by
    have:=p.cm
    exact Zfs ha hb (Zab _ _) (Zab _ _) (by omega) (by omega) (.inl rfl) Zea
  by_cases h:u<data.length+(if cl=true then 1 else 0)
  · have hm:=p.more.mpr h
    have g1:=ZeS (a:=a) (b:=b) (f:=f) (g:=g) (t:=t) p.calm w p.same p.wnd hm (.inl p.pr)
    have pb:probing q t={ q with pr:=true,since:=t,wait:=1000,tries:=0 }:=by
      unfold probing
      rw [if_neg (by rw [p.pr]; decide)]
    rw [pb] at g1
    have wb:WF { q with pr:=true,since:=t,wait:=1000,tries:=0,oa:=false }:=⟨w.una,w.nxt,w.wr,w.wnd,w.most,w.come,w.byt⟩
    have cb:CalmQ { q with pr:=true,since:=t,wait:=1000,tries:=0,oa:=false } t:=⟨p.calm (t:=t) |>.st,fun _=>by show t-t<120000; omega,fun z=>absurd p.same z⟩
    have g2:=ZeS (a:=a) (b:=b) (f:=f) (g:=g) (t:=t) cb wb p.same p.wnd hm (.inr (by show t-t<1000; omega))
    rw [if_neg (by simp)] at g2
    have pb2:probing { q with pr:=true,since:=t,wait:=1000,tries:=0,oa:=false } t={ q with pr:=true,since:=t,wait:=1000,tries:=0,oa:=false }:=by
      unfold probing
      rw [if_pos rfl]
    rw [pb2] at g2
    refine ⟨{ q with pr:=true,since:=t,wait:=1000,tries:=0,oa:=false },?_,fun _=>⟨⟨⟨w.una,w.nxt,w.wr,w.wnd,w.most,w.come,w.byt⟩,p.st,p.una,p.nxt,p.beh,p.wr,p.wnd,p.most,p.come,p.rcv,p.told,p.by_,p.fin,rfl,p.uQ,p.cm,p.len⟩,rfl,rfl,rfl,rfl,rfl,h⟩⟩
    by_cases c:q.oa=true
    · rw [if_pos c] at g1 ⊢
      rw [ak { q with pr:=true,since:=t,wait:=1000,tries:=0 } p.nxt p.rcv p.come] at g1
      exact .cons g1 ok (.nil g2)
    · have c':q.oa=false:=by simpa using c
      rw [if_neg c] at g1 ⊢
      have e:({ q with pr:=true,since:=t,wait:=1000,tries:=0 }:Q)={ q with pr:=true,since:=t,wait:=1000,tries:=0,oa:=false }:=by
        obtain ⟨⟩:=q
        simp only at c'
        subst c'
        rfl
      rw [e] at g1
      exact .nil g1
  · have g1:=Zf8 (a:=a) (b:=b) (f:=f) (g:=g) (t:=t) p.calm w (.inl fun z=>h (p.more.mp z)) p.pr
    have w2:WF { q with oa:=false }:=⟨w.una,w.nxt,w.wr,w.wnd,w.most,w.come,w.byt⟩
    have c2:CalmQ { q with oa:=false } t:=⟨p.calm (t:=t) |>.st,p.calm (t:=t) |>.tw,p.calm (t:=t) |>.due⟩
    have g2:=Zf8 (a:=a) (b:=b) (f:=f) (g:=g) (t:=t) (q:={ q with oa:=false }) c2 w2 (.inl fun z=>h (p.more.mp z)) p.pr
    rw [if_neg (by simp)] at g2
    refine ⟨{ q with oa:=false },?_,fun z=>absurd z h⟩
    by_cases c:q.oa=true
    · rw [if_pos c] at g1 ⊢
      rw [ak q p.nxt p.rcv p.come] at g1
      exact .cons g1 ok (.nil g2)
    · have c':q.oa=false:=by simpa using c
      rw [if_neg c] at g1 ⊢
      have e:({ q with oa:=false }:Q)=q:=by
        obtain ⟨⟩:=q
        simp only at c'
        subst c'
        rfl
      rw [e]
      exact .nil g1
end
structure C22 (data:List Int) (cl:Bool) (q:Q) (came u now wait tries:Int):Prop where
  wf:WF q
  st:q.st=if cl=true then .waitOne else .opn
  una:q.una=1+u
  nxt:q.nxt=2+u
  beh:q.beh=1+data.length
  wr:q.written=data.drop u.toNat
  wnd:q.wnd=0
  most:q.most=16
  come:(q.come.length:Int)=came
  rcv:q.rcv=1+came
  told:0≤q.told∧q.told≤1+came
  by_:0≤q.by_∧q.by_≤1+u
  fin:q.fin=none
  pr:q.pr=false
  oa:q.oa=false
  since:q.since=now
  waitQ:q.wait=wait
  triesQ:q.tries=tries
  uQ:0≤u∧u<data.length+(if cl=true then 1 else 0)
  cm:0≤came∧came≤20
  len:data.length≤30
  wa:1000≤wait∧wait≤16000
  tr:0≤tries∧tries≤5
section
variable {a b f g t came u now wait tries:Int} {data:List Int} {cl:Bool} {q:Q} {ns:List Int} {B:Sto}
theorem B22.nxt0 (p:B22 data cl q came u now):q.nxt=q.una:=p.a.same
theorem B22.calm (p:B22 data cl q came u now):CalmQ q t:=⟨p.a.calm (t:=t) |>.st,fun z=>by have:=p.a.st; exact absurd z (by show ¬q.st=_; rw [show q.st=_ from this]; split; decide; split<;>decide),fun z=>absurd p.nxt0 z⟩
theorem B22.no (p:B22 data cl q came u now) (h:t-now<1000):Gives t (qE a b f g q) [] (qE a b f g q):=by
  have g1:=ZeS (a:=a) (b:=b) (f:=f) (g:=g) (t:=t) p.calm p.wf p.nxt0 p.a.wnd (p.a.more.mpr p.lt) (.inr (by rw [p.since,p.wait]; exact h))
  rw [if_neg (by rw [p.oa]; decide),show probing q t=q by unfold probing; rw [if_pos p.pr]] at g1
  exact .nil g1
theorem C22.calm (p:C22 data cl q came u now wait tries) (h:t-now<wait):CalmQ q t:=⟨by rw [p.st]; split<;>decide,fun z=>(by rw [p.st] at z; split at z<;>cases z),fun _=>(by rw [p.since,p.waitQ]; exact h)⟩
theorem C22.stop (p:C22 data cl q came u now wait tries):¬q.nxt=q.una∧room q≤0:=by
  unfold room
  rw [p.nxt,p.una,p.wnd]
  omega
theorem C22.no (p:C22 data cl q came u now wait tries) (h:t-now<wait):Gives t (qE a b f g q) [] (qE a b f g q):=by
  refine .nil ?_
  rw [Zf8 (p.calm h) p.wf (.inr p.stop) p.pr,if_neg (by rw [p.oa]; decide)]
theorem B22.probe (p:B22 data cl q came u now) (ha:0≤a∧a≤65535) (hb:0≤b∧b≤65535):Gives (now+1000) (qE a b f g q) [Zju a b f g q] (qE a b f g { q with since:=now+1000,nxt:=q.nxt+1,pr:=false })∧C22 data cl { q with since:=now+1000,nxt:=q.nxt+1,pr:=false } came u (now+1000) 1000 0:=by
  have w:=p.wf
  have hm:=p.a.more.mpr p.lt
  have hb1:=p.a.beh
  have hu:=p.a.uQ
  have hn:=p.a.nxt
  have hl:=p.lt
  have hun:=p.a.una
  have q3:C22 data cl { q with since:=now+1000,nxt:=q.nxt+1,pr:=false } came u (now+1000) 1000 0:=by
    refine ⟨⟨?_,?_,w.wr,w.wnd,w.most,w.come,w.byt⟩,?_,p.a.una,?_,p.a.beh,p.a.wr,p.a.wnd,p.a.most,p.a.come,p.a.rcv,p.a.told,p.a.by_,p.a.fin,rfl,p.oa,rfl,p.wait,p.tries,⟨hu.1,hl⟩,p.a.cm,p.a.len,by omega,by omega⟩
    · have:=w.una; simp only; omega
    · have:=w.nxt
      simp only at hb1 hn ⊢
      split at hl<;>omega
    · have:=p.a.st
      rw [if_neg (by split at hl<;>omega)] at this
      exact this
    · simp only at hn ⊢
      omega
  have g1:=ZjE (a:=a) (b:=b) (f:=f) (g:=g) (t:=now+1000) p.calm w p.nxt0 p.a.wnd hm p.pr p.oa (by rw [p.since,p.wait]; omega)
  have ok:(Zju a b f g q).Ok:=by
    unfold Zju
    rcases hm with h | h
    · rw [if_pos h.2]; exact Znl w (by omega) h ha hb
    · rw [if_neg (by have:=h.2; simp only at this; omega)]; exact ZqT w ha hb
  refine ⟨.cons g1 ok (q3.no (by omega)),q3⟩
def Zcz (data:List Int) (u:Int):List Int:=(data.drop u.toNat).take 1
theorem Zlx (hu:0≤u):(Zcz data u).length=if u<data.length then 1 else 0:=by
  unfold Zcz
  rw [List.length_take,List.length_drop]
  split<;>omega
theorem B22.one (p:B22 data cl q came u now):Zju a b f g q=⟨a,b,Zn f (1+u),Zn g (1+came),if u<data.length then (if u+1=data.length then 24 else 16) else 17,64-came,0,Zcz data u⟩:=by
  have w:=p.wf
  have hb1:=p.a.beh
  have hn:=p.a.nxt
  have hun:=p.a.una
  have hu:=p.a.uQ
  have hr:=p.a.rcv
  have hc:=p.a.come
  have hw:=p.a.wr
  simp only at hb1 hn hun hr hc hw
  unfold Zju
  by_cases c:u<data.length
  · have hm:ZaX q:=⟨by
      have:=p.a.st
      rw [show q.st=_ from this,if_neg (by omega)]
      split<;>simp,by omega⟩
    have c1:Zaa q 1=1:=by
      have:=Zdj w hm.2 (r:=1) (by omega)
      omega
    rw [if_pos (by omega),if_pos c]
    unfold Zdw Zcz
    rw [c1,hn,hun,hr,hc,hw,hb1]
    have e1:(1+u-(1+u)).toNat=0:=by omega
    rw [e1,List.drop_zero]
    by_cases c2:u+1=data.length
    · rw [if_pos c2,if_pos (by omega)]; rfl
    · rw [if_neg c2,if_neg (by omega)]; rfl
  · rw [if_neg (by omega),if_neg c]
    unfold finS Zcz
    rw [hn,hr,hc,List.drop_eq_nil_of_le (by omega)]
    rfl
theorem C22.next (p:C22 data cl q came u now wait tries) (ht:tries<5) (ha:0≤a∧a≤65535) (hb:0≤b∧b≤65535):Gives (now+wait) (qE a b f g q) [⟨a,b,Zn f (1+u),Zn g (1+came),if u<data.length then 16 else 17,64-came,0,Zcz data u⟩] (qE a b f g { q with tries:=q.tries+1,wait:=mn (2*q.wait) 16000,since:=now+wait })∧C22 data cl { q with tries:=q.tries+1,wait:=mn (2*q.wait) 16000,since:=now+wait } came u (now+wait) (mn (2*wait) 16000) (tries+1):=by
  have w:=p.wf
  have hu:=p.uQ
  have hwa:=p.wa
  have htr:=p.tr
  have du:Due q (now+wait):=⟨by rw [p.st]; split<;>decide,p.stop.1,by rw [p.since,p.waitQ]; omega⟩
  have g1:=ZqP (a:=a) (b:=b) (f:=f) (g:=g) w du (by rw [p.triesQ]; omega)
  have ok:=Zrl (a:=a) (b:=b) (f:=f) (g:=g) w ha hb
  have ap:Ze9 q=Zcz data u:=by
    unfold Ze9 Zcz
    have m16:ZcN q=16:=by unfold ZcN; rw [p.most]; rfl
    rw [p.wr,m16,p.nxt,p.una]
    have:mn (2+u-(1+u)) 16=1:=by unfold mn; split<;>omega
    rw [this]
    rfl
  have sg:Zis a b f g q=⟨a,b,Zn f (1+u),Zn g (1+came),if u<data.length then 16 else 17,64-came,0,Zcz data u⟩:=by
    unfold Zis
    rw [ap,Zlx hu.1,p.una,p.rcv,p.come]
    by_cases c:u<data.length
    · rw [if_pos c,if_pos c]; rfl
    · rw [if_neg c,if_neg c]; rfl
  rw [sg] at g1 ok
  have q3:C22 data cl { q with tries:=q.tries+1,wait:=mn (2*q.wait) 16000,since:=now+wait } came u (now+wait) (mn (2*wait) 16000) (tries+1):=by
    refine ⟨⟨w.una,w.nxt,w.wr,w.wnd,w.most,w.come,w.byt⟩,p.st,p.una,p.nxt,p.beh,p.wr,p.wnd,p.most,p.come,p.rcv,p.told,p.by_,p.fin,p.pr,p.oa,rfl,?_,?_,p.uQ,p.cm,p.len,?_,by omega⟩
    · show mn (2*q.wait) 16000=_; rw [p.waitQ]
    · show q.tries+1=_; rw [p.triesQ]
    · unfold mn; split<;>omega
  exact ⟨.cons g1 ok (q3.no (by have:=q3.wa; omega)),q3⟩
theorem C22.s3 (p:C22 data cl q came u now wait tries):q.st∈S3:=by rw [p.st]; split<;>simp
theorem Zmy (q:Q) (h:q.fin=none):qIn q (q.rcv+(([]:List Int).length:Nat)) [] false=q:=by
  unfold qIn
  obtain ⟨⟩:=q
  simp only at h
  subst h
  simp
theorem C22.win (p:C22 data cl q came u now wait tries):∃q',comes (qE a b f g q) ⟨b,a,Zn g (1+came),Zn f (1+u),16,0,0,[]⟩ t=qE a b f g q'∧C22 data cl q' came u now wait 0:=by
  have w:=p.wf
  have hc:=p.cm
  have hu:=p.uQ
  have hs:=ZgF (a:=a) (b:=b) (f:=f) (g:=g) (t:=t) (q:=q) (W:=0) (x:=[]) w p.s3 (.inr (.inl fun z=>p.stop.1 z.symm)) (by have:=p.told; rw [p.rcv]; omega) (by have:=p.by_; rw [p.una]; exact this)
  have cm:=Zgb (a:=a) (b:=b) (f:=f) (g:=g) (t:=t) (x:=[]) p.s3 (by simp) (by have:=p.come; omega) hs p.s3 p.fin rfl (by have:=p.come; simp; omega)
  have cm:=cm.trans (congrArg (qE a b f g) (Zmy { q with wnd:=0,told:=q.rcv,by_:=q.una,tries:=if q.wnd=0∨(0:Int)=0 then 0 else q.tries } p.fin))
  have e1:Zn g q.rcv=Zn g (1+came):=by rw [p.rcv]
  have e2:Zn f q.una=Zn f (1+u):=by rw [p.una]
  rw [e1,e2] at cm
  refine ⟨_,cm,⟨⟨w.una,w.nxt,w.wr,by show (0:Int)≤0∧(0:Int)≤65535; omega,w.most,w.come,w.byt⟩,p.st,p.una,p.nxt,p.beh,p.wr,rfl,p.most,p.come,p.rcv,?_,?_,p.fin,p.pr,p.oa,p.since,p.waitQ,?_,p.uQ,p.cm,p.len,p.wa,by omega⟩⟩
  · show 0≤q.rcv∧q.rcv≤1+came; rw [p.rcv]; omega
  · show 0≤q.una∧q.una≤1+u; rw [p.una]; omega
  · show (if q.wnd=0∨(0:Int)=0 then 0 else q.tries)=0; rw [if_pos (.inr rfl)]
theorem C22.ack (p:C22 data cl q came u now wait tries):∃q',comes (qE a b f g q) ⟨b,a,Zn g (1+came),Zn f (1+(u+1)),16,0,0,[]⟩ t=qE a b f g q'∧A22 data cl q' came (u+1)∧q'.oa=false:=by
  have w:=p.wf
  have hc:=p.cm
  have hu:=p.uQ
  have hb:=p.beh
  have hl:=p.len
  have hs:=ZqK (a:=a) (b:=b) (f:=f) (g:=g) (t:=t) (q:=q) (n:=1+(u+1)) (W:=0) (x:=[]) w p.s3 (by rw [p.una]; omega) (by rw [p.nxt]; omega) (by rw [p.rcv]; omega)
  obtain ⟨q1,hq1⟩:∃x,x=Zeh (zG q (1+(u+1)) 0 t):=⟨_,rfl⟩
  have dd:q.written.drop (1+(u+1)-q.una).toNat=data.drop (u+1).toNat:=by
    rw [p.wr,p.una,List.drop_drop]
    congr 1
    omega
  have ff:q1.fin=none∧q1.rcv=q.rcv∧q1.come=q.come∧q1.una=1+(u+1)∧q1.nxt=q.nxt∧q1.beh=q.beh∧q1.written=data.drop (u+1).toNat∧q1.wnd=0∧q1.most=q.most∧q1.told=q.rcv∧q1.by_=1+(u+1)∧q1.pr=false∧q1.oa=false∧q1.st=(if u+1=data.length+1 then .waitTwo else if cl=true then .waitOne else .opn):=by
    rw [hq1]
    unfold Zeh
    have hst:=p.st
    by_cases c:q.beh<q.nxt∧1+(u+1)=q.nxt∧q.st=.waitOne
    · rw [if_pos (show (zG q (1+(u+1)) 0 t).beh<(zG q (1+(u+1)) 0 t).nxt∧(zG q (1+(u+1)) 0 t).una=(zG q (1+(u+1)) 0 t).nxt∧(zG q (1+(u+1)) 0 t).st=.waitOne from c)]
      refine ⟨p.fin,rfl,rfl,rfl,rfl,rfl,dd,rfl,rfl,rfl,rfl,p.pr,p.oa,?_⟩
      have h1:=c.1
      rw [p.nxt,hb] at h1
      rw [if_pos (by split at hu<;>omega)]
    · rw [if_neg (show ¬((zG q (1+(u+1)) 0 t).beh<(zG q (1+(u+1)) 0 t).nxt∧(zG q (1+(u+1)) 0 t).una=(zG q (1+(u+1)) 0 t).nxt∧(zG q (1+(u+1)) 0 t).st=.waitOne) from c)]
      refine ⟨p.fin,rfl,rfl,rfl,rfl,rfl,dd,rfl,rfl,rfl,rfl,p.pr,p.oa,?_⟩
      show q.st=_
      have nl:¬u+1=data.length+1:=by
        intro z
        apply c
        refine ⟨by rw [p.nxt,hb]; omega,by rw [p.nxt]; omega,?_⟩
        rw [hst]
        have:cl=true:=by
          cases cl
          · simp at hu; omega
          · rfl
        rw [if_pos this]
      rw [if_neg nl,hst]
  obtain ⟨f1,f2,f3,f4,f5,f6,f7,f8,f9,f10,f11,f12,f13,f14⟩:=ff
  have s3:q1.st∈S3:=by
    rw [f14]
    split
    · simp
    · split<;>simp
  rw [←hq1] at hs
  have cm:=Zgb (a:=a) (b:=b) (f:=f) (g:=g) (t:=t) (x:=[]) p.s3 (by simp) (by have:=p.come; omega) hs s3 f1 f2 (by rw [f3]; have:=p.come; simp; omega)
  rw [←f2,Zmy _ f1] at cm
  have e1:Zn g q1.rcv=Zn g (1+came):=by rw [f2,p.rcv]
  rw [e1] at cm
  have hwu:=w.una
  have hwn:=w.nxt
  refine ⟨q1,cm,⟨⟨by rw [f4,f5,p.nxt]; omega,by rw [f5,f6]; exact hwn,?_,by rw [f8]; omega,by rw [f9]; exact w.most,by rw [f3]; exact w.come,?_⟩,f14,f4,by rw [f5,p.nxt]; omega,by rw [f6]; exact hb,f7,f8,by rw [f9]; exact p.most,by rw [f3]; exact p.come,by rw [f2]; exact p.rcv,by rw [f10,p.rcv]; omega,by rw [f11]; omega,f1,f12,by cases cl<;>simp at hu ⊢<;>omega,p.cm,p.len⟩,f13⟩
  · intro hh
    rw [f4,f6,hb] at hh
    rw [f7,f4,f6,hb,List.length_drop]
    omega
  · intro z hz
    rw [f7] at hz
    exact w.byt z (by rw [p.wr]; rw [show (u+1).toNat=u.toNat+1 by omega,←List.drop_drop] at hz; exact List.mem_of_mem_drop hz)
theorem A22.data1 (p:A22 data cl q came u) (hoa:q.oa=false) (hc:came<20) {k:Int}:∃q',comes (qE a b f g q) ⟨b,a,Zn g (1+came),Zn f (1+u),16,0,0,[k]⟩ t=qE a b f g q'∧A22 data cl q' (came+1) u∧q'.oa=true:=by
  have w:=p.wf
  have hcm:=p.cm
  have hu:=p.uQ
  have hs:=ZgF (a:=a) (b:=b) (f:=f) (g:=g) (t:=t) (q:=q) (W:=0) (x:=[k]) w p.s3 p.end3 (by have:=p.told; rw [p.rcv]; omega) (by have:=p.by_; rw [p.una]; exact this)
  have cm:=Zgb (a:=a) (b:=b) (f:=f) (g:=g) (t:=t) (x:=[k]) p.s3 (by simp) (by have:=p.come; omega) hs p.s3 p.fin rfl (by have:=p.come; simp; omega)
  have e1:Zn g q.rcv=Zn g (1+came):=by rw [p.rcv]
  have e2:Zn f q.una=Zn f (1+u):=by rw [p.una]
  rw [e1,e2] at cm
  refine ⟨_,cm,⟨⟨w.una,w.nxt,w.wr,by show (0:Int)≤0∧(0:Int)≤65535; omega,w.most,?_,w.byt⟩,p.st,p.una,p.nxt,p.beh,p.wr,rfl,p.most,?_,?_,?_,?_,rfl,p.pr,p.uQ,by omega,p.len⟩,?_⟩
  · show (q.come++[k]).length≤64
    have:=p.come
    simp
    omega
  · show (((q.come++[k]).length:Nat):Int)=came+1
    have:=p.come
    simp
    omega
  · show q.rcv+((1:Nat):Int)=1+(came+1)
    rw [p.rcv]; omega
  · show 0≤q.rcv∧q.rcv≤1+(came+1); rw [p.rcv]; omega
  · show 0≤q.una∧q.una≤1+u; rw [p.una]; omega
  · show (q.oa || decide (0 < [k].length) || false)=true
    simp
end
abbrev agB:SM:=(Zr (ZQ 6 (mOp ZO (Zd 6) (Zd 8)))
    (Zr ZcJ
    (Zr (ZQ 8 (mCB Ziy (Zc (mOp Zcq (mC (.int 2)) (Zd 8)) (Zc (mC (.int 16000)) Zk))))
    (Zr (ZQ 10 (mOp eqM (mOp Zbd (mCB ZbC (Zc (Zd 0) (Zc (mOp ZO (mOp ZO (mC (.int 40)) (Zd 2)) (Zd 9)) Zk))) (mC (.int 2))) (mC (.int 0))))
    ZcI))))
abbrev lawB:SM:=(Zr (ZQ 9 (mCB l_owed (Zc (Zd 0) (Zc (Zd 1) (Zc (Zd 8) (Zc (Zd 6) (Zc (Zd 7) (Zc (Zd 5) Zk))))))))
    (Zr (ZQ 6 (mOp ZO (Zd 6) (mCB Zc1 (Zc (Zd 9) Zk))))
    (Zr Zfl
    (Zr Zfk
    (Zr ZgO
    (Zr (ZQ 5 (mOp ZO (Zd 5) (mC (.int 1000))))
    (Zr (ZQ 10 (mCB Zc2 (Zc (Zd 1) (Zc (Zd 6) (Zc (Zd 7) (Zc (Zd 3) Zk))))))
    (Zr ZgN
    (Zr (ZQ 5 (mCB l_again (Zc (Zd 0) (Zc (Zd 1) (Zc (Zd 8) (Zc (Zd 10) (Zc (Zd 6) (Zc (Zd 7) (Zc (Zd 5) Zk)))))))))
    (Zr ZgM
    (Zr (ZQ 7 (mOp ZO (Zd 7) (mC (.int 1))))
    (zn (mCB Zb9 (Zc (Zd 1) (Zc (Zd 6) (Zc (Zd 7) (Zc (mC (.int 0)) (Zc (Zd 5) Zk))))))))))))))))))
section
variable {a b f g t came u now wait tries W:Int} {data:List Int} {cl:Bool} {q q':Q} {ns:List Int} {B:Sto}
theorem md0 (θ:Sto):ixM (Za0 a b f g) (.int 0) θ=.ok (.ref 0) θ:=rfl
theorem md1 (θ:Sto):ixM (Za0 a b f g) (.int 1) θ=.ok (.tup [.int a,.int b]) θ:=rfl
theorem md2 (θ:Sto):ixM (Za0 a b f g) (.int 2) θ=.ok (.int (Zn f 1)) θ:=rfl
theorem md3 (θ:Sto):ixM (Za0 a b f g) (.int 3) θ=.ok (.int (Zn g 1)) θ:=rfl
theorem Zhz (hl:0+3<B.length) (ha:0≤a∧a≤65535) (hb:0≤b∧b≤65535) (hW:0≤W∧W≤65535) (hc:q.come.length≤64) (cm:comes (qE a b f g q) ⟨b,a,Zn g (1+came),Zn f (1+u),16,W,0,[]⟩ t=qE a b f g q') :
    Zb9 [Za0 a b f g,.int came,.int u,.int W,.int t] (upE B 0 (qE a b f g q))=.ok .non (upE B 0 (qE a b f g q')):=by
  have ks:(Seg.mk b a (Zn g (1+came)) (Zn f (1+u)) 16 W 0 []).Ok:=Zfs hb ha (Zab _ _) (Zab _ _) (by omega) hW (.inl rfl) Zea
  have bs:=fun θ=>ZfO ks θ
  have ar:=ZcY (θ:=B) (l:=0) (e:=qE a b f g q) (now:=t) hl hc ks (by simp [ZeO,qE]) (by simp [qE])
  rw [cm] at ar
  have p1:Zn (Zn f 1) u=Zn f (1+u):=Zaj _ _ _
  have p2:Zn (Zn g 1) came=Zn g (1+came):=Zaj _ _ _
  have h0:=fun θ=>md0 (a:=a) (b:=b) (f:=f) (g:=g) θ
  have h1:=fun θ=>md1 (a:=a) (b:=b) (f:=f) (g:=g) θ
  have h2:=fun θ=>md2 (a:=a) (b:=b) (f:=f) (g:=g) θ
  have h3:=fun θ=>md3 (a:=a) (b:=b) (f:=f) (g:=g) θ
  obtain ⟨md,hmd⟩:∃x,x=Za0 a b f g:=⟨_,rfl⟩
  rw [←hmd]
  simp only [←hmd] at h0 h1 h2 h3
  simp [Zb9,Ziq,h0,h1,h2,h3,p1,p2,Zhy,ZcQ,bs,ar]
theorem A22.owed (p:A22 data cl q came u) (hoa:q.oa=false) (hc:came<20) (hl:0+3<B.length) (ha:0≤a∧a≤65535) (hb:0≤b∧b≤65535) {k:Nat} (hk:k<9) :
    ∃q' came' segs,l_owed [.scr ns,Za0 a b f g,.int (k:Int),.int came,.int u,.int now] (upE B 0 (qE a b f g q))=.ok (.lst (segs.map Seg.d)) (upE B 0 (qE a b f g q'))∧A22 data cl q' came' u∧came'=came+segs.length∧segs=(if q'.oa=true then [⟨a,b,Zn f (1+u),Zn g (1+came'),16,64-came',0,[]⟩] else []):=by
  have h0:=fun θ=>md0 (a:=a) (b:=b) (f:=f) (g:=g) θ
  have h1:=fun θ=>md1 (a:=a) (b:=b) (f:=f) (g:=g) θ
  have h2:=fun θ=>md2 (a:=a) (b:=b) (f:=f) (g:=g) θ
  have h3:=fun θ=>md3 (a:=a) (b:=b) (f:=f) (g:=g) θ
  obtain ⟨md,hmd⟩:∃x,x=Za0 a b f g:=⟨_,rfl⟩
  rw [←hmd]
  simp only [←hmd] at h0 h1 h2 h3
  by_cases c:0<mix ns (14+(k:Int)) % 3
  · refine ⟨q,came,[],?_,p,by simp,?_⟩
    · simp [l_owed,Zim,ZfK,c]
    · rw [if_neg (by rw [hoa]; decide)]
  · obtain ⟨q',cm,p',oa'⟩:=p.data1 (a:=a) (b:=b) (f:=f) (g:=g) (t:=now) hoa hc (k:=(k:Int))
    have ks:(Seg.mk b a (Zn g (1+came)) (Zn f (1+u)) 16 0 0 [(k:Int)]).Ok:=Zfs hb ha (Zab _ _) (Zab _ _) (by omega) (by omega) (.inl rfl) ⟨by simp; omega,by simp⟩
    have bs:=fun θ=>ZfO ks θ
    have ar:=ZcY (θ:=B) (l:=0) (e:=qE a b f g q) (now:=now) hl (by show q.come.length≤64; have:=p.come; have:=p.cm; omega) ks (by simp [ZeO,qE]) (by simp [qE])
    rw [cm] at ar
    have p1:Zn (Zn f 1) u=Zn f (1+u):=Zaj _ _ _
    have p2:Zn (Zn g 1) came=Zn g (1+came):=Zaj _ _ _
    have p3:Zn (Zn g 1) (came+1)=Zn g (1+(came+1)):=Zaj _ _ _
    have w6:(63:Int)-came=64-(came+1):=by omega
    refine ⟨q',came+1,[⟨a,b,Zn f (1+u),Zn g (1+(came+1)),16,64-(came+1),0,[]⟩],?_,p',by simp,by rw [if_pos oa']⟩
    simp [l_owed,Zim,ZfK,c,h0,h1,h2,h3,p1,p2,p3,Zhy,bs,ar,ZhF,w6]
theorem A22.goes (p:0≤u∧u≤data.length) {θ:Sto}:Zc2 [Za0 a b f g,.int came,.int u,il data] θ=.ok (Seg.mk a b (Zn f (1+u)) (Zn g (1+came)) (if u<data.length then (if u+1=data.length then 24 else 16) else 17) (64-came) 0 (Zcz data u)).d θ:=by
  have h1:=fun θ=>md1 (a:=a) (b:=b) (f:=f) (g:=g) θ
  have h2:=fun θ=>md2 (a:=a) (b:=b) (f:=f) (g:=g) θ
  have h3:=fun θ=>md3 (a:=a) (b:=b) (f:=f) (g:=g) θ
  obtain ⟨md,hmd⟩:∃x,x=Za0 a b f g:=⟨_,rfl⟩
  rw [←hmd]
  simp only [←hmd] at h1 h2 h3
  have p1:Zn (Zn f 1) u=Zn f (1+u):=Zaj _ _ _
  have p2:Zn (Zn g 1) came=Zn g (1+came):=Zaj _ _ _
  have sl:∀θ:Sto,Zdb θ (il data) (some u) (some (u+1))=some (il (Zcz data u)):=by
    intro θ
    rw [Zi4,ZjI _ (by omega) (by omega)]
    unfold Zcz
    congr 3
    omega
  have mb:∀x:Int,Zd0 8 x:=fun x=>.inl (by omega)
  have pl:=Zlx (data:=data) p.1
  obtain ⟨pt,hpt⟩:∃x,x=Zcz data u:=⟨_,rfl⟩
  rw [←hpt] at pl ⊢
  simp only [←hpt] at sl
  have tr:∀θ:Sto,Zfn θ (itp pt)=some (decide (u<data.length)):=by
    intro θ
    by_cases c:u<data.length
    · rw [if_pos c] at pl
      match pt,pl with
      | [x],_=>simp [itp,c]
    · rw [if_neg c] at pl
      have:pt=[]:=List.eq_nil_of_length_eq_zero pl
      rw [this]
      simp [itp,c]
  have sd:∀fl:Int,D.tup [.int a,.int b,.int (Zn f (1+u)),.int (Zn g (1+came)),.int fl,.int (64-came),.int 0,itp pt]=(Seg.mk a b (Zn f (1+u)) (Zn g (1+came)) fl (64-came) 0 pt).d:=fun _=>rfl
  by_cases c:u<data.length
  · by_cases c2:u+1=data.length
    · rw [if_pos c,if_pos c2]
      simp [Zc2,Zfj,sl,ZdC,tr,c,mb,h1,h2,h3,p1,p2]
      simp [c2,sd]
    · rw [if_pos c,if_neg c2]
      simp [Zc2,Zfj,sl,ZdC,tr,c,c2,mb,h1,h2,h3,p1,p2,sd]
  · rw [if_neg c]
    simp [Zc2,Zfj,sl,ZdC,tr,c,h1,h2,h3,p1,p2,sd]
end
section
variable {a b f g t came u now wait tries W:Int} {data:List Int} {cl:Bool} {q q':Q} {ns:List Int} {B:Sto}
def Zcc (a b f g:Int) (data:List Int) (came u:Int):Seg:=Seg.mk a b (Zn f (1+u)) (Zn g (1+came)) (if u<data.length then (if u+1=data.length then 24 else 16) else 17) (64-came) 0 (Zcz data u)
def Zfv (a b f g:Int) (data:List Int) (came u:Int):Seg:=Seg.mk a b (Zn f (1+u)) (Zn g (1+came)) (if u<data.length then 16 else 17) (64-came) 0 (Zcz data u)
theorem ZmJ (hl:0+3<B.length) (ha:0≤a∧a≤65535) (hb:0≤b∧b≤65535) (p:C22 data cl q came u now wait tries) (ht:tries<5) {k i:Nat} (hti:tries≤i % 5) {x10:Sl} :
    ∃q' now' wait' tries' y10,agB [.val (.scr ns),.val (Za0 a b f g),.val (.int (k:Int)),.val (Zcc a b f g data came u).d,.val (.int came),.val (.int u),.val (.int now),.val (Zfv a b f g data came u).d,.val (.int wait),.val (.int (i:Int)),x10] (upE B 0 (qE a b f g q)) =
      .ok (.nx,[.val (.scr ns),.val (Za0 a b f g),.val (.int (k:Int)),.val (Zcc a b f g data came u).d,.val (.int came),.val (.int u),.val (.int now'),.val (Zfv a b f g data came u).d,.val (.int wait'),.val (.int (i:Int)),y10]) (upE B 0 (qE a b f g q'))∧C22 data cl q' came u now' wait' tries'∧now<now'∧tries'≤(((i+1) % 5:Nat):Int):=by
  obtain ⟨gv,p2⟩:=p.next (a:=a) (b:=b) (f:=f) (g:=g) ht ha hb
  have wa:=p.wa
  obtain ⟨q2,hq2⟩:∃x:Q,x={ q with tries:=q.tries+1,wait:=mn (2*q.wait) 16000,since:=now+wait }:=⟨_,rfl⟩
  rw [←hq2] at gv p2
  have tg:=ZfQ (θ:=B) (l:=0) hl gv (by simp)
  have tg':Zbw [.ref 0,.int (now+wait)] (upE B 0 (qE a b f g q))=.ok (.lst ([Zfv a b f g data came u].map Seg.d)) (upE B 0 (qE a b f g q2)):=tg
  have nn:∀θ,neM (.lst ([Zfv a b f g data came u].map Seg.d)) (.lst ([Zfv a b f g data came u].map Seg.d)) θ=.ok (.bl false) θ:=fun θ=>by rw [Zjv]; simp
  simp only [List.map_cons,List.map_nil] at nn tg'
  obtain ⟨q3,cm,p3⟩:=p2.win (a:=a) (b:=b) (f:=f) (g:=g) (t:=now+wait)
  have an:=Zhz (B:=B) hl ha hb (by omega) (by have:=p2.come; have:=p2.cm; omega) cm
  have mw:(if 16000<2*wait then 16000 else 2*wait)=mn (2*wait) 16000:=rfl
  have m2w:Zd0 2 wait:=.inl (by omega)
  have h0:=fun θ=>md0 (a:=a) (b:=b) (f:=f) (g:=g) θ
  obtain ⟨md,hmd⟩:∃x,x=Za0 a b f g:=⟨_,rfl⟩
  rw [←hmd] at an ⊢
  simp only [←hmd] at h0
  obtain ⟨gA,hgA⟩:∃x,x=(Zfv a b f g data came u).d:=⟨_,rfl⟩
  obtain ⟨gS,hgS⟩:∃x,x=(Zcc a b f g data came u).d:=⟨_,rfl⟩
  rw [←hgA] at tg' ⊢
  rw [←hgS]
  simp only [←hgA] at nn
  by_cases c:mix ns (40+(k:Int)+(i:Int)) % 2=0
  · refine ⟨q3,now+wait,mn (2*wait) 16000,0,.val (.bl true),?_,p3,by omega,by omega⟩
    simp [ZcJ,h0,tg',nn,mw,m2w,c,ZcI,an]
  · by_cases c2:i % 5=4
    · have c2':(i:Int) % 5=4:=by omega
      refine ⟨q3,now+wait,mn (2*wait) 16000,0,.val (.bl false),?_,p3,by omega,by omega⟩
      simp [ZcJ,h0,tg',nn,mw,m2w,c,ZcI,c2',an]
    · have c2':¬(i:Int) % 5=4:=by omega
      refine ⟨q2,now+wait,mn (2*wait) 16000,tries+1,.val (.bl false),?_,p2,by omega,by omega⟩
      simp [ZcJ,h0,tg',nn,mw,m2w,c,ZcI,c2']
theorem C22.againL (hl:0+3<B.length) (ha:0≤a∧a≤65535) (hb:0≤b∧b≤65535) (p:C22 data cl q came u now 1000 0) {k:Nat} :
    ∃q' now' wait' tries',l_again [.scr ns,Za0 a b f g,.int (k:Int),(Zcc a b f g data came u).d,.int came,.int u,.int now] (upE B 0 (qE a b f g q))=.ok (.int now') (upE B 0 (qE a b f g q'))∧C22 data cl q' came u now' wait' tries'∧now≤now':=by
  have loop:=Znj (nE:=mOp Zbd (mCB ZbC (Zc (Zd 0) (Zc (mOp ZO (mC (.int 34)) (Zd 2)) Zk))) (mC (.int 10))) (body:=agB) (k:=9) (ρ:=[.val (.scr ns),.val (Za0 a b f g),.val (.int (k:Int)),.val (Zcc a b f g data came u).d,.val (.int came),.val (.int u),.val (.int now),.val (Zfv a b f g data came u).d,.val (.int 1000),.no,.no]) (θ:=upE B 0 (qE a b f g q)) (j:=mix ns (34+(k:Int)) % 10)
    (fun i ρ θ=>∃q1 n1 w1 t1 x9 x10,C22 data cl q1 came u n1 w1 t1∧t1≤((i % 5:Nat):Int)∧now≤n1∧ρ=[.val (.scr ns),.val (Za0 a b f g),.val (.int (k:Int)),.val (Zcc a b f g data came u).d,.val (.int came),.val (.int u),.val (.int n1),.val (Zfv a b f g data came u).d,.val (.int w1),x9,x10]∧θ=upE B 0 (qE a b f g q1)) (fun _=>False) (by simp) (by omega) (by omega) ⟨q,now,1000,0,_,_,p,by simp,by omega,rfl,rfl⟩
    (by
      rintro i ρ θ hi ⟨q1,n1,w1,t1,x9,x10,p1,ht,hn,rfl,rfl⟩
      obtain ⟨q',now',wait',tries',y10,h,p',h1,h2⟩:=ZmJ (a:=a) (b:=b) (f:=f) (g:=g) (ns:=ns) (B:=B) (k:=k) (i:=i) (x10:=x10) hl ha hb p1 (by omega) (by omega)
      exact .inl ⟨_,_,h,q',now',wait',tries',_,y10,p',h2,by omega,rfl,rfl⟩)
    (by rintro i ρ θ ⟨q1,n1,w1,t1,x9,x10,_,_,_,rfl,rfl⟩; simp)
  rcases loop with ⟨ρ',θ',hlp,q1,n1,w1,t1,x9,x10,p1,ht,hn,rfl,rfl⟩ | ⟨_,_,_,_,hF⟩
  · refine ⟨q1,n1,w1,t1,?_,p1,hn⟩
    have hlp':Zhb [.val (.scr ns),.val (Za0 a b f g),.val (.int (k:Int)),.val (Zcc a b f g data came u).d,.val (.int came),.val (.int u),.val (.int now),.val (Zfv a b f g data came u).d,.val (.int 1000),.no,.no] (upE B 0 (qE a b f g q))=_:=hlp
    have s1:∀θ:Sto,Zdb θ (Zcc a b f g data came u).d none (some 4)=some (.tup [.int a,.int b,.int (Zn f (1+u)),.int (Zn g (1+came))]):=fun θ=>rfl
    have s2:∀θ:Sto,Zdb θ (Zcc a b f g data came u).d (some 5) none=some (.tup [.int (64-came),.int 0,itp (Zcz data u)]):=fun θ=>rfl
    have s3:(Zcc a b f g data came u).flags-(Zcc a b f g data came u).flags/8 % 2*8=if u<data.length then 16 else 17:=by
      show (if u<data.length then (if u+1=data.length then 24 else 16) else 17:Int)-(if u<data.length then (if u+1=data.length then 24 else 16) else 17:Int)/8 % 2*8=_
      by_cases c:u<data.length
      · rw [if_pos c,if_pos c]
        by_cases c2:u+1=data.length
        · rw [if_pos c2]; decide
        · rw [if_neg c2]; decide
      · rw [if_neg c,if_neg c]; decide
    have mb:Zd0 ((Zcc a b f g data came u).flags/8 % 2) 8:=.inr (by omega)
    have gd:D.tup [.int a,.int b,.int (Zn f (1+u)),.int (Zn g (1+came)),.int (if u<data.length then 16 else 17),.int (64-came),.int 0,itp (Zcz data u)]=(Zfv a b f g data came u).d:=rfl
    obtain ⟨gs,hgs⟩:∃x,x=Zcc a b f g data came u:=⟨_,rfl⟩
    rw [←hgs] at hlp' s3 mb ⊢
    simp only [←hgs] at s1 s2
    simp [l_again,Zjk,s1,s2,s3,mb,gd,hlp']
  · exact hF.elim
end
section
variable {a b f g t came u now W:Int} {data:List Int} {cl:Bool} {q q':Q} {ns:List Int} {B:Sto}
def ZcZ (ns:List Int) (a b f g:Int) (data:List Int) (cl:Bool) (now came u:Int) (x8 x9 x10:Sl):List Sl:=[.val (.scr ns),.val (Za0 a b f g),.val (.ref 0),.val (il data),.val (.bl cl),.val (.int now),.val (.int came),.val (.int u),x8,x9,x10,.no,.no]
theorem ZqC (hl:0+3<B.length) (ha:0≤a∧a≤65535) (hb:0≤b∧b≤65535) (p:A22 data cl q came u) (hoa:q.oa=false) (hn:0≤now) {k:Nat} (hk:k<9) (hck:came≤k) {x9 x10:Sl} :
    (∃q' now' came' y9 y10,lawB (ZcZ ns a b f g data cl now came u (.val (.int (k:Int))) x9 x10) (upE B 0 (qE a b f g q))=.ok (.nx,ZcZ ns a b f g data cl now' came' (u+1) (.val (.int (k:Int))) y9 y10) (upE B 0 (qE a b f g q'))∧A22 data cl q' came' (u+1)∧q'.oa=false∧0≤now'∧came'≤(k:Int)+1)∨
    (∃ρ' θ',lawB (ZcZ ns a b f g data cl now came u (.val (.int (k:Int))) x9 x10) (upE B 0 (qE a b f g q))=.ok (.rt (.bl true),ρ') θ'):=by
  obtain ⟨q1,came',segs,ow,p1,hc',hsg⟩:=p.owed (ns:=ns) (now:=now) hoa (by omega) hl ha hb hk
  obtain ⟨q2,gv,hB⟩:=p1.given (a:=a) (b:=b) (f:=f) (g:=g) (t:=now) ha hb
  rw [←hsg] at gv
  have sl1:segs.length≤1:=by rw [hsg]; split<;>simp
  have tg:=ZfQ (θ:=B) (l:=0) hl gv (by omega)
  have nn:∀θ,neM (.lst (segs.map Seg.d)) (.lst (segs.map Seg.d)) θ=.ok (.bl false) θ:=fun θ=>by rw [Zjv]; simp
  have ln:∀θ:Sto,Zc1 [.lst (segs.map Seg.d)] θ=.ok (.int (segs.length:Int)) θ:=fun θ=>by simp
  have hu:=p.uQ
  obtain ⟨sd,hsd⟩:∃x,x=D.lst (segs.map Seg.d):=⟨_,rfl⟩
  rw [←hsd] at tg ow
  simp only [←hsd] at nn ln
  unfold ZcZ
  by_cases c:u=data.length+(if cl=true then 1 else 0)
  · right
    refine ⟨[.val (.scr ns),.val (Za0 a b f g),.val (.ref 0),.val (il data),.val (.bl cl),.val (.int now),.val (.int came'),.val (.int u),.val (.int (k:Int)),.val sd,x10,.no,.no],upE B 0 (qE a b f g q2),?_⟩
    obtain ⟨md,hmd⟩:∃x,x=Za0 a b f g:=⟨_,rfl⟩
    rw [←hmd] at ow ⊢
    have cc:(u=(data.length:Int)+(if cl=true then 1 else 0)):=c
    simp [ow,ln,←hc',Zfl,tg,nn,Zfk]
    simp [←cc]
  · left
    have lt:u<data.length+(if cl=true then 1 else 0):=by cases cl<;>simp at hu c ⊢<;>omega
    have pB:=hB lt
    have g1:=ZfQ (θ:=B) (l:=0) (t:=now+mix ns (24+(k:Int)) % 1000) hl (pB.no (a:=a) (b:=b) (f:=f) (g:=g) (by omega)) (by decide)
    have nil0:D.lst (([]:List Seg).map Seg.d)=il []:=rfl
    rw [nil0] at g1
    obtain ⟨gp,pC⟩:=pB.probe (a:=a) (b:=b) (f:=f) (g:=g) ha hb
    rw [pB.one] at gp
    obtain ⟨q3,hq3⟩:∃x:Q,x={ q2 with since:=now+1000,nxt:=q2.nxt+1,pr:=false }:=⟨_,rfl⟩
    rw [←hq3] at gp pC
    have g2:Zbw [.ref 0,.int (now+1000)] (upE B 0 (qE a b f g q2))=.ok (.lst ([Zcc a b f g data came' u].map Seg.d)) (upE B 0 (qE a b f g q3)):=ZfQ (θ:=B) (l:=0) hl gp (by simp)
    have n2:∀θ,neM (.lst ([Zcc a b f g data came' u].map Seg.d)) (.lst ([Zcc a b f g data came' u].map Seg.d)) θ=.ok (.bl false) θ:=fun θ=>by rw [Zjv]; simp
    simp only [List.map_cons,List.map_nil] at g2 n2
    have gp0:∀θ:Sto,Zc2 [Za0 a b f g,.int came',.int u,il data] θ=.ok (Zcc a b f g data came' u).d θ:=fun θ=>A22.goes (by have:=pC.uQ; cases cl<;>simp at this lt hu<;>omega)
    obtain ⟨q4,now4,w4,t4,ag,pD,hn4⟩:=pC.againL (ns:=ns) (a:=a) (b:=b) (f:=f) (g:=g) (B:=B) (k:=k) hl ha hb
    obtain ⟨q5,cm,pE,oaE⟩:=pD.ack (a:=a) (b:=b) (f:=f) (g:=g) (t:=now4)
    have an:=Zhz (B:=B) hl ha hb (W:=0) (by omega) (by have:=pD.come; have:=pD.cm; omega) cm
    have st4:(qE a b f g q4).state=if cl=true then .waitOne else .opn:=pD.st
    have s4:ZbS (.str (qE a b f g q4).state.s) (.tup [.str State.opn.s,.str State.waitOne.s]) (upE B 0 (qE a b f g q4))=.ok (.bl false) (upE B 0 (qE a b f g q4)):=by
      rw [Zqm,st4]
      cases cl<;>simp
    refine ⟨q5,now4,came',.val sd,.val (Zcc a b f g data came' u).d,?_,pE,oaE,by omega,by omega⟩
    obtain ⟨md,hmd⟩:∃x,x=Za0 a b f g:=⟨_,rfl⟩
    rw [←hmd] at ow ag an ⊢
    simp only [←hmd] at gp0
    obtain ⟨gs,hgs⟩:∃x,x=(Zcc a b f g data came' u).d:=⟨_,rfl⟩
    rw [←hgs] at g2 ag ⊢
    simp only [←hgs] at n2 gp0
    have nc:¬u=(data.length:Int)+(if cl=true then 1 else 0):=c
    have n4:¬now4<0:=by omega
    obtain ⟨z,hz⟩:∃z,z=(data.length:Int)+(if cl=true then 1 else 0):=⟨_,rfl⟩
    rw [←hz] at nc
    simp [ow,ln,←hc',Zfl,tg,nn,Zfk,←hz,nc,ZgO,g1,ZcQ,gp0,ZgN,g2,n2,ag,ZgM,n4,hl,an]
    have ns4:¬(¬(qE a b f g q4).state=.opn∧¬(qE a b f g q4).state=.waitOne):=by rw [st4]; cases cl<;>simp
    rw [if_neg ns4]
    simp [an]
end
theorem law_true (ns:List Int) (hn:ns.length≤63):∃θ',ZlM [.scr ns] []=.ok (.bl true) θ':=by
  obtain ⟨a,ha⟩:∃x,x=mix ns 0 % 65536:=⟨_,rfl⟩
  obtain ⟨b,hb⟩:∃x,x=mix ns 1 % 65536:=⟨_,rfl⟩
  obtain ⟨f,hf⟩:∃x,x=Zby (mix ns 2):=⟨_,rfl⟩
  obtain ⟨g,hg⟩:∃x,x=Zby (mix ns 3):=⟨_,rfl⟩
  have ra:0≤a∧a≤65535:=by omega
  have rb:0≤b∧b≤65535:=by omega
  have lo:=ZnA (ns:=ns) (base:=0) (W:=0) (m:=16) [] (by omega) (.inr (by omega))
  simp only [Int.zero_add,←ha,←hb,←hf,←hg,List.length_nil,List.nil_append] at lo
  have eo:Zds a b f g 0 16 0=qE a b f g (qO 0 16 0):=by simp [Zds,qE,qO,newEnd]
  rw [eo] at lo
  obtain ⟨B,hB⟩:∃y,y=cells 0 (qE a b f g (qO 0 16 0)):=⟨_,rfl⟩
  have hl:0+3<B.length:=by rw [hB]; simp [cells]
  have up:B=upE B 0 (qE a b f g (qO 0 16 0)):=by rw [hB]; exact Zq9 _
  rw [←hB,up] at lo
  obtain ⟨data,hdat⟩:∃x,x=(List.range (mix ns 12 % 21).toNat).map fun (k:Nat)=>mix ns (11+(k:Int)) % 256:=⟨_,rfl⟩
  have rd:(∀z∈data,0≤z∧z≤255)∧data.length≤20:=by rw [hdat]; exact ⟨Zsl fun i=>by omega,by simp; omega⟩
  have cd:=fun ρ (h0:ρ[0]?=some (Sl.val (D.scr ns))) θ=>Zq8 (nE:=mOp Zbd (mCB ZbC (Zc (Zd 0) (Zc (mC (.int 12)) Zk))) (mC (.int 21))) (src:=[0]) (elt:=mOp Zbd (mCB ZbC (Zc (Zd 1) (Zc (mOp ZO (mC (.int 11)) (Zd 0)) Zk))) (mC (.int 256))) (ρ:=ρ) (θ:=θ) (j:=mix ns 12 % 21) (fun k=>mix ns (11+(k:Int)) % 256) (by simp [h0]) (by omega) (by omega) (by intro i hi; simp [h0])
  simp only [←hdat] at cd
  have wr:=Zrx (θ:=B) (l:=0) (e:=qE a b f g (qO 0 16 0)) hl (by simp [qE,qO]) data
  have cw:ZeU (qE a b f g (qO 0 16 0))=true:=by simp [ZeU,qE,qO]
  have wo:ZiD (qE a b f g (qO 0 16 0)) data=data:=by
    unfold ZiD
    exact Znn (by simp [qE,qO]; omega)
  obtain ⟨q1,hq1⟩:∃x:Q,x={ qO 0 16 0 with written:=data,beh:=1+data.length }:=⟨_,rfl⟩
  have we:Zjl (qE a b f g (qO 0 16 0)) data=qE a b f g q1:=by
    unfold Zjl
    rw [cw,wo,hq1]
    simp [qE,qO,Zaj]
  rw [we,cw,wo] at wr
  simp only [if_true] at wr
  obtain ⟨cl,hcl⟩:∃c,c=(decide (mix ns 13 % 2=0) || decide (data=[])):=⟨_,rfl⟩
  obtain ⟨q2,hq2⟩:∃x:Q,x=if cl=true then { q1 with st:=.waitOne,cl:=true } else q1:=⟨_,rfl⟩
  have tc:=ZrJ (θ:=B) (l:=0) (e:=qE a b f g q1) hl
  rw [show ZgJ (qE a b f g q1)=(true,qE a b f g { q1 with st:=.waitOne,cl:=true }) by rw [hq1]; simp [ZgJ,qE,qO]] at tc
  have L1:∀(x0 x1 x3 x5 x6 x7 x8 x9 x10 x11 x12:Sl),Zfm [x0,x1,.val (.ref 0),x3,.val (.bl cl),x5,x6,x7,x8,x9,x10,x11,x12] (upE B 0 (qE a b f g q1))=.ok (.nx,[x0,x1,.val (.ref 0),x3,.val (.bl cl),x5,x6,x7,x8,x9,x10,x11,x12]) (upE B 0 (qE a b f g q2)):=by
    intros
    rw [hq2]
    cases cl
    · simp [Zfm]
    · simp [Zfm,tc]
  have P0:A22 data cl q2 0 0∧q2.oa=false:=by
    have nl:¬(0:Int)=data.length+1:=by omega
    rw [hq2,hq1]
    cases cl
    · refine ⟨⟨⟨by simp [qO],by simp [qO]; omega,by simp [qO]; omega,by simp [qO],by simp [qO],by simp [qO],rd.1⟩,?_,rfl,rfl,rfl,by simp [qO],rfl,rfl,rfl,rfl,by simp [qO],by simp [qO],rfl,rfl,by simp,by omega,by omega⟩,rfl⟩
      rw [if_neg nl]; rfl
    · refine ⟨⟨⟨by simp [qO],by simp [qO]; omega,by simp [qO]; omega,by simp [qO],by simp [qO],by simp [qO],rd.1⟩,?_,rfl,rfl,rfl,by simp [qO],rfl,rfl,rfl,rfl,by simp [qO],by simp [qO],rfl,rfl,by simp; omega,by omega,by omega⟩,rfl⟩
      rw [if_neg nl]; rfl
  have loop:=Znj (nE:=mC (.int 9)) (body:=lawB) (k:=8) (ρ:=ZcZ ns a b f g data cl 100 0 0 .no .no .no) (θ:=upE B 0 (qE a b f g q2)) (j:=9)
    (fun i ρ θ=>∃q now came u x8 x9 x10,A22 data cl q came u∧q.oa=false∧0≤now∧came≤(i:Int)∧ρ=ZcZ ns a b f g data cl now came u x8 x9 x10∧θ=upE B 0 (qE a b f g q)) (fun d=>d=.bl true) (by simp) (by omega) (by omega) ⟨q2,100,0,0,_,_,_,P0.1,P0.2,by omega,by omega,rfl,rfl⟩
    (by
      rintro i ρ θ hi ⟨q,now,came,u,x8,x9,x10,p,hoa,hnn,hci,rfl,rfl⟩
      rcases ZqC (a:=a) (b:=b) (f:=f) (g:=g) (ns:=ns) (B:=B) (k:=i) (x9:=x9) (x10:=x10) hl ra rb p hoa hnn (by omega) hci with ⟨q',now',came',y9,y10,h,p',h1,h2,h3⟩ | ⟨ρ',θ',h⟩
      · exact .inl ⟨_,_,h,q',now',came',u+1,_,y9,y10,p',h1,h2,by omega,rfl,rfl⟩
      · exact .inr ⟨_,ρ',θ',h,rfl⟩)
    (by rintro i ρ θ ⟨q,now,came,u,x8,x9,x10,p,hoa,hnn,hci,rfl,rfl⟩; simp [ZcZ])
  have m0:∀θ:Sto,ixM (Za0 a b f g) (.int 0) θ=.ok (.ref 0) θ:=fun θ=>rfl
  have lo':ZdS [.scr ns,.int 0,.int 0,.int 16] []=.ok (Za0 a b f g) (upE B 0 (qE a b f g (qO 0 16 0))):=lo
  have ct:∀θ:Sto,Zfn θ (il data)=some (!decide (data=[])):=by
    intro θ
    cases data with
    | nil=>rfl
    | cons x xs=>simp [il]
  have hb7:Zjh=ZdR (ZcC (Zc (mC (.int 9)) Zk)) (gNm 8) lawB:=rfl
  rw [←hb7] at loop
  rcases loop with ⟨ρ',θ',hlp,q,now,came,u,x8,x9,x10,p,hoa,hnn,hci,rfl,rfl⟩ | ⟨d,ρ',θ',hlp,rfl⟩
  ·
    have w:=p.wf
    have hu:=p.uQ
    have hcm:=p.cm
    have hs:=ZgF (a:=a) (b:=b) (f:=f) (g:=g) (t:=now) (q:=q) (W:=500) (x:=[]) w p.s3 p.end3 (by have:=p.told; rw [p.rcv]; omega) (by have:=p.by_; rw [p.una]; exact this)
    have cm:=Zgb (a:=a) (b:=b) (f:=f) (g:=g) (t:=now) (x:=[]) p.s3 (by simp) (by have:=p.come; omega) hs p.s3 p.fin rfl (by have:=p.come; simp; omega)
    have cm:=cm.trans (congrArg (qE a b f g) (Zmy { q with wnd:=500,told:=q.rcv,by_:=q.una,tries:=if q.wnd=0∨(500:Int)=0 then 0 else q.tries } p.fin))
    have e1:Zn g q.rcv=Zn g (1+came):=by rw [p.rcv]
    have e2:Zn f q.una=Zn f (1+u):=by rw [p.una]
    rw [e1,e2] at cm
    obtain ⟨q5,hq5⟩:∃x:Q,x={ q with wnd:=500,told:=q.rcv,by_:=q.una,tries:=if q.wnd=0∨(500:Int)=0 then 0 else q.tries }:=⟨_,rfl⟩
    rw [←hq5] at cm
    have an:=Zhz (B:=B) hl ra rb (W:=500) (by omega) (by have:=p.come; omega) cm
    have w5:WF q5:=by rw [hq5]; exact ⟨w.una,w.nxt,w.wr,by simp,w.most,w.come,w.byt⟩
    have c5:CalmQ q5 now:=by rw [hq5]; exact ⟨p.calm (t:=now) |>.st,p.calm (t:=now) |>.tw,p.calm (t:=now) |>.due⟩
    have pr5:q5.pr=false:=by rw [hq5]; exact p.pr
    have fl5:q5.beh=1+data.length∧q5.nxt=1+u∧q5.una=1+u∧q5.written=data.drop u.toNat∧q5.wnd=500∧q5.st=q.st:=by rw [hq5]; exact ⟨p.beh,p.nxt,p.una,p.wr,rfl,rfl⟩
    obtain ⟨z1,z2,z3,z4,z5,z6⟩:=fl5
    have fuel:q5.beh+1-q5.nxt<(60:Nat):=by rw [z1,z2]; omega
    have gv:=ZjF (t:=now) (a:=a) (b:=b) (f:=f) (g:=g) ra rb 60 q5 w5 c5 pr5 fuel (.inr (.inl (by rw [z5]; omega)))
    obtain ⟨kp,adv,wf',_⟩:=Zh2 (a:=a) (b:=b) (f:=f) (g:=g) (t:=now) 60 q5 w5
    have dn:=ZgG (a:=a) (b:=b) (f:=f) (g:=g) (t:=now) 60 q5 w5 fuel
    have ln:=ZlT (a:=a) (b:=b) (f:=f) (g:=g) (t:=now) 60 q5 w5
    have ct5:=Zh3 (a:=a) (b:=b) (f:=f) (g:=g) (t:=now) 60 q5 w5
    rw [z1,z2] at ln
    have tg:=ZfQ (θ:=B) (l:=0) hl gv (by omega)
    obtain ⟨q6,hq6⟩:∃x,x=(zL a b f g now 60 q5).2:=⟨_,rfl⟩
    obtain ⟨sg,hsg⟩:∃x,x=(zL a b f g now 60 q5).1:=⟨_,rfl⟩
    rw [←hq6,←hsg] at tg ct5
    rw [←hq6] at kp wf' dn adv
    have cat:ZfH sg=data.drop u.toNat:=by
      have rest:q6.written.drop (q6.nxt-q6.una).toNat=[]:=by
        have hx:=wf'.nxt
        have hy:=wf'.una
        rw [kp.beh,z1] at hx
        rw [kp.una,z3] at hy
        rw [kp.written,z4,kp.una,z3]
        apply List.drop_eq_nil_of_le
        rw [List.length_drop]
        by_cases c:q6.nxt<1+data.length
        · exfalso
          apply dn
          refine ⟨?_,.inl ⟨?_,by rw [kp.beh,z1]; exact c⟩⟩
          · unfold room
            rw [kp.wnd,z5,kp.una,z3]
            omega
          · rw [kp.st,z6,p.st,if_neg (by omega)]
            split<;>simp
        · omega
      rw [rest,List.append_nil,z4,z2,z3] at ct5
      rw [ct5]
      have:(1+u-(1+u)).toNat=0:=by omega
      rw [this,List.drop_zero]
    obtain ⟨md,hmd⟩:∃x,x=Za0 a b f g:=⟨_,rfl⟩
    have lp8:=ZqR (F:=Seg.d) (fE:=mCB Zbw (Zc (Zd 2) (Zc (Zd 5) Zk))) (body:=ZQ 11 (mOp ZO (Zd 11) (mCB ZhU (Zc (mOp ixM (Zd 12) (mC (.int 7))) Zk)))) (k:=12)
      (ρ:=[.val (.scr ns),.val md,.val (.ref 0),.val (il data),.val (.bl cl),.val (.int now),.val (.int came),.val (.int u),x8,x9,x10,.val (il []),.no]) (θ0:=upE B 0 (qE a b f g q5)) (θ:=upE B 0 (qE a b f g q6))
      (fun r ρ θ=>∃xs x,ρ=[.val (.scr ns),.val md,.val (.ref 0),.val (il data),.val (.bl cl),.val (.int now),.val (.int came),.val (.int u),x8,x9,x10,.val (il xs),x]∧xs++ZfH r=ZfH sg∧θ=upE B 0 (qE a b f g q6)) (fun _=>False) sg (by simp [tg]) ⟨[],_,rfl,rfl,rfl⟩
      (by
        rintro s r ρ θ ⟨xs,x,rfl,hx,rfl⟩
        left
        refine ⟨_,_,?_,xs++s.data,.val s.d,rfl,?_,rfl⟩
        · have hlen:xs.length+s.data.length≤100000:=by
            have:(xs++ZfH (s::r)).length=(ZfH sg).length:=by rw [hx]
            rw [cat] at this
            simp only [ZfH,List.length_append,List.length_drop] at this
            omega
          simp [hlen]
        · simp only [ZfH] at hx
          rw [List.append_assoc,hx])
      (by rintro i ρ θ ⟨xs,x,rfl,_,_⟩; simp)
    rcases lp8 with ⟨ρ2,θ2,h8,xs,x,rfl,hxs,rfl⟩ | ⟨_,_,_,_,hF⟩
    · have h8':Zjg [.val (.scr ns),.val md,.val (.ref 0),.val (il data),.val (.bl cl),.val (.int now),.val (.int came),.val (.int u),x8,x9,x10,.val (il []),.no] (upE B 0 (qE a b f g q5))=_:=h8
      have xd:xs=data.drop u.toNat:=by simp only [ZfH,List.append_nil] at hxs; rw [hxs,cat]
      have sl:∀θ:Sto,Zdb θ (il data) (some u) none=some (il (data.drop u.toNat)):=fun θ=>by rw [Zi4,Zdi _ hu.1]
      unfold ZcZ at hlp
      rw [←hmd] at lo' an hlp
      simp only [←hmd] at m0
      refine ⟨upE B 0 (qE a b f g q6),?_⟩
      simp [ZlM,ZjO,lo',m0,cd,wr,ct,←hcl,L1,hlp,an,ZcQ,h8',sl,xd]
    · exact hF.elim
  · refine ⟨θ',?_⟩
    obtain ⟨md,hmd⟩:∃x,x=Za0 a b f g:=⟨_,rfl⟩
    unfold ZcZ at hlp
    rw [←hmd] at lo' hlp
    simp only [←hmd] at m0
    simp [ZlM,ZjO,lo',m0,cd,wr,ct,←hcl,L1,hlp]
end
def top (i:Nat):Stmt:=PySem.Challenge.pw_wirestream_k22_probes.main.body.getD i (.Pass ⟨0,0,0,0⟩)
abbrev zs0:Stmt:=Znh (top 2) 0
abbrev zs1:Stmt:=top 3
abbrev zs2:Stmt:=top 4
abbrev zs3:Stmt:=top 5
abbrev zs4:Stmt:=top 9
abbrev zs5:Stmt:=top 10
abbrev zs6:Stmt:=top 11
abbrev zs7:Stmt:=Znh (top 30) 0
abbrev zs8:Stmt:=top 31
abbrev zs9:Stmt:=top 32
abbrev Zld:Stmt:=top 33
abbrev Zlc:Stmt:=top 34
abbrev Zlb:Stmt:=top 41
abbrev Zla:Stmt:=top 42
abbrev Zk9:Stmt:=top 63
abbrev Zk8:Stmt:=top 64
abbrev Zk7:Stmt:=top 65
abbrev Zk6:Stmt:=top 66
abbrev Zk5:Stmt:=top 67
abbrev Zk4:Stmt:=top 68
abbrev Zk3:Stmt:=top 69
abbrev Zk2:Stmt:=top 70
abbrev Zk1:Stmt:=top 71
abbrev Zk0:Stmt:=top 72
abbrev ZkZ:Stmt:=top 73
abbrev ZkY:Stmt:=top 74
abbrev ZkX:Stmt:=top 75
abbrev ZkW:Stmt:=top 76
abbrev ZkV:Stmt:=top 77
abbrev ZkU:Stmt:=top 82
abbrev ZkT:Stmt:=top 83
abbrev ZkS:Stmt:=top 84
abbrev ZkR:Stmt:=top 85
abbrev ZkQ:Stmt:=top 86
abbrev ZkP:Stmt:=top 87
abbrev ZkO:Stmt:=top 88
abbrev ZkN:Stmt:=top 89
abbrev ZkM:Stmt:=top 90
abbrev ZkL:Stmt:=top 91
abbrev ZkK:Stmt:=top 92
abbrev ZkJ:Stmt:=top 93
abbrev ZkI:Stmt:=top 94
abbrev ZkH:Stmt:=top 95
abbrev ZkG:Stmt:=top 96
abbrev ZkF:Stmt:=top 97
abbrev ZkE:Stmt:=top 98
abbrev ZkD:Stmt:=top 99
abbrev ZkC:Stmt:=top 100
abbrev ZkB:Stmt:=top 102
abbrev ZkA:Stmt:=top 103
abbrev Zkz:Stmt:=top 104
abbrev Zky:Stmt:=top 105
abbrev Zkx:Stmt:=top 106
abbrev Zkw:Stmt:=top 107
abbrev Zkv:Stmt:=top 108
abbrev Zku:Stmt:=top 109
abbrev Zkt:Stmt:=top 110
abbrev Zks:Stmt:=top 112
abbrev Zkr:Stmt:=top 113
abbrev Zkq:Stmt:=top 114
abbrev Zkp:Stmt:=top 115
abbrev Zko:Stmt:=top 116
abbrev Zkn:Stmt:=top 117
abbrev Zkm:Stmt:=top 118
abbrev Zkl:Stmt:=top 119
abbrev Zkk:Stmt:=top 120
abbrev Zkj:Stmt:=top 121
abbrev Zki:Stmt:=top 122
abbrev Zkh:Stmt:=top 123
abbrev Zkg:Stmt:=top 124
abbrev Zkf:Stmt:=top 125
abbrev Zke:Stmt:=top 126
abbrev Zkd:Stmt:=top 127
abbrev Zkc:Stmt:=top 128
abbrev Zkb:Stmt:=top 129
abbrev Zka:Stmt:=top 131
abbrev Zj9:Stmt:=top 132
abbrev Zj8:Stmt:=top 133
abbrev Zj7:Stmt:=top 135
abbrev Zj6:Stmt:=top 136
abbrev Zj5:Stmt:=top 139
abbrev Zj4:Stmt:=top 140
abbrev Zj3:Stmt:=top 141
abbrev Zit:Stmt:=top 142
abbrev Zj2:Stmt:=top 143
abbrev Zj1:Stmt:=top 144
abbrev Zj0:Stmt:=top 145
abbrev ZjZ:Stmt:=top 146
abbrev ZjY:Stmt:=top 147
abbrev ZjX:Stmt:=top 148
abbrev ZjW:Stmt:=top 149
abbrev ZjV:Stmt:=top 150
abbrev ZjU:Stmt:=top 151
abbrev ZjT:Stmt:=top 152
abbrev Zhe:Stmt:=top 153
abbrev zP0:List Str:=["self"]
theorem zc0:Zs ["self"] zP0 (Zg zs0):=⟨rfl,rfl,rfl,by decide +kernel,rfl,by decide +kernel,by decide +kernel⟩
abbrev zP1:List Str:=["pile"]
theorem zc1:Zs ["pile"] zP1 (Zg zs1):=⟨rfl,rfl,rfl,by decide +kernel,rfl,by decide +kernel,by decide +kernel⟩
abbrev zP2:List Str:=["pile","row"]
theorem zc2:Zs ["pile","row","laid"] zP2 (Zg zs2):=⟨rfl,rfl,rfl,by decide +kernel,rfl,by decide +kernel,by decide +kernel⟩
abbrev zP3:List Str:=["pile","many"]
theorem zc3:Zs ["pile","many","size","taken"] zP3 (Zg zs3):=⟨rfl,rfl,rfl,by decide +kernel,rfl,by decide +kernel,by decide +kernel⟩
abbrev zP4:List Str:=["number","step"]
theorem zc4:Zs ["number","step"] zP4 (Zg zs4):=⟨rfl,rfl,rfl,by decide +kernel,rfl,by decide +kernel,by decide +kernel⟩
abbrev zP5:List Str:=["number","base"]
theorem zc5:Zs ["number","base"] zP5 (Zg zs5):=⟨rfl,rfl,rfl,by decide +kernel,rfl,by decide +kernel,by decide +kernel⟩
abbrev zP6:List Str:=["number","base"]
theorem zc6:Zs ["number","base"] zP6 (Zg zs6):=⟨rfl,rfl,rfl,by decide +kernel,rfl,by decide +kernel,by decide +kernel⟩
abbrev zP7:List Str:=["self","ours","theirs","first","active"]
theorem zc7:Zs ["self","ours","theirs","first","active"] zP7 (Zg zs7):=⟨rfl,rfl,rfl,by decide +kernel,rfl,by decide +kernel,by decide +kernel⟩
abbrev zP8:List Str:=["end","now"]
theorem zc8:Zs ["end","now"] zP8 (Zg zs8):=⟨rfl,rfl,rfl,by decide +kernel,rfl,by decide +kernel,by decide +kernel⟩
abbrev zP9:List Str:=["end"]
theorem zc9:Zs ["end"] zP9 (Zg zs9):=⟨rfl,rfl,rfl,by decide +kernel,rfl,by decide +kernel,by decide +kernel⟩
abbrev Zpy:List Str:=["end"]
theorem zc10:Zs ["end"] Zpy (Zg Zld):=⟨rfl,rfl,rfl,by decide +kernel,rfl,by decide +kernel,by decide +kernel⟩
abbrev Zpx:List Str:=["end"]
theorem zc11:Zs ["end"] Zpx (Zg Zlc):=⟨rfl,rfl,rfl,by decide +kernel,rfl,by decide +kernel,by decide +kernel⟩
abbrev Zpw:List Str:=["row"]
theorem zc12:Zs ["row","total"] Zpw (Zg Zlb):=⟨rfl,rfl,rfl,by decide +kernel,rfl,by decide +kernel,by decide +kernel⟩
abbrev Zpv:List Str:=["row"]
theorem zc13:Zs ["row"] Zpv (Zg Zla):=⟨rfl,rfl,rfl,by decide +kernel,rfl,by decide +kernel,by decide +kernel⟩
abbrev Zpu:List Str:=["segment"]
theorem zc14:Zs ["segment","flags"] Zpu (Zg Zk9):=⟨rfl,rfl,rfl,by decide +kernel,rfl,by decide +kernel,by decide +kernel⟩
abbrev Zpt:List Str:=["flags","flag"]
theorem zc15:Zs ["flags","flag"] Zpt (Zg Zk8):=⟨rfl,rfl,rfl,by decide +kernel,rfl,by decide +kernel,by decide +kernel⟩
abbrev Zps:List Str:=["segment","flag"]
theorem zc16:Zs ["segment","flag"] Zps (Zg Zk7):=⟨rfl,rfl,rfl,by decide +kernel,rfl,by decide +kernel,by decide +kernel⟩
abbrev Zpr:List Str:=["segment"]
theorem zc17:Zs ["segment","ahead","behind"] Zpr (Zg Zk6):=⟨rfl,rfl,rfl,by decide +kernel,rfl,by decide +kernel,by decide +kernel⟩
abbrev Zpq:List Str:=["segment"]
theorem zc18:Zs ["segment","ports","numbers","head"] Zpq (Zg Zk5):=⟨rfl,rfl,rfl,by decide +kernel,rfl,by decide +kernel,by decide +kernel⟩
abbrev Zpp:List Str:=["head"]
theorem zc19:Zs ["head"] Zpp (Zg Zk4):=⟨rfl,rfl,rfl,by decide +kernel,rfl,by decide +kernel,by decide +kernel⟩
abbrev Zpo:List Str:=["most"]
theorem zc20:Zs ["most"] Zpo (Zg Zk3):=⟨rfl,rfl,rfl,by decide +kernel,rfl,by decide +kernel,by decide +kernel⟩
abbrev Zpn:List Str:=["number"]
theorem zc21:Zs ["number"] Zpn (Zg Zk2):=⟨rfl,rfl,rfl,by decide +kernel,rfl,by decide +kernel,by decide +kernel⟩
abbrev Zpm:List Str:=["number"]
theorem zc22:Zs ["number"] Zpm (Zg Zk1):=⟨rfl,rfl,rfl,by decide +kernel,rfl,by decide +kernel,by decide +kernel⟩
abbrev Zpl:List Str:=["row"]
theorem zc23:Zs ["row"] Zpl (Zg Zk0):=⟨rfl,rfl,rfl,by decide +kernel,rfl,by decide +kernel,by decide +kernel⟩
abbrev Zpk:List Str:=["row"]
theorem zc24:Zs ["row"] Zpk (Zg ZkZ):=⟨rfl,rfl,rfl,by decide +kernel,rfl,by decide +kernel,by decide +kernel⟩
abbrev Zpj:List Str:=["row"]
theorem zc25:Zs ["row"] Zpj (Zg ZkY):=⟨rfl,rfl,rfl,by decide +kernel,rfl,by decide +kernel,by decide +kernel⟩
abbrev Zpi:List Str:=["row"]
theorem zc26:Zs ["row","head","most","ports","numbers"] Zpi (Zg ZkX):=⟨rfl,rfl,rfl,by decide +kernel,rfl,by decide +kernel,by decide +kernel⟩
abbrev Zph:List Str:=["row","place"]
theorem zc27:Zs ["row","place"] Zph (Zg ZkW):=⟨rfl,rfl,rfl,by decide +kernel,rfl,by decide +kernel,by decide +kernel⟩
abbrev Zpg:List Str:=["row","place"]
theorem zc28:Zs ["row","place"] Zpg (Zg ZkV):=⟨rfl,rfl,rfl,by decide +kernel,rfl,by decide +kernel,by decide +kernel⟩
abbrev Zpf:List Str:=["end","now"]
theorem zc29:Zs ["end","now","segment"] Zpf (Zg ZkU):=⟨rfl,rfl,rfl,by decide +kernel,rfl,by decide +kernel,by decide +kernel⟩
abbrev Zpe:List Str:=["end","now"]
theorem zc30:Zs ["end","now","segment"] Zpe (Zg ZkT):=⟨rfl,rfl,rfl,by decide +kernel,rfl,by decide +kernel,by decide +kernel⟩
abbrev Zpd:List Str:=["end"]
theorem zc31:Zs ["end","segment"] Zpd (Zg ZkS):=⟨rfl,rfl,rfl,by decide +kernel,rfl,by decide +kernel,by decide +kernel⟩
abbrev Zpc:List Str:=["end","now"]
theorem zc32:Zs ["end","now"] Zpc (Zg ZkR):=⟨rfl,rfl,rfl,by decide +kernel,rfl,by decide +kernel,by decide +kernel⟩
abbrev Zpb:List Str:=["end","now"]
theorem zc33:Zs ["end","now","data"] Zpb (Zg ZkQ):=⟨rfl,rfl,rfl,by decide +kernel,rfl,by decide +kernel,by decide +kernel⟩
abbrev Zpa:List Str:=["end"]
theorem zc34:Zs ["end"] Zpa (Zg ZkP):=⟨rfl,rfl,rfl,by decide +kernel,rfl,by decide +kernel,by decide +kernel⟩
abbrev Zo9:List Str:=["end"]
theorem zc35:Zs ["end"] Zo9 (Zg ZkO):=⟨rfl,rfl,rfl,by decide +kernel,rfl,by decide +kernel,by decide +kernel⟩
abbrev Zo8:List Str:=["end","number","flags","data"]
theorem zc36:Zs ["end","number","flags","data"] Zo8 (Zg ZkN):=⟨rfl,rfl,rfl,by decide +kernel,rfl,by decide +kernel,by decide +kernel⟩
abbrev Zo7:List Str:=["end","now"]
theorem zc37:Zs ["end","now","room"] Zo7 (Zg ZkM):=⟨rfl,rfl,rfl,by decide +kernel,rfl,by decide +kernel,by decide +kernel⟩
abbrev Zo6:List Str:=["end","now"]
theorem zc38:Zs ["end","now"] Zo6 (Zg ZkL):=⟨rfl,rfl,rfl,by decide +kernel,rfl,by decide +kernel,by decide +kernel⟩
abbrev Zo5:List Str:=["end"]
theorem zc39:Zs ["end"] Zo5 (Zg ZkK):=⟨rfl,rfl,rfl,by decide +kernel,rfl,by decide +kernel,by decide +kernel⟩
abbrev Zo4:List Str:=["end"]
theorem zc40:Zs ["end"] Zo4 (Zg ZkJ):=⟨rfl,rfl,rfl,by decide +kernel,rfl,by decide +kernel,by decide +kernel⟩
abbrev Zo3:List Str:=["end"]
theorem zc41:Zs ["end"] Zo3 (Zg ZkI):=⟨rfl,rfl,rfl,by decide +kernel,rfl,by decide +kernel,by decide +kernel⟩
abbrev Zo2:List Str:=["end"]
theorem zc42:Zs ["end"] Zo2 (Zg ZkH):=⟨rfl,rfl,rfl,by decide +kernel,rfl,by decide +kernel,by decide +kernel⟩
abbrev Zo1:List Str:=["end","room"]
theorem zc43:Zs ["end","room"] Zo1 (Zg ZkG):=⟨rfl,rfl,rfl,by decide +kernel,rfl,by decide +kernel,by decide +kernel⟩
abbrev Zo0:List Str:=["end","room"]
theorem zc44:Zs ["end","room","number","many","place"] Zo0 (Zg ZkF):=⟨rfl,rfl,rfl,by decide +kernel,rfl,by decide +kernel,by decide +kernel⟩
abbrev ZoZ:List Str:=["end"]
theorem zc45:Zs ["end","number"] ZoZ (Zg ZkE):=⟨rfl,rfl,rfl,by decide +kernel,rfl,by decide +kernel,by decide +kernel⟩
abbrev ZoY:List Str:=["end","now"]
theorem ZyP:Zs ["end","now"] ZoY (Zg ZkD):=⟨rfl,rfl,rfl,by decide +kernel,rfl,by decide +kernel,by decide +kernel⟩
abbrev ZoX:List Str:=["end"]
theorem ZyO:Zs ["end"] ZoX (Zg ZkC):=⟨rfl,rfl,rfl,by decide +kernel,rfl,by decide +kernel,by decide +kernel⟩
abbrev ZoW:List Str:=["segment"]
theorem zc48:Zs ["segment","ports"] ZoW (Zg ZkB):=⟨rfl,rfl,rfl,by decide +kernel,rfl,by decide +kernel,by decide +kernel⟩
abbrev ZoV:List Str:=["end","segment"]
theorem ZyN:Zs ["end","segment"] ZoV (Zg ZkA):=⟨rfl,rfl,rfl,by decide +kernel,rfl,by decide +kernel,by decide +kernel⟩
abbrev ZoU:List Str:=["end","segment"]
theorem ZyM:Zs ["end","segment"] ZoU (Zg Zkz):=⟨rfl,rfl,rfl,by decide +kernel,rfl,by decide +kernel,by decide +kernel⟩
abbrev ZoT:List Str:=["end","segment"]
theorem ZyL:Zs ["end","segment"] ZoT (Zg Zky):=⟨rfl,rfl,rfl,by decide +kernel,rfl,by decide +kernel,by decide +kernel⟩
abbrev ZoS:List Str:=["end","segment"]
theorem ZyK:Zs ["end","segment"] ZoS (Zg Zkx):=⟨rfl,rfl,rfl,by decide +kernel,rfl,by decide +kernel,by decide +kernel⟩
abbrev ZoR:List Str:=["end","segment","now"]
theorem ZyJ:Zs ["end","segment","now"] ZoR (Zg Zkw):=⟨rfl,rfl,rfl,by decide +kernel,rfl,by decide +kernel,by decide +kernel⟩
abbrev ZoQ:List Str:=["end","segment"]
theorem ZyI:Zs ["end","segment"] ZoQ (Zg Zkv):=⟨rfl,rfl,rfl,by decide +kernel,rfl,by decide +kernel,by decide +kernel⟩
abbrev ZoP:List Str:=["end","segment"]
theorem ZyH:Zs ["end","segment"] ZoP (Zg Zku):=⟨rfl,rfl,rfl,by decide +kernel,rfl,by decide +kernel,by decide +kernel⟩
abbrev ZoO:List Str:=["end","segment","now"]
theorem ZyG:Zs ["end","segment","now"] ZoO (Zg Zkt):=⟨rfl,rfl,rfl,by decide +kernel,rfl,by decide +kernel,by decide +kernel⟩
abbrev ZoN:List Str:=["end","row","now"]
theorem zc57:Zs ["end","row","now","segment"] ZoN (Zg Zks):=⟨rfl,rfl,rfl,by decide +kernel,rfl,by decide +kernel,by decide +kernel⟩
abbrev ZoM:List Str:=["end","segment"]
theorem ZyF:Zs ["end","segment"] ZoM (Zg Zkr):=⟨rfl,rfl,rfl,by decide +kernel,rfl,by decide +kernel,by decide +kernel⟩
abbrev ZoL:List Str:=["end","segment","now"]
theorem ZyE:Zs ["end","segment","now"] ZoL (Zg Zkq):=⟨rfl,rfl,rfl,by decide +kernel,rfl,by decide +kernel,by decide +kernel⟩
abbrev ZoK:List Str:=["end","segment"]
theorem zc60:Zs ["end","segment","size","last"] ZoK (Zg Zkp):=⟨rfl,rfl,rfl,by decide +kernel,rfl,by decide +kernel,by decide +kernel⟩
abbrev ZoJ:List Str:=["end","number"]
theorem ZyD:Zs ["end","number"] ZoJ (Zg Zko):=⟨rfl,rfl,rfl,by decide +kernel,rfl,by decide +kernel,by decide +kernel⟩
abbrev ZoI:List Str:=["end","segment","now"]
theorem ZyC:Zs ["end","segment","now"] ZoI (Zg Zkn):=⟨rfl,rfl,rfl,by decide +kernel,rfl,by decide +kernel,by decide +kernel⟩
abbrev ZoH:List Str:=["end","segment"]
theorem ZyB:Zs ["end","segment"] ZoH (Zg Zkm):=⟨rfl,rfl,rfl,by decide +kernel,rfl,by decide +kernel,by decide +kernel⟩
abbrev ZoG:List Str:=["end","segment","now"]
theorem ZyA:Zs ["end","segment","now"] ZoG (Zg Zkl):=⟨rfl,rfl,rfl,by decide +kernel,rfl,by decide +kernel,by decide +kernel⟩
abbrev ZoF:List Str:=["end","segment"]
theorem Zyz:Zs ["end","segment"] ZoF (Zg Zkk):=⟨rfl,rfl,rfl,by decide +kernel,rfl,by decide +kernel,by decide +kernel⟩
abbrev ZoE:List Str:=["end","segment"]
theorem Zyy:Zs ["end","segment"] ZoE (Zg Zkj):=⟨rfl,rfl,rfl,by decide +kernel,rfl,by decide +kernel,by decide +kernel⟩
abbrev ZoD:List Str:=["end","segment","now"]
theorem zc67:Zs ["end","segment","now","answer","has_gone_on","was_shut"] ZoD (Zg Zki):=⟨rfl,rfl,rfl,by decide +kernel,rfl,by decide +kernel,by decide +kernel⟩
abbrev ZoC:List Str:=["end","segment"]
theorem Zyx:Zs ["end","segment"] ZoC (Zg Zkh):=⟨rfl,rfl,rfl,by decide +kernel,rfl,by decide +kernel,by decide +kernel⟩
abbrev ZoB:List Str:=["end","now"]
theorem Zyw:Zs ["end","now"] ZoB (Zg Zkg):=⟨rfl,rfl,rfl,by decide +kernel,rfl,by decide +kernel,by decide +kernel⟩
abbrev ZoA:List Str:=["end","segment","now"]
theorem Zyv:Zs ["end","segment","now"] ZoA (Zg Zkf):=⟨rfl,rfl,rfl,by decide +kernel,rfl,by decide +kernel,by decide +kernel⟩
abbrev Zoz:List Str:=["end","segment"]
theorem zc71:Zs ["end","segment","place","byte","number"] Zoz (Zg Zke):=⟨rfl,rfl,rfl,by decide +kernel,rfl,by decide +kernel,by decide +kernel⟩
abbrev Zoy:List Str:=["end","segment"]
theorem zc72:Zs ["end","segment","number"] Zoy (Zg Zkd):=⟨rfl,rfl,rfl,by decide +kernel,rfl,by decide +kernel,by decide +kernel⟩
abbrev Zox:List Str:=["end"]
theorem zc73:Zs ["end","row"] Zox (Zg Zkc):=⟨rfl,rfl,rfl,by decide +kernel,rfl,by decide +kernel,by decide +kernel⟩
abbrev Zow:List Str:=["end","now"]
theorem Zyu:Zs ["end","now"] Zow (Zg Zkb):=⟨rfl,rfl,rfl,by decide +kernel,rfl,by decide +kernel,by decide +kernel⟩
abbrev Zov:List Str:=["ours","theirs","first","active"]
theorem Zyt:Zs ["ours","theirs","first","active"] Zov (Zg Zka):=⟨rfl,rfl,rfl,by decide +kernel,rfl,by decide +kernel,by decide +kernel⟩
abbrev Zou:List Str:=["end","row"]
theorem zc76:Zs ["end","row","taken"] Zou (Zg Zj9):=⟨rfl,rfl,rfl,by decide +kernel,rfl,by decide +kernel,by decide +kernel⟩
abbrev Zot:List Str:=["end"]
theorem Zys:Zs ["end"] Zot (Zg Zj8):=⟨rfl,rfl,rfl,by decide +kernel,rfl,by decide +kernel,by decide +kernel⟩
abbrev Zos:List Str:=["_law_script","_law_k"]
theorem Zyr:Zs ["_law_script","_law_k"] Zos (Zg Zj7):=⟨rfl,rfl,rfl,by decide +kernel,rfl,by decide +kernel,by decide +kernel⟩
abbrev Zor:List Str:=["_law_script","_law_k"]
theorem zc79:Zs ["_law_script","_law_k","_law_number"] Zor (Zg Zj6):=⟨rfl,rfl,rfl,by decide +kernel,rfl,by decide +kernel,by decide +kernel⟩
abbrev Zoq:List Str:=["_law_number"]
theorem Zyq:Zs ["_law_number"] Zoq (Zg Zj5):=⟨rfl,rfl,rfl,by decide +kernel,rfl,by decide +kernel,by decide +kernel⟩
abbrev Zop:List Str:=["_law_row"]
theorem zc81:Zs ["_law_row","_law_total","_law_k"] Zop (Zg Zj4):=⟨rfl,rfl,rfl,by decide +kernel,rfl,by decide +kernel,by decide +kernel⟩
abbrev Zoo:List Str:=["_law_segment_here"]
theorem zc82:Zs ["_law_segment_here","_law_row","_law_number"] Zoo (Zg Zj3):=⟨rfl,rfl,rfl,by decide +kernel,rfl,by decide +kernel,by decide +kernel⟩
abbrev Zon:List Str:=["_law_row"]
theorem zc83:Zs ["_law_row","_law_head","_law_most","_law_words","_law_found"] Zon (Zg Zit):=⟨rfl,rfl,rfl,by decide +kernel,rfl,by decide +kernel,by decide +kernel⟩
abbrev Zom:List Str:=["_law_byte_here"]
theorem Zyp:Zs ["_law_byte_here"] Zom (Zg Zj2):=⟨rfl,rfl,rfl,by decide +kernel,rfl,by decide +kernel,by decide +kernel⟩
abbrev Zol:List Str:=["_law_number","_law_step"]
theorem Zyo:Zs ["_law_number","_law_step"] Zol (Zg Zj1):=⟨rfl,rfl,rfl,by decide +kernel,rfl,by decide +kernel,by decide +kernel⟩
abbrev Zok:List Str:=["_law_number"]
theorem Zyn:Zs ["_law_number"] Zok (Zg Zj0):=⟨rfl,rfl,rfl,by decide +kernel,rfl,by decide +kernel,by decide +kernel⟩
abbrev Zoj:List Str:=["_law_talk","_law_number","_law_answer_here","_law_flags","_law_window","_law_data"]
theorem Zym:Zs ["_law_talk","_law_number","_law_answer_here","_law_flags","_law_window","_law_data"] Zoj (Zg ZjZ):=⟨rfl,rfl,rfl,by decide +kernel,rfl,by decide +kernel,by decide +kernel⟩
abbrev Zoi:List Str:=["_law_end","_law_now"]
theorem zc88:Zs ["_law_end","_law_now","_law_found","_law_k","_law_row"] Zoi (Zg ZjY):=⟨rfl,rfl,rfl,by decide +kernel,rfl,by decide +kernel,by decide +kernel⟩
abbrev Zoh:List Str:=["_law_script","_law_base","_law_window","_law_most"]
theorem zc89:Zs ["_law_script","_law_base","_law_window","_law_most","_law_talk","_law_mine","_law_theirs","_law_end"] Zoh (Zg ZjX):=⟨rfl,rfl,rfl,by decide +kernel,rfl,by decide +kernel,by decide +kernel⟩
abbrev Zog:List Str:=["_law_made_here","_law_came","_law_una","_law_window","_law_now"]
theorem zc90:Zs ["_law_made_here","_law_came","_law_una","_law_window","_law_now","_law_row"] Zog (Zg ZjW):=⟨rfl,rfl,rfl,by decide +kernel,rfl,by decide +kernel,by decide +kernel⟩
abbrev Zof:List Str:=["_law_script","_law_made_here","_law_k","_law_came","_law_una","_law_now"]
theorem zc91:Zs ["_law_script","_law_made_here","_law_k","_law_came","_law_una","_law_now","_law_row","_law_numbers"] Zof (Zg ZjV):=⟨rfl,rfl,rfl,by decide +kernel,rfl,by decide +kernel,by decide +kernel⟩
abbrev Zoe:List Str:=["_law_made_here","_law_came","_law_una","_law_data"]
theorem zc92:Zs ["_law_made_here","_law_came","_law_una","_law_data","_law_part","_law_flags","_law_numbers"] Zoe (Zg ZjU):=⟨rfl,rfl,rfl,by decide +kernel,rfl,by decide +kernel,by decide +kernel⟩
abbrev Zod:List Str:=["_law_script","_law_made_here","_law_k","_law_goes","_law_came","_law_una","_law_now"]
theorem zc93:Zs ["_law_script","_law_made_here","_law_k","_law_goes","_law_came","_law_una","_law_now","_law_again_here","_law_wait","_law_j","_law_often"] Zod (Zg ZjT):=⟨rfl,rfl,rfl,by decide +kernel,rfl,by decide +kernel,by decide +kernel⟩
abbrev Zoc:List Str:=["_law_script"]
theorem zc94:Zs ["_law_script","_law_made_here","_law_end","_law_data","_law_closes","_law_now","_law_came","_law_una","_law_k","_law_owed_here","_law_goes","_law_rest","_law_segment_here"] Zoc (Zg Zhe):=⟨rfl,rfl,rfl,by decide +kernel,rfl,by decide +kernel,by decide +kernel⟩
structure Glb (K:PySem.W.Frag) (mg:Str→Option Value):Prop where
  zc0:∃t,mg "ACK"=some (.int 16 t)
  zc1:∃t,mg "ANSWER"=some (.int 3 t)
  zc2:∃t,mg "CLOSED"=some (.str "closed" t)
  zc3:∃t,mg "CLOSE_WAIT"=some (.str "close wait" t)
  zc4:∃t,mg "CLOSING"=some (.str "closing" t)
  zc5:∃t,mg "DATA"=some (.int 7 t)
  zc6:∃t,mg "FIN"=some (.int 1 t)
  zc7:∃t,mg "FIRST_WAIT"=some (.int 1000 t)
  zc8:∃t,mg "FLAGS"=some (.int 4 t)
  zc9:∃t,mg "GOAL"=some (.int 1 t)
  zc10:∃t,mg "GREATEST_DATA"=some (.int 16 t)
  zc11:∃t,mg "GREATEST_FLAGS"=some (.int 31 t)
  zc12:∃t,mg "GREATEST_WORD"=some (.int 65535 t)
  zc13:∃t,mg "HALF_ROUND"=some (.int 2147483648 t)
  zc14:∃t,mg "LAST_ACK"=some (.str "last ack" t)
  zc15:∃t,mg "LAST_WAIT"=some (.int 120000 t)
  zc16:∃t,mg "LEAST_MOST"=some (.int 4 t)
  zc17:∃t,mg "LISTEN"=some (.str "listen" t)
  zc18:∃t,mg "LONGEST_WAIT"=some (.int 16000 t)
  zc19:∃t,mg "LONG_HEAD"=some (.int 24 t)
  zc20:∃t,mg "MOST"=some (.int 6 t)
  zc21:∃t,mg "MOST_TRIES"=some (.int 6 t)
  zc22:∃t,mg "MOST_UNTOLD"=some (.int 12 t)
  zc23:∃t,mg "NO_ERROR"=some (.str "" t)
  zc24:∃t,mg "NUMBER"=some (.int 2 t)
  zc25:∃t,mg "OPEN"=some (.str "open" t)
  zc26:∃t,mg "PSH"=some (.int 8 t)
  zc27:∃t,mg "REFUSED"=some (.str "refused" t)
  zc28:∃t,mg "RESET"=some (.str "reset" t)
  zc29:∃t,mg "RIGHT_SUM"=some (.int 65535 t)
  zc30:∃t,mg "ROOM"=some (.int 64 t)
  zc31:∃t,mg "ROUND"=some (.int 4294967296 t)
  zc32:∃t,mg "RST"=some (.int 4 t)
  zc33:∃t,mg "SHORT_HEAD"=some (.int 20 t)
  zc34:∃t,mg "SOURCE"=some (.int 0 t)
  zc35:∃t,mg "SYN"=some (.int 2 t)
  zc36:∃t,mg "SYN_COME"=some (.str "syn come" t)
  zc37:∃t,mg "SYN_SENT"=some (.str "syn sent" t)
  zc38:∃t,mg "TIME"=some (.str "time" t)
  zc39:∃t,mg "TIME_WAIT"=some (.str "time wait" t)
  zc40:∃t,mg "WAIT_ONE"=some (.str "wait one" t)
  zc41:∃t,mg "WAIT_TWO"=some (.str "wait two" t)
  zc42:∃t,mg "WINDOW"=some (.int 5 t)
  zc43:∃t,mg "WORDS"=some (.int 65536 t)
  b_all:mg "all"=none
  b_bool:mg "bool"=none
  b_enumerate:mg "enumerate"=none
  b_int:mg "int"=none
  b_isinstance:mg "isinstance"=none
  b_len:mg "len"=none
  b_list:mg "list"=none
  b_max:mg "max"=none
  b_min:mg "min"=none
  b_range:mg "range"=none
  b_sum:mg "sum"=none
  b_tuple:mg "tuple"=none
  k_End:Cls K (Zad mg "End")
  k_Pile:Cls K (Zad mg "Pile")
  zn0:NoAttr K (Zad mg "End") "behind"
  zn1:NoAttr K (Zad mg "End") "come"
  zn2:NoAttr K (Zad mg "End") "early"
  zn3:NoAttr K (Zad mg "End") "early_fin"
  zn4:NoAttr K (Zad mg "End") "error"
  zn5:NoAttr K (Zad mg "End") "first"
  zn6:NoAttr K (Zad mg "End") "has_closed"
  zn7:NoAttr K (Zad mg "End") "most"
  zn8:NoAttr K (Zad mg "End") "nxt"
  zn9:NoAttr K (Zad mg "End") "ours"
  zn10:NoAttr K (Zad mg "End") "owed_reset"
  zn11:NoAttr K (Zad mg "End") "owes_answer"
  zn12:NoAttr K (Zad mg "End") "owes_syn"
  zn13:NoAttr K (Zad mg "End") "probes"
  zn14:NoAttr K (Zad mg "End") "rcv"
  zn15:NoAttr K (Zad mg "End") "since"
  zn16:NoAttr K (Zad mg "End") "state"
  zn17:NoAttr K (Zad mg "End") "theirs"
  zn18:NoAttr K (Zad mg "End") "told"
  zn19:NoAttr K (Zad mg "End") "told_by"
  zn20:NoAttr K (Zad mg "End") "tries"
  zn21:NoAttr K (Zad mg "End") "una"
  zn22:NoAttr K (Zad mg "End") "wait"
  zn23:NoAttr K (Zad mg "End") "wnd"
  zn24:NoAttr K (Zad mg "End") "written"
  zn25:NoAttr K (Zad mg "Pile") "row"
section
variable {P:Program} {w:World} {K:PySem.W.Frag} {mg:Str→Option Value} {base:Heap}
theorem zo0 (D:Mk0 K mg "Pile" "Pile.__init__" zs0 zP0) (g:Glb K mg) :MMk P w K mg base 1 "Pile" ZbY:=
  mk0 D zc0 1 1 rfl rfl fun f cdv A outer s H E hr=>(Zj (Zy (Zv ⟨g.k_Pile,g.zn25⟩) (Zb 0) (zX Zf)))
theorem zo1 (D:Zl K mg "room" zs1 zP1) (g:Glb K mg) :Zo P w K mg base 1 "room" Zd7:=
  ZW D zc1 1 1 rfl rfl fun f cdv A outer s H E hr=>(Zj (Zw (Zu Zdt (Zm g.zc30) (Z4 Zdk g.b_len PySem.boot_len (Za (Zq (Zv ⟨g.k_Pile,g.zn25⟩) (Zb 0)) Zf)))))
theorem zo2 (D:Zl K mg "lay" zs2 zP2) (g:Glb K mg) (zd1:Zo P w K mg base 1 "room" Zd7):Zo P w K mg base 2 "lay" ZfX:=
  ZW D zc2 2 3 rfl rfl fun f cdv A outer s H E hr=>(Ze (ZE 2 zc2.nd (Zao (Zb 1) Zbg (zH (Zi zd1 hr (by decide) (Za (Zb 0) Zf)))))
  (Ze (Zy (Zv ⟨g.k_Pile,g.zn25⟩) (Zb 0) (Zu ZL (Zq (Zv ⟨g.k_Pile,g.zn25⟩) (Zb 0)) (Zb 2)))
  (Zj (Zw (Z4 Zdk g.b_len PySem.boot_len (Za (Zb 2) Zf))))))
theorem zo3 (D:Zl K mg "take" zs3 zP3) (g:Glb K mg) :Zo P w K mg base 1 "take" ZfB:=
  ZW D zc3 2 4 rfl rfl fun f cdv A outer s H E hr=>(Ze (ZE 2 zc3.nd (Z4 Zwr g.b_max PyProof.Rows.boot_max (Za (Zb 1) (Za Zh Zf))))
  (Ze (ZE 3 zc3.nd (Zao (Zq (Zv ⟨g.k_Pile,g.zn25⟩) (Zb 0)) Zbg (zH (Zb 2))))
  (Ze (Zy (Zv ⟨g.k_Pile,g.zn25⟩) (Zb 0) (Zao (Zq (Zv ⟨g.k_Pile,g.zn25⟩) (Zb 0)) (zH (Zb 2)) Zbg))
  (Zj (Zw (Zb 3))))))
theorem zo4 (D:Zl K mg "plus" zs4 zP4) (g:Glb K mg) :Zo P w K mg base 1 "plus" zq:=
  ZW D zc4 2 2 rfl rfl fun f cdv A outer s H E hr=>(Zj (Zw (Zu Zav (Zu ZL (Zb 0) (Zb 1)) (Zm g.zc31))))
theorem zo5 (D:Zl K mg "offset" zs5 zP5) (g:Glb K mg) :Zo P w K mg base 1 "offset" zC:=
  ZW D zc5 2 2 rfl rfl fun f cdv A outer s H E hr=>(Zj (Zw (Zu Zdt (Zu Zav (Zu ZL (Zu Zdt (Zb 0) (Zb 1)) (Zm g.zc13)) (Zm g.zc31)) (Zm g.zc13))))
theorem zo6 (D:Zl K mg "past" zs6 zP6) (g:Glb K mg) (zd5:Zo P w K mg base 1 "offset" zC):Zo P w K mg base 2 "past" Zcl:=
  ZW D zc6 2 2 rfl rfl fun f cdv A outer s H E hr=>(Zj (Zw (zD ZhM (Zi zd5 hr (by decide) (Za (Zb 0) (Za (Zb 1) Zf))) Zh)))
theorem zo7 (D:Mk0 K mg "End" "End.__init__" zs7 zP7) (g:Glb K mg) (zd0:MMk P w K mg base 1 "Pile" ZbY) (zd4:Zo P w K mg base 1 "plus" zq):MMk P w K mg base 3 "End" Zcp:=
  mk0 D zc7 5 5 rfl rfl fun f cdv A outer s H E hr=>(Ze (Zy (Zv ⟨g.k_End,g.zn9⟩) (Zb 0) (Zb 1))
  (Ze (Zy (Zv ⟨g.k_End,g.zn17⟩) (Zb 0) (Zb 2))
  (Ze (Zy (Zv ⟨g.k_End,g.zn16⟩) (Zb 0) (ZcP (ZG (Zb 4)) (ZB g.zc37) (ZB g.zc17)))
  (Ze (Zy (Zv ⟨g.k_End,g.zn4⟩) (Zb 0) (ZB g.zc23))
  (Ze (Zy (Zv ⟨g.k_End,g.zn5⟩) (Zb 0) (Zb 3))
  (Ze (Zy (Zv ⟨g.k_End,g.zn21⟩) (Zb 0) (Zb 3))
  (Ze (Zy (Zv ⟨g.k_End,g.zn8⟩) (Zb 0) (Zb 3))
  (Ze (Zy (Zv ⟨g.k_End,g.zn14⟩) (Zb 0) Zh)
  (Ze (Zy (Zv ⟨g.k_End,g.zn23⟩) (Zb 0) Zh)
  (Ze (Zy (Zv ⟨g.k_End,g.zn18⟩) (Zb 0) Zh)
  (Ze (Zy (Zv ⟨g.k_End,g.zn19⟩) (Zb 0) Zh)
  (Ze (Zy (Zv ⟨g.k_End,g.zn7⟩) (Zb 0) (Zm g.zc22))
  (Ze (Zy (Zv ⟨g.k_End,g.zn24⟩) (Zb 0) (ZlJ zd0 hr (by decide)))
  (Ze (Zy (Zv ⟨g.k_End,g.zn1⟩) (Zb 0) (ZlJ zd0 hr (by decide)))
  (Ze (Zy (Zv ⟨g.k_End,g.zn2⟩) (Zb 0) Zqx)
  (Ze (Zy (Zv ⟨g.k_End,g.zn3⟩) (Zb 0) ZaP)
  (Ze (Zy (Zv ⟨g.k_End,g.zn6⟩) (Zb 0) zP)
  (Ze (Zy (Zv ⟨g.k_End,g.zn0⟩) (Zb 0) (Zi zd4 hr (by decide) (Za (Zb 3) (Za Zh Zf))))
  (Ze (Zy (Zv ⟨g.k_End,g.zn10⟩) (Zb 0) ZaP)
  (Ze (Zy (Zv ⟨g.k_End,g.zn12⟩) (Zb 0) zP)
  (Ze (Zy (Zv ⟨g.k_End,g.zn11⟩) (Zb 0) zP)
  (Ze (Zy (Zv ⟨g.k_End,g.zn13⟩) (Zb 0) zP)
  (Ze (Zy (Zv ⟨g.k_End,g.zn15⟩) (Zb 0) Zh)
  (Ze (Zy (Zv ⟨g.k_End,g.zn22⟩) (Zb 0) (Zm g.zc7))
  (Zj (Zy (Zv ⟨g.k_End,g.zn20⟩) (Zb 0) Zh))))))))))))))))))))))))))
theorem zo8 (D:Zl K mg "start_timer" zs8 zP8) (g:Glb K mg) :Zo P w K mg base 1 "start_timer" ze:=
  ZW D zc8 2 2 rfl rfl fun f cdv A outer s H E hr=>(Ze (Zy (Zv ⟨g.k_End,g.zn15⟩) (Zb 0) (Zb 1))
  (Ze (Zy (Zv ⟨g.k_End,g.zn22⟩) (Zb 0) (Zm g.zc7))
  (Zj (Zy (Zv ⟨g.k_End,g.zn20⟩) (Zb 0) Zh))))
theorem zo9 (D:Zl K mg "state" zs9 zP9) (g:Glb K mg) :Zo P w K mg base 1 "state" ZfW:=
  ZW D zc9 1 1 rfl rfl fun f cdv A outer s H E hr=>(Zj (Zw (Zq (Zv ⟨g.k_End,g.zn16⟩) (Zb 0))))
theorem Zyl (D:Zl K mg "our_window" Zld Zpy) (g:Glb K mg) (zd1:Zo P w K mg base 1 "room" Zd7):Zo P w K mg base 2 "our_window" Za5:=
  ZW D zc10 1 1 rfl rfl fun f cdv A outer s H E hr=>(Zj (Zw (Zi zd1 hr (by decide) (Za (Zq (Zv ⟨g.k_End,g.zn1⟩) (Zb 0)) Zf))))
theorem Zyk (D:Zl K mg "has_sent_fin" Zlc Zpx) (g:Glb K mg) (zd6:Zo P w K mg base 2 "past" Zcl):Zo P w K mg base 3 "has_sent_fin" Zbn:=
  ZW D zc11 1 1 rfl rfl fun f cdv A outer s H E hr=>(Zj (Zw (Zi zd6 hr (by decide) (Za (Zq (Zv ⟨g.k_End,g.zn8⟩) (Zb 0)) (Za (Zq (Zv ⟨g.k_End,g.zn0⟩) (Zb 0)) Zf)))))
theorem Zyj (D:Zl K mg "folded" Zlb Zpw) (g:Glb K mg) :Zo P w K mg base 1 "folded" Zdh:=
  ZW D zc12 1 2 rfl rfl fun f cdv A outer s H E hr=>(Ze (ZE 1 zc12.nd (Zu ZL (Zu Zb5 Zh (Z4 Ztj g.b_sum PyProof.Rows.boot_sum (Za (ZiZ (Zb 0) Zbg Zbg (zH Zh)) Zf))) (Z4 Ztj g.b_sum PyProof.Rows.boot_sum (Za (ZiZ (Zb 0) (zH Zh) Zbg (zH Zh)) Zf))))
  (Ze (ZhQ 200 PassesOwn.never (ZF ZhM (Zb 1) (Zm g.zc12)) (Zj (ZE 1 zc12.nd (Zu ZL (Zu Zav (Zb 1) (Zm g.zc43)) (Zu ZdQ (Zb 1) (Zm g.zc43))))))
  (Zj (Zw (Zb 1)))))
theorem Zyi (D:Zl K mg "sum_of" Zla Zpv) (g:Glb K mg) (zd12:Zo P w K mg base 1 "folded" Zdh):Zo P w K mg base 2 "sum_of" ZeF:=
  ZW D zc13 1 1 rfl rfl fun f cdv A outer s H E hr=>(Zj (Zw (Zu Zdt (Zm g.zc12) (Zi zd12 hr (by decide) (Za (Zb 0) Zf)))))
theorem Zyg (D:Zl K mg "has" Zk8 Zpt) (g:Glb K mg) :Zo P w K mg base 1 "has" Zfr:=
  ZW D zc15 2 2 rfl rfl fun f cdv A outer s H E hr=>(Zj (Zw (ZcP (ZF (ZeK hr.units) (Zu Zv5 (Zb 0) (Zb 1)) Zh) Zh Zh)))
theorem Zyh (D:Zl K mg "length" Zk9 Zpu) (g:Glb K mg) (zd15:Zo P w K mg base 1 "has" Zfr):Zo P w K mg base 2 "length" ZcA:=
  ZW D zc14 1 2 rfl rfl fun f cdv A outer s H E hr=>(Ze (ZE 1 zc14.nd (ZC ZD (Zb 0) (Zm g.zc8)))
  (Zj (Zw (Zu ZL (Zu ZL (Z4 Zdk g.b_len PySem.boot_len (Za (ZC ZD (Zb 0) (Zm g.zc5)) Zf)) (Zi zd15 hr (by decide) (Za (Zb 1) (Za (Zm g.zc35) Zf)))) (Zi zd15 hr (by decide) (Za (Zb 1) (Za (Zm g.zc6) Zf)))))))
theorem Zyf (D:Zl K mg "bears" Zk7 Zps) (g:Glb K mg) (zd15:Zo P w K mg base 1 "has" Zfr):Zo P w K mg base 2 "bears" Z8:=
  ZW D zc16 2 2 rfl rfl fun f cdv A outer s H E hr=>(Zj (Zw (zD (z7 hr.units) (Zi zd15 hr (by decide) (Za (ZC ZD (Zb 0) (Zm g.zc8)) (Za (Zb 1) Zf))) Zh)))
theorem Zyc (D:Zl K mg "byte_of_head" Zk4 Zpp) (g:Glb K mg) :Zo P w K mg base 1 "byte_of_head" zU:=
  ZW D zc19 1 1 rfl rfl fun f cdv A outer s H E hr=>(Zj (Zw (Zu Zb5 Zh (Zu ZdQ (Zb 0) Zh))))
theorem Zya (D:Zl K mg "two_bytes" Zk2 Zpn) (g:Glb K mg) :Zo P w K mg base 1 "two_bytes" zm:=
  ZW D zc21 1 1 rfl rfl fun f cdv A outer s H E hr=>(Zj (Zw (zX (Za (Zu Zav (Zu ZdQ (Zb 0) Zh) Zh) (Za (Zu Zav (Zb 0) Zh) Zf)))))
theorem Zx9 (D:Zl K mg "four_bytes" Zk1 Zpm) (g:Glb K mg) (zd21:Zo P w K mg base 1 "two_bytes" zm):Zo P w K mg base 2 "four_bytes" Zbv:=
  ZW D zc22 1 1 rfl rfl fun f cdv A outer s H E hr=>(Zj (Zw (Zu ZL (Zi zd21 hr (by decide) (Za (Zu ZdQ (Zb 0) Zh) Zf)) (Zi zd21 hr (by decide) (Za (Zb 0) Zf)))))
theorem Zyd (D:Zl K mg "bytes_ahead_of_sum" Zk5 Zpq) (g:Glb K mg) (zd19:Zo P w K mg base 1 "byte_of_head" zU) (zd22:Zo P w K mg base 2 "four_bytes" Zbv) (zd21:Zo P w K mg base 1 "two_bytes" zm):Zo P w K mg base 3 "bytes_ahead_of_sum" zT:=
  ZW D zc18 1 4 rfl rfl fun f cdv A outer s H E hr=>(Ze (ZE 1 zc18.nd (Zu ZL (Zi zd21 hr (by decide) (Za (ZC ZD (Zb 0) (Zm g.zc34)) Zf)) (Zi zd21 hr (by decide) (Za (ZC ZD (Zb 0) (Zm g.zc9)) Zf))))
  (Ze (ZE 2 zc18.nd (Zu ZL (Zi zd22 hr (by decide) (Za (ZC ZD (Zb 0) (Zm g.zc24)) Zf)) (Zi zd22 hr (by decide) (Za (ZC ZD (Zb 0) (Zm g.zc1)) Zf))))
  (Ze (ZE 3 zc18.nd (ZcP (ZF (z7 hr.units) (ZC ZD (Zb 0) (Zm g.zc20)) Zh) (Zm g.zc33) (Zm g.zc19)))
  (Zj (Zw (Zu ZL (Zu ZL (Zu ZL (Zb 1) (Zb 2)) (zX (Za (Zi zd19 hr (by decide) (Za (Zb 3) Zf)) (Za (ZC ZD (Zb 0) (Zm g.zc8)) Zf)))) (Zi zd21 hr (by decide) (Za (ZC ZD (Zb 0) (Zm g.zc42)) Zf))))))))
theorem Zyb (D:Zl K mg "bytes_of_most" Zk3 Zpo) (g:Glb K mg) (zd21:Zo P w K mg base 1 "two_bytes" zm):Zo P w K mg base 2 "bytes_of_most" Zba:=
  ZW D zc20 1 1 rfl rfl fun f cdv A outer s H E hr=>(Zj (Zw (ZcP (ZF (z7 hr.units) (Zb 0) Zh) (zX Zf) (Zu ZL (zX (Za Zh (Za Zh Zf))) (Zi zd21 hr (by decide) (Za (Zb 0) Zf))))))
theorem Zye (D:Zl K mg "put" Zk6 Zpr) (g:Glb K mg) (zd18:Zo P w K mg base 3 "bytes_ahead_of_sum" zT) (zd20:Zo P w K mg base 2 "bytes_of_most" Zba) (zd13:Zo P w K mg base 2 "sum_of" ZeF) (zd21:Zo P w K mg base 1 "two_bytes" zm):Zo P w K mg base 4 "put" Zly:=
  ZW D zc17 1 3 rfl rfl fun f cdv A outer s H E hr=>(Ze (ZE 1 zc17.nd (Zi zd18 hr (by decide) (Za (Zb 0) Zf)))
  (Ze (ZE 2 zc17.nd (Zu ZL (Zu ZL (zX (Za Zh (Za Zh Zf))) (Zi zd20 hr (by decide) (Za (ZC ZD (Zb 0) (Zm g.zc20)) Zf))) (ZaQ ZmG g.b_list PyProof.Rows.boot_list (Za (ZC ZD (Zb 0) (Zm g.zc5)) Zf))))
  (Zj (Zw (Zu ZL (Zu ZL (Zb 1) (Zi zd21 hr (by decide) (Za (Zi zd13 hr (by decide) (Za (Zu ZL (Zu ZL (Zb 1) (zX (Za Zh (Za Zh Zf)))) (Zb 2)) Zf)) Zf))) (Zb 2))))))
theorem Zx7 (D:Zl K mg "head_of" ZkZ Zpk) (g:Glb K mg) :Zo P w K mg base 1 "head_of" Zbu:=
  ZW D zc24 1 1 rfl rfl fun f cdv A outer s H E hr=>(Zj (Zw (Zu Zb5 (Zu ZdQ (ZC ZD (Zb 0) Zh) Zh) Zh)))
theorem Zx4 (D:Zl K mg "two_at" ZkW Zph) (g:Glb K mg) :Zo P w K mg base 1 "two_at" Zak:=
  ZW D zc27 2 2 rfl rfl fun f cdv A outer s H E hr=>(Zj (Zw (Zu ZL (Zu Zb5 Zh (ZC ZD (Zb 0) (Zb 1))) (ZC ZD (Zb 0) (Zu ZL (Zb 1) Zh)))))
theorem Zx6 (D:Zl K mg "is_right_long_head" ZkY Zpj) (g:Glb K mg) (zd15:Zo P w K mg base 1 "has" Zfr) (zd27:Zo P w K mg base 1 "two_at" Zak):Zo P w K mg base 2 "is_right_long_head" zS:=
  ZW D zc25 1 1 rfl rfl fun f cdv A outer s H E hr=>(Zj (Zw (ZbU (zD (z7 hr.units) (Zi zd15 hr (by decide) (Za (ZC ZD (Zb 0) Zh) (Za (Zm g.zc35) Zf))) Zh) (ZbU (zD (z7 hr.units) (ZC ZD (Zb 0) Zh) Zh) (ZbU (zD (z7 hr.units) (ZC ZD (Zb 0) Zh) Zh) (ZcO (zD Zsg (Zi zd27 hr (by decide) (Za (Zb 0) (Za Zh Zf))) (Zm g.zc16))))))))
theorem Zx8 (D:Zl K mg "is_right" Zk0 Zpl) (g:Glb K mg) (zd19:Zo P w K mg base 1 "byte_of_head" zU) (zd12:Zo P w K mg base 1 "folded" Zdh) (zd24:Zo P w K mg base 1 "head_of" Zbu) (zd25:Zo P w K mg base 2 "is_right_long_head" zS) (zd27:Zo P w K mg base 1 "two_at" Zak):Zo P w K mg base 3 "is_right" Zam:=
  ZW D zc23 1 1 rfl rfl fun f cdv A outer s H E hr=>(Zj (Zw (ZbU (zD Zsg (Z4 Zdk g.b_len PySem.boot_len (Za (Zb 0) Zf)) (Zm g.zc33)) (ZbU (zD ZlC (ZC ZD (Zb 0) Zh) (Z3 (Za (Zi zd19 hr (by decide) (Za (Zm g.zc33) Zf)) (Za (Zi zd19 hr (by decide) (Za (Zm g.zc19) Zf)) Zf))) (by with_unfolding_all rfl)) (ZbU (zD ZhL (ZC ZD (Zb 0) Zh) (Zm g.zc11)) (ZbU (Zf2 ZhL ZhL Zh (Zu Zdt (Z4 Zdk g.b_len PySem.boot_len (Za (Zb 0) Zf)) (Zi zd24 hr (by decide) (Za (Zb 0) Zf))) (Zm g.zc10)) (ZbU (zD (z7 hr.units) (Zi zd27 hr (by decide) (Za (Zb 0) (Za Zh Zf))) Zh) (ZbU (ZlI (zD (z7 hr.units) (Zi zd24 hr (by decide) (Za (Zb 0) Zf)) (Zm g.zc33)) (ZcO (Zi zd25 hr (by decide) (Za (Zb 0) Zf)))) (ZcO (zD (z7 hr.units) (Zi zd12 hr (by decide) (Za (Zb 0) Zf)) (Zm g.zc29)))))))))))
theorem Zx3 (D:Zl K mg "four_at" ZkV Zpg) (g:Glb K mg) (zd27:Zo P w K mg base 1 "two_at" Zak):Zo P w K mg base 2 "four_at" Zc7:=
  ZW D zc28 2 2 rfl rfl fun f cdv A outer s H E hr=>(Zj (Zw (Zu ZL (Zu Zb5 Zh (Zi zd27 hr (by decide) (Za (Zb 0) (Za (Zb 1) Zf)))) (Zi zd27 hr (by decide) (Za (Zb 0) (Za (Zu ZL (Zb 1) Zh) Zf))))))
theorem Zx5 (D:Zl K mg "get" ZkX Zpi) (g:Glb K mg) (zd28:Zo P w K mg base 2 "four_at" Zc7) (zd24:Zo P w K mg base 1 "head_of" Zbu) (zd23:Zo P w K mg base 3 "is_right" Zam) (zd27:Zo P w K mg base 1 "two_at" Zak):Zo P w K mg base 4 "get" ZiR:=
  ZW D zc26 1 5 rfl rfl fun f cdv A outer s H E hr=>(Ze (ZI (Zbp (ZG (Zi zd23 hr (by decide) (Za (Zb 0) Zf)))) (Zj Zqs) ZA)
  (Ze (ZE 1 zc26.nd (Zi zd24 hr (by decide) (Za (Zb 0) Zf)))
  (Ze (ZE 2 zc26.nd (ZcP (ZF (z7 hr.units) (Zb 1) (Zm g.zc19)) (Zi zd27 hr (by decide) (Za (Zb 0) (Za Zh Zf))) Zh))
  (Ze (ZE 3 zc26.nd (Z3 (Za (Zi zd27 hr (by decide) (Za (Zb 0) (Za Zh Zf))) (Za (Zi zd27 hr (by decide) (Za (Zb 0) (Za Zh Zf))) Zf))))
  (Ze (ZE 4 zc26.nd (Z3 (Za (Zi zd28 hr (by decide) (Za (Zb 0) (Za Zh Zf))) (Za (Zi zd28 hr (by decide) (Za (Zb 0) (Za Zh Zf))) Zf))))
  (Zj (Zw (Zu ZL (Zu ZL (Zb 3) (Zb 4)) (Z3 (Za (ZC ZD (Zb 0) Zh) (Za (Zi zd27 hr (by decide) (Za (Zb 0) (Za Zh Zf))) (Za (Zb 2) (Za (ZaQ Zgd g.b_tuple PyProof.Rows.boot_tuple (Za (Zao (Zb 0) (zH (Zb 1)) Zbg) Zf)) Zf)))))))))))))
theorem ZxX (D:Zl K mg "most_at_once" ZkP Zpa) (g:Glb K mg) :Zo P w K mg base 1 "most_at_once" Zal:=
  ZW D zc34 1 1 rfl rfl fun f cdv A outer s H E hr=>(Zj (Zw (Z4 Zl5 g.b_min PyProof.Rows.boot_min (Za (Zq (Zv ⟨g.k_End,g.zn7⟩) (Zb 0)) (Za (Zm g.zc10) Zf)))))
theorem ZxW (D:Zl K mg "paid_syn" ZkO Zo9) (g:Glb K mg) :Zo P w K mg base 1 "paid_syn" ZbP:=
  ZW D zc35 1 1 rfl rfl fun f cdv A outer s H E hr=>(Ze (Zy (Zv ⟨g.k_End,g.zn12⟩) (Zb 0) zP)
  (Ze (ZI (ZF (z7 hr.units) (Zq (Zv ⟨g.k_End,g.zn16⟩) (Zb 0)) (ZB g.zc37)) (Zj (Zw (Z3 (Za (Zq (Zv ⟨g.k_End,g.zn9⟩) (Zb 0)) (Za (Zq (Zv ⟨g.k_End,g.zn17⟩) (Zb 0)) (Za (Zq (Zv ⟨g.k_End,g.zn5⟩) (Zb 0)) (Za Zh (Za (Zm g.zc35) (Za (Zm g.zc30) (Za (Zm g.zc10) (Za (Z3 Zf) Zf))))))))))) ZA)
  (Zj (Zw (Z3 (Za (Zq (Zv ⟨g.k_End,g.zn9⟩) (Zb 0)) (Za (Zq (Zv ⟨g.k_End,g.zn17⟩) (Zb 0)) (Za (Zq (Zv ⟨g.k_End,g.zn5⟩) (Zb 0)) (Za (Zq (Zv ⟨g.k_End,g.zn14⟩) (Zb 0)) (Za (Zu ZL (Zm g.zc35) (Zm g.zc0)) (Za (Zm g.zc30) (Za (Zm g.zc10) (Za (Z3 Zf) Zf)))))))))))))
theorem ZxV (D:Zl K mg "segment_of" ZkN Zo8) (g:Glb K mg) (zd10:Zo P w K mg base 2 "our_window" Za5):Zo P w K mg base 3 "segment_of" zB:=
  ZW D zc36 4 4 rfl rfl fun f cdv A outer s H E hr=>(Zj (Zw (Z3 (Za (Zq (Zv ⟨g.k_End,g.zn9⟩) (Zb 0)) (Za (Zq (Zv ⟨g.k_End,g.zn17⟩) (Zb 0)) (Za (Zb 1) (Za (Zq (Zv ⟨g.k_End,g.zn14⟩) (Zb 0)) (Za (Zu ZL (Zb 2) (Zm g.zc0)) (Za (Zi zd10 hr (by decide) (Za (Zb 0) Zf)) (Za Zh (Za (ZaQ Zgd g.b_tuple PyProof.Rows.boot_tuple (Za (Zb 3) Zf)) Zf)))))))))))
theorem ZxY (D:Zl K mg "again" ZkQ Zpb) (g:Glb K mg) (zd34:Zo P w K mg base 1 "most_at_once" Zal) (zd5:Zo P w K mg base 1 "offset" zC) (zd35:Zo P w K mg base 1 "paid_syn" ZbP) (zd36:Zo P w K mg base 3 "segment_of" zB):Zo P w K mg base 4 "again" Zdr:=
  ZW D zc33 2 3 rfl rfl fun f cdv A outer s H E hr=>(Ze (ZI (ZF (z7 hr.units) (Zq (Zv ⟨g.k_End,g.zn20⟩) (Zb 0)) (Zm g.zc21)) (Ze (Zy (Zv ⟨g.k_End,g.zn16⟩) (Zb 0) (ZB g.zc2))
    (Ze (Zy (Zv ⟨g.k_End,g.zn4⟩) (Zb 0) (ZB g.zc38))
    (Zj (Zw ZaP)))) ZA)
  (Ze (Zy (Zv ⟨g.k_End,g.zn20⟩) (Zb 0) (Zu ZL (Zq (Zv ⟨g.k_End,g.zn20⟩) (Zb 0)) Zh))
  (Ze (Zy (Zv ⟨g.k_End,g.zn22⟩) (Zb 0) (Z4 Zl5 g.b_min PyProof.Rows.boot_min (Za (Zu Zb5 Zh (Zq (Zv ⟨g.k_End,g.zn22⟩) (Zb 0))) (Za (Zm g.zc18) Zf))))
  (Ze (Zy (Zv ⟨g.k_End,g.zn15⟩) (Zb 0) (Zb 1))
  (Ze (ZI (ZF ZlC (Zq (Zv ⟨g.k_End,g.zn16⟩) (Zb 0)) (Z3 (Za (ZB g.zc37) (Za (ZB g.zc36) Zf))) (by with_unfolding_all rfl)) (Zj (Zw (Zi zd35 hr (by decide) (Za (Zb 0) Zf)))) ZA)
  (Ze (ZE 2 zc33.nd (Zao (Zq (Zv ⟨g.k_Pile,g.zn25⟩) (Zq (Zv ⟨g.k_End,g.zn24⟩) (Zb 0))) Zbg (zH (Z4 Zl5 g.b_min PyProof.Rows.boot_min (Za (Zi zd5 hr (by decide) (Za (Zq (Zv ⟨g.k_End,g.zn8⟩) (Zb 0)) (Za (Zq (Zv ⟨g.k_End,g.zn21⟩) (Zb 0)) Zf))) (Za (Zi zd34 hr (by decide) (Za (Zb 0) Zf)) Zf))))))
  (Zj (Zw (Zi zd36 hr (by decide) (Za (Zb 0) (Za (Zq (Zv ⟨g.k_End,g.zn21⟩) (Zb 0)) (Za (ZcP (ZF ZhM (Z4 Zdk g.b_len PySem.boot_len (Za (Zb 2) Zf)) Zh) Zh (Zm g.zc6)) (Za (Zb 2) Zf)))))))))))))
theorem ZxK (D:Zl K mg "going_as_answer" ZkC ZoX) (g:Glb K mg) (zd36:Zo P w K mg base 3 "segment_of" zB):Zo P w K mg base 4 "going_as_answer" z8:=
  ZW D ZyO 1 1 rfl rfl fun f cdv A outer s H E hr=>(Ze (ZI (Zbp (ZG (Zq (Zv ⟨g.k_End,g.zn11⟩) (Zb 0)))) (Zj (Zw ZaP)) ZA)
  (Ze (Zy (Zv ⟨g.k_End,g.zn11⟩) (Zb 0) zP)
  (Zj (Zw (Zi zd36 hr (by decide) (Za (Zb 0) (Za (Zq (Zv ⟨g.k_End,g.zn8⟩) (Zb 0)) (Za Zh (Za (zX Zf) Zf)))))))))
theorem ZxQ (D:Zl K mg "unsent" ZkI Zo3) (g:Glb K mg) (zd5:Zo P w K mg base 1 "offset" zC):Zo P w K mg base 2 "unsent" ZbI:=
  ZW D zc41 1 1 rfl rfl fun f cdv A outer s H E hr=>(Zj (Zw (Zi zd5 hr (by decide) (Za (Zq (Zv ⟨g.k_End,g.zn0⟩) (Zb 0)) (Za (Zq (Zv ⟨g.k_End,g.zn8⟩) (Zb 0)) Zf)))))
theorem ZxR (D:Zl K mg "has_new_data" ZkJ Zo4) (g:Glb K mg) (zd41:Zo P w K mg base 2 "unsent" ZbI):Zo P w K mg base 3 "has_new_data" Zan:=
  ZW D zc40 1 1 rfl rfl fun f cdv A outer s H E hr=>(Zj (Zw (ZbU (zD ZlC (Zq (Zv ⟨g.k_End,g.zn16⟩) (Zb 0)) (Z3 (Za (ZB g.zc25) (Za (ZB g.zc40) (Za (ZB g.zc3) (Za (ZB g.zc4) (Za (ZB g.zc14) Zf)))))) (by with_unfolding_all rfl)) (ZcO (zD ZhM (Zi zd41 hr (by decide) (Za (Zb 0) Zf)) Zh)))))
theorem ZxP (D:Zl K mg "has_new_fin" ZkH Zo2) (g:Glb K mg) (zd41:Zo P w K mg base 2 "unsent" ZbI):Zo P w K mg base 3 "has_new_fin" ZbJ:=
  ZW D zc42 1 1 rfl rfl fun f cdv A outer s H E hr=>(Zj (Zw (ZbU (zD ZlC (Zq (Zv ⟨g.k_End,g.zn16⟩) (Zb 0)) (Z3 (Za (ZB g.zc40) (Za (ZB g.zc4) (Za (ZB g.zc14) Zf)))) (by with_unfolding_all rfl)) (ZcO (zD (z7 hr.units) (Zi zd41 hr (by decide) (Za (Zb 0) Zf)) Zh)))))
theorem ZxS (D:Zl K mg "has_more" ZkK Zo5) (g:Glb K mg) (zd40:Zo P w K mg base 3 "has_new_data" Zan) (zd42:Zo P w K mg base 3 "has_new_fin" ZbJ):Zo P w K mg base 4 "has_more" ZbR:=
  ZW D zc39 1 1 rfl rfl fun f cdv A outer s H E hr=>(Zj (Zw (ZlI (Zi zd40 hr (by decide) (Za (Zb 0) Zf)) (ZcO (Zi zd42 hr (by decide) (Za (Zb 0) Zf))))))
theorem ZxN (D:Zl K mg "new_data" ZkF Zo0) (g:Glb K mg) (zd34:Zo P w K mg base 1 "most_at_once" Zal) (zd5:Zo P w K mg base 1 "offset" zC) (zd4:Zo P w K mg base 1 "plus" zq) (zd36:Zo P w K mg base 3 "segment_of" zB) (zd41:Zo P w K mg base 2 "unsent" ZbI):Zo P w K mg base 4 "new_data" Zcm:=
  ZW D zc44 2 5 rfl rfl fun f cdv A outer s H E hr=>(Ze (ZE 2 zc44.nd (Zq (Zv ⟨g.k_End,g.zn8⟩) (Zb 0)))
  (Ze (ZE 3 zc44.nd (Z4 Zl5 g.b_min PyProof.Rows.boot_min (Za (Zi zd34 hr (by decide) (Za (Zb 0) Zf)) (Za (Zi zd41 hr (by decide) (Za (Zb 0) Zf)) (Za (Zb 1) Zf)))))
  (Ze (ZE 4 zc44.nd (Zi zd5 hr (by decide) (Za (Zb 2) (Za (Zq (Zv ⟨g.k_End,g.zn21⟩) (Zb 0)) Zf))))
  (Ze (Zy (Zv ⟨g.k_End,g.zn8⟩) (Zb 0) (Zi zd4 hr (by decide) (Za (Zb 2) (Za (Zb 3) Zf))))
  (Zj (Zw (Zi zd36 hr (by decide) (Za (Zb 0) (Za (Zb 2) (Za (ZcP (ZF (z7 hr.units) (Zi zd41 hr (by decide) (Za (Zb 0) Zf)) Zh) (Zm g.zc26) Zh) (Za (Zao (Zq (Zv ⟨g.k_Pile,g.zn25⟩) (Zq (Zv ⟨g.k_End,g.zn24⟩) (Zb 0))) (zH (Zb 4)) (zH (Zu ZL (Zb 4) (Zb 3)))) Zf)))))))))))
theorem ZxM (D:Zl K mg "new_fin" ZkE ZoZ) (g:Glb K mg) (zd4:Zo P w K mg base 1 "plus" zq) (zd36:Zo P w K mg base 3 "segment_of" zB):Zo P w K mg base 4 "new_fin" ZdO:=
  ZW D zc45 1 2 rfl rfl fun f cdv A outer s H E hr=>(Ze (ZE 1 zc45.nd (Zq (Zv ⟨g.k_End,g.zn8⟩) (Zb 0)))
  (Ze (Zy (Zv ⟨g.k_End,g.zn8⟩) (Zb 0) (Zi zd4 hr (by decide) (Za (Zb 1) (Za Zh Zf))))
  (Zj (Zw (Zi zd36 hr (by decide) (Za (Zb 0) (Za (Zb 1) (Za (Zm g.zc6) (Za (zX Zf) Zf)))))))))
theorem ZxO (D:Zl K mg "new_piece" ZkG Zo1) (g:Glb K mg) (zd40:Zo P w K mg base 3 "has_new_data" Zan) (zd44:Zo P w K mg base 4 "new_data" Zcm) (zd45:Zo P w K mg base 4 "new_fin" ZdO):Zo P w K mg base 5 "new_piece" ZaZ:=
  ZW D zc43 2 2 rfl rfl fun f cdv A outer s H E hr=>(Ze (Zy (Zv ⟨g.k_End,g.zn13⟩) (Zb 0) zP)
  (Zj (Zw (ZcP (ZG (Zi zd40 hr (by decide) (Za (Zb 0) Zf))) (Zi zd44 hr (by decide) (Za (Zb 0) (Za (Zb 1) Zf))) (Zi zd45 hr (by decide) (Za (Zb 0) Zf))))))
theorem ZxT (D:Zl K mg "new_syn" ZkL Zo6) (g:Glb K mg) (zd35:Zo P w K mg base 1 "paid_syn" ZbP) (zd4:Zo P w K mg base 1 "plus" zq) (zd8:Zo P w K mg base 1 "start_timer" ze):Zo P w K mg base 2 "new_syn" Zc6:=
  ZW D zc38 2 2 rfl rfl fun f cdv A outer s H E hr=>(Ze (ZI (ZF (z7 hr.units) (Zq (Zv ⟨g.k_End,g.zn8⟩) (Zb 0)) (Zq (Zv ⟨g.k_End,g.zn21⟩) (Zb 0))) (Zj (ZP (Zi zd8 hr (by decide) (Za (Zb 0) (Za (Zb 1) Zf))))) ZA)
  (Ze (Zy (Zv ⟨g.k_End,g.zn8⟩) (Zb 0) (Zi zd4 hr (by decide) (Za (Zq (Zv ⟨g.k_End,g.zn5⟩) (Zb 0)) (Za Zh Zf))))
  (Zj (Zw (Zi zd35 hr (by decide) (Za (Zb 0) Zf))))))
theorem ZxU (D:Zl K mg "going_as_new" ZkM Zo7) (g:Glb K mg) (zd39:Zo P w K mg base 4 "has_more" ZbR) (zd43:Zo P w K mg base 5 "new_piece" ZaZ) (zd38:Zo P w K mg base 2 "new_syn" Zc6) (zd5:Zo P w K mg base 1 "offset" zC) (zd8:Zo P w K mg base 1 "start_timer" ze):Zo P w K mg base 6 "going_as_new" zc:=
  ZW D zc37 2 3 rfl rfl fun f cdv A outer s H E hr=>(Ze (ZI (ZF ZlC (Zq (Zv ⟨g.k_End,g.zn16⟩) (Zb 0)) (Z3 (Za (ZB g.zc37) (Za (ZB g.zc36) Zf))) (by with_unfolding_all rfl)) (Zj (Zw (ZcP (MW.mt (ZcB (ZF (z7 hr.units) (Zq (Zv ⟨g.k_End,g.zn8⟩) (Zb 0)) (Zq (Zv ⟨g.k_End,g.zn5⟩) (Zb 0))) (z9 (ZG (Zq (Zv ⟨g.k_End,g.zn12⟩) (Zb 0)))))) (Zi zd38 hr (by decide) (Za (Zb 0) (Za (Zb 1) Zf))) ZaP))) ZA)
  (Ze (ZE 2 zc37.nd (Zu Zdt (Zq (Zv ⟨g.k_End,g.zn23⟩) (Zb 0)) (Zi zd5 hr (by decide) (Za (Zq (Zv ⟨g.k_End,g.zn8⟩) (Zb 0)) (Za (Zq (Zv ⟨g.k_End,g.zn21⟩) (Zb 0)) Zf)))))
  (Ze (ZI (MW.mt (ZcB (ZF ZhL (Zb 2) Zh) (z9 (Zbp (ZG (Zi zd39 hr (by decide) (Za (Zb 0) Zf))))))) (Zj (Zw ZaP)) ZA)
  (Ze (ZI (ZF (z7 hr.units) (Zq (Zv ⟨g.k_End,g.zn8⟩) (Zb 0)) (Zq (Zv ⟨g.k_End,g.zn21⟩) (Zb 0))) (Zj (ZP (Zi zd8 hr (by decide) (Za (Zb 0) (Za (Zb 1) Zf))))) ZA)
  (Ze (Zy (Zv ⟨g.k_End,g.zn11⟩) (Zb 0) zP)
  (Zj (Zw (Zi zd43 hr (by decide) (Za (Zb 0) (Za (Zb 2) Zf))))))))))
theorem ZxZ (D:Zl K mg "is_due" ZkR Zpc) (g:Glb K mg) :Zo P w K mg base 1 "is_due" Zdg:=
  ZW D zc32 2 2 rfl rfl fun f cdv A outer s H E hr=>(Zj (Zw (zD Zsg (Zu Zdt (Zb 1) (Zq (Zv ⟨g.k_End,g.zn15⟩) (Zb 0))) (Zq (Zv ⟨g.k_End,g.zn22⟩) (Zb 0)))))
theorem ZxL (D:Zl K mg "going_as_probe" ZkD ZoY) (g:Glb K mg) (zd39:Zo P w K mg base 4 "has_more" ZbR) (zd32:Zo P w K mg base 1 "is_due" Zdg) (zd43:Zo P w K mg base 5 "new_piece" ZaZ) (zd8:Zo P w K mg base 1 "start_timer" ze):Zo P w K mg base 6 "going_as_probe" zg:=
  ZW D ZyP 2 2 rfl rfl fun f cdv A outer s H E hr=>(Ze (ZI (MW.mt (ZcB (ZF (ZeK hr.units) (Zq (Zv ⟨g.k_End,g.zn8⟩) (Zb 0)) (Zq (Zv ⟨g.k_End,g.zn21⟩) (Zb 0))) (ZcB (ZF (ZeK hr.units) (Zq (Zv ⟨g.k_End,g.zn23⟩) (Zb 0)) Zh) (z9 (Zbp (ZG (Zi zd39 hr (by decide) (Za (Zb 0) Zf)))))))) (Ze (Zy (Zv ⟨g.k_End,g.zn13⟩) (Zb 0) zP)
    (Zj (Zw ZaP))) ZA)
  (Ze (ZI (Zbp (ZG (Zq (Zv ⟨g.k_End,g.zn13⟩) (Zb 0)))) (Ze (Zy (Zv ⟨g.k_End,g.zn13⟩) (Zb 0) zP)
    (Zj (ZP (Zi zd8 hr (by decide) (Za (Zb 0) (Za (Zb 1) Zf)))))) ZA)
  (Ze (ZI (Zbp (ZG (Zi zd32 hr (by decide) (Za (Zb 0) (Za (Zb 1) Zf))))) (Zj (Zw ZaP)) ZA)
  (Ze (Zy (Zv ⟨g.k_End,g.zn15⟩) (Zb 0) (Zb 1))
  (Zj (Zw (Zi zd43 hr (by decide) (Za (Zb 0) (Za Zh Zf)))))))))
theorem Zx0 (D:Zl K mg "paid_reset" ZkS Zpd) (g:Glb K mg) :Zo P w K mg base 1 "paid_reset" Zc0:=
  ZW D zc31 1 2 rfl rfl fun f cdv A outer s H E hr=>(Ze (ZE 1 zc31.nd (Zq (Zv ⟨g.k_End,g.zn10⟩) (Zb 0)))
  (Ze (Zy (Zv ⟨g.k_End,g.zn10⟩) (Zb 0) ZaP)
  (Zj (Zw (Zb 1)))))
theorem Zx1 (D:Zl K mg "going" ZkT Zpe) (g:Glb K mg) (zd33:Zo P w K mg base 4 "again" Zdr) (zd47:Zo P w K mg base 4 "going_as_answer" z8) (zd37:Zo P w K mg base 6 "going_as_new" zc) (zd46:Zo P w K mg base 6 "going_as_probe" zg) (zd32:Zo P w K mg base 1 "is_due" Zdg) (zd31:Zo P w K mg base 1 "paid_reset" Zc0):Zo P w K mg base 7 "going" Zd8:=
  ZW D zc30 2 3 rfl rfl fun f cdv A outer s H E hr=>(Ze (ZI (ZF Zse (Zq (Zv ⟨g.k_End,g.zn10⟩) (Zb 0)) ZaP) (Zj (Zw (Zi zd31 hr (by decide) (Za (Zb 0) Zf)))) ZA)
  (Ze (ZI (MW.mt (ZeL (ZF (z7 hr.units) (Zq (Zv ⟨g.k_End,g.zn16⟩) (Zb 0)) (ZB g.zc39)) (ZbT (ZF Zsg (Zu Zdt (Zb 1) (Zq (Zv ⟨g.k_End,g.zn15⟩) (Zb 0))) (Zm g.zc15))))) (Zj (Zy (Zv ⟨g.k_End,g.zn16⟩) (Zb 0) (ZB g.zc2))) ZA)
  (Ze (ZI (ZF ZlC (Zq (Zv ⟨g.k_End,g.zn16⟩) (Zb 0)) (Z3 (Za (ZB g.zc2) (Za (ZB g.zc17) Zf))) (by with_unfolding_all rfl)) (Zj (Zw ZaP)) ZA)
  (Ze (ZI (MW.mt (ZeL (ZF (ZeK hr.units) (Zq (Zv ⟨g.k_End,g.zn8⟩) (Zb 0)) (Zq (Zv ⟨g.k_End,g.zn21⟩) (Zb 0))) (ZbT (ZG (Zi zd32 hr (by decide) (Za (Zb 0) (Za (Zb 1) Zf))))))) (Zj (Zw (Zi zd33 hr (by decide) (Za (Zb 0) (Za (Zb 1) Zf))))) ZA)
  (Ze (ZE 2 zc30.nd (Zi zd37 hr (by decide) (Za (Zb 0) (Za (Zb 1) Zf))))
  (Ze (ZI (ZF Zsf (Zb 2) ZaP) (Zj (ZE 2 zc30.nd (Zi zd46 hr (by decide) (Za (Zb 0) (Za (Zb 1) Zf))))) ZA)
  (Ze (ZI (ZF Zsf (Zb 2) ZaP) (Zj (ZE 2 zc30.nd (Zi zd47 hr (by decide) (Za (Zb 0) Zf)))) ZA)
  (Zj (Zw (Zb 2))))))))))
theorem Zx2 (D:Zl K mg "send" ZkU Zpf) (g:Glb K mg) (zd30:Zo P w K mg base 7 "going" Zd8) (zd17:Zo P w K mg base 4 "put" Zly):Zo P w K mg base 8 "send" ZcM:=
  ZW D zc29 2 3 rfl rfl fun f cdv A outer s H E hr=>(Ze (ZE 2 zc29.nd (Zi zd30 hr (by decide) (Za (Zb 0) (Za (Zb 1) Zf))))
  (Zj (Zw (ZcP (ZF Zsf (Zb 2) ZaP) (zX Zf) (Zi zd17 hr (by decide) (Za (Zb 2) Zf))))))
theorem ZxJ (D:Zl K mg "reset_for" ZkB ZoW) (g:Glb K mg) (zd16:Zo P w K mg base 2 "bears" Z8) (zd14:Zo P w K mg base 2 "length" ZcA) (zd4:Zo P w K mg base 1 "plus" zq):Zo P w K mg base 3 "reset_for" ZbW:=
  ZW D zc48 1 2 rfl rfl fun f cdv A outer s H E hr=>(Ze (ZE 1 zc48.nd (Z3 (Za (ZC ZD (Zb 0) (Zm g.zc9)) (Za (ZC ZD (Zb 0) (Zm g.zc34)) Zf))))
  (Ze (ZI (ZG (Zi zd16 hr (by decide) (Za (Zb 0) (Za (Zm g.zc0) Zf)))) (Zj (Zw (Zu ZL (Zb 1) (Z3 (Za (ZC ZD (Zb 0) (Zm g.zc1)) (Za Zh (Za (Zm g.zc32) (Za Zh (Za Zh (Za (Z3 Zf) Zf)))))))))) ZA)
  (Zj (Zw (Zu ZL (Zb 1) (Z3 (Za Zh (Za (Zi zd4 hr (by decide) (Za (ZC ZD (Zb 0) (Zm g.zc24)) (Za (Zi zd14 hr (by decide) (Za (Zb 0) Zf)) Zf))) (Za (Zu ZL (Zm g.zc32) (Zm g.zc0)) (Za Zh (Za Zh (Za (Z3 Zf) Zf))))))))))))
theorem ZxI (D:Zl K mg "owe_reset_for" ZkA ZoV) (g:Glb K mg) (zd16:Zo P w K mg base 2 "bears" Z8) (zd48:Zo P w K mg base 3 "reset_for" ZbW):Zo P w K mg base 4 "owe_reset_for" Z0:=
  ZW D ZyN 2 2 rfl rfl fun f cdv A outer s H E hr=>(Zj (ZI (Zbp (ZG (Zi zd16 hr (by decide) (Za (Zb 1) (Za (Zm g.zc32) Zf))))) (Zj (Zy (Zv ⟨g.k_End,g.zn10⟩) (Zb 0) (Zi zd48 hr (by decide) (Za (Zb 1) Zf)))) ZA))
theorem ZxH (D:Zl K mg "come_to_closed" Zkz ZoU) (g:Glb K mg) (zd49:Zo P w K mg base 4 "owe_reset_for" Z0):Zo P w K mg base 5 "come_to_closed" ZaO:=
  ZW D ZyM 2 2 rfl rfl fun f cdv A outer s H E hr=>(Zj (ZP (Zi zd49 hr (by decide) (Za (Zb 0) (Za (Zb 1) Zf)))))
theorem ZxF (D:Zl K mg "hear_syn" Zkx ZoS) (g:Glb K mg) (zd16:Zo P w K mg base 2 "bears" Z8) (zd4:Zo P w K mg base 1 "plus" zq):Zo P w K mg base 3 "hear_syn" ZbQ:=
  ZW D ZyK 2 2 rfl rfl fun f cdv A outer s H E hr=>(Ze (Zy (Zv ⟨g.k_End,g.zn14⟩) (Zb 0) (Zi zd4 hr (by decide) (Za (ZC ZD (Zb 1) (Zm g.zc24)) (Za Zh Zf))))
  (Ze (Zy (Zv ⟨g.k_End,g.zn23⟩) (Zb 0) (ZC ZD (Zb 1) (Zm g.zc42)))
  (Ze (Zy (Zv ⟨g.k_End,g.zn18⟩) (Zb 0) (ZC ZD (Zb 1) (Zm g.zc24)))
  (Ze (Zy (Zv ⟨g.k_End,g.zn19⟩) (Zb 0) (ZcP (ZG (Zi zd16 hr (by decide) (Za (Zb 1) (Za (Zm g.zc0) Zf)))) (ZC ZD (Zb 1) (Zm g.zc1)) Zh))
  (Zj (ZI (ZF (ZeK hr.units) (ZC ZD (Zb 1) (Zm g.zc20)) Zh) (Zj (Zy (Zv ⟨g.k_End,g.zn7⟩) (Zb 0) (ZC ZD (Zb 1) (Zm g.zc20)))) ZA))))))
theorem ZxG (D:Zl K mg "come_to_listen" Zky ZoT) (g:Glb K mg) (zd16:Zo P w K mg base 2 "bears" Z8) (zd52:Zo P w K mg base 3 "hear_syn" ZbQ) (zd49:Zo P w K mg base 4 "owe_reset_for" Z0):Zo P w K mg base 5 "come_to_listen" zx:=
  ZW D ZyL 2 2 rfl rfl fun f cdv A outer s H E hr=>(Ze (ZI (ZG (Zi zd16 hr (by decide) (Za (Zb 1) (Za (Zm g.zc32) Zf)))) (Zj Zeb) ZA)
  (Zj (ZI (ZG (Zi zd16 hr (by decide) (Za (Zb 1) (Za (Zm g.zc0) Zf)))) (Zj (ZP (Zi zd49 hr (by decide) (Za (Zb 0) (Za (Zb 1) Zf))))) (Zj (ZI (ZG (Zi zd16 hr (by decide) (Za (Zb 1) (Za (Zm g.zc35) Zf)))) (Ze (Zy (Zv ⟨g.k_End,g.zn17⟩) (Zb 0) (ZC ZD (Zb 1) (Zm g.zc34)))
      (Ze (ZP (Zi zd52 hr (by decide) (Za (Zb 0) (Za (Zb 1) Zf))))
      (Zj (Zy (Zv ⟨g.k_End,g.zn16⟩) (Zb 0) (ZB g.zc36))))) ZA)))))
theorem ZxD (D:Zl K mg "answers_syn" Zkv ZoQ) (g:Glb K mg) (zd4:Zo P w K mg base 1 "plus" zq):Zo P w K mg base 2 "answers_syn" ZbK:=
  ZW D ZyI 2 2 rfl rfl fun f cdv A outer s H E hr=>(Zj (Zw (ZbU (zD (ZeK hr.units) (Zq (Zv ⟨g.k_End,g.zn8⟩) (Zb 0)) (Zq (Zv ⟨g.k_End,g.zn5⟩) (Zb 0))) (ZcO (zD (z7 hr.units) (ZC ZD (Zb 1) (Zm g.zc1)) (Zi zd4 hr (by decide) (Za (Zq (Zv ⟨g.k_End,g.zn5⟩) (Zb 0)) (Za Zh Zf))))))))
theorem ZxB (D:Zl K mg "go_on_from_syn_sent" Zkt ZoO) (g:Glb K mg) (zd16:Zo P w K mg base 2 "bears" Z8) (zd8:Zo P w K mg base 1 "start_timer" ze):Zo P w K mg base 3 "go_on_from_syn_sent" zK:=
  ZW D ZyG 3 3 rfl rfl fun f cdv A outer s H E hr=>(Zj (ZI (ZG (Zi zd16 hr (by decide) (Za (Zb 1) (Za (Zm g.zc0) Zf)))) (Ze (Zy (Zv ⟨g.k_End,g.zn21⟩) (Zb 0) (ZC ZD (Zb 1) (Zm g.zc1)))
    (Ze (Zy (Zv ⟨g.k_End,g.zn16⟩) (Zb 0) (ZB g.zc25))
    (Zj (Zy (Zv ⟨g.k_End,g.zn11⟩) (Zb 0) zP)))) (Ze (Zy (Zv ⟨g.k_End,g.zn16⟩) (Zb 0) (ZB g.zc36))
    (Ze (ZP (Zi zd8 hr (by decide) (Za (Zb 0) (Za (Zb 2) Zf))))
    (Zj (Zy (Zv ⟨g.k_End,g.zn12⟩) (Zb 0) zP))))))
theorem ZxC (D:Zl K mg "refuse" Zku ZoP) (g:Glb K mg) (zd16:Zo P w K mg base 2 "bears" Z8):Zo P w K mg base 3 "refuse" ZeG:=
  ZW D ZyH 2 2 rfl rfl fun f cdv A outer s H E hr=>(Zj (ZI (ZG (Zi zd16 hr (by decide) (Za (Zb 1) (Za (Zm g.zc0) Zf)))) (Ze (Zy (Zv ⟨g.k_End,g.zn16⟩) (Zb 0) (ZB g.zc2))
    (Zj (Zy (Zv ⟨g.k_End,g.zn4⟩) (Zb 0) (ZB g.zc27)))) ZA))
theorem ZxE (D:Zl K mg "come_to_syn_sent" Zkw ZoR) (g:Glb K mg) (zd54:Zo P w K mg base 2 "answers_syn" ZbK) (zd16:Zo P w K mg base 2 "bears" Z8) (zd56:Zo P w K mg base 3 "go_on_from_syn_sent" zK) (zd52:Zo P w K mg base 3 "hear_syn" ZbQ) (zd49:Zo P w K mg base 4 "owe_reset_for" Z0) (zd55:Zo P w K mg base 3 "refuse" ZeG):Zo P w K mg base 5 "come_to_syn_sent" ZV:=
  ZW D ZyJ 3 3 rfl rfl fun f cdv A outer s H E hr=>(Zj (ZI (MW.mt (ZeL (ZG (Zi zd16 hr (by decide) (Za (Zb 1) (Za (Zm g.zc0) Zf)))) (ZbT (Zbp (ZG (Zi zd54 hr (by decide) (Za (Zb 0) (Za (Zb 1) Zf)))))))) (Zj (ZP (Zi zd49 hr (by decide) (Za (Zb 0) (Za (Zb 1) Zf))))) (Zj (ZI (ZG (Zi zd16 hr (by decide) (Za (Zb 1) (Za (Zm g.zc32) Zf)))) (Zj (ZP (Zi zd55 hr (by decide) (Za (Zb 0) (Za (Zb 1) Zf))))) (Zj (ZI (ZG (Zi zd16 hr (by decide) (Za (Zb 1) (Za (Zm g.zc35) Zf)))) (Ze (ZP (Zi zd52 hr (by decide) (Za (Zb 0) (Za (Zb 1) Zf))))
        (Zj (ZP (Zi zd56 hr (by decide) (Za (Zb 0) (Za (Zb 1) (Za (Zb 2) Zf))))))) ZA))))))
theorem Zxw (D:Zl K mg "is_in_window" Zko ZoJ) (g:Glb K mg) (zd5:Zo P w K mg base 1 "offset" zC) (zd10:Zo P w K mg base 2 "our_window" Za5):Zo P w K mg base 3 "is_in_window" zo:=
  ZW D ZyD 2 2 rfl rfl fun f cdv A outer s H E hr=>(Zj (Zw (Zf2 ZhL Zsd Zh (Zi zd5 hr (by decide) (Za (Zb 1) (Za (Zq (Zv ⟨g.k_End,g.zn14⟩) (Zb 0)) Zf))) (Zi zd10 hr (by decide) (Za (Zb 0) Zf)))))
theorem Zxx (D:Zl K mg "fits" Zkp ZoK) (g:Glb K mg) (zd61:Zo P w K mg base 3 "is_in_window" zo) (zd14:Zo P w K mg base 2 "length" ZcA) (zd5:Zo P w K mg base 1 "offset" zC) (zd4:Zo P w K mg base 1 "plus" zq):Zo P w K mg base 4 "fits" Zgv:=
  ZW D zc60 2 4 rfl rfl fun f cdv A outer s H E hr=>(Ze (ZE 2 zc60.nd (Zi zd14 hr (by decide) (Za (Zb 1) Zf)))
  (Ze (ZI (ZF (z7 hr.units) (Zb 2) Zh) (Zj (Zw (Zf2 ZhL ZhL Zh (Zi zd5 hr (by decide) (Za (ZC ZD (Zb 1) (Zm g.zc24)) (Za (Zq (Zv ⟨g.k_End,g.zn14⟩) (Zb 0)) Zf))) (Zm g.zc30)))) ZA)
  (Ze (ZE 3 zc60.nd (Zi zd4 hr (by decide) (Za (ZC ZD (Zb 1) (Zm g.zc24)) (Za (Zu Zdt (Zb 2) Zh) Zf))))
  (Zj (Zw (ZlI (Zi zd61 hr (by decide) (Za (Zb 0) (Za (ZC ZD (Zb 1) (Zm g.zc24)) Zf))) (ZcO (Zi zd61 hr (by decide) (Za (Zb 0) (Za (Zb 3) Zf))))))))))
theorem Zxo (D:Zl K mg "end_what_is_acknowledged" Zkg ZoB) (g:Glb K mg) (zd11:Zo P w K mg base 3 "has_sent_fin" Zbn):Zo P w K mg base 4 "end_what_is_acknowledged" ZU:=
  ZW D Zyw 2 2 rfl rfl fun f cdv A outer s H E hr=>(Ze (ZI (MW.mt (ZcB (Zbp (ZG (Zi zd11 hr (by decide) (Za (Zb 0) Zf)))) (z9 (ZF (ZeK hr.units) (Zq (Zv ⟨g.k_End,g.zn21⟩) (Zb 0)) (Zq (Zv ⟨g.k_End,g.zn8⟩) (Zb 0)))))) (Zj Zeb) ZA)
  (Zj (ZI (ZF (z7 hr.units) (Zq (Zv ⟨g.k_End,g.zn16⟩) (Zb 0)) (ZB g.zc40)) (Zj (Zy (Zv ⟨g.k_End,g.zn16⟩) (Zb 0) (ZB g.zc41))) (Zj (ZI (ZF (z7 hr.units) (Zq (Zv ⟨g.k_End,g.zn16⟩) (Zb 0)) (ZB g.zc4)) (Ze (Zy (Zv ⟨g.k_End,g.zn16⟩) (Zb 0) (ZB g.zc39))
      (Zj (Zy (Zv ⟨g.k_End,g.zn15⟩) (Zb 0) (Zb 1)))) (Zj (ZI (ZF (z7 hr.units) (Zq (Zv ⟨g.k_End,g.zn16⟩) (Zb 0)) (ZB g.zc14)) (Zj (Zy (Zv ⟨g.k_End,g.zn16⟩) (Zb 0) (ZB g.zc2))) ZA)))))))
theorem Zxr (D:Zl K mg "take_window" Zkj ZoE) (g:Glb K mg) :Zo P w K mg base 1 "take_window" ZaK:=
  ZW D Zyy 2 2 rfl rfl fun f cdv A outer s H E hr=>(Ze (Zy (Zv ⟨g.k_End,g.zn23⟩) (Zb 0) (ZC ZD (Zb 1) (Zm g.zc42)))
  (Ze (Zy (Zv ⟨g.k_End,g.zn18⟩) (Zb 0) (ZC ZD (Zb 1) (Zm g.zc24)))
  (Zj (Zy (Zv ⟨g.k_End,g.zn19⟩) (Zb 0) (ZC ZD (Zb 1) (Zm g.zc1))))))
theorem Zxs (D:Zl K mg "has_answered_syn" Zkk ZoF) (g:Glb K mg) (zd49:Zo P w K mg base 4 "owe_reset_for" Z0) (zd66:Zo P w K mg base 1 "take_window" ZaK):Zo P w K mg base 5 "has_answered_syn" zr:=
  ZW D Zyz 2 2 rfl rfl fun f cdv A outer s H E hr=>(Ze (ZI (MW.mt (ZcB (ZF (z7 hr.units) (Zq (Zv ⟨g.k_End,g.zn8⟩) (Zb 0)) (Zq (Zv ⟨g.k_End,g.zn5⟩) (Zb 0))) (z9 (ZF (ZeK hr.units) (ZC ZD (Zb 1) (Zm g.zc1)) (Zq (Zv ⟨g.k_End,g.zn8⟩) (Zb 0)))))) (Ze (ZP (Zi zd49 hr (by decide) (Za (Zb 0) (Za (Zb 1) Zf))))
    (Zj (Zw zP))) ZA)
  (Ze (Zy (Zv ⟨g.k_End,g.zn21⟩) (Zb 0) (ZC ZD (Zb 1) (Zm g.zc1)))
  (Ze (Zy (Zv ⟨g.k_End,g.zn16⟩) (Zb 0) (ZcP (ZG (Zq (Zv ⟨g.k_End,g.zn6⟩) (Zb 0))) (ZB g.zc40) (ZB g.zc25)))
  (Ze (ZP (Zi zd66 hr (by decide) (Za (Zb 0) (Za (Zb 1) Zf))))
  (Zj (Zw zP))))))
theorem Zxp (D:Zl K mg "is_newer" Zkh ZoC) (g:Glb K mg) (zd6:Zo P w K mg base 2 "past" Zcl):Zo P w K mg base 3 "is_newer" Zdf:=
  ZW D Zyx 2 2 rfl rfl fun f cdv A outer s H E hr=>(Ze (ZI (ZF (z7 hr.units) (ZC ZD (Zb 1) (Zm g.zc24)) (Zq (Zv ⟨g.k_End,g.zn18⟩) (Zb 0))) (Zj (Zw (Zmq (Zi zd6 hr (by decide) (Za (Zq (Zv ⟨g.k_End,g.zn19⟩) (Zb 0)) (Za (ZC ZD (Zb 1) (Zm g.zc1)) Zf)))))) ZA)
  (Zj (Zw (Zi zd6 hr (by decide) (Za (ZC ZD (Zb 1) (Zm g.zc24)) (Za (Zq (Zv ⟨g.k_End,g.zn18⟩) (Zb 0)) Zf))))))
theorem Zxq (D:Zl K mg "hear_answer" Zki ZoD) (g:Glb K mg) (zd68:Zo P w K mg base 3 "is_newer" Zdf) (zd5:Zo P w K mg base 1 "offset" zC) (zd6:Zo P w K mg base 2 "past" Zcl) (zd8:Zo P w K mg base 1 "start_timer" ze) (zd3:Zo P w K mg base 1 "take" ZfB) (zd66:Zo P w K mg base 1 "take_window" ZaK):Zo P w K mg base 4 "hear_answer" zQ:=
  ZW D zc67 3 6 rfl rfl fun f cdv A outer s H E hr=>(Ze (ZE 3 zc67.nd (ZC ZD (Zb 1) (Zm g.zc1)))
  (Ze (ZE 4 zc67.nd (Zi zd6 hr (by decide) (Za (Zb 3) (Za (Zq (Zv ⟨g.k_End,g.zn21⟩) (Zb 0)) Zf))))
  (Ze (ZI (ZG (Zb 4)) (Ze (ZP (Zi zd3 hr (by decide) (Za (Zq (Zv ⟨g.k_End,g.zn24⟩) (Zb 0)) (Za (Zi zd5 hr (by decide) (Za (Zb 3) (Za (Zq (Zv ⟨g.k_End,g.zn21⟩) (Zb 0)) Zf))) Zf))))
    (Ze (Zy (Zv ⟨g.k_End,g.zn21⟩) (Zb 0) (Zb 3))
    (Zj (ZI (ZF (ZeK hr.units) (Zq (Zv ⟨g.k_End,g.zn21⟩) (Zb 0)) (Zq (Zv ⟨g.k_End,g.zn8⟩) (Zb 0))) (Zj (ZP (Zi zd8 hr (by decide) (Za (Zb 0) (Za (Zb 2) Zf))))) ZA)))) ZA)
  (Ze (ZI (ZG (Zi zd6 hr (by decide) (Za (Zq (Zv ⟨g.k_End,g.zn21⟩) (Zb 0)) (Za (Zb 3) Zf)))) (Zj Zeb) ZA)
  (Ze (ZE 5 zc67.nd (zD (z7 hr.units) (Zq (Zv ⟨g.k_End,g.zn23⟩) (Zb 0)) Zh))
  (Ze (ZI (MW.mt (ZcB (ZG (Zb 4)) (z9 (ZG (Zi zd68 hr (by decide) (Za (Zb 0) (Za (Zb 1) Zf))))))) (Zj (ZP (Zi zd66 hr (by decide) (Za (Zb 0) (Za (Zb 1) Zf))))) ZA)
  (Zj (ZI (MW.mt (ZcB (ZG (Zb 5)) (z9 (ZF (z7 hr.units) (Zq (Zv ⟨g.k_End,g.zn23⟩) (Zb 0)) Zh)))) (Zj (Zy (Zv ⟨g.k_End,g.zn20⟩) (Zb 0) Zh)) ZA))))))))
theorem Zxt (D:Zl K mg "goes_on_behind_answer" Zkl ZoG) (g:Glb K mg) (zd69:Zo P w K mg base 4 "end_what_is_acknowledged" ZU) (zd65:Zo P w K mg base 5 "has_answered_syn" zr) (zd67:Zo P w K mg base 4 "hear_answer" zQ) (zd6:Zo P w K mg base 2 "past" Zcl):Zo P w K mg base 6 "goes_on_behind_answer" Z2:=
  ZW D ZyA 3 3 rfl rfl fun f cdv A outer s H E hr=>(Ze (ZI (ZF (z7 hr.units) (Zq (Zv ⟨g.k_End,g.zn16⟩) (Zb 0)) (ZB g.zc36)) (Zj (Zw (Zi zd65 hr (by decide) (Za (Zb 0) (Za (Zb 1) Zf))))) ZA)
  (Ze (ZI (ZG (Zi zd6 hr (by decide) (Za (ZC ZD (Zb 1) (Zm g.zc1)) (Za (Zq (Zv ⟨g.k_End,g.zn8⟩) (Zb 0)) Zf)))) (Ze (Zy (Zv ⟨g.k_End,g.zn11⟩) (Zb 0) zP)
    (Zj (Zw zP))) ZA)
  (Ze (ZP (Zi zd67 hr (by decide) (Za (Zb 0) (Za (Zb 1) (Za (Zb 2) Zf)))))
  (Ze (ZP (Zi zd69 hr (by decide) (Za (Zb 0) (Za (Zb 2) Zf))))
  (Zj (Zw (zD (ZeK hr.units) (Zq (Zv ⟨g.k_End,g.zn16⟩) (Zb 0)) (ZB g.zc2))))))))
theorem Zxu (D:Zl K mg "hear_reset" Zkm ZoH) (g:Glb K mg) :Zo P w K mg base 1 "hear_reset" Zbt:=
  ZW D ZyB 2 2 rfl rfl fun f cdv A outer s H E hr=>(Ze (ZI (ZF (z7 hr.units) (Zq (Zv ⟨g.k_End,g.zn16⟩) (Zb 0)) (ZB g.zc39)) (Zj Zeb) ZA)
  (Zj (ZI (ZF (z7 hr.units) (ZC ZD (Zb 1) (Zm g.zc24)) (Zq (Zv ⟨g.k_End,g.zn14⟩) (Zb 0))) (Ze (Zy (Zv ⟨g.k_End,g.zn16⟩) (Zb 0) (ZB g.zc2))
    (Zj (Zy (Zv ⟨g.k_End,g.zn4⟩) (Zb 0) (ZB g.zc28)))) (Zj (Zy (Zv ⟨g.k_End,g.zn11⟩) (Zb 0) zP)))))
theorem Zxk (D:Zl K mg "draw_in_order" Zkc Zox) (g:Glb K mg) (zd2:Zo P w K mg base 2 "lay" ZfX) (zd4:Zo P w K mg base 1 "plus" zq):Zo P w K mg base 3 "draw_in_order" Za9:=
  ZW D zc73 1 2 rfl rfl fun f cdv A outer s H E hr=>(Ze (ZiW 1 zc73.nd Zf)
  (Ze (ZhQ 200 PassesOwn.never (MW.mt (ZeL (ZF (ZeK hr.units) (Zq (Zv ⟨g.k_End,g.zn14⟩) (Zb 0)) (Zq (Zv ⟨g.k_End,g.zn3⟩) (Zb 0))) (ZbT (Zut hr (Zq (Zv ⟨g.k_End,g.zn14⟩) (Zb 0)) (Zq (Zv ⟨g.k_End,g.zn2⟩) (Zb 0)))))) (Ze (ZiX 1 (Zne (Zq (Zv ⟨g.k_End,g.zn2⟩) (Zb 0)) (Zq (Zv ⟨g.k_End,g.zn14⟩) (Zb 0)) ⟨rfl,rfl,rfl,rfl⟩) (hpe:=fun h=>Zs8 PySem.F.plainAttrs_list PySem.F.slot_list_append PySem.F.type_list_append ZiV h (Zjs (Zne (Zq (Zv ⟨g.k_End,g.zn2⟩) (Zb 0)) (Zq (Zv ⟨g.k_End,g.zn14⟩) (Zb 0)) ⟨rfl,rfl,rfl,rfl⟩) Zmn)))
    (Zj (Zy (Zv ⟨g.k_End,g.zn14⟩) (Zb 0) (Zi zd4 hr (by decide) (Za (Zq (Zv ⟨g.k_End,g.zn14⟩) (Zb 0)) (Za Zh Zf)))))))
  (Zj (Zgx 1 (ZP (Zi zd2 hr (by decide) (Za (Zq (Zv ⟨g.k_End,g.zn1⟩) (Zb 0)) (Za (Zb 1) Zf))))))))
theorem Zxj (D:Zl K mg "hear_fin" Zkb Zow) (g:Glb K mg) (zd4:Zo P w K mg base 1 "plus" zq):Zo P w K mg base 2 "hear_fin" Zco:=
  ZW D Zyu 2 2 rfl rfl fun f cdv A outer s H E hr=>(Ze (Zy (Zv ⟨g.k_End,g.zn14⟩) (Zb 0) (Zi zd4 hr (by decide) (Za (Zq (Zv ⟨g.k_End,g.zn14⟩) (Zb 0)) (Za Zh Zf))))
  (Zj (ZI (ZF (z7 hr.units) (Zq (Zv ⟨g.k_End,g.zn16⟩) (Zb 0)) (ZB g.zc25)) (Zj (Zy (Zv ⟨g.k_End,g.zn16⟩) (Zb 0) (ZB g.zc3))) (Zj (ZI (ZF (z7 hr.units) (Zq (Zv ⟨g.k_End,g.zn16⟩) (Zb 0)) (ZB g.zc40)) (Zj (Zy (Zv ⟨g.k_End,g.zn16⟩) (Zb 0) (ZB g.zc4))) (Ze (Zy (Zv ⟨g.k_End,g.zn16⟩) (Zb 0) (ZB g.zc39))
      (Zj (Zy (Zv ⟨g.k_End,g.zn15⟩) (Zb 0) (Zb 1)))))))))
theorem Zxm (D:Zl K mg "keep_data" Zke Zoz) (g:Glb K mg) (zd61:Zo P w K mg base 3 "is_in_window" zo) (zd4:Zo P w K mg base 1 "plus" zq):Zo P w K mg base 4 "keep_data" ZbX:=
  ZW D zc71 2 5 rfl rfl fun f cdv A outer s H E hr=>(Ze (Zsk 2 3 zc71.nd PassesOwn.never g.b_enumerate (Za (ZC ZD (Zb 1) (Zm g.zc5)) Zf) (Ze (ZE 4 zc71.nd (Zi zd4 hr (by decide) (Za (ZC ZD (Zb 1) (Zm g.zc24)) (Za (Zb 2) Zf))))
    (Zj (ZI (ZG (Zi zd61 hr (by decide) (Za (Zb 0) (Za (Zb 4) Zf)))) (Zj (ZP (Zqw (Zq (Zv ⟨g.k_End,g.zn2⟩) (Zb 0)) (Zb 4) (Zb 3) ⟨rfl,rfl,rfl,rfl⟩))) ZA))))
  (Zj (ZI (ZF ZhM (Z4 Zdk g.b_len PySem.boot_len (Za (ZC ZD (Zb 1) (Zm g.zc5)) Zf)) Zh) (Zj (Zy (Zv ⟨g.k_End,g.zn11⟩) (Zb 0) zP)) ZA)))
theorem Zxl (D:Zl K mg "keep_fin" Zkd Zoy) (g:Glb K mg) (zd16:Zo P w K mg base 2 "bears" Z8) (zd61:Zo P w K mg base 3 "is_in_window" zo) (zd4:Zo P w K mg base 1 "plus" zq):Zo P w K mg base 4 "keep_fin" Zcn:=
  ZW D zc72 2 3 rfl rfl fun f cdv A outer s H E hr=>(Ze (ZI (Zbp (ZG (Zi zd16 hr (by decide) (Za (Zb 1) (Za (Zm g.zc6) Zf))))) (Zj Zeb) ZA)
  (Ze (Zy (Zv ⟨g.k_End,g.zn11⟩) (Zb 0) zP)
  (Ze (ZE 2 zc72.nd (Zi zd4 hr (by decide) (Za (ZC ZD (Zb 1) (Zm g.zc24)) (Za (Z4 Zdk g.b_len PySem.boot_len (Za (ZC ZD (Zb 1) (Zm g.zc5)) Zf)) Zf))))
  (Zj (ZI (MW.mt (ZeL (ZF Zsf (Zq (Zv ⟨g.k_End,g.zn3⟩) (Zb 0)) ZaP) (ZbT (ZG (Zi zd61 hr (by decide) (Za (Zb 0) (Za (Zb 2) Zf))))))) (Zj (Zy (Zv ⟨g.k_End,g.zn3⟩) (Zb 0) (Zb 2))) ZA)))))
theorem Zxn (D:Zl K mg "hear_stream" Zkf ZoA) (g:Glb K mg) (zd73:Zo P w K mg base 3 "draw_in_order" Za9) (zd74:Zo P w K mg base 2 "hear_fin" Zco) (zd71:Zo P w K mg base 4 "keep_data" ZbX) (zd72:Zo P w K mg base 4 "keep_fin" Zcn):Zo P w K mg base 5 "hear_stream" ZaL:=
  ZW D Zyv 3 3 rfl rfl fun f cdv A outer s H E hr=>(Ze (ZI (ZF ZfZ (Zq (Zv ⟨g.k_End,g.zn16⟩) (Zb 0)) (Z3 (Za (ZB g.zc25) (Za (ZB g.zc40) (Za (ZB g.zc41) Zf)))) (by with_unfolding_all rfl)) (Zj Zeb) ZA)
  (Ze (ZP (Zi zd71 hr (by decide) (Za (Zb 0) (Za (Zb 1) Zf))))
  (Ze (ZP (Zi zd72 hr (by decide) (Za (Zb 0) (Za (Zb 1) Zf))))
  (Ze (ZP (Zi zd73 hr (by decide) (Za (Zb 0) Zf)))
  (Zj (ZI (ZF (z7 hr.units) (Zq (Zv ⟨g.k_End,g.zn14⟩) (Zb 0)) (Zq (Zv ⟨g.k_End,g.zn3⟩) (Zb 0))) (Zj (ZP (Zi zd74 hr (by decide) (Za (Zb 0) (Za (Zb 2) Zf))))) ZA))))))
theorem Zxv (D:Zl K mg "turn_away" Zkn ZoI) (g:Glb K mg) (zd16:Zo P w K mg base 2 "bears" Z8):Zo P w K mg base 3 "turn_away" Zbm:=
  ZW D ZyC 3 3 rfl rfl fun f cdv A outer s H E hr=>(Ze (ZI (ZG (Zi zd16 hr (by decide) (Za (Zb 1) (Za (Zm g.zc32) Zf)))) (Zj Zeb) ZA)
  (Ze (ZI (MW.mt (ZeL (ZF (z7 hr.units) (Zq (Zv ⟨g.k_End,g.zn16⟩) (Zb 0)) (ZB g.zc36)) (ZeL (ZG (Zi zd16 hr (by decide) (Za (Zb 1) (Za (Zm g.zc35) Zf)))) (ZbT (Zbp (ZG (Zi zd16 hr (by decide) (Za (Zb 1) (Za (Zm g.zc0) Zf))))))))) (Zj (Zy (Zv ⟨g.k_End,g.zn12⟩) (Zb 0) zP)) (Zj (Zy (Zv ⟨g.k_End,g.zn11⟩) (Zb 0) zP)))
  (Zj (ZI (ZF (z7 hr.units) (Zq (Zv ⟨g.k_End,g.zn16⟩) (Zb 0)) (ZB g.zc39)) (Zj (Zy (Zv ⟨g.k_End,g.zn15⟩) (Zb 0) (Zb 2))) ZA))))
theorem Zxy (D:Zl K mg "come_to_stream" Zkq ZoL) (g:Glb K mg) (zd16:Zo P w K mg base 2 "bears" Z8) (zd60:Zo P w K mg base 4 "fits" Zgv) (zd64:Zo P w K mg base 6 "goes_on_behind_answer" Z2) (zd63:Zo P w K mg base 1 "hear_reset" Zbt) (zd70:Zo P w K mg base 5 "hear_stream" ZaL) (zd62:Zo P w K mg base 3 "turn_away" Zbm):Zo P w K mg base 7 "come_to_stream" zh:=
  ZW D ZyE 3 3 rfl rfl fun f cdv A outer s H E hr=>(Zj (ZI (Zbp (ZG (Zi zd60 hr (by decide) (Za (Zb 0) (Za (Zb 1) Zf))))) (Zj (ZP (Zi zd62 hr (by decide) (Za (Zb 0) (Za (Zb 1) (Za (Zb 2) Zf)))))) (Zj (ZI (ZG (Zi zd16 hr (by decide) (Za (Zb 1) (Za (Zm g.zc32) Zf)))) (Zj (ZP (Zi zd63 hr (by decide) (Za (Zb 0) (Za (Zb 1) Zf))))) (Zj (ZI (ZG (Zi zd16 hr (by decide) (Za (Zb 1) (Za (Zm g.zc35) Zf)))) (Zj (Zy (Zv ⟨g.k_End,g.zn11⟩) (Zb 0) zP)) (Zj (ZI (MW.mt (ZeL (ZG (Zi zd16 hr (by decide) (Za (Zb 1) (Za (Zm g.zc0) Zf)))) (ZbT (ZG (Zi zd64 hr (by decide) (Za (Zb 0) (Za (Zb 1) (Za (Zb 2) Zf)))))))) (Zj (ZP (Zi zd70 hr (by decide) (Za (Zb 0) (Za (Zb 1) (Za (Zb 2) Zf)))))) ZA))))))))
theorem Zxz (D:Zl K mg "is_for" Zkr ZoM) (g:Glb K mg) :Zo P w K mg base 1 "is_for" ZeI:=
  ZW D ZyF 2 2 rfl rfl fun f cdv A outer s H E hr=>(Zj (Zw (ZbU (zD (z7 hr.units) (ZC ZD (Zb 1) (Zm g.zc9)) (Zq (Zv ⟨g.k_End,g.zn9⟩) (Zb 0))) (ZcO (ZlI (zD ZlC (Zq (Zv ⟨g.k_End,g.zn16⟩) (Zb 0)) (Z3 (Za (ZB g.zc2) (Za (ZB g.zc17) Zf))) (by with_unfolding_all rfl)) (ZcO (zD (z7 hr.units) (ZC ZD (Zb 1) (Zm g.zc34)) (Zq (Zv ⟨g.k_End,g.zn17⟩) (Zb 0)))))))))
theorem ZxA (D:Zl K mg "arrive" Zks ZoN) (g:Glb K mg) (zd50:Zo P w K mg base 5 "come_to_closed" ZaO) (zd51:Zo P w K mg base 5 "come_to_listen" zx) (zd59:Zo P w K mg base 7 "come_to_stream" zh) (zd53:Zo P w K mg base 5 "come_to_syn_sent" ZV) (zd26:Zo P w K mg base 4 "get" ZiR) (zd58:Zo P w K mg base 1 "is_for" ZeI) (zd23:Zo P w K mg base 3 "is_right" Zam):Zo P w K mg base 8 "arrive" zV:=
  ZW D zc57 3 4 rfl rfl fun f cdv A outer s H E hr=>(Ze (ZI (Zbp (ZG (Zi zd23 hr (by decide) (Za (Zb 1) Zf)))) (Zj (Zw zP)) ZA)
  (Ze (ZE 3 zc57.nd (Zi zd26 hr (by decide) (Za (Zb 1) Zf)))
  (Ze (ZI (Zbp (ZG (Zi zd58 hr (by decide) (Za (Zb 0) (Za (Zb 3) Zf))))) (Zj (Zw zP)) ZA)
  (Ze (ZI (ZF (z7 hr.units) (Zq (Zv ⟨g.k_End,g.zn16⟩) (Zb 0)) (ZB g.zc2)) (Zj (ZP (Zi zd50 hr (by decide) (Za (Zb 0) (Za (Zb 3) Zf))))) (Zj (ZI (ZF (z7 hr.units) (Zq (Zv ⟨g.k_End,g.zn16⟩) (Zb 0)) (ZB g.zc17)) (Zj (ZP (Zi zd51 hr (by decide) (Za (Zb 0) (Za (Zb 3) Zf))))) (Zj (ZI (ZF (z7 hr.units) (Zq (Zv ⟨g.k_End,g.zn16⟩) (Zb 0)) (ZB g.zc37)) (Zj (ZP (Zi zd53 hr (by decide) (Za (Zb 0) (Za (Zb 3) (Za (Zb 2) Zf)))))) (Zj (ZP (Zi zd59 hr (by decide) (Za (Zb 0) (Za (Zb 3) (Za (Zb 2) Zf)))))))))))
  (Zj (Zw zP))))))
theorem Zxi (D:Zl K mg "opened" Zka Zov) (g:Glb K mg) (zd7:MMk P w K mg base 3 "End" Zcp):Zo P w K mg base 5 "opened" ZeH:=
  ZW D Zyt 4 4 rfl rfl fun f cdv A outer s H E hr=>(Zj (Zw (Zsm zd7 hr (by decide) (Za (Zb 0) (Za (Zb 1) (Za (Zb 2) (Za (Zb 3) Zf)))))))
theorem Zxh (D:Zl K mg "write" Zj9 Zou) (g:Glb K mg) (zd2:Zo P w K mg base 2 "lay" ZfX) (zd4:Zo P w K mg base 1 "plus" zq):Zo P w K mg base 3 "write" Zd6:=
  ZW D zc76 2 3 rfl rfl fun f cdv A outer s H E hr=>(Ze (ZI (MW.mt (ZcB (ZG (Zq (Zv ⟨g.k_End,g.zn6⟩) (Zb 0))) (z9 (ZF ZfZ (Zq (Zv ⟨g.k_End,g.zn16⟩) (Zb 0)) (Z3 (Za (ZB g.zc37) (Za (ZB g.zc36) (Za (ZB g.zc25) (Za (ZB g.zc3) Zf))))) (by with_unfolding_all rfl))))) (Zj (Zw Zh)) ZA)
  (Ze (ZE 2 zc76.nd (Zi zd2 hr (by decide) (Za (Zq (Zv ⟨g.k_End,g.zn24⟩) (Zb 0)) (Za (Zb 1) Zf))))
  (Ze (Zy (Zv ⟨g.k_End,g.zn0⟩) (Zb 0) (Zi zd4 hr (by decide) (Za (Zq (Zv ⟨g.k_End,g.zn0⟩) (Zb 0)) (Za (Zb 2) Zf))))
  (Zj (Zw (Zb 2))))))
theorem Zxg (D:Zl K mg "close" Zj8 Zot) (g:Glb K mg) :Zo P w K mg base 1 "close" Zfa:=
  ZW D Zys 1 1 rfl rfl fun f cdv A outer s H E hr=>(Ze (ZI (ZG (Zq (Zv ⟨g.k_End,g.zn6⟩) (Zb 0))) (Zj (Zw zP)) ZA)
  (Ze (ZI (ZF ZlC (Zq (Zv ⟨g.k_End,g.zn16⟩) (Zb 0)) (Z3 (Za (ZB g.zc17) (Za (ZB g.zc37) Zf))) (by with_unfolding_all rfl)) (Ze (Zy (Zv ⟨g.k_End,g.zn16⟩) (Zb 0) (ZB g.zc2))
    (Zj (Zw zP))) ZA)
  (Ze (ZI (ZF ZfZ (Zq (Zv ⟨g.k_End,g.zn16⟩) (Zb 0)) (Z3 (Za (ZB g.zc36) (Za (ZB g.zc25) (Za (ZB g.zc3) Zf)))) (by with_unfolding_all rfl)) (Zj (Zw zP)) ZA)
  (Ze (Zy (Zv ⟨g.k_End,g.zn6⟩) (Zb 0) zP)
  (Ze (ZI (ZF (z7 hr.units) (Zq (Zv ⟨g.k_End,g.zn16⟩) (Zb 0)) (ZB g.zc25)) (Zj (Zy (Zv ⟨g.k_End,g.zn16⟩) (Zb 0) (ZB g.zc40))) (Zj (ZI (ZF (z7 hr.units) (Zq (Zv ⟨g.k_End,g.zn16⟩) (Zb 0)) (ZB g.zc3)) (Zj (Zy (Zv ⟨g.k_End,g.zn16⟩) (Zb 0) (ZB g.zc14))) ZA)))
  (Zj (Zw zP)))))))
theorem Zxf (D:Zl K mg "_law_cell" Zj7 Zos) (g:Glb K mg) :Zo P w K mg base 1 "_law_cell" ZgB:=
  ZW D Zyr 2 2 rfl rfl fun f cdv A outer s H E hr=>(Ze (ZI (ZG (Zb 0)) (Zj (Zw (ZC ZD (Zb 0) (Zu Zav (Zb 1) (Z4 Zdk g.b_len PySem.boot_len (Za (Zb 0) Zf)))))) ZA)
  (Zj (Zw Zh)))
theorem Zxe (D:Zl K mg "_law_mix" Zj6 Zor) (g:Glb K mg) (zd78:Zo P w K mg base 1 "_law_cell" ZgB):Zo P w K mg base 2 "_law_mix" ZbC:=
  ZW D zc79 2 3 rfl rfl fun f cdv A outer s H E hr=>(Ze (ZE 2 zc79.nd (Zu Zav (Zu ZL (Zi zd78 hr (by decide) (Za (Zb 0) (Za (Zb 1) Zf))) (Zu Zb5 Zh (Zu ZL (Zb 1) Zh))) Zh))
  (Ze (ZE 2 zc79.nd (Zu Zav (Zu Zb5 (Zb 2) Zh) Zh))
  (Zj (Zw (Zu Zav (Zu ZL (Zu Zb5 (Zu ZdQ (Zb 2) Zh) Zh) (Zb 2)) Zh)))))
theorem Zxd (D:Zl K mg "_law_two" Zj5 Zoq) (g:Glb K mg) :Zo P w K mg base 1 "_law_two" Zet:=
  ZW D Zyq 1 1 rfl rfl fun f cdv A outer s H E hr=>(Zj (Zw (zX (Za (Zu ZdQ (Zb 0) Zh) (Za (Zu Zav (Zb 0) Zh) Zf)))))
theorem Zxc (D:Zl K mg "_law_folded" Zj4 Zop) (g:Glb K mg) :Zo P w K mg base 1 "_law_folded" ZcE:=
  ZW D zc81 1 3 rfl rfl fun f cdv A outer s H E hr=>(Ze (ZE 1 zc81.nd Zh)
  (Ze (Zgy PassesOwn.never (Zc8 g.b_range (Za (Z4 Zdk g.b_len PySem.boot_len (Za (Zb 0) Zf)) Zf)) (Zfd 2 zc81.nd) (Zj (ZE 1 zc81.nd (Zu ZL (Zb 1) (Zu Zb5 (ZC ZD (Zb 0) (Zb 2)) (ZC ZD (zX (Za Zh (Za Zh Zf))) (Zu Zav (Zb 2) Zh)))))))
  (Ze (ZhQ 200 PassesOwn.never (ZF ZhM (Zb 1) Zh) (Zj (ZE 1 zc81.nd (Zu ZL (Zu Zav (Zb 1) Zh) (Zu ZdQ (Zb 1) Zh)))))
  (Zj (Zw (Zb 1))))))
theorem Zxb (D:Zl K mg "_law_bytes" Zj3 Zoo) (g:Glb K mg) (zd81:Zo P w K mg base 1 "_law_folded" ZcE) (zd80:Zo P w K mg base 1 "_law_two" Zet):Zo P w K mg base 2 "_law_bytes" Zb8:=
  ZW D zc82 1 3 rfl rfl fun f cdv A outer s H E hr=>(Ze (ZE 1 zc82.nd (Zu ZL (Zi zd80 hr (by decide) (Za (ZC ZD (Zb 0) Zh) Zf)) (Zi zd80 hr (by decide) (Za (ZC ZD (Zb 0) Zh) Zf))))
  (Ze (Zgy PassesOwn.never (Zmp (Zao (Zb 0) (zH Zh) (zH Zh))) (Zfd 2 zc82.nd) (Zj (ZE 1 zc82.nd (Zu ZL (Zu ZL (Zb 1) (Zi zd80 hr (by decide) (Za (Zu ZdQ (Zb 2) Zh) Zf))) (Zi zd80 hr (by decide) (Za (Zu Zav (Zb 2) Zh) Zf))))))
  (Ze (ZE 1 zc82.nd (Zu ZL (Zu ZL (Zu ZL (Zb 1) (zX (Za (ZC ZD (zX (Za Zh (Za Zh Zf))) (ZaQ Zrd g.b_int PyProof.Rows.boot_int (Za (zD ZhM (ZC ZD (Zb 0) Zh) Zh) Zf))) (Za (ZC ZD (Zb 0) Zh) Zf)))) (Zi zd80 hr (by decide) (Za (ZC ZD (Zb 0) Zh) Zf))) (zX (Za Zh (Za Zh (Za Zh (Za Zh Zf)))))))
  (Ze (ZI (ZF ZhM (ZC ZD (Zb 0) Zh) Zh) (Zj (ZE 1 zc82.nd (Zu ZL (Zu ZL (Zb 1) (zX (Za Zh (Za Zh Zf)))) (Zi zd80 hr (by decide) (Za (ZC ZD (Zb 0) Zh) Zf))))) ZA)
  (Ze (ZE 1 zc82.nd (Zu ZL (Zb 1) (ZaQ ZmG g.b_list PyProof.Rows.boot_list (Za (ZC ZD (Zb 0) Zh) Zf))))
  (Zj (Zw (Zu ZL (Zu ZL (Zao (Zb 1) Zbg (zH Zh)) (Zi zd80 hr (by decide) (Za (Zu Zdt Zh (Zi zd81 hr (by decide) (Za (Zb 1) Zf))) Zf))) (Zao (Zb 1) (zH Zh) Zbg)))))))))
theorem Zw9 (D:Zl K mg "_law_byte" Zj2 Zom) (g:Glb K mg) :Zo P w K mg base 1 "_law_byte" ZgC:=
  ZW D Zyp 1 1 rfl rfl fun f cdv A outer s H E hr=>(Zj (Zw (ZbU (Z4 ZmH g.b_isinstance PyProof.Rows.boot_isinstance (Za (Zb 0) (Za (Zqu g.b_int PyProof.Rows.boot_int) Zf))) (ZbU (Zmq (Z4 ZmH g.b_isinstance PyProof.Rows.boot_isinstance (Za (Zb 0) (Za (Zqu g.b_bool PyProof.Rows.boot_bool) Zf)))) (ZcO (Zf2 ZhL ZhL Zh (Zb 0) Zh))))))
theorem Zxa (D:Zl K mg "_law_read" Zit Zon) (g:Glb K mg) (zd84:Zo P w K mg base 1 "_law_byte" ZgC) (zd81:Zo P w K mg base 1 "_law_folded" ZcE):Zo P w K mg base 2 "_law_read" ZgA:=
  ZW D zc83 1 5 rfl rfl fun f cdv A outer s H E hr=>(Ze (ZI (MW.mt (ZcB (Zbp (ZG (Z4 ZmH g.b_isinstance PyProof.Rows.boot_isinstance (Za (Zb 0) (Za (Zqu g.b_list PyProof.Rows.boot_list) Zf))))) (z9 (ZF Zsd (Z4 Zdk g.b_len PySem.boot_len (Za (Zb 0) Zf)) Zh)))) (Zj (Zw ZaP)) ZA)
  (Ze (ZI (Zbp (ZG (Z4 Zws g.b_all PyProof.Rows.boot_all (Za (Zv9 (show ZbB _ (Zg Zit) "_law_byte_here" ["_law_row","_law_head","_law_most","_law_words","_law_found"] ["_law_byte_here"] [] from ⟨rfl,by decide +kernel,by decide +kernel,by decide +kernel,by decide +kernel,by decide +kernel,rfl,by decide,by decide +kernel⟩) rfl rfl (Zmp (Zb 0)) (fun _ _ _ _ _=>(Zi zd84 hr (by decide) (Za (Zb 0) Zf)))) Zf)))) (Zj (Zw ZaP)) ZA)
  (Ze (ZE 1 zc83.nd (Zu ZdQ (ZC ZD (Zb 0) Zh) Zh))
  (Ze (ZI (MW.mt (ZcB (ZF ZfZ (ZC ZD (Zb 0) Zh) (Z3 (Za Zh (Za Zh Zf))) (by with_unfolding_all rfl)) (ZcB (ZF ZhM (ZC ZD (Zb 0) Zh) Zh) (z9 (ZF ZhM (Zu ZL (ZC ZD (Zb 0) Zh) (ZC ZD (Zb 0) Zh)) Zh))))) (Zj (Zw ZaP)) ZA)
  (Ze (ZI (MW.mt (ZcB (Zbp (Zqr ZhL ZhL (Zb 1) (Z4 Zdk g.b_len PySem.boot_len (Za (Zb 0) Zf)) (Zu ZL (Zb 1) Zh))) (z9 (ZF (ZeK hr.units) (Zi zd81 hr (by decide) (Za (Zb 0) Zf)) Zh)))) (Zj (Zw ZaP)) ZA)
  (Ze (ZE 2 zc83.nd Zh)
  (Ze (ZI (ZF (z7 hr.units) (Zb 1) Zh) (Ze (ZE 2 zc83.nd (Zu ZL (Zu Zb5 (ZC ZD (Zb 0) Zh) Zh) (ZC ZD (Zb 0) Zh)))
    (Zj (ZI (MW.mt (ZcB (ZF (z7 hr.units) (Zu Zav (Zu ZdQ (ZC ZD (Zb 0) Zh) Zh) Zh) Zh) (ZcB (ZF (ZeK hr.units) (Zao (Zb 0) (zH Zh) (zH Zh)) (zX (Za Zh (Za Zh Zf)))) (z9 (ZF Zsd (Zb 2) Zh))))) (Zj (Zw ZaP)) ZA))) ZA)
  (Ze (ZlF 3 zc83.nd (show ZbB _ (Zg Zit) "_law_k" ["_law_row","_law_head","_law_most","_law_words","_law_found"] ["_law_k","_law_row"] [0] from ⟨rfl,by decide +kernel,by decide +kernel,by decide +kernel,by decide +kernel,by decide +kernel,rfl,by decide,by decide +kernel⟩) rfl rfl (Zc8 g.b_range (Za Zh Zf)) (fun _ _ _ _ _=>(Zu ZL (Zu Zb5 Zh (ZC ZD (Zb 1) (Zu Zb5 Zh (Zb 0)))) (ZC ZD (Zb 1) (Zu ZL (Zu Zb5 Zh (Zb 0)) Zh)))))
  (Ze (ZE 4 zc83.nd (Z3 (Za (ZC ZD (Zb 3) Zh) (Za (ZC ZD (Zb 3) Zh) (Za (Zu ZL (Zu Zb5 (ZC ZD (Zb 3) Zh) Zh) (ZC ZD (Zb 3) Zh)) (Za (Zu ZL (Zu Zb5 (ZC ZD (Zb 3) Zh) Zh) (ZC ZD (Zb 3) Zh)) Zf))))))
  (Zj (Zw (Zu ZL (Zb 4) (Z3 (Za (ZC ZD (Zb 0) Zh) (Za (ZC ZD (Zb 3) Zh) (Za (Zb 2) (Za (ZaQ Zgd g.b_tuple PyProof.Rows.boot_tuple (Za (Zao (Zb 0) (zH (Zb 1)) Zbg) Zf)) Zf)))))))))))))))))
theorem Zw8 (D:Zl K mg "_law_plus" Zj1 Zol) (g:Glb K mg) :Zo P w K mg base 1 "_law_plus" Za6:=
  ZW D Zyo 2 2 rfl rfl fun f cdv A outer s H E hr=>(Zj (Zw (Zu Zav (Zu ZL (Zb 0) (Zb 1)) Zh)))
theorem Zw7 (D:Zl K mg "_law_first" Zj0 Zok) (g:Glb K mg) :Zo P w K mg base 1 "_law_first" Zfe:=
  ZW D Zyn 1 1 rfl rfl fun f cdv A outer s H E hr=>(Ze (ZI (ZF (z7 hr.units) (Zu Zav (Zb 0) Zh) Zh) (Zj (Zw (Zu Zav (Zu Zdt Zh (Zu Zav (Zu ZdQ (Zb 0) Zh) Zh)) Zh))) ZA)
  (Zj (Zw (Zb 0))))
theorem Zw6 (D:Zl K mg "_law_segment" ZjZ Zoj) (g:Glb K mg) :Zo P w K mg base 1 "_law_segment" Zcr:=
  ZW D Zym 6 6 rfl rfl fun f cdv A outer s H E hr=>(Zj (Zw (Z3 (Za (ZC ZD (Zb 0) Zh) (Za (ZC ZD (Zb 0) Zh) (Za (Zb 1) (Za (Zb 2) (Za (Zb 3) (Za (Zb 4) (Za Zh (Za (ZaQ Zgd g.b_tuple PyProof.Rows.boot_tuple (Za (Zb 5) Zf)) Zf)))))))))))
theorem Zw5 (D:Zl K mg "_law_given" ZjY Zoi) (g:Glb K mg) (zd83:Zo P w K mg base 2 "_law_read" ZgA) (zd29:Zo P w K mg base 8 "send" ZcM):Zo P w K mg base 9 "_law_given" Zbw:=
  ZW D zc88 2 5 rfl rfl fun f cdv A outer s H E hr=>(Ze (ZiW 2 zc88.nd Zf)
  (Ze (Zgy PassesOwn.never (Zc8 g.b_range (Za Zh Zf)) (Zfd 3 zc88.nd) (Ze (ZE 4 zc88.nd (Zi zd29 hr (by decide) (Za (Zb 0) (Za (Zb 1) Zf))))
    (Ze (ZI (ZF (z7 hr.units) (Zb 4) (zX Zf)) (Zj (Zgx 2 (Zw (Zb 2)))) ZA)
    (Zj (ZiX 2 (Zi zd83 hr (by decide) (Za (Zb 4) Zf)) (hpe:=fun h=>Zs8 PySem.F.plainAttrs_list PySem.F.slot_list_append PySem.F.type_list_append ZiV h (Zjs (Zi zd83 hr (by decide) (Za (Zb 4) Zf)) Zmn)))))))
  (Zj (Zgx 2 (Zw (Zb 2))))))
theorem Zw4 (D:Zl K mg "_law_opened" ZjX Zoh) (g:Glb K mg) (zd82:Zo P w K mg base 2 "_law_bytes" Zb8) (zd86:Zo P w K mg base 1 "_law_first" Zfe) (zd79:Zo P w K mg base 2 "_law_mix" ZbC) (zd85:Zo P w K mg base 1 "_law_plus" Za6) (zd57:Zo P w K mg base 8 "arrive" zV) (zd75:Zo P w K mg base 5 "opened" ZeH) (zd29:Zo P w K mg base 8 "send" ZcM):Zo P w K mg base 9 "_law_opened" ZdS:=
  ZW D zc89 4 8 rfl rfl fun f cdv A outer s H E hr=>(Ze (ZE 4 zc89.nd (Z3 (Za (Zu Zav (Zi zd79 hr (by decide) (Za (Zb 0) (Za (Zb 1) Zf))) Zh) (Za (Zu Zav (Zi zd79 hr (by decide) (Za (Zb 0) (Za (Zu ZL (Zb 1) Zh) Zf))) Zh) Zf))))
  (Ze (ZE 5 zc89.nd (Zi zd86 hr (by decide) (Za (Zi zd79 hr (by decide) (Za (Zb 0) (Za (Zu ZL (Zb 1) Zh) Zf))) Zf)))
  (Ze (ZE 6 zc89.nd (Zi zd86 hr (by decide) (Za (Zi zd79 hr (by decide) (Za (Zb 0) (Za (Zu ZL (Zb 1) Zh) Zf))) Zf)))
  (Ze (ZE 7 zc89.nd (Zi zd75 hr (by decide) (Za (ZC ZD (Zb 4) Zh) (Za Zh (Za (Zb 5) (Za zP Zf))))))
  (Ze (ZP (Zi zd57 hr (by decide) (Za (Zb 7) (Za (Zi zd82 hr (by decide) (Za (Z3 (Za (ZC ZD (Zb 4) Zh) (Za (ZC ZD (Zb 4) Zh) (Za (Zb 6) (Za Zh (Za Zh (Za (Zb 2) (Za (Zb 3) (Za (Z3 Zf) Zf))))))))) Zf)) (Za Zh Zf)))))
  (Ze (ZP (Zi zd29 hr (by decide) (Za (Zb 7) (Za Zh Zf))))
  (Ze (ZP (Zi zd57 hr (by decide) (Za (Zb 7) (Za (Zi zd82 hr (by decide) (Za (Z3 (Za (ZC ZD (Zb 4) Zh) (Za (ZC ZD (Zb 4) Zh) (Za (Zi zd85 hr (by decide) (Za (Zb 6) (Za Zh Zf))) (Za (Zi zd85 hr (by decide) (Za (Zb 5) (Za Zh Zf))) (Za Zh (Za (Zb 2) (Za Zh (Za (Z3 Zf) Zf))))))))) Zf)) (Za Zh Zf)))))
  (Zj (Zw (Z3 (Za (Zb 7) (Za (Zb 4) (Za (Zi zd85 hr (by decide) (Za (Zb 5) (Za Zh Zf))) (Za (Zi zd85 hr (by decide) (Za (Zb 6) (Za Zh Zf))) Zf))))))))))))))
theorem Zw3 (D:Zl K mg "_law_answer" ZjW Zog) (g:Glb K mg) (zd82:Zo P w K mg base 2 "_law_bytes" Zb8) (zd85:Zo P w K mg base 1 "_law_plus" Za6) (zd87:Zo P w K mg base 1 "_law_segment" Zcr) (zd57:Zo P w K mg base 8 "arrive" zV):Zo P w K mg base 9 "_law_answer" Zb9:=
  ZW D zc90 5 6 rfl rfl fun f cdv A outer s H E hr=>(Ze (ZE 5 zc90.nd (Zi zd87 hr (by decide) (Za (ZC ZD (Zb 0) Zh) (Za (Zi zd85 hr (by decide) (Za (ZC ZD (Zb 0) Zh) (Za (Zb 1) Zf))) (Za (Zi zd85 hr (by decide) (Za (ZC ZD (Zb 0) Zh) (Za (Zb 2) Zf))) (Za Zh (Za (Zb 3) (Za (zX Zf) Zf))))))))
  (Zj (ZP (Zi zd57 hr (by decide) (Za (ZC ZD (Zb 0) Zh) (Za (Zi zd82 hr (by decide) (Za (Zb 5) Zf)) (Za (Zb 4) Zf)))))))
theorem Zw2 (D:Zl K mg "_law_owed" ZjV Zof) (g:Glb K mg) (zd82:Zo P w K mg base 2 "_law_bytes" Zb8) (zd79:Zo P w K mg base 2 "_law_mix" ZbC) (zd85:Zo P w K mg base 1 "_law_plus" Za6) (zd87:Zo P w K mg base 1 "_law_segment" Zcr) (zd57:Zo P w K mg base 8 "arrive" zV):Zo P w K mg base 9 "_law_owed" l_owed:=
  ZW D zc91 6 8 rfl rfl fun f cdv A outer s H E hr=>(Ze (ZI (ZF ZhM (Zu Zav (Zi zd79 hr (by decide) (Za (Zb 0) (Za (Zu ZL Zh (Zb 2)) Zf))) Zh) Zh) (Zj (Zw (zX Zf))) ZA)
  (Ze (ZE 6 zc91.nd (Zi zd87 hr (by decide) (Za (ZC ZD (Zb 1) Zh) (Za (Zi zd85 hr (by decide) (Za (ZC ZD (Zb 1) Zh) (Za (Zb 3) Zf))) (Za (Zi zd85 hr (by decide) (Za (ZC ZD (Zb 1) Zh) (Za (Zb 4) Zf))) (Za Zh (Za Zh (Za (zX (Za (Zb 2) Zf)) Zf))))))))
  (Ze (ZP (Zi zd57 hr (by decide) (Za (ZC ZD (Zb 1) Zh) (Za (Zi zd82 hr (by decide) (Za (Zb 6) Zf)) (Za (Zb 5) Zf)))))
  (Ze (ZE 7 zc91.nd (Z3 (Za (Zi zd85 hr (by decide) (Za (ZC ZD (Zb 1) Zh) (Za (Zb 4) Zf))) (Za (Zi zd85 hr (by decide) (Za (ZC ZD (Zb 1) Zh) (Za (Zu ZL (Zb 3) Zh) Zf))) Zf))))
  (Zj (Zw (zX (Za (Zu ZL (Zu ZL (ZC ZD (Zb 1) Zh) (Zb 7)) (Z3 (Za Zh (Za (Zu Zdt Zh (Zb 3)) (Za Zh (Za (Z3 Zf) Zf)))))) Zf))))))))
theorem Zw1 (D:Zl K mg "_law_probe" ZjU Zoe) (g:Glb K mg) (zd85:Zo P w K mg base 1 "_law_plus" Za6):Zo P w K mg base 2 "_law_probe" Zc2:=
  ZW D zc92 4 7 rfl rfl fun f cdv A outer s H E hr=>(Ze (ZE 4 zc92.nd (ZaQ Zgd g.b_tuple PyProof.Rows.boot_tuple (Za (Zao (Zb 3) (zH (Zb 2)) (zH (Zu ZL (Zb 2) Zh))) Zf)))
  (Ze (ZE 5 zc92.nd Zh)
  (Ze (ZI (ZG (Zb 4)) (Zj (ZE 5 zc92.nd (Zu ZL Zh (Zu Zb5 Zh (ZaQ Zrd g.b_int PyProof.Rows.boot_int (Za (zD (z7 hr.units) (Zu ZL (Zb 2) Zh) (Z4 Zdk g.b_len PySem.boot_len (Za (Zb 3) Zf))) Zf)))))) ZA)
  (Ze (ZE 6 zc92.nd (Z3 (Za (Zi zd85 hr (by decide) (Za (ZC ZD (Zb 0) Zh) (Za (Zb 2) Zf))) (Za (Zi zd85 hr (by decide) (Za (ZC ZD (Zb 0) Zh) (Za (Zb 1) Zf))) Zf))))
  (Zj (Zw (Zu ZL (Zu ZL (ZC ZD (Zb 0) Zh) (Zb 6)) (Z3 (Za (Zb 5) (Za (Zu Zdt Zh (Zb 1)) (Za Zh (Za (Zb 4) Zf))))))))))))
theorem Zw0 (D:Zl K mg "_law_again" ZjT Zod) (g:Glb K mg) (zd90:Zo P w K mg base 9 "_law_answer" Zb9) (zd88:Zo P w K mg base 9 "_law_given" Zbw) (zd79:Zo P w K mg base 2 "_law_mix" ZbC):Zo P w K mg base 10 "_law_again" l_again:=
  ZW D zc93 7 11 rfl rfl fun f cdv A outer s H E hr=>(Ze (ZE 7 zc93.nd (Zu ZL (Zu ZL (Zao (Zb 3) Zbg (zH Zh)) (Z3 (Za (Zu Zdt (ZC ZD (Zb 3) Zh) (Zu Zb5 (Zu Zav (Zu ZdQ (ZC ZD (Zb 3) Zh) Zh) Zh) Zh)) Zf))) (Zao (Zb 3) (zH Zh) Zbg)))
  (Ze (ZE 8 zc93.nd Zh)
  (Ze (Zgy PassesOwn.never (Zc8 g.b_range (Za (Zu Zav (Zi zd79 hr (by decide) (Za (Zb 0) (Za (Zu ZL Zh (Zb 2)) Zf))) Zh) Zf)) (Zfd 9 zc93.nd) (Ze (ZE 6 zc93.nd (Zu ZL (Zb 6) (Zb 8)))
    (Ze (ZI (ZF (ZeK hr.units) (Zi zd88 hr (by decide) (Za (ZC ZD (Zb 1) Zh) (Za (Zb 6) Zf))) (zX (Za (Zb 7) Zf))) (Zj (Zw (Zuu Zh))) ZA)
    (Ze (ZE 8 zc93.nd (Z4 Zl5 g.b_min PyProof.Rows.boot_min (Za (Zu Zb5 Zh (Zb 8)) (Za Zh Zf))))
    (Ze (ZE 10 zc93.nd (zD (z7 hr.units) (Zu Zav (Zi zd79 hr (by decide) (Za (Zb 0) (Za (Zu ZL (Zu ZL Zh (Zb 2)) (Zb 9)) Zf))) Zh) Zh))
    (Zj (ZI (MW.mt (ZcB (ZG (Zb 10)) (z9 (ZF (z7 hr.units) (Zu Zav (Zb 9) Zh) Zh)))) (Zj (ZP (Zi zd90 hr (by decide) (Za (Zb 1) (Za (Zb 4) (Za (Zb 5) (Za Zh (Za (Zb 6) Zf)))))))) ZA)))))))
  (Zj (Zw (Zb 6))))))
theorem ZwZ {fl:Addr} {fdl:FuncData} (F:Fun K "law" "law" Zhe fl fdl) (g:Glb K mg) (zd93:Zo P w K mg base 10 "_law_again" l_again) (zd90:Zo P w K mg base 9 "_law_answer" Zb9) (zd88:Zo P w K mg base 9 "_law_given" Zbw) (zd79:Zo P w K mg base 2 "_law_mix" ZbC) (zd89:Zo P w K mg base 9 "_law_opened" ZdS) (zd91:Zo P w K mg base 9 "_law_owed" l_owed) (zd92:Zo P w K mg base 2 "_law_probe" Zc2) (zd77:Zo P w K mg base 1 "close" Zfa) (zd9:Zo P w K mg base 1 "state" ZfW) (zd76:Zo P w K mg base 3 "write" Zd6):FnOk P w K mg base CX0 11 fl fdl Zoc (spM ⟨Zad mg,K⟩ ZlM):=
  mfn F zc94 1 13 rfl rfl fun cdv A outer s H E hr=>(Ze (ZE 1 zc94.nd (Zi zd89 hr (by decide) (Za (Zb 0) (Za Zh (Za Zh (Za Zh Zf))))))
  (Ze (ZE 2 zc94.nd (ZC ZD (Zb 1) Zh))
  (Ze (ZlF 3 zc94.nd (show ZbB _ (Zg Zhe) "_law_k" ["_law_script","_law_made_here","_law_end","_law_data","_law_closes","_law_now","_law_came","_law_una","_law_k","_law_owed_here","_law_goes","_law_rest","_law_segment_here"] ["_law_k","_law_script"] [0] from ⟨rfl,by decide +kernel,by decide +kernel,by decide +kernel,by decide +kernel,by decide +kernel,rfl,by decide,by decide +kernel⟩) rfl rfl (Zc8 g.b_range (Za (Zu Zav (Zi zd79 hr (by decide) (Za (Zb 0) (Za Zh Zf))) Zh) Zf)) (fun _ _ _ _ _=>(Zu Zav (Zi zd79 hr (by decide) (Za (Zb 1) (Za (Zu ZL Zh (Zb 0)) Zf))) Zh)))
  (Ze (ZP (Zi zd76 hr (by decide) (Za (Zb 2) (Za (Zb 3) Zf))))
  (Ze (ZE 4 zc94.nd (ZlI (zD (z7 hr.units) (Zu Zav (Zi zd79 hr (by decide) (Za (Zb 0) (Za Zh Zf))) Zh) Zh) (ZcO (Zmq (Zb 3)))))
  (Ze (ZI (ZG (Zb 4)) (Zj (ZP (Zi zd77 hr (by decide) (Za (Zb 2) Zf)))) ZA)
  (Ze (ZE 5 zc94.nd Zh)
  (Ze (ZE 6 zc94.nd Zh)
  (Ze (ZE 7 zc94.nd Zh)
  (Ze (Zgy PassesOwn.never (Zc8 g.b_range (Za Zh Zf)) (Zfd 8 zc94.nd) (Ze (ZE 9 zc94.nd (Zi zd91 hr (by decide) (Za (Zb 0) (Za (Zb 1) (Za (Zb 8) (Za (Zb 6) (Za (Zb 7) (Za (Zb 5) Zf))))))))
    (Ze (ZE 6 zc94.nd (Zu ZL (Zb 6) (Z4 Zdk g.b_len PySem.boot_len (Za (Zb 9) Zf))))
    (Ze (ZI (ZF (ZeK hr.units) (Zi zd88 hr (by decide) (Za (Zb 2) (Za (Zb 5) Zf))) (Zb 9)) (Zj (Zw zP)) ZA)
    (Ze (ZI (ZF (z7 hr.units) (Zb 7) (Zu ZL (Z4 Zdk g.b_len PySem.boot_len (Za (Zb 3) Zf)) (ZaQ Zrd g.b_int PyProof.Rows.boot_int (Za (Zb 4) Zf)))) (Zj (Zw zP)) ZA)
    (Ze (ZI (ZF (ZeK hr.units) (Zi zd88 hr (by decide) (Za (Zb 2) (Za (Zu ZL (Zb 5) (Zu Zav (Zi zd79 hr (by decide) (Za (Zb 0) (Za (Zu ZL Zh (Zb 8)) Zf))) Zh)) Zf))) (zX Zf)) (Zj (Zw zP)) ZA)
    (Ze (ZE 5 zc94.nd (Zu ZL (Zb 5) Zh))
    (Ze (ZE 10 zc94.nd (Zi zd92 hr (by decide) (Za (Zb 1) (Za (Zb 6) (Za (Zb 7) (Za (Zb 3) Zf))))))
    (Ze (ZI (ZF (ZeK hr.units) (Zi zd88 hr (by decide) (Za (Zb 2) (Za (Zb 5) Zf))) (zX (Za (Zb 10) Zf))) (Zj (Zw zP)) ZA)
    (Ze (ZE 5 zc94.nd (Zi zd93 hr (by decide) (Za (Zb 0) (Za (Zb 1) (Za (Zb 8) (Za (Zb 10) (Za (Zb 6) (Za (Zb 7) (Za (Zb 5) Zf)))))))))
    (Ze (ZI (MW.mt (ZcB (ZF Zsd (Zb 5) Zh) (z9 (ZF ZfZ (Zi zd9 hr (by decide) (Za (Zb 2) Zf)) (Z3 (Za Zqv (Za Zqv Zf))) (by with_unfolding_all rfl))))) (Zj (Zw zP)) ZA)
    (Ze (ZE 7 zc94.nd (Zu ZL (Zb 7) Zh))
    (Zj (ZP (Zi zd90 hr (by decide) (Za (Zb 1) (Za (Zb 6) (Za (Zb 7) (Za Zh (Za (Zb 5) Zf))))))))))))))))))))
  (Ze (ZP (Zi zd90 hr (by decide) (Za (Zb 1) (Za (Zb 6) (Za (Zb 7) (Za Zh (Za (Zb 5) Zf)))))))
  (Ze (ZE 11 zc94.nd (zX Zf))
  (Ze (Zgy PassesOwn.never (Zmp (Zi zd88 hr (by decide) (Za (Zb 2) (Za (Zb 5) Zf)))) (Zfd 12 zc94.nd) (Zj (ZE 11 zc94.nd (Zu ZL (Zb 11) (ZaQ ZmG g.b_list PyProof.Rows.boot_list (Za (ZC ZD (Zb 12) Zh) Zf))))))
  (Zj (Zw (zD (z7 hr.units) (Zb 11) (Zao (Zb 3) (zH (Zb 7)) Zbg)))))))))))))))))
theorem Zus {fl:Addr} {fdl:FuncData} (F:Fun K "law" "law" Zhe fl fdl) (zD0:Mk0 K mg "Pile" "Pile.__init__" zs0 zP0) (zD1:Zl K mg "room" zs1 zP1) (zD2:Zl K mg "lay" zs2 zP2) (zD3:Zl K mg "take" zs3 zP3) (zD4:Zl K mg "plus" zs4 zP4) (zD5:Zl K mg "offset" zs5 zP5) (zD6:Zl K mg "past" zs6 zP6) (zD7:Mk0 K mg "End" "End.__init__" zs7 zP7) (zD8:Zl K mg "start_timer" zs8 zP8) (zD9:Zl K mg "state" zs9 zP9) (zD10:Zl K mg "our_window" Zld Zpy) (zD11:Zl K mg "has_sent_fin" Zlc Zpx) (zD12:Zl K mg "folded" Zlb Zpw) (zD13:Zl K mg "sum_of" Zla Zpv) (zD14:Zl K mg "length" Zk9 Zpu) (zD15:Zl K mg "has" Zk8 Zpt) (zD16:Zl K mg "bears" Zk7 Zps) (zD17:Zl K mg "put" Zk6 Zpr) (zD18:Zl K mg "bytes_ahead_of_sum" Zk5 Zpq) (zD19:Zl K mg "byte_of_head" Zk4 Zpp) (zD20:Zl K mg "bytes_of_most" Zk3 Zpo) (zD21:Zl K mg "two_bytes" Zk2 Zpn) (zD22:Zl K mg "four_bytes" Zk1 Zpm) (zD23:Zl K mg "is_right" Zk0 Zpl) (zD24:Zl K mg "head_of" ZkZ Zpk) (zD25:Zl K mg "is_right_long_head" ZkY Zpj) (zD26:Zl K mg "get" ZkX Zpi) (zD27:Zl K mg "two_at" ZkW Zph) (zD28:Zl K mg "four_at" ZkV Zpg) (zD29:Zl K mg "send" ZkU Zpf) (zD30:Zl K mg "going" ZkT Zpe) (zD31:Zl K mg "paid_reset" ZkS Zpd) (zD32:Zl K mg "is_due" ZkR Zpc) (zD33:Zl K mg "again" ZkQ Zpb) (zD34:Zl K mg "most_at_once" ZkP Zpa) (zD35:Zl K mg "paid_syn" ZkO Zo9) (zD36:Zl K mg "segment_of" ZkN Zo8) (zD37:Zl K mg "going_as_new" ZkM Zo7) (zD38:Zl K mg "new_syn" ZkL Zo6) (zD39:Zl K mg "has_more" ZkK Zo5) (zD40:Zl K mg "has_new_data" ZkJ Zo4) (zD41:Zl K mg "unsent" ZkI Zo3) (zD42:Zl K mg "has_new_fin" ZkH Zo2) (zD43:Zl K mg "new_piece" ZkG Zo1) (zD44:Zl K mg "new_data" ZkF Zo0) (zD45:Zl K mg "new_fin" ZkE ZoZ) (zD46:Zl K mg "going_as_probe" ZkD ZoY) (zD47:Zl K mg "going_as_answer" ZkC ZoX) (zD48:Zl K mg "reset_for" ZkB ZoW) (zD49:Zl K mg "owe_reset_for" ZkA ZoV) (zD50:Zl K mg "come_to_closed" Zkz ZoU) (zD51:Zl K mg "come_to_listen" Zky ZoT) (zD52:Zl K mg "hear_syn" Zkx ZoS) (zD53:Zl K mg "come_to_syn_sent" Zkw ZoR) (zD54:Zl K mg "answers_syn" Zkv ZoQ) (zD55:Zl K mg "refuse" Zku ZoP) (zD56:Zl K mg "go_on_from_syn_sent" Zkt ZoO) (zD57:Zl K mg "arrive" Zks ZoN) (zD58:Zl K mg "is_for" Zkr ZoM) (zD59:Zl K mg "come_to_stream" Zkq ZoL) (zD60:Zl K mg "fits" Zkp ZoK) (zD61:Zl K mg "is_in_window" Zko ZoJ) (zD62:Zl K mg "turn_away" Zkn ZoI) (zD63:Zl K mg "hear_reset" Zkm ZoH) (zD64:Zl K mg "goes_on_behind_answer" Zkl ZoG) (zD65:Zl K mg "has_answered_syn" Zkk ZoF) (zD66:Zl K mg "take_window" Zkj ZoE) (zD67:Zl K mg "hear_answer" Zki ZoD) (zD68:Zl K mg "is_newer" Zkh ZoC) (zD69:Zl K mg "end_what_is_acknowledged" Zkg ZoB) (zD70:Zl K mg "hear_stream" Zkf ZoA) (zD71:Zl K mg "keep_data" Zke Zoz) (zD72:Zl K mg "keep_fin" Zkd Zoy) (zD73:Zl K mg "draw_in_order" Zkc Zox) (zD74:Zl K mg "hear_fin" Zkb Zow) (zD75:Zl K mg "opened" Zka Zov) (zD76:Zl K mg "write" Zj9 Zou) (zD77:Zl K mg "close" Zj8 Zot) (zD78:Zl K mg "_law_cell" Zj7 Zos) (zD79:Zl K mg "_law_mix" Zj6 Zor) (zD80:Zl K mg "_law_two" Zj5 Zoq) (zD81:Zl K mg "_law_folded" Zj4 Zop) (zD82:Zl K mg "_law_bytes" Zj3 Zoo) (zD83:Zl K mg "_law_read" Zit Zon) (zD84:Zl K mg "_law_byte" Zj2 Zom) (zD85:Zl K mg "_law_plus" Zj1 Zol) (zD86:Zl K mg "_law_first" Zj0 Zok) (zD87:Zl K mg "_law_segment" ZjZ Zoj) (zD88:Zl K mg "_law_given" ZjY Zoi) (zD89:Zl K mg "_law_opened" ZjX Zoh) (zD90:Zl K mg "_law_answer" ZjW Zog) (zD91:Zl K mg "_law_owed" ZjV Zof) (zD92:Zl K mg "_law_probe" ZjU Zoe) (zD93:Zl K mg "_law_again" ZjT Zod) (g:Glb K mg):FnOk P w K mg base CX0 11 fl fdl Zoc (spM ⟨Zad mg,K⟩ ZlM):=by
  have zd0:=zo0 (P:=P) (w:=w) (base:=base) zD0 g
  have zd1:=zo1 (P:=P) (w:=w) (base:=base) zD1 g
  have zd2:=zo2 (P:=P) (w:=w) (base:=base) zD2 g zd1
  have zd3:=zo3 (P:=P) (w:=w) (base:=base) zD3 g
  have zd4:=zo4 (P:=P) (w:=w) (base:=base) zD4 g
  have zd5:=zo5 (P:=P) (w:=w) (base:=base) zD5 g
  have zd6:=zo6 (P:=P) (w:=w) (base:=base) zD6 g zd5
  have zd7:=zo7 (P:=P) (w:=w) (base:=base) zD7 g zd0 zd4
  have zd8:=zo8 (P:=P) (w:=w) (base:=base) zD8 g
  have zd9:=zo9 (P:=P) (w:=w) (base:=base) zD9 g
  have zd10:=Zyl (P:=P) (w:=w) (base:=base) zD10 g zd1
  have zd11:=Zyk (P:=P) (w:=w) (base:=base) zD11 g zd6
  have zd12:=Zyj (P:=P) (w:=w) (base:=base) zD12 g
  have zd13:=Zyi (P:=P) (w:=w) (base:=base) zD13 g zd12
  have zd15:=Zyg (P:=P) (w:=w) (base:=base) zD15 g
  have zd14:=Zyh (P:=P) (w:=w) (base:=base) zD14 g zd15
  have zd16:=Zyf (P:=P) (w:=w) (base:=base) zD16 g zd15
  have zd19:=Zyc (P:=P) (w:=w) (base:=base) zD19 g
  have zd21:=Zya (P:=P) (w:=w) (base:=base) zD21 g
  have zd22:=Zx9 (P:=P) (w:=w) (base:=base) zD22 g zd21
  have zd18:=Zyd (P:=P) (w:=w) (base:=base) zD18 g zd19 zd22 zd21
  have zd20:=Zyb (P:=P) (w:=w) (base:=base) zD20 g zd21
  have zd17:=Zye (P:=P) (w:=w) (base:=base) zD17 g zd18 zd20 zd13 zd21
  have zd24:=Zx7 (P:=P) (w:=w) (base:=base) zD24 g
  have zd27:=Zx4 (P:=P) (w:=w) (base:=base) zD27 g
  have zd25:=Zx6 (P:=P) (w:=w) (base:=base) zD25 g zd15 zd27
  have zd23:=Zx8 (P:=P) (w:=w) (base:=base) zD23 g zd19 zd12 zd24 zd25 zd27
  have zd28:=Zx3 (P:=P) (w:=w) (base:=base) zD28 g zd27
  have zd26:=Zx5 (P:=P) (w:=w) (base:=base) zD26 g zd28 zd24 zd23 zd27
  have zd34:=ZxX (P:=P) (w:=w) (base:=base) zD34 g
  have zd35:=ZxW (P:=P) (w:=w) (base:=base) zD35 g
  have zd36:=ZxV (P:=P) (w:=w) (base:=base) zD36 g zd10
  have zd33:=ZxY (P:=P) (w:=w) (base:=base) zD33 g zd34 zd5 zd35 zd36
  have zd47:=ZxK (P:=P) (w:=w) (base:=base) zD47 g zd36
  have zd41:=ZxQ (P:=P) (w:=w) (base:=base) zD41 g zd5
  have zd40:=ZxR (P:=P) (w:=w) (base:=base) zD40 g zd41
  have zd42:=ZxP (P:=P) (w:=w) (base:=base) zD42 g zd41
  have zd39:=ZxS (P:=P) (w:=w) (base:=base) zD39 g zd40 zd42
  have zd44:=ZxN (P:=P) (w:=w) (base:=base) zD44 g zd34 zd5 zd4 zd36 zd41
  have zd45:=ZxM (P:=P) (w:=w) (base:=base) zD45 g zd4 zd36
  have zd43:=ZxO (P:=P) (w:=w) (base:=base) zD43 g zd40 zd44 zd45
  have zd38:=ZxT (P:=P) (w:=w) (base:=base) zD38 g zd35 zd4 zd8
  have zd37:=ZxU (P:=P) (w:=w) (base:=base) zD37 g zd39 zd43 zd38 zd5 zd8
  have zd32:=ZxZ (P:=P) (w:=w) (base:=base) zD32 g
  have zd46:=ZxL (P:=P) (w:=w) (base:=base) zD46 g zd39 zd32 zd43 zd8
  have zd31:=Zx0 (P:=P) (w:=w) (base:=base) zD31 g
  have zd30:=Zx1 (P:=P) (w:=w) (base:=base) zD30 g zd33 zd47 zd37 zd46 zd32 zd31
  have zd29:=Zx2 (P:=P) (w:=w) (base:=base) zD29 g zd30 zd17
  have zd48:=ZxJ (P:=P) (w:=w) (base:=base) zD48 g zd16 zd14 zd4
  have zd49:=ZxI (P:=P) (w:=w) (base:=base) zD49 g zd16 zd48
  have zd50:=ZxH (P:=P) (w:=w) (base:=base) zD50 g zd49
  have zd52:=ZxF (P:=P) (w:=w) (base:=base) zD52 g zd16 zd4
  have zd51:=ZxG (P:=P) (w:=w) (base:=base) zD51 g zd16 zd52 zd49
  have zd54:=ZxD (P:=P) (w:=w) (base:=base) zD54 g zd4
  have zd56:=ZxB (P:=P) (w:=w) (base:=base) zD56 g zd16 zd8
  have zd55:=ZxC (P:=P) (w:=w) (base:=base) zD55 g zd16
  have zd53:=ZxE (P:=P) (w:=w) (base:=base) zD53 g zd54 zd16 zd56 zd52 zd49 zd55
  have zd61:=Zxw (P:=P) (w:=w) (base:=base) zD61 g zd5 zd10
  have zd60:=Zxx (P:=P) (w:=w) (base:=base) zD60 g zd61 zd14 zd5 zd4
  have zd69:=Zxo (P:=P) (w:=w) (base:=base) zD69 g zd11
  have zd66:=Zxr (P:=P) (w:=w) (base:=base) zD66 g
  have zd65:=Zxs (P:=P) (w:=w) (base:=base) zD65 g zd49 zd66
  have zd68:=Zxp (P:=P) (w:=w) (base:=base) zD68 g zd6
  have zd67:=Zxq (P:=P) (w:=w) (base:=base) zD67 g zd68 zd5 zd6 zd8 zd3 zd66
  have zd64:=Zxt (P:=P) (w:=w) (base:=base) zD64 g zd69 zd65 zd67 zd6
  have zd63:=Zxu (P:=P) (w:=w) (base:=base) zD63 g
  have zd73:=Zxk (P:=P) (w:=w) (base:=base) zD73 g zd2 zd4
  have zd74:=Zxj (P:=P) (w:=w) (base:=base) zD74 g zd4
  have zd71:=Zxm (P:=P) (w:=w) (base:=base) zD71 g zd61 zd4
  have zd72:=Zxl (P:=P) (w:=w) (base:=base) zD72 g zd16 zd61 zd4
  have zd70:=Zxn (P:=P) (w:=w) (base:=base) zD70 g zd73 zd74 zd71 zd72
  have zd62:=Zxv (P:=P) (w:=w) (base:=base) zD62 g zd16
  have zd59:=Zxy (P:=P) (w:=w) (base:=base) zD59 g zd16 zd60 zd64 zd63 zd70 zd62
  have zd58:=Zxz (P:=P) (w:=w) (base:=base) zD58 g
  have zd57:=ZxA (P:=P) (w:=w) (base:=base) zD57 g zd50 zd51 zd59 zd53 zd26 zd58 zd23
  have zd75:=Zxi (P:=P) (w:=w) (base:=base) zD75 g zd7
  have zd76:=Zxh (P:=P) (w:=w) (base:=base) zD76 g zd2 zd4
  have zd77:=Zxg (P:=P) (w:=w) (base:=base) zD77 g
  have zd78:=Zxf (P:=P) (w:=w) (base:=base) zD78 g
  have zd79:=Zxe (P:=P) (w:=w) (base:=base) zD79 g zd78
  have zd80:=Zxd (P:=P) (w:=w) (base:=base) zD80 g
  have zd81:=Zxc (P:=P) (w:=w) (base:=base) zD81 g
  have zd82:=Zxb (P:=P) (w:=w) (base:=base) zD82 g zd81 zd80
  have zd84:=Zw9 (P:=P) (w:=w) (base:=base) zD84 g
  have zd83:=Zxa (P:=P) (w:=w) (base:=base) zD83 g zd84 zd81
  have zd85:=Zw8 (P:=P) (w:=w) (base:=base) zD85 g
  have zd86:=Zw7 (P:=P) (w:=w) (base:=base) zD86 g
  have zd87:=Zw6 (P:=P) (w:=w) (base:=base) zD87 g
  have zd88:=Zw5 (P:=P) (w:=w) (base:=base) zD88 g zd83 zd29
  have zd89:=Zw4 (P:=P) (w:=w) (base:=base) zD89 g zd82 zd86 zd79 zd85 zd57 zd75 zd29
  have zd90:=Zw3 (P:=P) (w:=w) (base:=base) zD90 g zd82 zd85 zd87 zd57
  have zd91:=Zw2 (P:=P) (w:=w) (base:=base) zD91 g zd82 zd79 zd85 zd87 zd57
  have zd92:=Zw1 (P:=P) (w:=w) (base:=base) zD92 g zd85
  have zd93:=Zw0 (P:=P) (w:=w) (base:=base) zD93 g zd90 zd88 zd79
  exact ZwZ F g zd93 zd90 zd88 zd79 zd89 zd91 zd92 zd77 zd9 zd76
end
theorem us1 {p:List Value→Prop} (h:∀a,p [a]):∀us:List Value,us.length=1→p us
  | [a],_=>h a
theorem us2 {p:List Value→Prop} (h:∀a b,p [a,b]):∀us:List Value,us.length=2→p us
  | [a,b],_=>h a b
theorem us3 {p:List Value→Prop} (h:∀a b c,p [a,b,c]):∀us:List Value,us.length=3→p us
  | [a,b,c],_=>h a b c
theorem us4 {p:List Value→Prop} (h:∀a b c d,p [a,b,c,d]):∀us:List Value,us.length=4→p us
  | [a,b,c,d],_=>h a b c d
theorem us5 {p:List Value→Prop} (h:∀a b c d e,p [a,b,c,d,e]):∀us:List Value,us.length=5→p us
  | [a,b,c,d,e],_=>h a b c d e
theorem us6 {p:List Value→Prop} (h:∀a b c d e f,p [a,b,c,d,e,f]):∀us:List Value,us.length=6→p us
  | [a,b,c,d,e,f],_=>h a b c d e f
theorem us7 {p:List Value→Prop} (h:∀a b c d e f g,p [a,b,c,d,e,f,g]):∀us:List Value,us.length=7→p us
  | [a,b,c,d,e,f,g],_=>h a b c d e f g
open PySem.W
theorem ZuK {l:OpenLaw} {w:World} {K:Frag} {h:Heap} {mg:Str→Option Value} {fa:Addr} (X:K.In h) (G:h.Ns mainGlobals mg) (hfa:mg "law"=some (.ref fa))
    (aC_End:nsIn K mainGlobals "End"=some (some (.ref C_End)))
    (aC_Pile:nsIn K mainGlobals "Pile"=some (some (.ref C_Pile)))
    (a0:findIn K (.ref C_Pile) "__init__"=some (some (.ref f0))) (i0:isFn K (.ref f0)=true) (l0:K.lookup f0=some ⟨oc0,od0,.func (fnOf "__init__" "Pile.__init__" (Zt zs0) (Zp zs0) (Zg zs0) .none kV0 dc0 pm0 an0 cd0 ct0),sl0⟩) (c0:codeIn K cd0 "Pile.__init__"=true) (k0:keepIn K (.ref f0)=true)
    (a1:nsIn K mainGlobals "room"=some (some (.ref f1))) (l1:K.lookup f1=some ⟨oc1,od1,.func (fnOf "room" "room" (Zt zs1) (Zp zs1) (Zg zs1) .none kV1 dc1 pm1 an1 cd1 ct1),sl1⟩) (c1:codeIn K cd1 "room"=true) (k1:keepIn K (.ref f1)=true)
    (a2:nsIn K mainGlobals "lay"=some (some (.ref f2))) (l2:K.lookup f2=some ⟨oc2,od2,.func (fnOf "lay" "lay" (Zt zs2) (Zp zs2) (Zg zs2) .none kV2 dc2 pm2 an2 cd2 ct2),sl2⟩) (c2:codeIn K cd2 "lay"=true) (k2:keepIn K (.ref f2)=true)
    (a3:nsIn K mainGlobals "take"=some (some (.ref f3))) (l3:K.lookup f3=some ⟨oc3,od3,.func (fnOf "take" "take" (Zt zs3) (Zp zs3) (Zg zs3) .none kV3 dc3 pm3 an3 cd3 ct3),sl3⟩) (c3:codeIn K cd3 "take"=true) (k3:keepIn K (.ref f3)=true)
    (a4:nsIn K mainGlobals "plus"=some (some (.ref f4))) (l4:K.lookup f4=some ⟨oc4,od4,.func (fnOf "plus" "plus" (Zt zs4) (Zp zs4) (Zg zs4) .none kV4 dc4 pm4 an4 cd4 ct4),sl4⟩) (c4:codeIn K cd4 "plus"=true) (k4:keepIn K (.ref f4)=true)
    (a5:nsIn K mainGlobals "offset"=some (some (.ref f5))) (l5:K.lookup f5=some ⟨oc5,od5,.func (fnOf "offset" "offset" (Zt zs5) (Zp zs5) (Zg zs5) .none kV5 dc5 pm5 an5 cd5 ct5),sl5⟩) (c5:codeIn K cd5 "offset"=true) (k5:keepIn K (.ref f5)=true)
    (a6:nsIn K mainGlobals "past"=some (some (.ref f6))) (l6:K.lookup f6=some ⟨oc6,od6,.func (fnOf "past" "past" (Zt zs6) (Zp zs6) (Zg zs6) .none kV6 dc6 pm6 an6 cd6 ct6),sl6⟩) (c6:codeIn K cd6 "past"=true) (k6:keepIn K (.ref f6)=true)
    (a7:findIn K (.ref C_End) "__init__"=some (some (.ref f7))) (i7:isFn K (.ref f7)=true) (l7:K.lookup f7=some ⟨oc7,od7,.func (fnOf "__init__" "End.__init__" (Zt zs7) (Zp zs7) (Zg zs7) .none kV7 dc7 pm7 an7 cd7 ct7),sl7⟩) (c7:codeIn K cd7 "End.__init__"=true) (k7:keepIn K (.ref f7)=true)
    (a8:nsIn K mainGlobals "start_timer"=some (some (.ref f8))) (l8:K.lookup f8=some ⟨oc8,od8,.func (fnOf "start_timer" "start_timer" (Zt zs8) (Zp zs8) (Zg zs8) .none kV8 dc8 pm8 an8 cd8 ct8),sl8⟩) (c8:codeIn K cd8 "start_timer"=true) (k8:keepIn K (.ref f8)=true)
    (a9:nsIn K mainGlobals "state"=some (some (.ref f9))) (l9:K.lookup f9=some ⟨oc9,od9,.func (fnOf "state" "state" (Zt zs9) (Zp zs9) (Zg zs9) .none kV9 dc9 pm9 an9 cd9 ct9),sl9⟩) (c9:codeIn K cd9 "state"=true) (k9:keepIn K (.ref f9)=true)
    (a10:nsIn K mainGlobals "our_window"=some (some (.ref f10))) (l10:K.lookup f10=some ⟨oc10,od10,.func (fnOf "our_window" "our_window" (Zt Zld) (Zp Zld) (Zg Zld) .none kV10 dc10 pm10 an10 cd10 ct10),sl10⟩) (c10:codeIn K cd10 "our_window"=true) (k10:keepIn K (.ref f10)=true)
    (a11:nsIn K mainGlobals "has_sent_fin"=some (some (.ref f11))) (l11:K.lookup f11=some ⟨oc11,od11,.func (fnOf "has_sent_fin" "has_sent_fin" (Zt Zlc) (Zp Zlc) (Zg Zlc) .none kV11 dc11 pm11 an11 cd11 ct11),sl11⟩) (c11:codeIn K cd11 "has_sent_fin"=true) (k11:keepIn K (.ref f11)=true)
    (a12:nsIn K mainGlobals "folded"=some (some (.ref f12))) (l12:K.lookup f12=some ⟨oc12,od12,.func (fnOf "folded" "folded" (Zt Zlb) (Zp Zlb) (Zg Zlb) .none kV12 dc12 pm12 an12 cd12 ct12),sl12⟩) (c12:codeIn K cd12 "folded"=true) (k12:keepIn K (.ref f12)=true)
    (a13:nsIn K mainGlobals "sum_of"=some (some (.ref f13))) (l13:K.lookup f13=some ⟨oc13,od13,.func (fnOf "sum_of" "sum_of" (Zt Zla) (Zp Zla) (Zg Zla) .none kV13 dc13 pm13 an13 cd13 ct13),sl13⟩) (c13:codeIn K cd13 "sum_of"=true) (k13:keepIn K (.ref f13)=true)
    (a14:nsIn K mainGlobals "length"=some (some (.ref f14))) (l14:K.lookup f14=some ⟨oc14,od14,.func (fnOf "length" "length" (Zt Zk9) (Zp Zk9) (Zg Zk9) .none kV14 dc14 pm14 an14 cd14 ct14),sl14⟩) (c14:codeIn K cd14 "length"=true) (k14:keepIn K (.ref f14)=true)
    (a15:nsIn K mainGlobals "has"=some (some (.ref f15))) (l15:K.lookup f15=some ⟨oc15,od15,.func (fnOf "has" "has" (Zt Zk8) (Zp Zk8) (Zg Zk8) .none kV15 dc15 pm15 an15 cd15 ct15),sl15⟩) (c15:codeIn K cd15 "has"=true) (k15:keepIn K (.ref f15)=true)
    (a16:nsIn K mainGlobals "bears"=some (some (.ref f16))) (l16:K.lookup f16=some ⟨oc16,od16,.func (fnOf "bears" "bears" (Zt Zk7) (Zp Zk7) (Zg Zk7) .none kV16 dc16 pm16 an16 cd16 ct16),sl16⟩) (c16:codeIn K cd16 "bears"=true) (k16:keepIn K (.ref f16)=true)
    (a17:nsIn K mainGlobals "put"=some (some (.ref f17))) (l17:K.lookup f17=some ⟨oc17,od17,.func (fnOf "put" "put" (Zt Zk6) (Zp Zk6) (Zg Zk6) .none kV17 dc17 pm17 an17 cd17 ct17),sl17⟩) (c17:codeIn K cd17 "put"=true) (k17:keepIn K (.ref f17)=true)
    (a18:nsIn K mainGlobals "bytes_ahead_of_sum"=some (some (.ref f18))) (l18:K.lookup f18=some ⟨oc18,od18,.func (fnOf "bytes_ahead_of_sum" "bytes_ahead_of_sum" (Zt Zk5) (Zp Zk5) (Zg Zk5) .none kV18 dc18 pm18 an18 cd18 ct18),sl18⟩) (c18:codeIn K cd18 "bytes_ahead_of_sum"=true) (k18:keepIn K (.ref f18)=true)
    (a19:nsIn K mainGlobals "byte_of_head"=some (some (.ref f19))) (l19:K.lookup f19=some ⟨oc19,od19,.func (fnOf "byte_of_head" "byte_of_head" (Zt Zk4) (Zp Zk4) (Zg Zk4) .none kV19 dc19 pm19 an19 cd19 ct19),sl19⟩) (c19:codeIn K cd19 "byte_of_head"=true) (k19:keepIn K (.ref f19)=true)
    (a20:nsIn K mainGlobals "bytes_of_most"=some (some (.ref f20))) (l20:K.lookup f20=some ⟨oc20,od20,.func (fnOf "bytes_of_most" "bytes_of_most" (Zt Zk3) (Zp Zk3) (Zg Zk3) .none kV20 dc20 pm20 an20 cd20 ct20),sl20⟩) (c20:codeIn K cd20 "bytes_of_most"=true) (k20:keepIn K (.ref f20)=true)
    (a21:nsIn K mainGlobals "two_bytes"=some (some (.ref f21))) (l21:K.lookup f21=some ⟨oc21,od21,.func (fnOf "two_bytes" "two_bytes" (Zt Zk2) (Zp Zk2) (Zg Zk2) .none kV21 dc21 pm21 an21 cd21 ct21),sl21⟩) (c21:codeIn K cd21 "two_bytes"=true) (k21:keepIn K (.ref f21)=true)
    (a22:nsIn K mainGlobals "four_bytes"=some (some (.ref f22))) (l22:K.lookup f22=some ⟨oc22,od22,.func (fnOf "four_bytes" "four_bytes" (Zt Zk1) (Zp Zk1) (Zg Zk1) .none kV22 dc22 pm22 an22 cd22 ct22),sl22⟩) (c22:codeIn K cd22 "four_bytes"=true) (k22:keepIn K (.ref f22)=true)
    (a23:nsIn K mainGlobals "is_right"=some (some (.ref f23))) (l23:K.lookup f23=some ⟨oc23,od23,.func (fnOf "is_right" "is_right" (Zt Zk0) (Zp Zk0) (Zg Zk0) .none kV23 dc23 pm23 an23 cd23 ct23),sl23⟩) (c23:codeIn K cd23 "is_right"=true) (k23:keepIn K (.ref f23)=true)
    (a24:nsIn K mainGlobals "head_of"=some (some (.ref f24))) (l24:K.lookup f24=some ⟨oc24,od24,.func (fnOf "head_of" "head_of" (Zt ZkZ) (Zp ZkZ) (Zg ZkZ) .none kV24 dc24 pm24 an24 cd24 ct24),sl24⟩) (c24:codeIn K cd24 "head_of"=true) (k24:keepIn K (.ref f24)=true)
    (a25:nsIn K mainGlobals "is_right_long_head"=some (some (.ref f25))) (l25:K.lookup f25=some ⟨oc25,od25,.func (fnOf "is_right_long_head" "is_right_long_head" (Zt ZkY) (Zp ZkY) (Zg ZkY) .none kV25 dc25 pm25 an25 cd25 ct25),sl25⟩) (c25:codeIn K cd25 "is_right_long_head"=true) (k25:keepIn K (.ref f25)=true)
    (a26:nsIn K mainGlobals "get"=some (some (.ref f26))) (l26:K.lookup f26=some ⟨oc26,od26,.func (fnOf "get" "get" (Zt ZkX) (Zp ZkX) (Zg ZkX) .none kV26 dc26 pm26 an26 cd26 ct26),sl26⟩) (c26:codeIn K cd26 "get"=true) (k26:keepIn K (.ref f26)=true)
    (a27:nsIn K mainGlobals "two_at"=some (some (.ref f27))) (l27:K.lookup f27=some ⟨oc27,od27,.func (fnOf "two_at" "two_at" (Zt ZkW) (Zp ZkW) (Zg ZkW) .none kV27 dc27 pm27 an27 cd27 ct27),sl27⟩) (c27:codeIn K cd27 "two_at"=true) (k27:keepIn K (.ref f27)=true)
    (a28:nsIn K mainGlobals "four_at"=some (some (.ref f28))) (l28:K.lookup f28=some ⟨oc28,od28,.func (fnOf "four_at" "four_at" (Zt ZkV) (Zp ZkV) (Zg ZkV) .none kV28 dc28 pm28 an28 cd28 ct28),sl28⟩) (c28:codeIn K cd28 "four_at"=true) (k28:keepIn K (.ref f28)=true)
    (a29:nsIn K mainGlobals "send"=some (some (.ref f29))) (l29:K.lookup f29=some ⟨oc29,od29,.func (fnOf "send" "send" (Zt ZkU) (Zp ZkU) (Zg ZkU) .none kV29 dc29 pm29 an29 cd29 ct29),sl29⟩) (c29:codeIn K cd29 "send"=true) (k29:keepIn K (.ref f29)=true)
    (a30:nsIn K mainGlobals "going"=some (some (.ref f30))) (l30:K.lookup f30=some ⟨oc30,od30,.func (fnOf "going" "going" (Zt ZkT) (Zp ZkT) (Zg ZkT) .none kV30 dc30 pm30 an30 cd30 ct30),sl30⟩) (c30:codeIn K cd30 "going"=true) (k30:keepIn K (.ref f30)=true)
    (a31:nsIn K mainGlobals "paid_reset"=some (some (.ref f31))) (l31:K.lookup f31=some ⟨oc31,od31,.func (fnOf "paid_reset" "paid_reset" (Zt ZkS) (Zp ZkS) (Zg ZkS) .none kV31 dc31 pm31 an31 cd31 ct31),sl31⟩) (c31:codeIn K cd31 "paid_reset"=true) (k31:keepIn K (.ref f31)=true)
    (a32:nsIn K mainGlobals "is_due"=some (some (.ref f32))) (l32:K.lookup f32=some ⟨oc32,od32,.func (fnOf "is_due" "is_due" (Zt ZkR) (Zp ZkR) (Zg ZkR) .none kV32 dc32 pm32 an32 cd32 ct32),sl32⟩) (c32:codeIn K cd32 "is_due"=true) (k32:keepIn K (.ref f32)=true)
    (a33:nsIn K mainGlobals "again"=some (some (.ref f33))) (l33:K.lookup f33=some ⟨oc33,od33,.func (fnOf "again" "again" (Zt ZkQ) (Zp ZkQ) (Zg ZkQ) .none kV33 dc33 pm33 an33 cd33 ct33),sl33⟩) (c33:codeIn K cd33 "again"=true) (k33:keepIn K (.ref f33)=true)
    (a34:nsIn K mainGlobals "most_at_once"=some (some (.ref f34))) (l34:K.lookup f34=some ⟨oc34,od34,.func (fnOf "most_at_once" "most_at_once" (Zt ZkP) (Zp ZkP) (Zg ZkP) .none kV34 dc34 pm34 an34 cd34 ct34),sl34⟩) (c34:codeIn K cd34 "most_at_once"=true) (k34:keepIn K (.ref f34)=true)
    (a35:nsIn K mainGlobals "paid_syn"=some (some (.ref f35))) (l35:K.lookup f35=some ⟨oc35,od35,.func (fnOf "paid_syn" "paid_syn" (Zt ZkO) (Zp ZkO) (Zg ZkO) .none kV35 dc35 pm35 an35 cd35 ct35),sl35⟩) (c35:codeIn K cd35 "paid_syn"=true) (k35:keepIn K (.ref f35)=true)
    (a36:nsIn K mainGlobals "segment_of"=some (some (.ref f36))) (l36:K.lookup f36=some ⟨oc36,od36,.func (fnOf "segment_of" "segment_of" (Zt ZkN) (Zp ZkN) (Zg ZkN) .none kV36 dc36 pm36 an36 cd36 ct36),sl36⟩) (c36:codeIn K cd36 "segment_of"=true) (k36:keepIn K (.ref f36)=true)
    (a37:nsIn K mainGlobals "going_as_new"=some (some (.ref f37))) (l37:K.lookup f37=some ⟨oc37,od37,.func (fnOf "going_as_new" "going_as_new" (Zt ZkM) (Zp ZkM) (Zg ZkM) .none kV37 dc37 pm37 an37 cd37 ct37),sl37⟩) (c37:codeIn K cd37 "going_as_new"=true) (k37:keepIn K (.ref f37)=true)
    (a38:nsIn K mainGlobals "new_syn"=some (some (.ref f38))) (l38:K.lookup f38=some ⟨oc38,od38,.func (fnOf "new_syn" "new_syn" (Zt ZkL) (Zp ZkL) (Zg ZkL) .none kV38 dc38 pm38 an38 cd38 ct38),sl38⟩) (c38:codeIn K cd38 "new_syn"=true) (k38:keepIn K (.ref f38)=true)
    (a39:nsIn K mainGlobals "has_more"=some (some (.ref f39))) (l39:K.lookup f39=some ⟨oc39,od39,.func (fnOf "has_more" "has_more" (Zt ZkK) (Zp ZkK) (Zg ZkK) .none kV39 dc39 pm39 an39 cd39 ct39),sl39⟩) (c39:codeIn K cd39 "has_more"=true) (k39:keepIn K (.ref f39)=true)
    (a40:nsIn K mainGlobals "has_new_data"=some (some (.ref f40))) (l40:K.lookup f40=some ⟨oc40,od40,.func (fnOf "has_new_data" "has_new_data" (Zt ZkJ) (Zp ZkJ) (Zg ZkJ) .none kV40 dc40 pm40 an40 cd40 ct40),sl40⟩) (c40:codeIn K cd40 "has_new_data"=true) (k40:keepIn K (.ref f40)=true)
    (a41:nsIn K mainGlobals "unsent"=some (some (.ref f41))) (l41:K.lookup f41=some ⟨oc41,od41,.func (fnOf "unsent" "unsent" (Zt ZkI) (Zp ZkI) (Zg ZkI) .none kV41 dc41 pm41 an41 cd41 ct41),sl41⟩) (c41:codeIn K cd41 "unsent"=true) (k41:keepIn K (.ref f41)=true)
    (a42:nsIn K mainGlobals "has_new_fin"=some (some (.ref f42))) (l42:K.lookup f42=some ⟨oc42,od42,.func (fnOf "has_new_fin" "has_new_fin" (Zt ZkH) (Zp ZkH) (Zg ZkH) .none kV42 dc42 pm42 an42 cd42 ct42),sl42⟩) (c42:codeIn K cd42 "has_new_fin"=true) (k42:keepIn K (.ref f42)=true)
    (a43:nsIn K mainGlobals "new_piece"=some (some (.ref f43))) (l43:K.lookup f43=some ⟨oc43,od43,.func (fnOf "new_piece" "new_piece" (Zt ZkG) (Zp ZkG) (Zg ZkG) .none kV43 dc43 pm43 an43 cd43 ct43),sl43⟩) (c43:codeIn K cd43 "new_piece"=true) (k43:keepIn K (.ref f43)=true)
    (a44:nsIn K mainGlobals "new_data"=some (some (.ref f44))) (l44:K.lookup f44=some ⟨oc44,od44,.func (fnOf "new_data" "new_data" (Zt ZkF) (Zp ZkF) (Zg ZkF) .none kV44 dc44 pm44 an44 cd44 ct44),sl44⟩) (c44:codeIn K cd44 "new_data"=true) (k44:keepIn K (.ref f44)=true)
    (a45:nsIn K mainGlobals "new_fin"=some (some (.ref f45))) (l45:K.lookup f45=some ⟨oc45,od45,.func (fnOf "new_fin" "new_fin" (Zt ZkE) (Zp ZkE) (Zg ZkE) .none kV45 dc45 pm45 an45 cd45 ct45),sl45⟩) (c45:codeIn K cd45 "new_fin"=true) (k45:keepIn K (.ref f45)=true)
    (a46:nsIn K mainGlobals "going_as_probe"=some (some (.ref f46))) (l46:K.lookup f46=some ⟨oc46,od46,.func (fnOf "going_as_probe" "going_as_probe" (Zt ZkD) (Zp ZkD) (Zg ZkD) .none kV46 dc46 pm46 an46 cd46 ct46),sl46⟩) (c46:codeIn K cd46 "going_as_probe"=true) (k46:keepIn K (.ref f46)=true)
    (a47:nsIn K mainGlobals "going_as_answer"=some (some (.ref f47))) (l47:K.lookup f47=some ⟨oc47,od47,.func (fnOf "going_as_answer" "going_as_answer" (Zt ZkC) (Zp ZkC) (Zg ZkC) .none kV47 dc47 pm47 an47 cd47 ct47),sl47⟩) (c47:codeIn K cd47 "going_as_answer"=true) (k47:keepIn K (.ref f47)=true)
    (a48:nsIn K mainGlobals "reset_for"=some (some (.ref f48))) (l48:K.lookup f48=some ⟨oc48,od48,.func (fnOf "reset_for" "reset_for" (Zt ZkB) (Zp ZkB) (Zg ZkB) .none kV48 dc48 pm48 an48 cd48 ct48),sl48⟩) (c48:codeIn K cd48 "reset_for"=true) (k48:keepIn K (.ref f48)=true)
    (a49:nsIn K mainGlobals "owe_reset_for"=some (some (.ref f49))) (l49:K.lookup f49=some ⟨oc49,od49,.func (fnOf "owe_reset_for" "owe_reset_for" (Zt ZkA) (Zp ZkA) (Zg ZkA) .none kV49 dc49 pm49 an49 cd49 ct49),sl49⟩) (c49:codeIn K cd49 "owe_reset_for"=true) (k49:keepIn K (.ref f49)=true)
    (a50:nsIn K mainGlobals "come_to_closed"=some (some (.ref f50))) (l50:K.lookup f50=some ⟨oc50,od50,.func (fnOf "come_to_closed" "come_to_closed" (Zt Zkz) (Zp Zkz) (Zg Zkz) .none kV50 dc50 pm50 an50 cd50 ct50),sl50⟩) (c50:codeIn K cd50 "come_to_closed"=true) (k50:keepIn K (.ref f50)=true)
    (a51:nsIn K mainGlobals "come_to_listen"=some (some (.ref f51))) (l51:K.lookup f51=some ⟨oc51,od51,.func (fnOf "come_to_listen" "come_to_listen" (Zt Zky) (Zp Zky) (Zg Zky) .none kV51 dc51 pm51 an51 cd51 ct51),sl51⟩) (c51:codeIn K cd51 "come_to_listen"=true) (k51:keepIn K (.ref f51)=true)
    (a52:nsIn K mainGlobals "hear_syn"=some (some (.ref f52))) (l52:K.lookup f52=some ⟨oc52,od52,.func (fnOf "hear_syn" "hear_syn" (Zt Zkx) (Zp Zkx) (Zg Zkx) .none kV52 dc52 pm52 an52 cd52 ct52),sl52⟩) (c52:codeIn K cd52 "hear_syn"=true) (k52:keepIn K (.ref f52)=true)
    (a53:nsIn K mainGlobals "come_to_syn_sent"=some (some (.ref f53))) (l53:K.lookup f53=some ⟨oc53,od53,.func (fnOf "come_to_syn_sent" "come_to_syn_sent" (Zt Zkw) (Zp Zkw) (Zg Zkw) .none kV53 dc53 pm53 an53 cd53 ct53),sl53⟩) (c53:codeIn K cd53 "come_to_syn_sent"=true) (k53:keepIn K (.ref f53)=true)
    (a54:nsIn K mainGlobals "answers_syn"=some (some (.ref f54))) (l54:K.lookup f54=some ⟨oc54,od54,.func (fnOf "answers_syn" "answers_syn" (Zt Zkv) (Zp Zkv) (Zg Zkv) .none kV54 dc54 pm54 an54 cd54 ct54),sl54⟩) (c54:codeIn K cd54 "answers_syn"=true) (k54:keepIn K (.ref f54)=true)
    (a55:nsIn K mainGlobals "refuse"=some (some (.ref f55))) (l55:K.lookup f55=some ⟨oc55,od55,.func (fnOf "refuse" "refuse" (Zt Zku) (Zp Zku) (Zg Zku) .none kV55 dc55 pm55 an55 cd55 ct55),sl55⟩) (c55:codeIn K cd55 "refuse"=true) (k55:keepIn K (.ref f55)=true)
    (a56:nsIn K mainGlobals "go_on_from_syn_sent"=some (some (.ref f56))) (l56:K.lookup f56=some ⟨oc56,od56,.func (fnOf "go_on_from_syn_sent" "go_on_from_syn_sent" (Zt Zkt) (Zp Zkt) (Zg Zkt) .none kV56 dc56 pm56 an56 cd56 ct56),sl56⟩) (c56:codeIn K cd56 "go_on_from_syn_sent"=true) (k56:keepIn K (.ref f56)=true)
    (a57:nsIn K mainGlobals "arrive"=some (some (.ref f57))) (l57:K.lookup f57=some ⟨oc57,od57,.func (fnOf "arrive" "arrive" (Zt Zks) (Zp Zks) (Zg Zks) .none kV57 dc57 pm57 an57 cd57 ct57),sl57⟩) (c57:codeIn K cd57 "arrive"=true) (k57:keepIn K (.ref f57)=true)
    (a58:nsIn K mainGlobals "is_for"=some (some (.ref f58))) (l58:K.lookup f58=some ⟨oc58,od58,.func (fnOf "is_for" "is_for" (Zt Zkr) (Zp Zkr) (Zg Zkr) .none kV58 dc58 pm58 an58 cd58 ct58),sl58⟩) (c58:codeIn K cd58 "is_for"=true) (k58:keepIn K (.ref f58)=true)
    (a59:nsIn K mainGlobals "come_to_stream"=some (some (.ref f59))) (l59:K.lookup f59=some ⟨oc59,od59,.func (fnOf "come_to_stream" "come_to_stream" (Zt Zkq) (Zp Zkq) (Zg Zkq) .none kV59 dc59 pm59 an59 cd59 ct59),sl59⟩) (c59:codeIn K cd59 "come_to_stream"=true) (k59:keepIn K (.ref f59)=true)
    (a60:nsIn K mainGlobals "fits"=some (some (.ref f60))) (l60:K.lookup f60=some ⟨oc60,od60,.func (fnOf "fits" "fits" (Zt Zkp) (Zp Zkp) (Zg Zkp) .none kV60 dc60 pm60 an60 cd60 ct60),sl60⟩) (c60:codeIn K cd60 "fits"=true) (k60:keepIn K (.ref f60)=true)
    (a61:nsIn K mainGlobals "is_in_window"=some (some (.ref f61))) (l61:K.lookup f61=some ⟨oc61,od61,.func (fnOf "is_in_window" "is_in_window" (Zt Zko) (Zp Zko) (Zg Zko) .none kV61 dc61 pm61 an61 cd61 ct61),sl61⟩) (c61:codeIn K cd61 "is_in_window"=true) (k61:keepIn K (.ref f61)=true)
    (a62:nsIn K mainGlobals "turn_away"=some (some (.ref f62))) (l62:K.lookup f62=some ⟨oc62,od62,.func (fnOf "turn_away" "turn_away" (Zt Zkn) (Zp Zkn) (Zg Zkn) .none kV62 dc62 pm62 an62 cd62 ct62),sl62⟩) (c62:codeIn K cd62 "turn_away"=true) (k62:keepIn K (.ref f62)=true)
    (a63:nsIn K mainGlobals "hear_reset"=some (some (.ref f63))) (l63:K.lookup f63=some ⟨oc63,od63,.func (fnOf "hear_reset" "hear_reset" (Zt Zkm) (Zp Zkm) (Zg Zkm) .none kV63 dc63 pm63 an63 cd63 ct63),sl63⟩) (c63:codeIn K cd63 "hear_reset"=true) (k63:keepIn K (.ref f63)=true)
    (a64:nsIn K mainGlobals "goes_on_behind_answer"=some (some (.ref f64))) (l64:K.lookup f64=some ⟨oc64,od64,.func (fnOf "goes_on_behind_answer" "goes_on_behind_answer" (Zt Zkl) (Zp Zkl) (Zg Zkl) .none kV64 dc64 pm64 an64 cd64 ct64),sl64⟩) (c64:codeIn K cd64 "goes_on_behind_answer"=true) (k64:keepIn K (.ref f64)=true)
    (a65:nsIn K mainGlobals "has_answered_syn"=some (some (.ref f65))) (l65:K.lookup f65=some ⟨oc65,od65,.func (fnOf "has_answered_syn" "has_answered_syn" (Zt Zkk) (Zp Zkk) (Zg Zkk) .none kV65 dc65 pm65 an65 cd65 ct65),sl65⟩) (c65:codeIn K cd65 "has_answered_syn"=true) (k65:keepIn K (.ref f65)=true)
    (a66:nsIn K mainGlobals "take_window"=some (some (.ref f66))) (l66:K.lookup f66=some ⟨oc66,od66,.func (fnOf "take_window" "take_window" (Zt Zkj) (Zp Zkj) (Zg Zkj) .none kV66 dc66 pm66 an66 cd66 ct66),sl66⟩) (c66:codeIn K cd66 "take_window"=true) (k66:keepIn K (.ref f66)=true)
    (a67:nsIn K mainGlobals "hear_answer"=some (some (.ref f67))) (l67:K.lookup f67=some ⟨oc67,od67,.func (fnOf "hear_answer" "hear_answer" (Zt Zki) (Zp Zki) (Zg Zki) .none kV67 dc67 pm67 an67 cd67 ct67),sl67⟩) (c67:codeIn K cd67 "hear_answer"=true) (k67:keepIn K (.ref f67)=true)
    (a68:nsIn K mainGlobals "is_newer"=some (some (.ref f68))) (l68:K.lookup f68=some ⟨oc68,od68,.func (fnOf "is_newer" "is_newer" (Zt Zkh) (Zp Zkh) (Zg Zkh) .none kV68 dc68 pm68 an68 cd68 ct68),sl68⟩) (c68:codeIn K cd68 "is_newer"=true) (k68:keepIn K (.ref f68)=true)
    (a69:nsIn K mainGlobals "end_what_is_acknowledged"=some (some (.ref f69))) (l69:K.lookup f69=some ⟨oc69,od69,.func (fnOf "end_what_is_acknowledged" "end_what_is_acknowledged" (Zt Zkg) (Zp Zkg) (Zg Zkg) .none kV69 dc69 pm69 an69 cd69 ct69),sl69⟩) (c69:codeIn K cd69 "end_what_is_acknowledged"=true) (k69:keepIn K (.ref f69)=true)
    (a70:nsIn K mainGlobals "hear_stream"=some (some (.ref f70))) (l70:K.lookup f70=some ⟨oc70,od70,.func (fnOf "hear_stream" "hear_stream" (Zt Zkf) (Zp Zkf) (Zg Zkf) .none kV70 dc70 pm70 an70 cd70 ct70),sl70⟩) (c70:codeIn K cd70 "hear_stream"=true) (k70:keepIn K (.ref f70)=true)
    (a71:nsIn K mainGlobals "keep_data"=some (some (.ref f71))) (l71:K.lookup f71=some ⟨oc71,od71,.func (fnOf "keep_data" "keep_data" (Zt Zke) (Zp Zke) (Zg Zke) .none kV71 dc71 pm71 an71 cd71 ct71),sl71⟩) (c71:codeIn K cd71 "keep_data"=true) (k71:keepIn K (.ref f71)=true)
    (a72:nsIn K mainGlobals "keep_fin"=some (some (.ref f72))) (l72:K.lookup f72=some ⟨oc72,od72,.func (fnOf "keep_fin" "keep_fin" (Zt Zkd) (Zp Zkd) (Zg Zkd) .none kV72 dc72 pm72 an72 cd72 ct72),sl72⟩) (c72:codeIn K cd72 "keep_fin"=true) (k72:keepIn K (.ref f72)=true)
    (a73:nsIn K mainGlobals "draw_in_order"=some (some (.ref f73))) (l73:K.lookup f73=some ⟨oc73,od73,.func (fnOf "draw_in_order" "draw_in_order" (Zt Zkc) (Zp Zkc) (Zg Zkc) .none kV73 dc73 pm73 an73 cd73 ct73),sl73⟩) (c73:codeIn K cd73 "draw_in_order"=true) (k73:keepIn K (.ref f73)=true)
    (a74:nsIn K mainGlobals "hear_fin"=some (some (.ref f74))) (l74:K.lookup f74=some ⟨oc74,od74,.func (fnOf "hear_fin" "hear_fin" (Zt Zkb) (Zp Zkb) (Zg Zkb) .none kV74 dc74 pm74 an74 cd74 ct74),sl74⟩) (c74:codeIn K cd74 "hear_fin"=true) (k74:keepIn K (.ref f74)=true)
    (a75:nsIn K mainGlobals "opened"=some (some (.ref f75))) (l75:K.lookup f75=some ⟨oc75,od75,.func (fnOf "opened" "opened" (Zt Zka) (Zp Zka) (Zg Zka) .none kV75 dc75 pm75 an75 cd75 ct75),sl75⟩) (c75:codeIn K cd75 "opened"=true) (k75:keepIn K (.ref f75)=true)
    (a76:nsIn K mainGlobals "write"=some (some (.ref f76))) (l76:K.lookup f76=some ⟨oc76,od76,.func (fnOf "write" "write" (Zt Zj9) (Zp Zj9) (Zg Zj9) .none kV76 dc76 pm76 an76 cd76 ct76),sl76⟩) (c76:codeIn K cd76 "write"=true) (k76:keepIn K (.ref f76)=true)
    (a77:nsIn K mainGlobals "close"=some (some (.ref f77))) (l77:K.lookup f77=some ⟨oc77,od77,.func (fnOf "close" "close" (Zt Zj8) (Zp Zj8) (Zg Zj8) .none kV77 dc77 pm77 an77 cd77 ct77),sl77⟩) (c77:codeIn K cd77 "close"=true) (k77:keepIn K (.ref f77)=true)
    (a78:nsIn K mainGlobals "_law_cell"=some (some (.ref f78))) (l78:K.lookup f78=some ⟨oc78,od78,.func (fnOf "_law_cell" "_law_cell" (Zt Zj7) (Zp Zj7) (Zg Zj7) .none kV78 dc78 pm78 an78 cd78 ct78),sl78⟩) (c78:codeIn K cd78 "_law_cell"=true) (k78:keepIn K (.ref f78)=true)
    (a79:nsIn K mainGlobals "_law_mix"=some (some (.ref f79))) (l79:K.lookup f79=some ⟨oc79,od79,.func (fnOf "_law_mix" "_law_mix" (Zt Zj6) (Zp Zj6) (Zg Zj6) .none kV79 dc79 pm79 an79 cd79 ct79),sl79⟩) (c79:codeIn K cd79 "_law_mix"=true) (k79:keepIn K (.ref f79)=true)
    (a80:nsIn K mainGlobals "_law_two"=some (some (.ref f80))) (l80:K.lookup f80=some ⟨oc80,od80,.func (fnOf "_law_two" "_law_two" (Zt Zj5) (Zp Zj5) (Zg Zj5) .none kV80 dc80 pm80 an80 cd80 ct80),sl80⟩) (c80:codeIn K cd80 "_law_two"=true) (k80:keepIn K (.ref f80)=true)
    (a81:nsIn K mainGlobals "_law_folded"=some (some (.ref f81))) (l81:K.lookup f81=some ⟨oc81,od81,.func (fnOf "_law_folded" "_law_folded" (Zt Zj4) (Zp Zj4) (Zg Zj4) .none kV81 dc81 pm81 an81 cd81 ct81),sl81⟩) (c81:codeIn K cd81 "_law_folded"=true) (k81:keepIn K (.ref f81)=true)
    (a82:nsIn K mainGlobals "_law_bytes"=some (some (.ref f82))) (l82:K.lookup f82=some ⟨oc82,od82,.func (fnOf "_law_bytes" "_law_bytes" (Zt Zj3) (Zp Zj3) (Zg Zj3) .none kV82 dc82 pm82 an82 cd82 ct82),sl82⟩) (c82:codeIn K cd82 "_law_bytes"=true) (k82:keepIn K (.ref f82)=true)
    (a83:nsIn K mainGlobals "_law_read"=some (some (.ref f83))) (l83:K.lookup f83=some ⟨oc83,od83,.func (fnOf "_law_read" "_law_read" (Zt Zit) (Zp Zit) (Zg Zit) .none kV83 dc83 pm83 an83 cd83 ct83),sl83⟩) (c83:codeIn K cd83 "_law_read"=true) (k83:keepIn K (.ref f83)=true)
    (a84:nsIn K mainGlobals "_law_byte"=some (some (.ref f84))) (l84:K.lookup f84=some ⟨oc84,od84,.func (fnOf "_law_byte" "_law_byte" (Zt Zj2) (Zp Zj2) (Zg Zj2) .none kV84 dc84 pm84 an84 cd84 ct84),sl84⟩) (c84:codeIn K cd84 "_law_byte"=true) (k84:keepIn K (.ref f84)=true)
    (a85:nsIn K mainGlobals "_law_plus"=some (some (.ref f85))) (l85:K.lookup f85=some ⟨oc85,od85,.func (fnOf "_law_plus" "_law_plus" (Zt Zj1) (Zp Zj1) (Zg Zj1) .none kV85 dc85 pm85 an85 cd85 ct85),sl85⟩) (c85:codeIn K cd85 "_law_plus"=true) (k85:keepIn K (.ref f85)=true)
    (a86:nsIn K mainGlobals "_law_first"=some (some (.ref f86))) (l86:K.lookup f86=some ⟨oc86,od86,.func (fnOf "_law_first" "_law_first" (Zt Zj0) (Zp Zj0) (Zg Zj0) .none kV86 dc86 pm86 an86 cd86 ct86),sl86⟩) (c86:codeIn K cd86 "_law_first"=true) (k86:keepIn K (.ref f86)=true)
    (a87:nsIn K mainGlobals "_law_segment"=some (some (.ref f87))) (l87:K.lookup f87=some ⟨oc87,od87,.func (fnOf "_law_segment" "_law_segment" (Zt ZjZ) (Zp ZjZ) (Zg ZjZ) .none kV87 dc87 pm87 an87 cd87 ct87),sl87⟩) (c87:codeIn K cd87 "_law_segment"=true) (k87:keepIn K (.ref f87)=true)
    (a88:nsIn K mainGlobals "_law_given"=some (some (.ref f88))) (l88:K.lookup f88=some ⟨oc88,od88,.func (fnOf "_law_given" "_law_given" (Zt ZjY) (Zp ZjY) (Zg ZjY) .none kV88 dc88 pm88 an88 cd88 ct88),sl88⟩) (c88:codeIn K cd88 "_law_given"=true) (k88:keepIn K (.ref f88)=true)
    (a89:nsIn K mainGlobals "_law_opened"=some (some (.ref f89))) (l89:K.lookup f89=some ⟨oc89,od89,.func (fnOf "_law_opened" "_law_opened" (Zt ZjX) (Zp ZjX) (Zg ZjX) .none kV89 dc89 pm89 an89 cd89 ct89),sl89⟩) (c89:codeIn K cd89 "_law_opened"=true) (k89:keepIn K (.ref f89)=true)
    (a90:nsIn K mainGlobals "_law_answer"=some (some (.ref f90))) (l90:K.lookup f90=some ⟨oc90,od90,.func (fnOf "_law_answer" "_law_answer" (Zt ZjW) (Zp ZjW) (Zg ZjW) .none kV90 dc90 pm90 an90 cd90 ct90),sl90⟩) (c90:codeIn K cd90 "_law_answer"=true) (k90:keepIn K (.ref f90)=true)
    (a91:nsIn K mainGlobals "_law_owed"=some (some (.ref f91))) (l91:K.lookup f91=some ⟨oc91,od91,.func (fnOf "_law_owed" "_law_owed" (Zt ZjV) (Zp ZjV) (Zg ZjV) .none kV91 dc91 pm91 an91 cd91 ct91),sl91⟩) (c91:codeIn K cd91 "_law_owed"=true) (k91:keepIn K (.ref f91)=true)
    (a92:nsIn K mainGlobals "_law_probe"=some (some (.ref f92))) (l92:K.lookup f92=some ⟨oc92,od92,.func (fnOf "_law_probe" "_law_probe" (Zt ZjU) (Zp ZjU) (Zg ZjU) .none kV92 dc92 pm92 an92 cd92 ct92),sl92⟩) (c92:codeIn K cd92 "_law_probe"=true) (k92:keepIn K (.ref f92)=true)
    (a93:nsIn K mainGlobals "_law_again"=some (some (.ref f93))) (l93:K.lookup f93=some ⟨oc93,od93,.func (fnOf "_law_again" "_law_again" (Zt ZjT) (Zp ZjT) (Zg ZjT) .none kV93 dc93 pm93 an93 cd93 ct93),sl93⟩) (c93:codeIn K cd93 "_law_again"=true) (k93:keepIn K (.ref f93)=true)
    (a94:nsIn K mainGlobals "law"=some (some (.ref f94))) (l94:K.lookup f94=some ⟨oc94,od94,.func (fnOf "law" "law" (Zt Zhe) (Zp Zhe) (Zg Zhe) .none kV94 dc94 pm94 an94 cd94 ct94),sl94⟩) (c94:codeIn K cd94 "law"=true) (k94:keepIn K (.ref f94)=true)
    (pg_End:plainGet K C_End Str.empty=true) (hd_End:hasDictIn K C_End=true) (po_End:plainOver K C_End=true) (sa_End:findIn K (.ref C_End) "__setattr__"=some (some (.builtin "object.__setattr__"))) (mk_End:makesIn K C_End=true) (kc_End:keepIn K (.ref C_End)=true)
    (pg_Pile:plainGet K C_Pile Str.empty=true) (hd_Pile:hasDictIn K C_Pile=true) (po_Pile:plainOver K C_Pile=true) (sa_Pile:findIn K (.ref C_Pile) "__setattr__"=some (some (.builtin "object.__setattr__"))) (mk_Pile:makesIn K C_Pile=true) (kc_Pile:keepIn K (.ref C_Pile)=true)
    (zA0:findIn K (.ref C_End) "behind"=some none)
    (zA1:findIn K (.ref C_End) "come"=some none)
    (zA2:findIn K (.ref C_End) "early"=some none)
    (zA3:findIn K (.ref C_End) "early_fin"=some none)
    (zA4:findIn K (.ref C_End) "error"=some none)
    (zA5:findIn K (.ref C_End) "first"=some none)
    (zA6:findIn K (.ref C_End) "has_closed"=some none)
    (zA7:findIn K (.ref C_End) "most"=some none)
    (zA8:findIn K (.ref C_End) "nxt"=some none)
    (zA9:findIn K (.ref C_End) "ours"=some none)
    (zA10:findIn K (.ref C_End) "owed_reset"=some none)
    (zA11:findIn K (.ref C_End) "owes_answer"=some none)
    (zA12:findIn K (.ref C_End) "owes_syn"=some none)
    (zA13:findIn K (.ref C_End) "probes"=some none)
    (zA14:findIn K (.ref C_End) "rcv"=some none)
    (zA15:findIn K (.ref C_End) "since"=some none)
    (zA16:findIn K (.ref C_End) "state"=some none)
    (zA17:findIn K (.ref C_End) "theirs"=some none)
    (zA18:findIn K (.ref C_End) "told"=some none)
    (zA19:findIn K (.ref C_End) "told_by"=some none)
    (zA20:findIn K (.ref C_End) "tries"=some none)
    (zA21:findIn K (.ref C_End) "una"=some none)
    (zA22:findIn K (.ref C_End) "wait"=some none)
    (zA23:findIn K (.ref C_End) "wnd"=some none)
    (zA24:findIn K (.ref C_End) "written"=some none)
    (zA25:findIn K (.ref C_Pile) "row"=some none)
    (zg0:nsIn K mainGlobals "ACK"=some (some (.int 16 zt0)))
    (zg1:nsIn K mainGlobals "ANSWER"=some (some (.int 3 zt1)))
    (zg2:nsIn K mainGlobals "CLOSED"=some (some (.str "closed" zt2)))
    (zg3:nsIn K mainGlobals "CLOSE_WAIT"=some (some (.str "close wait" zt3)))
    (zg4:nsIn K mainGlobals "CLOSING"=some (some (.str "closing" zt4)))
    (zg5:nsIn K mainGlobals "DATA"=some (some (.int 7 zt5)))
    (zg6:nsIn K mainGlobals "FIN"=some (some (.int 1 zt6)))
    (zg7:nsIn K mainGlobals "FIRST_WAIT"=some (some (.int 1000 zt7)))
    (zg8:nsIn K mainGlobals "FLAGS"=some (some (.int 4 zt8)))
    (zg9:nsIn K mainGlobals "GOAL"=some (some (.int 1 zt9)))
    (zg10:nsIn K mainGlobals "GREATEST_DATA"=some (some (.int 16 zt10)))
    (zg11:nsIn K mainGlobals "GREATEST_FLAGS"=some (some (.int 31 zt11)))
    (zg12:nsIn K mainGlobals "GREATEST_WORD"=some (some (.int 65535 zt12)))
    (zg13:nsIn K mainGlobals "HALF_ROUND"=some (some (.int 2147483648 zt13)))
    (zg14:nsIn K mainGlobals "LAST_ACK"=some (some (.str "last ack" zt14)))
    (zg15:nsIn K mainGlobals "LAST_WAIT"=some (some (.int 120000 zt15)))
    (zg16:nsIn K mainGlobals "LEAST_MOST"=some (some (.int 4 zt16)))
    (zg17:nsIn K mainGlobals "LISTEN"=some (some (.str "listen" zt17)))
    (zg18:nsIn K mainGlobals "LONGEST_WAIT"=some (some (.int 16000 zt18)))
    (zg19:nsIn K mainGlobals "LONG_HEAD"=some (some (.int 24 zt19)))
    (zg20:nsIn K mainGlobals "MOST"=some (some (.int 6 zt20)))
    (zg21:nsIn K mainGlobals "MOST_TRIES"=some (some (.int 6 zt21)))
    (zg22:nsIn K mainGlobals "MOST_UNTOLD"=some (some (.int 12 zt22)))
    (zg23:nsIn K mainGlobals "NO_ERROR"=some (some (.str "" zt23)))
    (zg24:nsIn K mainGlobals "NUMBER"=some (some (.int 2 zt24)))
    (zg25:nsIn K mainGlobals "OPEN"=some (some (.str "open" zt25)))
    (zg26:nsIn K mainGlobals "PSH"=some (some (.int 8 zt26)))
    (zg27:nsIn K mainGlobals "REFUSED"=some (some (.str "refused" zt27)))
    (zg28:nsIn K mainGlobals "RESET"=some (some (.str "reset" zt28)))
    (zg29:nsIn K mainGlobals "RIGHT_SUM"=some (some (.int 65535 zt29)))
    (zg30:nsIn K mainGlobals "ROOM"=some (some (.int 64 zt30)))
    (zg31:nsIn K mainGlobals "ROUND"=some (some (.int 4294967296 zt31)))
    (zg32:nsIn K mainGlobals "RST"=some (some (.int 4 zt32)))
    (zg33:nsIn K mainGlobals "SHORT_HEAD"=some (some (.int 20 zt33)))
    (zg34:nsIn K mainGlobals "SOURCE"=some (some (.int 0 zt34)))
    (zg35:nsIn K mainGlobals "SYN"=some (some (.int 2 zt35)))
    (zg36:nsIn K mainGlobals "SYN_COME"=some (some (.str "syn come" zt36)))
    (zg37:nsIn K mainGlobals "SYN_SENT"=some (some (.str "syn sent" zt37)))
    (zg38:nsIn K mainGlobals "TIME"=some (some (.str "time" zt38)))
    (zg39:nsIn K mainGlobals "TIME_WAIT"=some (some (.str "time wait" zt39)))
    (zg40:nsIn K mainGlobals "WAIT_ONE"=some (some (.str "wait one" zt40)))
    (zg41:nsIn K mainGlobals "WAIT_TWO"=some (some (.str "wait two" zt41)))
    (zg42:nsIn K mainGlobals "WINDOW"=some (some (.int 5 zt42)))
    (zg43:nsIn K mainGlobals "WORDS"=some (some (.int 65536 zt43)))
    (z_all:nsIn K mainGlobals "all"=some none)
    (z_bool:nsIn K mainGlobals "bool"=some none)
    (z_enumerate:nsIn K mainGlobals "enumerate"=some none)
    (z_int:nsIn K mainGlobals "int"=some none)
    (z_isinstance:nsIn K mainGlobals "isinstance"=some none)
    (z_len:nsIn K mainGlobals "len"=some none)
    (z_list:nsIn K mainGlobals "list"=some none)
    (z_max:nsIn K mainGlobals "max"=some none)
    (z_min:nsIn K mainGlobals "min"=some none)
    (z_range:nsIn K mainGlobals "range"=some none)
    (z_sum:nsIn K mainGlobals "sum"=some none)
    (z_tuple:nsIn K mainGlobals "tuple"=some none) :
    ∃fd:FuncData,(∀(s:Shared) (v:Value),BindsTo s fd ⟨[v],[]⟩ [("_law_script",v)])∧∀base:Heap,K.In base→base.Ns mainGlobals mg→FnOk l.prog w K mg base CX0 11 fa fd ["_law_script"] (ZmW K):=by
  have e:=hfa.symm.trans (mg_of X G a94)
  cases e
  have eC_End:C_End=Zad mg "End":=(Znp (mg_of X G aC_End)).symm
  have eC_Pile:C_Pile=Zad mg "Pile":=(Znp (mg_of X G aC_Pile)).symm
  subst eC_End
  subst eC_Pile
  have g:Glb K mg:=⟨⟨_,mg_of X G zg0⟩,⟨_,mg_of X G zg1⟩,⟨_,mg_of X G zg2⟩,⟨_,mg_of X G zg3⟩,⟨_,mg_of X G zg4⟩,⟨_,mg_of X G zg5⟩,⟨_,mg_of X G zg6⟩,⟨_,mg_of X G zg7⟩,⟨_,mg_of X G zg8⟩,⟨_,mg_of X G zg9⟩,⟨_,mg_of X G zg10⟩,⟨_,mg_of X G zg11⟩,⟨_,mg_of X G zg12⟩,⟨_,mg_of X G zg13⟩,⟨_,mg_of X G zg14⟩,⟨_,mg_of X G zg15⟩,⟨_,mg_of X G zg16⟩,⟨_,mg_of X G zg17⟩,⟨_,mg_of X G zg18⟩,⟨_,mg_of X G zg19⟩,⟨_,mg_of X G zg20⟩,⟨_,mg_of X G zg21⟩,⟨_,mg_of X G zg22⟩,⟨_,mg_of X G zg23⟩,⟨_,mg_of X G zg24⟩,⟨_,mg_of X G zg25⟩,⟨_,mg_of X G zg26⟩,⟨_,mg_of X G zg27⟩,⟨_,mg_of X G zg28⟩,⟨_,mg_of X G zg29⟩,⟨_,mg_of X G zg30⟩,⟨_,mg_of X G zg31⟩,⟨_,mg_of X G zg32⟩,⟨_,mg_of X G zg33⟩,⟨_,mg_of X G zg34⟩,⟨_,mg_of X G zg35⟩,⟨_,mg_of X G zg36⟩,⟨_,mg_of X G zg37⟩,⟨_,mg_of X G zg38⟩,⟨_,mg_of X G zg39⟩,⟨_,mg_of X G zg40⟩,⟨_,mg_of X G zg41⟩,⟨_,mg_of X G zg42⟩,⟨_,mg_of X G zg43⟩,mg_none_of X G z_all,mg_none_of X G z_bool,mg_none_of X G z_enumerate,mg_none_of X G z_int,mg_none_of X G z_isinstance,mg_none_of X G z_len,mg_none_of X G z_list,mg_none_of X G z_max,mg_none_of X G z_min,mg_none_of X G z_range,mg_none_of X G z_sum,mg_none_of X G z_tuple,⟨pg_End,hd_End,po_End,sa_End⟩,⟨pg_Pile,hd_Pile,po_Pile,sa_Pile⟩,zA0,zA1,zA2,zA3,zA4,zA5,zA6,zA7,zA8,zA9,zA10,zA11,zA12,zA13,zA14,zA15,zA16,zA17,zA18,zA19,zA20,zA21,zA22,zA23,zA24,zA25⟩
  have F0:=Zz (st:=zs0) l0 c0 k0
  have b0:=F0.binds (ps:=zP0) fun _ _ _ _ _ _=>us1 fun _=>rfl
  have D0:Mk0 K mg "Pile" "Pile.__init__" zs0 zP0:=⟨_,_,F0,b0,⟨mk_Pile,a0,i0,kc_Pile⟩,mg_of X G aC_Pile⟩
  have F1:=Zz (st:=zs1) l1 c1 k1
  have b1:=F1.binds (ps:=zP1) fun _ _ _ _ _ _=>us1 fun _=>rfl
  have D1:Zl K mg "room" zs1 zP1:=⟨_,_,F1,b1,mg_of X G a1⟩
  have F2:=Zz (st:=zs2) l2 c2 k2
  have b2:=F2.binds (ps:=zP2) fun _ _ _ _ _ _=>us2 fun _ _=>rfl
  have D2:Zl K mg "lay" zs2 zP2:=⟨_,_,F2,b2,mg_of X G a2⟩
  have F3:=Zz (st:=zs3) l3 c3 k3
  have b3:=F3.binds (ps:=zP3) fun _ _ _ _ _ _=>us2 fun _ _=>rfl
  have D3:Zl K mg "take" zs3 zP3:=⟨_,_,F3,b3,mg_of X G a3⟩
  have F4:=Zz (st:=zs4) l4 c4 k4
  have b4:=F4.binds (ps:=zP4) fun _ _ _ _ _ _=>us2 fun _ _=>rfl
  have D4:Zl K mg "plus" zs4 zP4:=⟨_,_,F4,b4,mg_of X G a4⟩
  have F5:=Zz (st:=zs5) l5 c5 k5
  have b5:=F5.binds (ps:=zP5) fun _ _ _ _ _ _=>us2 fun _ _=>rfl
  have D5:Zl K mg "offset" zs5 zP5:=⟨_,_,F5,b5,mg_of X G a5⟩
  have F6:=Zz (st:=zs6) l6 c6 k6
  have b6:=F6.binds (ps:=zP6) fun _ _ _ _ _ _=>us2 fun _ _=>rfl
  have D6:Zl K mg "past" zs6 zP6:=⟨_,_,F6,b6,mg_of X G a6⟩
  have F7:=Zz (st:=zs7) l7 c7 k7
  have b7:=F7.binds (ps:=zP7) fun _ _ _ _ _ _=>us5 fun _ _ _ _ _=>rfl
  have D7:Mk0 K mg "End" "End.__init__" zs7 zP7:=⟨_,_,F7,b7,⟨mk_End,a7,i7,kc_End⟩,mg_of X G aC_End⟩
  have F8:=Zz (st:=zs8) l8 c8 k8
  have b8:=F8.binds (ps:=zP8) fun _ _ _ _ _ _=>us2 fun _ _=>rfl
  have D8:Zl K mg "start_timer" zs8 zP8:=⟨_,_,F8,b8,mg_of X G a8⟩
  have F9:=Zz (st:=zs9) l9 c9 k9
  have b9:=F9.binds (ps:=zP9) fun _ _ _ _ _ _=>us1 fun _=>rfl
  have D9:Zl K mg "state" zs9 zP9:=⟨_,_,F9,b9,mg_of X G a9⟩
  have F10:=Zz (st:=Zld) l10 c10 k10
  have b10:=F10.binds (ps:=Zpy) fun _ _ _ _ _ _=>us1 fun _=>rfl
  have D10:Zl K mg "our_window" Zld Zpy:=⟨_,_,F10,b10,mg_of X G a10⟩
  have F11:=Zz (st:=Zlc) l11 c11 k11
  have b11:=F11.binds (ps:=Zpx) fun _ _ _ _ _ _=>us1 fun _=>rfl
  have D11:Zl K mg "has_sent_fin" Zlc Zpx:=⟨_,_,F11,b11,mg_of X G a11⟩
  have F12:=Zz (st:=Zlb) l12 c12 k12
  have b12:=F12.binds (ps:=Zpw) fun _ _ _ _ _ _=>us1 fun _=>rfl
  have D12:Zl K mg "folded" Zlb Zpw:=⟨_,_,F12,b12,mg_of X G a12⟩
  have F13:=Zz (st:=Zla) l13 c13 k13
  have b13:=F13.binds (ps:=Zpv) fun _ _ _ _ _ _=>us1 fun _=>rfl
  have D13:Zl K mg "sum_of" Zla Zpv:=⟨_,_,F13,b13,mg_of X G a13⟩
  have F14:=Zz (st:=Zk9) l14 c14 k14
  have b14:=F14.binds (ps:=Zpu) fun _ _ _ _ _ _=>us1 fun _=>rfl
  have D14:Zl K mg "length" Zk9 Zpu:=⟨_,_,F14,b14,mg_of X G a14⟩
  have F15:=Zz (st:=Zk8) l15 c15 k15
  have b15:=F15.binds (ps:=Zpt) fun _ _ _ _ _ _=>us2 fun _ _=>rfl
  have D15:Zl K mg "has" Zk8 Zpt:=⟨_,_,F15,b15,mg_of X G a15⟩
  have F16:=Zz (st:=Zk7) l16 c16 k16
  have b16:=F16.binds (ps:=Zps) fun _ _ _ _ _ _=>us2 fun _ _=>rfl
  have D16:Zl K mg "bears" Zk7 Zps:=⟨_,_,F16,b16,mg_of X G a16⟩
  have F17:=Zz (st:=Zk6) l17 c17 k17
  have b17:=F17.binds (ps:=Zpr) fun _ _ _ _ _ _=>us1 fun _=>rfl
  have D17:Zl K mg "put" Zk6 Zpr:=⟨_,_,F17,b17,mg_of X G a17⟩
  have F18:=Zz (st:=Zk5) l18 c18 k18
  have b18:=F18.binds (ps:=Zpq) fun _ _ _ _ _ _=>us1 fun _=>rfl
  have D18:Zl K mg "bytes_ahead_of_sum" Zk5 Zpq:=⟨_,_,F18,b18,mg_of X G a18⟩
  have F19:=Zz (st:=Zk4) l19 c19 k19
  have b19:=F19.binds (ps:=Zpp) fun _ _ _ _ _ _=>us1 fun _=>rfl
  have D19:Zl K mg "byte_of_head" Zk4 Zpp:=⟨_,_,F19,b19,mg_of X G a19⟩
  have F20:=Zz (st:=Zk3) l20 c20 k20
  have b20:=F20.binds (ps:=Zpo) fun _ _ _ _ _ _=>us1 fun _=>rfl
  have D20:Zl K mg "bytes_of_most" Zk3 Zpo:=⟨_,_,F20,b20,mg_of X G a20⟩
  have F21:=Zz (st:=Zk2) l21 c21 k21
  have b21:=F21.binds (ps:=Zpn) fun _ _ _ _ _ _=>us1 fun _=>rfl
  have D21:Zl K mg "two_bytes" Zk2 Zpn:=⟨_,_,F21,b21,mg_of X G a21⟩
  have F22:=Zz (st:=Zk1) l22 c22 k22
  have b22:=F22.binds (ps:=Zpm) fun _ _ _ _ _ _=>us1 fun _=>rfl
  have D22:Zl K mg "four_bytes" Zk1 Zpm:=⟨_,_,F22,b22,mg_of X G a22⟩
  have F23:=Zz (st:=Zk0) l23 c23 k23
  have b23:=F23.binds (ps:=Zpl) fun _ _ _ _ _ _=>us1 fun _=>rfl
  have D23:Zl K mg "is_right" Zk0 Zpl:=⟨_,_,F23,b23,mg_of X G a23⟩
  have F24:=Zz (st:=ZkZ) l24 c24 k24
  have b24:=F24.binds (ps:=Zpk) fun _ _ _ _ _ _=>us1 fun _=>rfl
  have D24:Zl K mg "head_of" ZkZ Zpk:=⟨_,_,F24,b24,mg_of X G a24⟩
  have F25:=Zz (st:=ZkY) l25 c25 k25
  have b25:=F25.binds (ps:=Zpj) fun _ _ _ _ _ _=>us1 fun _=>rfl
  have D25:Zl K mg "is_right_long_head" ZkY Zpj:=⟨_,_,F25,b25,mg_of X G a25⟩
  have F26:=Zz (st:=ZkX) l26 c26 k26
  have b26:=F26.binds (ps:=Zpi) fun _ _ _ _ _ _=>us1 fun _=>rfl
  have D26:Zl K mg "get" ZkX Zpi:=⟨_,_,F26,b26,mg_of X G a26⟩
  have F27:=Zz (st:=ZkW) l27 c27 k27
  have b27:=F27.binds (ps:=Zph) fun _ _ _ _ _ _=>us2 fun _ _=>rfl
  have D27:Zl K mg "two_at" ZkW Zph:=⟨_,_,F27,b27,mg_of X G a27⟩
  have F28:=Zz (st:=ZkV) l28 c28 k28
  have b28:=F28.binds (ps:=Zpg) fun _ _ _ _ _ _=>us2 fun _ _=>rfl
  have D28:Zl K mg "four_at" ZkV Zpg:=⟨_,_,F28,b28,mg_of X G a28⟩
  have F29:=Zz (st:=ZkU) l29 c29 k29
  have b29:=F29.binds (ps:=Zpf) fun _ _ _ _ _ _=>us2 fun _ _=>rfl
  have D29:Zl K mg "send" ZkU Zpf:=⟨_,_,F29,b29,mg_of X G a29⟩
  have F30:=Zz (st:=ZkT) l30 c30 k30
  have b30:=F30.binds (ps:=Zpe) fun _ _ _ _ _ _=>us2 fun _ _=>rfl
  have D30:Zl K mg "going" ZkT Zpe:=⟨_,_,F30,b30,mg_of X G a30⟩
  have F31:=Zz (st:=ZkS) l31 c31 k31
  have b31:=F31.binds (ps:=Zpd) fun _ _ _ _ _ _=>us1 fun _=>rfl
  have D31:Zl K mg "paid_reset" ZkS Zpd:=⟨_,_,F31,b31,mg_of X G a31⟩
  have F32:=Zz (st:=ZkR) l32 c32 k32
  have b32:=F32.binds (ps:=Zpc) fun _ _ _ _ _ _=>us2 fun _ _=>rfl
  have D32:Zl K mg "is_due" ZkR Zpc:=⟨_,_,F32,b32,mg_of X G a32⟩
  have F33:=Zz (st:=ZkQ) l33 c33 k33
  have b33:=F33.binds (ps:=Zpb) fun _ _ _ _ _ _=>us2 fun _ _=>rfl
  have D33:Zl K mg "again" ZkQ Zpb:=⟨_,_,F33,b33,mg_of X G a33⟩
  have F34:=Zz (st:=ZkP) l34 c34 k34
  have b34:=F34.binds (ps:=Zpa) fun _ _ _ _ _ _=>us1 fun _=>rfl
  have D34:Zl K mg "most_at_once" ZkP Zpa:=⟨_,_,F34,b34,mg_of X G a34⟩
  have F35:=Zz (st:=ZkO) l35 c35 k35
  have b35:=F35.binds (ps:=Zo9) fun _ _ _ _ _ _=>us1 fun _=>rfl
  have D35:Zl K mg "paid_syn" ZkO Zo9:=⟨_,_,F35,b35,mg_of X G a35⟩
  have F36:=Zz (st:=ZkN) l36 c36 k36
  have b36:=F36.binds (ps:=Zo8) fun _ _ _ _ _ _=>us4 fun _ _ _ _=>rfl
  have D36:Zl K mg "segment_of" ZkN Zo8:=⟨_,_,F36,b36,mg_of X G a36⟩
  have F37:=Zz (st:=ZkM) l37 c37 k37
  have b37:=F37.binds (ps:=Zo7) fun _ _ _ _ _ _=>us2 fun _ _=>rfl
  have D37:Zl K mg "going_as_new" ZkM Zo7:=⟨_,_,F37,b37,mg_of X G a37⟩
  have F38:=Zz (st:=ZkL) l38 c38 k38
  have b38:=F38.binds (ps:=Zo6) fun _ _ _ _ _ _=>us2 fun _ _=>rfl
  have D38:Zl K mg "new_syn" ZkL Zo6:=⟨_,_,F38,b38,mg_of X G a38⟩
  have F39:=Zz (st:=ZkK) l39 c39 k39
  have b39:=F39.binds (ps:=Zo5) fun _ _ _ _ _ _=>us1 fun _=>rfl
  have D39:Zl K mg "has_more" ZkK Zo5:=⟨_,_,F39,b39,mg_of X G a39⟩
  have F40:=Zz (st:=ZkJ) l40 c40 k40
  have b40:=F40.binds (ps:=Zo4) fun _ _ _ _ _ _=>us1 fun _=>rfl
  have D40:Zl K mg "has_new_data" ZkJ Zo4:=⟨_,_,F40,b40,mg_of X G a40⟩
  have F41:=Zz (st:=ZkI) l41 c41 k41
  have b41:=F41.binds (ps:=Zo3) fun _ _ _ _ _ _=>us1 fun _=>rfl
  have D41:Zl K mg "unsent" ZkI Zo3:=⟨_,_,F41,b41,mg_of X G a41⟩
  have F42:=Zz (st:=ZkH) l42 c42 k42
  have b42:=F42.binds (ps:=Zo2) fun _ _ _ _ _ _=>us1 fun _=>rfl
  have D42:Zl K mg "has_new_fin" ZkH Zo2:=⟨_,_,F42,b42,mg_of X G a42⟩
  have F43:=Zz (st:=ZkG) l43 c43 k43
  have b43:=F43.binds (ps:=Zo1) fun _ _ _ _ _ _=>us2 fun _ _=>rfl
  have D43:Zl K mg "new_piece" ZkG Zo1:=⟨_,_,F43,b43,mg_of X G a43⟩
  have F44:=Zz (st:=ZkF) l44 c44 k44
  have b44:=F44.binds (ps:=Zo0) fun _ _ _ _ _ _=>us2 fun _ _=>rfl
  have D44:Zl K mg "new_data" ZkF Zo0:=⟨_,_,F44,b44,mg_of X G a44⟩
  have F45:=Zz (st:=ZkE) l45 c45 k45
  have b45:=F45.binds (ps:=ZoZ) fun _ _ _ _ _ _=>us1 fun _=>rfl
  have D45:Zl K mg "new_fin" ZkE ZoZ:=⟨_,_,F45,b45,mg_of X G a45⟩
  have F46:=Zz (st:=ZkD) l46 c46 k46
  have b46:=F46.binds (ps:=ZoY) fun _ _ _ _ _ _=>us2 fun _ _=>rfl
  have D46:Zl K mg "going_as_probe" ZkD ZoY:=⟨_,_,F46,b46,mg_of X G a46⟩
  have F47:=Zz (st:=ZkC) l47 c47 k47
  have b47:=F47.binds (ps:=ZoX) fun _ _ _ _ _ _=>us1 fun _=>rfl
  have D47:Zl K mg "going_as_answer" ZkC ZoX:=⟨_,_,F47,b47,mg_of X G a47⟩
  have F48:=Zz (st:=ZkB) l48 c48 k48
  have b48:=F48.binds (ps:=ZoW) fun _ _ _ _ _ _=>us1 fun _=>rfl
  have D48:Zl K mg "reset_for" ZkB ZoW:=⟨_,_,F48,b48,mg_of X G a48⟩
  have F49:=Zz (st:=ZkA) l49 c49 k49
  have b49:=F49.binds (ps:=ZoV) fun _ _ _ _ _ _=>us2 fun _ _=>rfl
  have D49:Zl K mg "owe_reset_for" ZkA ZoV:=⟨_,_,F49,b49,mg_of X G a49⟩
  have F50:=Zz (st:=Zkz) l50 c50 k50
  have b50:=F50.binds (ps:=ZoU) fun _ _ _ _ _ _=>us2 fun _ _=>rfl
  have D50:Zl K mg "come_to_closed" Zkz ZoU:=⟨_,_,F50,b50,mg_of X G a50⟩
  have F51:=Zz (st:=Zky) l51 c51 k51
  have b51:=F51.binds (ps:=ZoT) fun _ _ _ _ _ _=>us2 fun _ _=>rfl
  have D51:Zl K mg "come_to_listen" Zky ZoT:=⟨_,_,F51,b51,mg_of X G a51⟩
  have F52:=Zz (st:=Zkx) l52 c52 k52
  have b52:=F52.binds (ps:=ZoS) fun _ _ _ _ _ _=>us2 fun _ _=>rfl
  have D52:Zl K mg "hear_syn" Zkx ZoS:=⟨_,_,F52,b52,mg_of X G a52⟩
  have F53:=Zz (st:=Zkw) l53 c53 k53
  have b53:=F53.binds (ps:=ZoR) fun _ _ _ _ _ _=>us3 fun _ _ _=>rfl
  have D53:Zl K mg "come_to_syn_sent" Zkw ZoR:=⟨_,_,F53,b53,mg_of X G a53⟩
  have F54:=Zz (st:=Zkv) l54 c54 k54
  have b54:=F54.binds (ps:=ZoQ) fun _ _ _ _ _ _=>us2 fun _ _=>rfl
  have D54:Zl K mg "answers_syn" Zkv ZoQ:=⟨_,_,F54,b54,mg_of X G a54⟩
  have F55:=Zz (st:=Zku) l55 c55 k55
  have b55:=F55.binds (ps:=ZoP) fun _ _ _ _ _ _=>us2 fun _ _=>rfl
  have D55:Zl K mg "refuse" Zku ZoP:=⟨_,_,F55,b55,mg_of X G a55⟩
  have F56:=Zz (st:=Zkt) l56 c56 k56
  have b56:=F56.binds (ps:=ZoO) fun _ _ _ _ _ _=>us3 fun _ _ _=>rfl
  have D56:Zl K mg "go_on_from_syn_sent" Zkt ZoO:=⟨_,_,F56,b56,mg_of X G a56⟩
  have F57:=Zz (st:=Zks) l57 c57 k57
  have b57:=F57.binds (ps:=ZoN) fun _ _ _ _ _ _=>us3 fun _ _ _=>rfl
  have D57:Zl K mg "arrive" Zks ZoN:=⟨_,_,F57,b57,mg_of X G a57⟩
  have F58:=Zz (st:=Zkr) l58 c58 k58
  have b58:=F58.binds (ps:=ZoM) fun _ _ _ _ _ _=>us2 fun _ _=>rfl
  have D58:Zl K mg "is_for" Zkr ZoM:=⟨_,_,F58,b58,mg_of X G a58⟩
  have F59:=Zz (st:=Zkq) l59 c59 k59
  have b59:=F59.binds (ps:=ZoL) fun _ _ _ _ _ _=>us3 fun _ _ _=>rfl
  have D59:Zl K mg "come_to_stream" Zkq ZoL:=⟨_,_,F59,b59,mg_of X G a59⟩
  have F60:=Zz (st:=Zkp) l60 c60 k60
  have b60:=F60.binds (ps:=ZoK) fun _ _ _ _ _ _=>us2 fun _ _=>rfl
  have D60:Zl K mg "fits" Zkp ZoK:=⟨_,_,F60,b60,mg_of X G a60⟩
  have F61:=Zz (st:=Zko) l61 c61 k61
  have b61:=F61.binds (ps:=ZoJ) fun _ _ _ _ _ _=>us2 fun _ _=>rfl
  have D61:Zl K mg "is_in_window" Zko ZoJ:=⟨_,_,F61,b61,mg_of X G a61⟩
  have F62:=Zz (st:=Zkn) l62 c62 k62
  have b62:=F62.binds (ps:=ZoI) fun _ _ _ _ _ _=>us3 fun _ _ _=>rfl
  have D62:Zl K mg "turn_away" Zkn ZoI:=⟨_,_,F62,b62,mg_of X G a62⟩
  have F63:=Zz (st:=Zkm) l63 c63 k63
  have b63:=F63.binds (ps:=ZoH) fun _ _ _ _ _ _=>us2 fun _ _=>rfl
  have D63:Zl K mg "hear_reset" Zkm ZoH:=⟨_,_,F63,b63,mg_of X G a63⟩
  have F64:=Zz (st:=Zkl) l64 c64 k64
  have b64:=F64.binds (ps:=ZoG) fun _ _ _ _ _ _=>us3 fun _ _ _=>rfl
  have D64:Zl K mg "goes_on_behind_answer" Zkl ZoG:=⟨_,_,F64,b64,mg_of X G a64⟩
  have F65:=Zz (st:=Zkk) l65 c65 k65
  have b65:=F65.binds (ps:=ZoF) fun _ _ _ _ _ _=>us2 fun _ _=>rfl
  have D65:Zl K mg "has_answered_syn" Zkk ZoF:=⟨_,_,F65,b65,mg_of X G a65⟩
  have F66:=Zz (st:=Zkj) l66 c66 k66
  have b66:=F66.binds (ps:=ZoE) fun _ _ _ _ _ _=>us2 fun _ _=>rfl
  have D66:Zl K mg "take_window" Zkj ZoE:=⟨_,_,F66,b66,mg_of X G a66⟩
  have F67:=Zz (st:=Zki) l67 c67 k67
  have b67:=F67.binds (ps:=ZoD) fun _ _ _ _ _ _=>us3 fun _ _ _=>rfl
  have D67:Zl K mg "hear_answer" Zki ZoD:=⟨_,_,F67,b67,mg_of X G a67⟩
  have F68:=Zz (st:=Zkh) l68 c68 k68
  have b68:=F68.binds (ps:=ZoC) fun _ _ _ _ _ _=>us2 fun _ _=>rfl
  have D68:Zl K mg "is_newer" Zkh ZoC:=⟨_,_,F68,b68,mg_of X G a68⟩
  have F69:=Zz (st:=Zkg) l69 c69 k69
  have b69:=F69.binds (ps:=ZoB) fun _ _ _ _ _ _=>us2 fun _ _=>rfl
  have D69:Zl K mg "end_what_is_acknowledged" Zkg ZoB:=⟨_,_,F69,b69,mg_of X G a69⟩
  have F70:=Zz (st:=Zkf) l70 c70 k70
  have b70:=F70.binds (ps:=ZoA) fun _ _ _ _ _ _=>us3 fun _ _ _=>rfl
  have D70:Zl K mg "hear_stream" Zkf ZoA:=⟨_,_,F70,b70,mg_of X G a70⟩
  have F71:=Zz (st:=Zke) l71 c71 k71
  have b71:=F71.binds (ps:=Zoz) fun _ _ _ _ _ _=>us2 fun _ _=>rfl
  have D71:Zl K mg "keep_data" Zke Zoz:=⟨_,_,F71,b71,mg_of X G a71⟩
  have F72:=Zz (st:=Zkd) l72 c72 k72
  have b72:=F72.binds (ps:=Zoy) fun _ _ _ _ _ _=>us2 fun _ _=>rfl
  have D72:Zl K mg "keep_fin" Zkd Zoy:=⟨_,_,F72,b72,mg_of X G a72⟩
  have F73:=Zz (st:=Zkc) l73 c73 k73
  have b73:=F73.binds (ps:=Zox) fun _ _ _ _ _ _=>us1 fun _=>rfl
  have D73:Zl K mg "draw_in_order" Zkc Zox:=⟨_,_,F73,b73,mg_of X G a73⟩
  have F74:=Zz (st:=Zkb) l74 c74 k74
  have b74:=F74.binds (ps:=Zow) fun _ _ _ _ _ _=>us2 fun _ _=>rfl
  have D74:Zl K mg "hear_fin" Zkb Zow:=⟨_,_,F74,b74,mg_of X G a74⟩
  have F75:=Zz (st:=Zka) l75 c75 k75
  have b75:=F75.binds (ps:=Zov) fun _ _ _ _ _ _=>us4 fun _ _ _ _=>rfl
  have D75:Zl K mg "opened" Zka Zov:=⟨_,_,F75,b75,mg_of X G a75⟩
  have F76:=Zz (st:=Zj9) l76 c76 k76
  have b76:=F76.binds (ps:=Zou) fun _ _ _ _ _ _=>us2 fun _ _=>rfl
  have D76:Zl K mg "write" Zj9 Zou:=⟨_,_,F76,b76,mg_of X G a76⟩
  have F77:=Zz (st:=Zj8) l77 c77 k77
  have b77:=F77.binds (ps:=Zot) fun _ _ _ _ _ _=>us1 fun _=>rfl
  have D77:Zl K mg "close" Zj8 Zot:=⟨_,_,F77,b77,mg_of X G a77⟩
  have F78:=Zz (st:=Zj7) l78 c78 k78
  have b78:=F78.binds (ps:=Zos) fun _ _ _ _ _ _=>us2 fun _ _=>rfl
  have D78:Zl K mg "_law_cell" Zj7 Zos:=⟨_,_,F78,b78,mg_of X G a78⟩
  have F79:=Zz (st:=Zj6) l79 c79 k79
  have b79:=F79.binds (ps:=Zor) fun _ _ _ _ _ _=>us2 fun _ _=>rfl
  have D79:Zl K mg "_law_mix" Zj6 Zor:=⟨_,_,F79,b79,mg_of X G a79⟩
  have F80:=Zz (st:=Zj5) l80 c80 k80
  have b80:=F80.binds (ps:=Zoq) fun _ _ _ _ _ _=>us1 fun _=>rfl
  have D80:Zl K mg "_law_two" Zj5 Zoq:=⟨_,_,F80,b80,mg_of X G a80⟩
  have F81:=Zz (st:=Zj4) l81 c81 k81
  have b81:=F81.binds (ps:=Zop) fun _ _ _ _ _ _=>us1 fun _=>rfl
  have D81:Zl K mg "_law_folded" Zj4 Zop:=⟨_,_,F81,b81,mg_of X G a81⟩
  have F82:=Zz (st:=Zj3) l82 c82 k82
  have b82:=F82.binds (ps:=Zoo) fun _ _ _ _ _ _=>us1 fun _=>rfl
  have D82:Zl K mg "_law_bytes" Zj3 Zoo:=⟨_,_,F82,b82,mg_of X G a82⟩
  have F83:=Zz (st:=Zit) l83 c83 k83
  have b83:=F83.binds (ps:=Zon) fun _ _ _ _ _ _=>us1 fun _=>rfl
  have D83:Zl K mg "_law_read" Zit Zon:=⟨_,_,F83,b83,mg_of X G a83⟩
  have F84:=Zz (st:=Zj2) l84 c84 k84
  have b84:=F84.binds (ps:=Zom) fun _ _ _ _ _ _=>us1 fun _=>rfl
  have D84:Zl K mg "_law_byte" Zj2 Zom:=⟨_,_,F84,b84,mg_of X G a84⟩
  have F85:=Zz (st:=Zj1) l85 c85 k85
  have b85:=F85.binds (ps:=Zol) fun _ _ _ _ _ _=>us2 fun _ _=>rfl
  have D85:Zl K mg "_law_plus" Zj1 Zol:=⟨_,_,F85,b85,mg_of X G a85⟩
  have F86:=Zz (st:=Zj0) l86 c86 k86
  have b86:=F86.binds (ps:=Zok) fun _ _ _ _ _ _=>us1 fun _=>rfl
  have D86:Zl K mg "_law_first" Zj0 Zok:=⟨_,_,F86,b86,mg_of X G a86⟩
  have F87:=Zz (st:=ZjZ) l87 c87 k87
  have b87:=F87.binds (ps:=Zoj) fun _ _ _ _ _ _=>us6 fun _ _ _ _ _ _=>rfl
  have D87:Zl K mg "_law_segment" ZjZ Zoj:=⟨_,_,F87,b87,mg_of X G a87⟩
  have F88:=Zz (st:=ZjY) l88 c88 k88
  have b88:=F88.binds (ps:=Zoi) fun _ _ _ _ _ _=>us2 fun _ _=>rfl
  have D88:Zl K mg "_law_given" ZjY Zoi:=⟨_,_,F88,b88,mg_of X G a88⟩
  have F89:=Zz (st:=ZjX) l89 c89 k89
  have b89:=F89.binds (ps:=Zoh) fun _ _ _ _ _ _=>us4 fun _ _ _ _=>rfl
  have D89:Zl K mg "_law_opened" ZjX Zoh:=⟨_,_,F89,b89,mg_of X G a89⟩
  have F90:=Zz (st:=ZjW) l90 c90 k90
  have b90:=F90.binds (ps:=Zog) fun _ _ _ _ _ _=>us5 fun _ _ _ _ _=>rfl
  have D90:Zl K mg "_law_answer" ZjW Zog:=⟨_,_,F90,b90,mg_of X G a90⟩
  have F91:=Zz (st:=ZjV) l91 c91 k91
  have b91:=F91.binds (ps:=Zof) fun _ _ _ _ _ _=>us6 fun _ _ _ _ _ _=>rfl
  have D91:Zl K mg "_law_owed" ZjV Zof:=⟨_,_,F91,b91,mg_of X G a91⟩
  have F92:=Zz (st:=ZjU) l92 c92 k92
  have b92:=F92.binds (ps:=Zoe) fun _ _ _ _ _ _=>us4 fun _ _ _ _=>rfl
  have D92:Zl K mg "_law_probe" ZjU Zoe:=⟨_,_,F92,b92,mg_of X G a92⟩
  have F93:=Zz (st:=ZjT) l93 c93 k93
  have b93:=F93.binds (ps:=Zod) fun _ _ _ _ _ _=>us7 fun _ _ _ _ _ _ _=>rfl
  have D93:Zl K mg "_law_again" ZjT Zod:=⟨_,_,F93,b93,mg_of X G a93⟩
  have F94:=Zz (st:=Zhe) l94 c94 k94
  have b94:=F94.binds (ps:=Zoc) fun _ _ _ _ _ _=>us1 fun _=>rfl
  have D94:Zl K mg "law" Zhe Zoc:=⟨_,_,F94,b94,mg_of X G a94⟩
  refine ⟨fnOf "law" "law" (Zt Zhe) (Zp Zhe) (Zg Zhe) .none kV94 dc94 pm94 an94 cd94 ct94,fun s v=>.of_eq rfl,fun base _ _=>?_⟩
  exact Zsq law_true (Zus F94 D0 D1 D2 D3 D4 D5 D6 D7 D8 D9 D10 D11 D12 D13 D14 D15 D16 D17 D18 D19 D20 D21 D22 D23 D24 D25 D26 D27 D28 D29 D30 D31 D32 D33 D34 D35 D36 D37 D38 D39 D40 D41 D42 D43 D44 D45 D46 D47 D48 D49 D50 D51 D52 D53 D54 D55 D56 D57 D58 D59 D60 D61 D62 D63 D64 D65 D66 D67 D68 D69 D70 D71 D72 D73 D74 D75 D76 D77 D78 D79 D80 D81 D82 D83 D84 D85 D86 D87 D88 D89 D90 D91 D92 D93 g)
theorem Zy4 {l:OpenLaw} {q:Program} {loose:List Str} {XP:(Str→Option Value)→Heap→Prop} {YP:World→Heap→Prop} {d:DefRec} {K:Params→Frag} (hn:l.most=some 63) (hdf:d.params.defaults=[])
    (hY:∀(w:World) (h:Heap),YP w h→(K w.params).In h)
    (F:∀(w:World) (mg:Str→Option Value) (fa:Addr) (h:Heap),(K w.params).In h→h.Ns mainGlobals mg→mg d.name=some (.ref fa)→
      ∃fd:FuncData,(∀(s:Shared) (u:Value),BindsTo s fd ⟨[u],[]⟩ [("_law_script",u)])∧∀base:Heap,(K w.params).In base→base.Ns mainGlobals mg→FnOk l.prog w (K w.params) mg base CX0 11 fa fd ["_law_script"] (ZmW (K w.params))) :
    WalkO q loose XP YP l.row.toRowW d [] (fun f vs=>PySem.call f vs):=
  L2.Zrw (n:=63) (k:=11) (x:="_law_script") (CX:=fun _=>CX0) (sp:=fun w=>ZmW (K w.params)) hn (by decide) hdf ⟨rfl,by decide,by decide⟩ hY F (fun _ H a ns hl hO hS=>⟨a,ns,rfl,hO,hS,hl,fun _=>rfl⟩) fun _ _ _ _ _ z=>z
end My
open PySem PySem.W PyProof.Rows
set_option maxRecDepth 100000 in
set_option maxHeartbeats 0 in
theorem PySem.Challenge.cw_wirestream_k22_probes_holds : PySem.Challenge.rw_wirestream_k22_probes.Holds := by
  w_on; o_law; k_head; (case hw=>w_witness2)
  k_fill
  refine My.Zy4 (l:=PySem.Challenge.rw_wirestream_k22_probes) rfl rfl (fun w h Y=>PySem.W.kIn_of Y) ?F
  case F=>
    intro w mg fa h KX G hmg
    refine' My.ZuK KX G hmg ?aC_End ?aC_Pile ?a0 ?i0 ?l0 ?c0 ?k0 ?a1 ?l1 ?c1 ?k1 ?a2 ?l2 ?c2 ?k2 ?a3 ?l3 ?c3 ?k3 ?a4 ?l4 ?c4 ?k4 ?a5 ?l5 ?c5 ?k5 ?a6 ?l6 ?c6 ?k6 ?a7 ?i7 ?l7 ?c7 ?k7 ?a8 ?l8 ?c8 ?k8 ?a9 ?l9 ?c9 ?k9 ?a10 ?l10 ?c10 ?k10 ?a11 ?l11 ?c11 ?k11 ?a12 ?l12 ?c12 ?k12 ?a13 ?l13 ?c13 ?k13 ?a14 ?l14 ?c14 ?k14 ?a15 ?l15 ?c15 ?k15 ?a16 ?l16 ?c16 ?k16 ?a17 ?l17 ?c17 ?k17 ?a18 ?l18 ?c18 ?k18 ?a19 ?l19 ?c19 ?k19 ?a20 ?l20 ?c20 ?k20 ?a21 ?l21 ?c21 ?k21 ?a22 ?l22 ?c22 ?k22 ?a23 ?l23 ?c23 ?k23 ?a24 ?l24 ?c24 ?k24 ?a25 ?l25 ?c25 ?k25 ?a26 ?l26 ?c26 ?k26 ?a27 ?l27 ?c27 ?k27 ?a28 ?l28 ?c28 ?k28 ?a29 ?l29 ?c29 ?k29 ?a30 ?l30 ?c30 ?k30 ?a31 ?l31 ?c31 ?k31 ?a32 ?l32 ?c32 ?k32 ?a33 ?l33 ?c33 ?k33 ?a34 ?l34 ?c34 ?k34 ?a35 ?l35 ?c35 ?k35 ?a36 ?l36 ?c36 ?k36 ?a37 ?l37 ?c37 ?k37 ?a38 ?l38 ?c38 ?k38 ?a39 ?l39 ?c39 ?k39 ?a40 ?l40 ?c40 ?k40 ?a41 ?l41 ?c41 ?k41 ?a42 ?l42 ?c42 ?k42 ?a43 ?l43 ?c43 ?k43 ?a44 ?l44 ?c44 ?k44 ?a45 ?l45 ?c45 ?k45 ?a46 ?l46 ?c46 ?k46 ?a47 ?l47 ?c47 ?k47 ?a48 ?l48 ?c48 ?k48 ?a49 ?l49 ?c49 ?k49 ?a50 ?l50 ?c50 ?k50 ?a51 ?l51 ?c51 ?k51 ?a52 ?l52 ?c52 ?k52 ?a53 ?l53 ?c53 ?k53 ?a54 ?l54 ?c54 ?k54 ?a55 ?l55 ?c55 ?k55 ?a56 ?l56 ?c56 ?k56 ?a57 ?l57 ?c57 ?k57 ?a58 ?l58 ?c58 ?k58 ?a59 ?l59 ?c59 ?k59 ?a60 ?l60 ?c60 ?k60 ?a61 ?l61 ?c61 ?k61 ?a62 ?l62 ?c62 ?k62 ?a63 ?l63 ?c63 ?k63 ?a64 ?l64 ?c64 ?k64 ?a65 ?l65 ?c65 ?k65 ?a66 ?l66 ?c66 ?k66 ?a67 ?l67 ?c67 ?k67 ?a68 ?l68 ?c68 ?k68 ?a69 ?l69 ?c69 ?k69 ?a70 ?l70 ?c70 ?k70 ?a71 ?l71 ?c71 ?k71 ?a72 ?l72 ?c72 ?k72 ?a73 ?l73 ?c73 ?k73 ?a74 ?l74 ?c74 ?k74 ?a75 ?l75 ?c75 ?k75 ?a76 ?l76 ?c76 ?k76 ?a77 ?l77 ?c77 ?k77 ?a78 ?l78 ?c78 ?k78 ?a79 ?l79 ?c79 ?k79 ?a80 ?l80 ?c80 ?k80 ?a81 ?l81 ?c81 ?k81 ?a82 ?l82 ?c82 ?k82 ?a83 ?l83 ?c83 ?k83 ?a84 ?l84 ?c84 ?k84 ?a85 ?l85 ?c85 ?k85 ?a86 ?l86 ?c86 ?k86 ?a87 ?l87 ?c87 ?k87 ?a88 ?l88 ?c88 ?k88 ?a89 ?l89 ?c89 ?k89 ?a90 ?l90 ?c90 ?k90 ?a91 ?l91 ?c91 ?k91 ?a92 ?l92 ?c92 ?k92 ?a93 ?l93 ?c93 ?k93 ?a94 ?l94 ?c94 ?k94 ?pg_End ?hd_End ?po_End ?sa_End ?mk_End ?kc_End ?pg_Pile ?hd_Pile ?po_Pile ?sa_Pile ?mk_Pile ?kc_Pile ?zA0 ?zA1 ?zA2 ?zA3 ?zA4 ?zA5 ?zA6 ?zA7 ?zA8 ?zA9 ?zA10 ?zA11 ?zA12 ?zA13 ?zA14 ?zA15 ?zA16 ?zA17 ?zA18 ?zA19 ?zA20 ?zA21 ?zA22 ?zA23 ?zA24 ?zA25 ?zg0 ?zg1 ?zg2 ?zg3 ?zg4 ?zg5 ?zg6 ?zg7 ?zg8 ?zg9 ?zg10 ?zg11 ?zg12 ?zg13 ?zg14 ?zg15 ?zg16 ?zg17 ?zg18 ?zg19 ?zg20 ?zg21 ?zg22 ?zg23 ?zg24 ?zg25 ?zg26 ?zg27 ?zg28 ?zg29 ?zg30 ?zg31 ?zg32 ?zg33 ?zg34 ?zg35 ?zg36 ?zg37 ?zg38 ?zg39 ?zg40 ?zg41 ?zg42 ?zg43 ?z_all ?z_bool ?z_enumerate ?z_int ?z_isinstance ?z_len ?z_list ?z_max ?z_min ?z_range ?z_sum ?z_tuple
    case aC_End | aC_Pile | a0 | i0 | l0 | c0 | k0 | a1 | l1 | c1 | k1 | a2 | l2 | c2 | k2 | a3 | l3 | c3 | k3 | a4 | l4 | c4 | k4 | a5 | l5 | c5 | k5 | a6 | l6 | c6 | k6 | a7 | i7 | l7 | c7 | k7 | a8 | l8 | c8 | k8 | a9 | l9 | c9 | k9 | a10 | l10 | c10 | k10 | a11 | l11 | c11 | k11 | a12 | l12 | c12 | k12 | a13 | l13 | c13 | k13 | a14 | l14 | c14 | k14 | a15 | l15 | c15 | k15 | a16 | l16 | c16 | k16 | a17 | l17 | c17 | k17 | a18 | l18 | c18 | k18 | a19 | l19 | c19 | k19 | a20 | l20 | c20 | k20 | a21 | l21 | c21 | k21 | a22 | l22 | c22 | k22 | a23 | l23 | c23 | k23 | a24 | l24 | c24 | k24 | a25 | l25 | c25 | k25 | a26 | l26 | c26 | k26 | a27 | l27 | c27 | k27 | a28 | l28 | c28 | k28 | a29 | l29 | c29 | k29 | a30 | l30 | c30 | k30 | a31 | l31 | c31 | k31 | a32 | l32 | c32 | k32 | a33 | l33 | c33 | k33 | a34 | l34 | c34 | k34 | a35 | l35 | c35 | k35 | a36 | l36 | c36 | k36 | a37 | l37 | c37 | k37 | a38 | l38 | c38 | k38 | a39 | l39 | c39 | k39 | a40 | l40 | c40 | k40 | a41 | l41 | c41 | k41 | a42 | l42 | c42 | k42 | a43 | l43 | c43 | k43 | a44 | l44 | c44 | k44 | a45 | l45 | c45 | k45 | a46 | l46 | c46 | k46 | a47 | l47 | c47 | k47 | a48 | l48 | c48 | k48 | a49 | l49 | c49 | k49 | a50 | l50 | c50 | k50 | a51 | l51 | c51 | k51 | a52 | l52 | c52 | k52 | a53 | l53 | c53 | k53 | a54 | l54 | c54 | k54 | a55 | l55 | c55 | k55 | a56 | l56 | c56 | k56 | a57 | l57 | c57 | k57 | a58 | l58 | c58 | k58 | a59 | l59 | c59 | k59 | a60 | l60 | c60 | k60 | a61 | l61 | c61 | k61 | a62 | l62 | c62 | k62 | a63 | l63 | c63 | k63 | a64 | l64 | c64 | k64 | a65 | l65 | c65 | k65 | a66 | l66 | c66 | k66 | a67 | l67 | c67 | k67 | a68 | l68 | c68 | k68 | a69 | l69 | c69 | k69 | a70 | l70 | c70 | k70 | a71 | l71 | c71 | k71 | a72 | l72 | c72 | k72 | a73 | l73 | c73 | k73 | a74 | l74 | c74 | k74 | a75 | l75 | c75 | k75 | a76 | l76 | c76 | k76 | a77 | l77 | c77 | k77 | a78 | l78 | c78 | k78 | a79 | l79 | c79 | k79 | a80 | l80 | c80 | k80 | a81 | l81 | c81 | k81 | a82 | l82 | c82 | k82 | a83 | l83 | c83 | k83 | a84 | l84 | c84 | k84 | a85 | l85 | c85 | k85 | a86 | l86 | c86 | k86 | a87 | l87 | c87 | k87 | a88 | l88 | c88 | k88 | a89 | l89 | c89 | k89 | a90 | l90 | c90 | k90 | a91 | l91 | c91 | k91 | a92 | l92 | c92 | k92 | a93 | l93 | c93 | k93 | a94 | l94 | c94 | k94 | pg_End | hd_End | po_End | sa_End | mk_End | kc_End | pg_Pile | hd_Pile | po_Pile | sa_Pile | mk_Pile | kc_Pile | zA0 | zA1 | zA2 | zA3 | zA4 | zA5 | zA6 | zA7 | zA8 | zA9 | zA10 | zA11 | zA12 | zA13 | zA14 | zA15 | zA16 | zA17 | zA18 | zA19 | zA20 | zA21 | zA22 | zA23 | zA24 | zA25 | zg0 | zg1 | zg2 | zg3 | zg4 | zg5 | zg6 | zg7 | zg8 | zg9 | zg10 | zg11 | zg12 | zg13 | zg14 | zg15 | zg16 | zg17 | zg18 | zg19 | zg20 | zg21 | zg22 | zg23 | zg24 | zg25 | zg26 | zg27 | zg28 | zg29 | zg30 | zg31 | zg32 | zg33 | zg34 | zg35 | zg36 | zg37 | zg38 | zg39 | zg40 | zg41 | zg42 | zg43 | z_all | z_bool | z_enumerate | z_int | z_isinstance | z_len | z_list | z_max | z_min | z_range | z_sum | z_tuple=>k_is
#print axioms PySem.Challenge.cw_wirestream_k22_probes_holds
