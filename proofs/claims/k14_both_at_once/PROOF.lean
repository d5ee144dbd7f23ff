import PyProof.Rows.All
import KE.KDictLaws
import KE.KDictOf
import KE.KFromBytes
import KE.KIsAll
import KE.KItem
import Wide.Meth
import PySem.Challenge.RW_wirestream_k14_both_at_once
set_option compiler.extract_closed false
set_option bootstrap.genMatcherCode false
set_option Elab.async false
set_option linter.all false
set_option maxRecDepth 100000
namespace L2
open PySem PySem.Spec PyProof.Rows
abbrev Key:=Sum Int Str
def ZhL:Key→Value→Bool
  | .inl k,v=>Value.isInt k v
  | .inr x,v=>Value.isStrOf x v
def ZxH (w:World):Key→Int
  | .inl k=>hashInt k
  | .inr x=>hashStr w x
theorem Zag:∀{k:Key} {v:Value},ZhL k v=true→(∃i t,k=Sum.inl i∧v=Value.int i t)∨(∃x t,k=Sum.inr x∧v=Value.str x t)
  | .inl i,v,h=>by
    obtain ⟨t,e⟩:=Value.isInt_shape (k:=i) (v:=v) h
    exact .inl ⟨i,t,rfl,e⟩
  | .inr x,v,h=>by
    obtain ⟨t,e⟩:=Value.isStrOf_shape (x:=x) (v:=v) h
    exact .inr ⟨x,t,rfl,e⟩
theorem Zmu (i:Int) (t:Tok):ZhL (.inl i) (.int i t)=true:=by simp [ZhL,Value.isInt]
theorem Zmt (x:Str) (t:Tok):ZhL (.inr x) (.str x t)=true:=by simp [ZhL,Value.isStrOf]
theorem Zs1 (a b:Int):decide ((Sum.inl a:Key)=Sum.inl b)=(a == b):=by
  by_cases e:a=b
  · subst e; simp
  · have h:¬(Sum.inl a:Key)=Sum.inl b:=fun q=>e (Sum.inl.inj q)
    rw [decide_eq_false h]
    exact (beq_eq_false_iff_ne.mpr e).symm
theorem ZsY (a b:Str):decide ((Sum.inr a:Key)=Sum.inr b)=decide (a=b):=by
  by_cases e:a=b
  · subst e; simp
  · have h:¬(Sum.inr a:Key)=Sum.inr b:=fun q=>e (Sum.inr.inj q)
    rw [decide_eq_false h,decide_eq_false e]
theorem Zs0 (a:Int) (b:Str):decide ((Sum.inl a:Key)=Sum.inr b)=false:=decide_eq_false (fun q=>nomatch q)
theorem ZsZ (a:Str) (b:Int):decide ((Sum.inr a:Key)=Sum.inl b)=false:=decide_eq_false (fun q=>nomatch q)
def Zax (prog:Program) (w:World):PySem.KeyKind prog w Key where
  is:=ZhL
  hash:=ZxH w
  inj:=fun v a b ha hb=>by
    rcases Zag ha with ⟨i,t,rfl,rfl⟩ | ⟨x,t,rfl,rfl⟩
    · rcases Zag hb with ⟨j,u,rfl,e⟩ | ⟨y,u,rfl,e⟩
      · injection e with e1 _; rw [e1]
      · exact nomatch e
    · rcases Zag hb with ⟨j,u,rfl,e⟩ | ⟨y,u,rfl,e⟩
      · exact nomatch e
      · injection e with e1 _; rw [e1]
  byValue:=fun k v h=>by
    rcases Zag h with ⟨i,t,rfl,rfl⟩ | ⟨x,t,rfl,rfl⟩<;>rfl
  pyHash:=fun hv h=>by
    rcases Zag hv with ⟨i,t,rfl,rfl⟩ | ⟨x,t,rfl,rfl⟩
    · exact wpAny_pyHash_int h
    · exact wpAny_pyHash_str h
  eqBool:=fun hu hv h=>by
    rcases Zag hu with ⟨i,t,rfl,rfl⟩ | ⟨x,t,rfl,rfl⟩
    · rcases Zag hv with ⟨j,u,rfl,rfl⟩ | ⟨y,u,rfl,rfl⟩
      · rw [Zs1] at h; exact wpAny_eqBool_int h
      · rw [Zs0] at h; exact SeqAt.EqAt.int_str i t y u _ _ _ _ h
    · rcases Zag hv with ⟨j,u,rfl,rfl⟩ | ⟨y,u,rfl,rfl⟩
      · rw [ZsZ] at h; exact SeqAt.EqAt.str_int x t j u _ _ _ _ h
      · rw [ZsY] at h; exact wpAny_eqBool_str h
  «strs»:=fun k x t v h=>by
    rcases Zag h with ⟨i,u,rfl,e⟩ | ⟨y,u,rfl,e⟩
    · exact nomatch e
    · injection e with e1 _
      subst e1
      cases v<;>rfl
theorem Zke (prog:Program) (w:World) (i:Int) (t:Tok):(Zax prog w).is (.inl i) (.int i t)=true:=Zmu i t
theorem Zkd (prog:Program) (w:World) (x:Str) (t:Tok):(Zax prog w).is (.inr x) (.str x t)=true:=Zmt x t
end L2
namespace L2
open PySem PySem.Spec PyProof.Rows
inductive V where
  | non | bl (b:Bool) | int (i:Int) | str (x:Str) | byt (b:Array UInt8) | flt (b:UInt64) | ref (a:Addr) | ty (n:String)
  deriving DecidableEq
def RelV:V→Value→Prop
  | .non,u=>u=Value.none
  | .bl b,u=>u=Value.bool b
  | .int i,u=>∃t,u=Value.int i t
  | .str x,u=>∃t,u=Value.str x t
  | .byt b,u=>∃t,u=Value.bytes b t
  | .flt b,u=>∃t,u=Value.float b t
  | .ref a,u=>u=Value.ref a
  | .ty n,u=>u=Value.type n
abbrev Vals:List V→List Value→Prop:=Paired RelV
theorem Vals.length {xs:List V} {us:List Value} (r:Vals xs us):xs.length=us.length:=Paired.length r
theorem Vals.get:∀{xs:List V} {us:List Value} {i:Nat} {x:V},Vals xs us→xs[i]?=some x→∃u,us[i]?=some u∧RelV x u
  | _,_,_,_,.nil,e=>by simp at e
  | _,_,0,_,.cons r _,e=>by simp at e; subst e; exact ⟨_,rfl,r⟩
  | _,_,i+1,x,.cons _ t,e=>by
    obtain ⟨u,h1,h2⟩:=Vals.get (i:=i) (x:=x) t (by simpa using e)
    exact ⟨u,by simpa using h1,h2⟩
theorem Vals.set {x:V} {u:Value} (r:RelV x u):∀{xs:List V} {us:List Value} (i:Nat),Vals xs us→Vals (xs.set i x) (us.set i u)
  | _,_,_,.nil=>.nil
  | _,_,0,.cons _ t=>.cons r t
  | _,_,i+1,.cons q t=>.cons q (Vals.set r i t)
theorem Vals.append:∀{xs ys:List V} {us ws:List Value},Vals xs us→Vals ys ws→Vals (xs++ys) (us++ws)
  | _,_,_,_,.nil,s=>s
  | _,_,_,_,.cons r t,s=>.cons r (Vals.append t s)
theorem Vals.take:∀{xs:List V} {us:List Value} (n:Nat),Vals xs us→Vals (xs.take n) (us.take n)
  | _,_,0,_=>.nil
  | _,_,_+1,.nil=>.nil
  | _,_,n+1,.cons r t=>.cons r (Vals.take n t)
theorem Vals.drop:∀{xs:List V} {us:List Value} (n:Nat),Vals xs us→Vals (xs.drop n) (us.drop n)
  | _,_,0,r=>r
  | _,_,_+1,.nil=>.nil
  | _,_,n+1,.cons _ t=>Vals.drop n t
theorem Vals.none_of:∀{xs:List V} {us:List Value} {i:Nat},Vals xs us→xs[i]?=none→us[i]?=none:=fun {xs us i} r e=>by
  have h1:=r.length
  have h2:xs.length≤i:=List.getElem?_eq_none_iff.mp e
  exact List.getElem?_eq_none_iff.mpr (by omega)
def RelO:Option V→Option Value→Prop
  | some v,some u=>RelV v u
  | none,none=>True
  | _,_=>False
def KV {κ:Type}:List (κ×V)→List (κ×Value)→Prop:=Paired fun (p:κ×V) (q:κ×Value)=>p.1=q.1∧RelV p.2 q.2
def kV:Key→V
  | .inl i=>.int i
  | .inr x=>.str x
inductive HO where
  | lst (xs:List V)
  | tup (xs:List V)
  | dK (kvs:List (Key×V)) | dT (kvs:List (List Key×V))
  | set (S:Int→Bool) (n:Nat)
  | ins (C dx:Addr) (fs:List (Str×V))
  | own (x:Addr)
  | xd (fs:List (Str×V))
  | met (f x:Addr)
  | rng (lo hi:Int)
  | frz (o:Obj) (u:HO)
  | tbl (ps:Array Value)
  | ext (φ:Heap→Prop)
abbrev Hp:=Addr→Option HO
def upd (H:Hp) (a:Addr) (o:HO):Hp:=fun b=>if b=a then some o else H b
theorem zl {H:Hp} {a:Addr} {o:HO}:upd H a o a=some o:=by unfold upd; rw [if_pos rfl]
theorem ZO {H:Hp} {a b:Addr} {o:HO} (h:b≠a):upd H a o b=H b:=by unfold upd; rw [if_neg h]
theorem zj {H:Hp} {a b:Addr} {o:HO} (h:H a=some o) (h':H b=none):a≠b:=by
  intro e; subst e; rw [h] at h'; cases h'
section
variable (P:Program) (w:World)
def ObjOk (H:Hp) (h:Heap) (a:Addr):HO→Prop
  | .lst xs=>xs.length≤sizeLine∧∃(its:List Value) (n:Nat),Vals xs its∧h.get? a=some { cls:=.type "list",data:=.seq its.toArray n }
  | .tup xs=>xs.length≤sizeLine∧∃its:List Value,Vals xs its∧IsTup h a its.toArray
  | .dK kvs=>kvs.length≤sizeLine∧(a == sysModules)=false∧∃vs,KV kvs vs∧h.DictOf (Zax P w) a vs
  | .dT kvs=>kvs.length≤sizeLine∧(a == sysModules)=false∧∃xs:List (List Key×Addr×Value),
      Paired (fun (p:List Key×V) (q:List Key×Addr×Value)=>p.1=q.1∧H q.2.1=some (.tup (p.1.map kV))∧RelV p.2 q.2.2) kvs xs∧
      ∃o es ep,h.get? a=some o∧o.ExactDict∧o.data=.dict es ep∧es.toList=xs.map (entryOfKey (tupleKind (Zax P w)))∧(xs.map (·.1)).Nodup
  | .set S n=>h.SetOf (intKind P w) a S n
  | .ins C dx fs=>H dx=some (.own a)∧fs.length≤1000∧dx≠a∧h.get? a=some (PySem.W.instObj C dx)∧
      ∃mA,h.Ns1 dx mA∧(∀f,RelO (fs.lookup f) (mA f))∧PySem.Within mA (fs.map (·.1))
  | .own _=>∃o,h.get? a=some o
  | .xd fs=>∃mA,h.Ns1 a mA∧∀f,RelO (fs.lookup f) (mA f)
  | .rng lo hi=>∃t u v,h.get? a=some { cls:=.type "range",data:=.fields #[.int lo t,.int hi u,.int 1 v] }
  | .frz o u=>h.get? a=some o∧ObjOk H h a u
  | .tbl ps=>h.get? a=some { cls:=.none,data:=.fields ps }
  | .met f x=>h.get? a=some (PySem.W.methodObj (.ref f) (.ref x))
  | .ext φ=>φ h∧(∃o,h.get? a=some o)∧∀h1 h2:Heap,φ h1→(∀o,h1.get? a=some o→h2.get? a=some o)→φ h2
def HOk (H:Hp) (h:Heap):Prop:=∀a o,H a=some o→ObjOk P w H h a o
end
section
variable {P:Program} {w:World} {H H':Hp} {h h':Heap} {a:Addr} {o:HO}
theorem ObjOk.lt (x:ObjOk P w H h a o):a<h.objs.size:=by
  cases o with
  | lst xs=>obtain ⟨_,_,_,_,e⟩:=x; exact Heap.lt_size e
  | tup xs=>obtain ⟨_,_,_,p⟩:=x; exact p.lt
  | dK kvs=>obtain ⟨_,_,_,_,o,_,_,e,_⟩:=x; exact Heap.lt_size e
  | dT kvs=>obtain ⟨_,_,_,_,o,_,_,e,_⟩:=x; exact Heap.lt_size e
  | set S n=>obtain ⟨o,_,_,_,e,_⟩:=x; exact Heap.lt_size e
  | ins C dx fs=>obtain ⟨_,_,_,e,_⟩:=x; exact Heap.lt_size e
  | own y=>obtain ⟨_,e⟩:=x; exact Heap.lt_size e
  | xd fs=>obtain ⟨_,⟨_,_,_,e,_⟩,_⟩:=x; exact Heap.lt_size e
  | rng lo hi=>obtain ⟨_,_,_,e⟩:=x; exact Heap.lt_size e
  | frz ob u=>obtain ⟨e,_⟩:=x; exact Heap.lt_size e
  | tbl ps=>exact Heap.lt_size (show h.get? a=some _ from x)
  | met f y=>exact Heap.lt_size (show h.get? a=some _ from x)
  | ext φ=>obtain ⟨_,⟨_,e⟩,_⟩:=x; exact Heap.lt_size e
theorem Paired.mapP {α β:Type} {F G:α→β→Prop}:∀{l₁:List α} {l₂:List β},Paired F l₁ l₂→(∀a b,F a b→G a b)→Paired G l₁ l₂
  | _,_,.nil,_=>.nil
  | _,_,.cons r t,f=>.cons (f _ _ r) (Paired.mapP t f)
theorem ObjOk.stay (x:ObjOk P w H h a o) (k:∀b u,(b=a∨H b=some (.own a))→h.get? b=some u→h'.get? b=some u)
    (ho:∀b,H b=some (.own a)→H' b=some (.own a)) (ht:∀b xs,H b=some (.tup xs)→H' b=some (.tup xs)):ObjOk P w H' h' a o:=by
  induction o with
  | lst xs=>obtain ⟨z,its,n,r,e⟩:=x; exact ⟨z,its,n,r,k _ _ (.inl rfl) e⟩
  | tup xs=>obtain ⟨z,its,r,ob,e,c⟩:=x; exact ⟨z,its,r,ob,k _ _ (.inl rfl) e,c⟩
  | dK kvs=>obtain ⟨z,y,vs,r,ob,es,ep,e,c⟩:=x; exact ⟨z,y,vs,r,ob,es,ep,k _ _ (.inl rfl) e,c⟩
  | dT kvs=>
    obtain ⟨z,y,xs,r,ob,es,ep,e,c⟩:=x
    exact ⟨z,y,xs,Paired.mapP r fun p q z=>⟨z.1,ht _ _ z.2.1,z.2.2⟩,ob,es,ep,k _ _ (.inl rfl) e,c⟩
  | set S n=>obtain ⟨ob,es,ep,t,e,c⟩:=x; exact ⟨ob,es,ep,t,k _ _ (.inl rfl) e,c⟩
  | ins C dx fs=>
    obtain ⟨d,z,ne,e,mA,⟨od,es,ep,e2,c⟩,r⟩:=x
    exact ⟨ho _ d,z,ne,k _ _ (.inl rfl) e,mA,⟨od,es,ep,k _ _ (.inr d) e2,c⟩,r⟩
  | own y=>obtain ⟨ob,e⟩:=x; exact ⟨ob,k _ _ (.inl rfl) e⟩
  | xd fs=>obtain ⟨mA,⟨od,es,ep,e,c⟩,r⟩:=x; exact ⟨mA,⟨od,es,ep,k _ _ (.inl rfl) e,c⟩,r⟩
  | rng lo hi=>obtain ⟨t,u,v,e⟩:=x; exact ⟨t,u,v,k _ _ (.inl rfl) e⟩
  | frz ob u ih=>obtain ⟨e,q⟩:=x; exact ⟨k _ _ (.inl rfl) e,ih q⟩
  | tbl ps=>
    have e:h.get? a=some { cls:=.none,data:=.fields ps }:=x
    show h'.get? a=some { cls:=.none,data:=.fields ps }
    exact k a _ (.inl rfl) e
  | met f y=>
    have e:h.get? a=some (PySem.W.methodObj (.ref f) (.ref y)):=x
    show h'.get? a=some (PySem.W.methodObj (.ref f) (.ref y))
    exact k a _ (.inl rfl) e
  | ext φ=>obtain ⟨p,⟨o,e⟩,st⟩:=x; exact ⟨st _ _ p fun o q=>k _ _ (.inl rfl) q,⟨o,k _ _ (.inl rfl) e⟩,st⟩
theorem HOk.lt (x:HOk P w H h) (e:H a=some o):a<h.objs.size:=(x a o e).lt
theorem HOk.fresh (x:HOk P w H h) (e:h.objs.size≤a):H a=none:=by
  cases q:H a with
  | none=>rfl
  | some u=>exact absurd (Nat.lt_of_lt_of_le (x.lt q) e) (Nat.lt_irrefl _)
theorem HOk.kept (x:HOk P w H h) (k:∀b u,h.get? b=some u→h'.get? b=some u):HOk P w H h':=fun a o e=>
  (x a o e).stay (fun b u _ q=>k b u q) (fun _ q=>q) fun _ _ q=>q
theorem HOk.laid (x:HOk P w H h) (k:∀b u,h.get? b=some u→h'.get? b=some u) (hp:h.objs.size≤a) (new:ObjOk P w (upd H a o) h' a o):HOk P w (upd H a o) h':=fun b u e=>by
  have hn:=x.fresh hp
  by_cases hb:b=a
  · subst hb; rw [zl] at e; cases e; exact new
  · rw [ZO hb] at e
    exact (x b u e).stay (fun c v _ q=>k c v q) (fun c q=>by rw [ZO (zj q hn)]; exact q) fun c xs q=>by rw [ZO (zj q hn)]; exact q
end
def Rd (H:Hp) (a:Addr) (u:HO):Prop:=H a=some u∨∃o,H a=some (.frz o u)
theorem Rd.ok {P:Program} {w:World} {H:Hp} {h:Heap} {a:Addr} {u:HO} (r:Rd H a u) (x:HOk P w H h):ObjOk P w H h a u:=by
  rcases r with r | ⟨o,r⟩
  · exact x a u r
  · obtain ⟨_,q⟩:=x a _ r
    exact q
def Mut:Option HO→Prop
  | some (.lst _)=>True
  | some (.dK _)=>True
  | some (.dT _)=>True
  | some (.set _ _)=>True
  | some (.ins _ _ _)=>True
  | some (.ext _)=>True
  | _=>False
section
variable {P:Program} {w:World} {H:Hp} {h h':Heap} {x e:Addr} {o':HO}
theorem HOk.write (ok:HOk P w H h) (mu:Mut (H x)) (he:e=x∨H e=some (.own x)) (k:∀b u,b≠e→h.get? b=some u→h'.get? b=some u) (heo:∃u,h'.get? e=some u)
    (new:ObjOk P w (upd H x o') h' x o'):HOk P w (upd H x o') h':=fun b u q=>by
  have nown:∀c y,H c=some (.own y)→c≠x:=fun c y r z=>by subst z; rw [r] at mu; exact mu
  have ntup:∀c xs,H c=some (.tup xs)→c≠x:=fun c xs r z=>by subst z; rw [r] at mu; exact mu
  by_cases hb:b=x
  · subst hb; rw [zl] at q; cases q; exact new
  · rw [ZO hb] at q
    by_cases hbe:b=e
    · have q':H b=some (.own x):=by
        rcases he with z | z
        · exact absurd (hbe.trans z) hb
        · rw [hbe]; exact z
      rw [q] at q'; cases q'
      obtain ⟨v,hv⟩:=heo
      exact ⟨v,by rw [hbe]; exact hv⟩
    · refine (ok b u q).stay (fun c v hc r=>k c v ?_ r) (fun c r=>by rw [ZO (nown c b r)]; exact r) fun c xs r=>by rw [ZO (ntup c xs r)]; exact r
      rcases hc with rfl | hc
      · exact hbe
      · rintro rfl
        rcases he with z | z
        · exact nown c b hc z
        · rw [hc] at z; cases z; exact hb rfl
end
structure Un (fs ex:List Addr) (H H':Hp) (h h':Heap):Prop where
  keep:∀b o,h.get? b=some o→H b=none→b∉fs→b∉ex→h'.get? b=some o
  slot:∀b o,h.get? b=some o→H b=none→b∈fs→b∉ex→∃sl,h'.get? b=some { o with slots:=sl }
  free:∀b o,h.get? b=some o→H b=none→b∉ex→H' b=none
  there:∀b o,h.get? b=some o→b∉ex→∃o',h'.get? b=some o'
  tups:∀b xs,H b=some (.tup xs)→H' b=some (.tup xs)
  frzs:∀b o u,H b=some (.frz o u)→H' b=some (.frz o u)
  tbls:∀b ps,H b=some (.tbl ps)→∃more,H' b=some (.tbl (ps++more))
section
variable {fs fs' ex ex':List Addr} {H H1 H2:Hp} {h h1 h2 h':Heap} {a x e:Addr} {o:HO}
theorem Un.any (u:Un fs ex H H1 h h1) {b:Addr} {ob:Obj} (q:h.get? b=some ob) (n:H b=none) (hx:b∉ex):∃sl,h1.get? b=some { ob with slots:=sl }:=by
  by_cases hb:b∈fs
  · exact u.slot b ob q n hb hx
  · exact ⟨ob.slots,u.keep b ob q n hb hx⟩
theorem Un.kept (k:∀b u,h.get? b=some u→h'.get? b=some u):Un fs ex H H h h':=
  ⟨fun b ob q _ _ _=>k b ob q,fun b ob q _ _ _=>⟨ob.slots,k b ob q⟩,fun _ _ _ n _=>n,fun b ob q _=>⟨ob,k b ob q⟩,fun _ _ q=>q,fun _ _ _ q=>q,fun _ ps q=>⟨#[],by rw [q]; simp⟩⟩
theorem Un.refl:Un fs ex H H h h:=Un.kept fun _ _ q=>q
theorem Un.laid (k:∀b u,h.get? b=some u→h'.get? b=some u) (hp:h.objs.size≤a) (hn:H a=none):Un fs ex H (upd H a o) h h' where
  keep:=fun b u q _ _ _=>k b u q
  slot:=fun b u q _ _ _=>⟨u.slots,k b u q⟩
  free:=fun b u q n _=>by rw [ZO (Nat.ne_of_lt (Nat.lt_of_lt_of_le (Heap.lt_size q) hp))]; exact n
  there:=fun b u q _=>⟨u,k b u q⟩
  tups:=fun b xs q=>by rw [ZO (zj q hn)]; exact q
  frzs:=fun b u xs q=>by rw [ZO (zj q hn)]; exact q
  tbls:=fun b ps q=>⟨#[],by rw [ZO (zj q hn),q]; simp⟩
theorem Un.write (mu:Mut (H x)) (he:e=x∨H e=some (.own x)) (k:∀b u,b≠e→h.get? b=some u→h'.get? b=some u) (heo:∃u,h'.get? e=some u):Un fs ex H (upd H x o) h h':=by
  have hx:∀b,H b=none→b≠x:=fun b n z=>by subst z; rw [n] at mu; exact mu
  have hb:∀b,H b=none→b≠e:=fun b n z=>by
    subst z
    rcases he with r | r
    · exact hx b n r
    · rw [n] at r; cases r
  have hm:∀b u,H b=some u→¬Mut (some u)→b≠x:=fun b u q nm z=>by subst z; rw [q] at mu; exact nm mu
  refine ⟨fun b u q n _ _=>k b u (hb b n) q,fun b u q n _ _=>⟨u.slots,k b u (hb b n) q⟩,fun b u q n _=>by rw [ZO (hx b n)]; exact n,fun b u q _=>?_,
    fun b xs q=>by rw [ZO (hm b _ q fun z=>z)]; exact q,fun b u xs q=>by rw [ZO (hm b _ q fun z=>z)]; exact q,fun b ps q=>⟨#[],by rw [ZO (hm b _ q fun z=>z),q]; simp⟩⟩
  by_cases hbe:b=e
  · subst hbe; exact heo
  · exact ⟨u,k b u hbe q⟩
end
def trk (h:Heap) (H:Hp):List Addr:=(List.range h.objs.size).filter fun a=>(H a).isSome
def Zio (h:Heap) (H:Hp):Heap:=PySem.W.hideAll h (trk h H)
theorem Zmx (h:Heap) (H:Hp):(Zio h H).objs.size=h.objs.size:=PySem.W.hideAll_size _ _
theorem Zo3 {h:Heap} {H:Hp} {b:Addr} {o:Obj} (e:h.get? b=some o) (n:H b=none):(Zio h H).get? b=some o:=
  PySem.W.hideAll_get _ e fun hm=>by
    have q:(H b).isSome=true:=(List.mem_filter.mp hm).2
    rw [n] at q; simp at q
theorem Zqq {h:Heap} {H:Hp} {b:Addr} {o:Obj} (e:(Zio h H).get? b=some o):h.get? b=some o∧H b=none:=by
  have e':h.get? b=some o:=PySem.W.of_hideAll (trk h H) e
  refine ⟨e',?_⟩
  cases q:H b with
  | none=>rfl
  | some x=>
    have hm:b∈trk h H:=List.mem_filter.mpr ⟨List.mem_range.mpr (Heap.lt_size e'),by simp [q]⟩
    have z:(Zio h H).get? b=none:=PySem.W.hideAll_none (trk h H) hm
    rw [z] at e; cases e
def Zq8 (g h:Heap) (L:Addr):List (Addr×Obj):=(List.range h.objs.size).filterMap fun a=>if a=L∨(g.get? a).isSome=true then none else (h.get? a).map fun o=>(a,o)
def rest (g h:Heap) (L d:Addr):List (Addr×Obj):=(Zq8 g h L).filter fun p=>decide (p.1≠d)
end L2
namespace L2
open PySem PySem.Spec PyProof.Rows
structure Mod (K:PySem.W.Frag) (mg:Str→Option Value) (base:Heap):Prop where
  kin:K.In base
  glob:base.Ns mainGlobals mg
  blt:∃mb,base.Ns builtinsNs mb∧∀x:Str,x≠"__name__"→mb x=bootBuiltins x
  nolimit:base.NoLimit
structure Cx where
  prog:Program
  w:World
  K:PySem.W.Frag
  mg:Str→Option Value
  base:Heap
  A:Around
  N:List Str
  s₀:Shared
  H₀:Hp
  env:Env
  outer:List Env
  stack:List Env
  ex:List Addr
  fn:Str→Bool
  calm:Bool
  pn:List (Addr×Obj)
  xe:Value→Shared→Prop
def frs (l:List Env):List Addr:=l.filterMap (·.frame)
abbrev Cx.fs (X:Cx):List Addr:=frs X.outer
def Vis (sc:Scope) (x:Str):Prop:=sc.names.lookup x=some .local∨sc.names.lookup x=some .cell∨sc.names.lookup x=some .free
def Loc (sc:Scope) (x:Str):Prop:=sc.names.lookup x=some .local∨sc.names.lookup x=some .cell
def Zx3 (env:Env) (h:Heap) (m:Str→Option Value) (x:Str) (u:Value):Prop:=
  (env.kindOf x=some .local∧m x=some u)∨((env.kindOf x=some .cell∨env.kindOf x=some .free)∧∃c,env.cells.lookup x=some c∧h.IsCell c (some u))
structure Cx.Ok (X:Cx):Prop where
  mod:Mod X.K X.mg X.base
  kind:X.env.scope.kind=.function
  glob:X.env.globals=mainGlobals
  blt:X.env.builtins=builtinsNs
  above:X.s₀.heap.objs.size≤X.env.locals
  inj:∀x y c,X.env.cells.lookup x=some c→X.env.cells.lookup y=some c→x=y
  has:∀x,(X.env.kindOf x=some .cell∨X.env.kindOf x=some .free)→∃c,X.env.cells.lookup x=some c
  cab:∀x c,X.fn x=true→X.env.cells.lookup x=some c→X.s₀.heap.objs.size≤c
  hd:X.calm=true→X.A.handled=none
  frames:X.A.frames=some X.stack
  stk:X.stack=X.outer∨(X.stack=X.env::X.outer∧X.env.frame=some X.env.locals)
  exf:∀b∈X.ex,b≠X.env.locals∧∀x c,X.env.cells.lookup x=some c→c≠b
  bs:∀b o,X.base.get? b=some o→X.s₀.heap.get? b=some o∧X.H₀ b=none
  bsz:X.base.objs.size≤X.s₀.heap.objs.size
  noex:∀b o,X.base.get? b=some o→b∉X.ex
  exfs:∀b∈X.ex,b∉X.fs
  funs:X.s₀.heap.FunFrames X.base X.outer
  frf:∀b∈X.fs,X.H₀ b=none
structure Inv (X:Cx) (pins:List (Addr×Obj)) (σ:List (Option V)) (H:Hp) (s:Shared):Prop where
  ok:X.Ok
  os:s.os=X.s₀.os
  bare:AllBare s.gens
  base:Un X.fs X.ex X.H₀ H X.s₀.heap s.heap
  loc:∃m,s.heap.Ns X.env.locals m∧∀(i:Nat) (x:Str) (v:V),X.N[i]?=some x→σ[i]?=some (some v)→Vis X.env.scope x→∃u,RelV v u∧Zx3 X.env s.heap m x u
  cell:∀x c,X.env.cells.lookup x=some c→∃v,s.heap.IsCell c v
  free:H X.env.locals=none
  freeC:∀x c,X.env.cells.lookup x=some c→H c=none
  pin:∀p∈X.pn++pins,s.heap.get? p.1=some p.2∧H p.1=none∧p.1≠X.env.locals∧p.1∉X.fs∧∀v,p.2.data≠.cell v
  hok:HOk X.prog X.w H s.heap
  len:σ.length=X.N.length
section
variable {X:Cx} {pins:List (Addr×Obj)} {σ:List (Option V)} {H H':Hp} {s:Shared} {h':Heap}
theorem Cx.Ok.nofr (ok:X.Ok) {b:Addr} {o:Obj} (e:X.base.get? b=some o):b∉X.fs:=fun hb=>by
  have:=(ok.funs.mem hb).1
  rw [e] at this; cases this
theorem Inv.bs (I:Inv X pins σ H s):∀b o,X.base.get? b=some o→s.heap.get? b=some o∧H b=none:=fun b o e=>
  ⟨I.base.keep b o (I.ok.bs b o e).1 (I.ok.bs b o e).2 (I.ok.nofr e) (I.ok.noex b o e),I.base.free b o (I.ok.bs b o e).1 (I.ok.bs b o e).2 (I.ok.noex b o e)⟩
theorem Inv.bk (I:Inv X pins σ H s):∀b o,X.base.get? b=some o→s.heap.get? b=some o:=fun b o e=>(I.bs b o e).1
theorem Inv.mod (I:Inv X pins σ H s):Mod X.K X.mg X.base:=I.ok.mod
theorem Inv.kIn (I:Inv X pins σ H s):X.K.In s.heap:=I.ok.mod.kin.keeps I.bk
theorem Inv.lt (I:Inv X pins σ H s):X.env.locals<s.heap.objs.size:=let ⟨_,hn,_⟩:=I.loc; hn.lt
theorem Inv.sz (I:Inv X pins σ H s):X.s₀.heap.objs.size≤s.heap.objs.size:=Nat.le_trans I.ok.above (Nat.le_of_lt I.lt)
theorem Inv.nofs (I:Inv X pins σ H s) {a:Addr} (h:s.heap.objs.size≤a):a∉X.fs:=fun hb=>by
  obtain ⟨_,o,ho,_⟩:=I.ok.funs.mem hb
  exact absurd (Nat.lt_of_lt_of_le (Heap.lt_size ho) (Nat.le_trans I.sz h)) (Nat.lt_irrefl _)
theorem Inv.cne (I:Inv X pins σ H s):∀x c,X.env.cells.lookup x=some c→c≠X.env.locals:=fun x c e z=>by
  obtain ⟨v,o,ho,hd⟩:=I.cell x c e
  obtain ⟨m,⟨o',es,ep,ho',hd',_⟩,_⟩:=I.loc
  rw [z,ho'] at ho; cases ho; rw [hd'] at hd; cases hd
theorem Inv.funs (I:Inv X pins σ H s):s.heap.FunFrames X.base X.outer:=by
  have all:∀(l:List Env),(∀b∈frs l,b∈X.fs)→X.s₀.heap.FunFrames X.base l→s.heap.FunFrames X.base l:=by
    intro l
    induction l with
    | nil=>intro _ _; trivial
    | cons env r ih=>
      intro hs hl
      obtain ⟨hk,⟨L,o,hf,hn,ho,hd⟩,hr⟩:=hl
      have hL:L∈X.fs:=hs L (by unfold frs; rw [List.filterMap_cons,hf]; exact List.mem_cons_self)
      obtain ⟨sl,e⟩:=I.base.slot L o ho (I.ok.frf L hL) hL fun z=>I.ok.exfs L z hL
      exact ⟨hk,⟨L,_,hf,hn,e,hd⟩,ih (fun b hb=>hs b (by unfold frs; rw [List.filterMap_cons,hf]; exact List.mem_cons_of_mem _ hb)) hr⟩
  exact all X.outer (fun _ hb=>hb) I.ok.funs
theorem Inv.stack (I:Inv X pins σ H s):s.heap.FunFrames X.base X.stack:=by
  rcases I.ok.stk with e | ⟨e,hf⟩
  · rw [e]; exact I.funs
  · rw [e]
    obtain ⟨m,hn,_⟩:=I.loc
    refine .cons (by rw [I.ok.kind]; decide) hf hn ?_ I.funs
    exact Heap.get?_none_of_le (Nat.le_trans I.ok.bsz I.ok.above)
theorem Inv.stkSub (I:Inv X pins σ H s):∀b∈frs X.stack,b∈X.env.locals::X.fs:=fun b hb=>by
  rcases I.ok.stk with e | ⟨e,hf⟩
  · rw [e] at hb; exact List.mem_cons_of_mem _ hb
  · rw [e] at hb
    unfold frs at hb
    rw [List.filterMap_cons,hf] at hb
    exact hb
theorem Inv.stkFree (I:Inv X pins σ H s):∀b∈frs X.stack,H b=none:=fun b hb=>by
  rcases List.mem_cons.mp (I.stkSub b hb) with e | hb
  · rw [e]; exact I.free
  · obtain ⟨_,o,ho,_⟩:=I.ok.funs.mem hb
    exact I.base.free b o ho (I.ok.frf b hb) fun z=>I.ok.exfs b z hb
theorem Inv.step {g':Array GenState} {t':Nat} {d':Drawn} {ch:List Addr} (I:Inv X pins σ H s)
    (hch:∀b∈ch,(b∈X.ex∨X.s₀.heap.objs.size≤b)∧b≠X.env.locals∧(∀x c,X.env.cells.lookup x=some c→c≠b)∧∀p∈X.pn++pins,p.1≠b)
    (keep:∀b o,b≠X.env.locals→b∉X.fs→b∉ch→s.heap.get? b=some o→H b=none→h'.get? b=some o)
    (slot:∀b o,b≠X.env.locals→b∈X.fs→b∉ch→s.heap.get? b=some o→H b=none→∃sl,h'.get? b=some { o with slots:=sl }) (free:∀b o,b∉ch→s.heap.get? b=some o→H b=none→H' b=none)
    (there:∀b o,b∉ch→s.heap.get? b=some o→∃o',h'.get? b=some o')
    (tups:∀b xs,H b=some (.tup xs)→H' b=some (.tup xs)) (frzs:∀b o u,H b=some (.frz o u)→H' b=some (.frz o u)) (tbls:∀b ps,H b=some (.tbl ps)→∃more,H' b=some (.tbl (ps++more)))
    (ns:∀m,s.heap.Ns X.env.locals m→h'.Ns X.env.locals m) (hok:HOk X.prog X.w H' h') (hg:AllBare g') :
    Inv X pins σ H' { s with heap:=h',gens:=g',drawn:=d',toks:=t' }:=by
  have neL:∀b o,X.s₀.heap.get? b=some o→b≠X.env.locals:=fun b o e=>Nat.ne_of_lt (Nat.lt_of_lt_of_le (Heap.lt_size e) I.ok.above)
  have neC:∀b o,X.s₀.heap.get? b=some o→b∉X.ex→b∉ch:=fun b o e hx hb=>by
    rcases (hch b hb).1 with z | z
    · exact hx z
    · exact absurd (Nat.lt_of_lt_of_le (Heap.lt_size e) z) (Nat.lt_irrefl _)
  have cellK:∀x c,X.env.cells.lookup x=some c→∀v,s.heap.IsCell c v→h'.IsCell c v:=fun x c e v ⟨o,ho,hd⟩=>by
    have nch:c∉ch:=fun z=>(hch c z).2.2.1 x c e rfl
    by_cases hc:c∈X.fs
    · obtain ⟨sl,q⟩:=slot c o (I.cne x c e) hc nch ho (I.freeC x c e)
      exact ⟨_,q,hd⟩
    · exact ⟨o,keep c o (I.cne x c e) hc nch ho (I.freeC x c e),hd⟩
  refine ⟨I.ok,I.os,hg,⟨fun b o e n hb hx=>?_,fun b o e n hb hx=>?_,fun b o e n hx=>?_,fun b o e hx=>?_,fun b xs e=>tups b xs (I.base.tups b xs e),fun b o xs e=>frzs b o xs (I.base.frzs b o xs e),fun b ps e=>?_⟩,?_,fun x c e=>?_,?_,fun x c e=>?_,fun p hp=>?_,hok,I.len⟩
  · exact keep b o (neL b o e) hb (neC b o e hx) (I.base.keep b o e n hb hx) (I.base.free b o e n hx)
  · obtain ⟨sl,e1⟩:=I.base.slot b o e n hb hx
    obtain ⟨sl',e2⟩:=slot b _ (neL b o e) hb (neC b o e hx) e1 (I.base.free b o e n hx)
    exact ⟨sl',e2⟩
  · obtain ⟨o',e1⟩:=I.base.there b o e hx
    exact free b o' (neC b o e hx) e1 (I.base.free b o e n hx)
  · obtain ⟨o',e1⟩:=I.base.there b o e hx
    exact there b o' (neC b o e hx) e1
  · obtain ⟨m1,e1⟩:=I.base.tbls b ps e
    obtain ⟨m2,e2⟩:=tbls b _ e1
    exact ⟨m1++m2,by rw [e2,Array.append_assoc]⟩
  · obtain ⟨m,hn,hl⟩:=I.loc
    refine ⟨m,ns m hn,fun i x v e1 e2 e3=>?_⟩
    obtain ⟨u,r,l⟩:=hl i x v e1 e2 e3
    refine ⟨u,r,?_⟩
    rcases l with l | ⟨k,c,e,z⟩
    · exact .inl l
    · exact .inr ⟨k,c,e,cellK x c e _ z⟩
  · obtain ⟨v,z⟩:=I.cell x c e
    exact ⟨v,cellK x c e v z⟩
  · obtain ⟨m,⟨o,_,_,ho,_⟩,_⟩:=I.loc
    exact free _ o (fun z=>(hch _ z).2.1 rfl) ho I.free
  · obtain ⟨v,o,ho,hd⟩:=I.cell x c e
    exact free c o (fun z=>(hch c z).2.2.1 x c e rfl) ho (I.freeC x c e)
  · obtain ⟨e,n,ne,nf,d⟩:=I.pin p hp
    have nch:p.1∉ch:=fun z=>(hch p.1 z).2.2.2 p hp rfl
    exact ⟨keep p.1 p.2 ne nf nch e n,free p.1 p.2 nch e n,ne,nf,d⟩
theorem Inv.un {t':Nat} (I:Inv X pins σ H s) (u:Un X.fs [] H H' s.heap h') (hok:HOk X.prog X.w H' h'):Inv X pins σ H' { s with heap:=h',toks:=t' }:=by
  obtain ⟨m,⟨o,es,ep,ho,r⟩,_⟩:=id I.loc
  obtain ⟨sl,hL⟩:=u.any ho I.free (by simp)
  exact I.step (g':=s.gens) (d':=s.drawn) (ch:=[]) (fun _ z=>nomatch z) (fun b o _ hb _ e n=>u.keep b o e n hb (by simp)) (fun b o _ hb _ e n=>u.slot b o e n hb (by simp)) (fun b o _ e n=>u.free b o e n (by simp)) (fun b o _ e=>u.there b o e (by simp)) u.tups u.frzs u.tbls (fun m' hm=>by
    obtain ⟨o',es',ep',ho',r'⟩:=hm
    rw [ho] at ho'; cases ho'
    exact ⟨_,es',ep',hL,r'⟩) hok I.bare
theorem Inv.call {g':Array GenState} {t':Nat} {d':Drawn} {ch:List Addr} (I:Inv X pins σ H s) (u:Un (frs X.stack) ch H H' s.heap h') (hok:HOk X.prog X.w H' h') (hg:AllBare g')
    (hch:∀b∈ch,(b∈X.ex∨X.s₀.heap.objs.size≤b)∧b≠X.env.locals∧(∀x c,X.env.cells.lookup x=some c→c≠b)∧∀p∈X.pn++pins,p.1≠b) :
    Inv X pins σ H' { s with heap:=h',gens:=g',drawn:=d',toks:=t' }:=by
  obtain ⟨m,⟨o,es,ep,ho,r⟩,_⟩:=id I.loc
  obtain ⟨sl,hL⟩:=u.any ho I.free fun z=>(hch _ z).2.1 rfl
  exact I.step (ch:=ch) hch (fun b o hL hb hc e n=>u.keep b o e n (fun z=>(List.mem_cons.mp (I.stkSub b z)).elim hL hb) hc) (fun b o _ _ hc e n=>u.any e n hc) (fun b o hc e n=>u.free b o e n hc) (fun b o hc e=>u.there b o e hc) u.tups u.frzs u.tbls (fun m' hm=>by
    obtain ⟨o',es',ep',ho',r'⟩:=hm
    rw [ho] at ho'; cases ho'
    exact ⟨_,es',ep',hL,r'⟩) hok hg
theorem Inv.turned {t':Nat} {it:Addr} (I:Inv X pins σ H s) (k:∀b o,b≠it→s.heap.get? b=some o→h'.get? b=some o) (hn:H it=none) (hL:it≠X.env.locals)
    (h1:it∈X.ex∨X.s₀.heap.objs.size≤it) (h2:∀x c,X.env.cells.lookup x=some c→c≠it) (h3:∀p∈X.pn++pins,p.1≠it):Inv X pins σ H { s with heap:=h',toks:=t' }:=by
  have nit:∀b u,H b=some u→b≠it:=fun b u e z=>by rw [z,hn] at e; cases e
  refine I.step (g':=s.gens) (d':=s.drawn) (ch:=[it]) (fun b hb=>?_) (fun b o _ _ hc e _=>k b o (fun z=>hc (by simp [z])) e) (fun b o _ _ hc e _=>⟨o.slots,k b o (fun z=>hc (by simp [z])) e⟩) (fun _ _ _ _ n=>n)
    (fun b o hc e=>⟨o,k b o (fun z=>hc (by simp [z])) e⟩) (fun _ _ e=>e) (fun _ _ _ e=>e) (fun b ps e=>⟨#[],by rw [e]; simp⟩) (fun m hm=>?_) (fun b u e=>?_) I.bare
  · have e:b=it:=by simpa using hb
    subst e
    exact ⟨h1,hL,h2,h3⟩
  · obtain ⟨o,es,ep,ho,r⟩:=hm
    exact ⟨o,es,ep,k _ o (Ne.symm hL) ho,r⟩
  · refine (I.hok b u e).stay (fun c v hc q=>k c v ?_ q) (fun _ q=>q) fun _ _ q=>q
    rcases hc with z | z
    · rw [z]; exact nit b u e
    · exact nit c _ z
theorem Inv.tok (I:Inv X pins σ H s) (t:Nat):Inv X pins σ H { s with toks:=t }:=I.un (h':=s.heap) (t':=t) Un.refl I.hok
theorem Inv.kept {t':Nat} (I:Inv X pins σ H s) (k:∀b u,s.heap.get? b=some u→h'.get? b=some u):Inv X pins σ H { s with heap:=h',toks:=t' }:=I.un (Un.kept k) (I.hok.kept k)
theorem Inv.laid {a:Addr} {o:HO} {t':Nat} (I:Inv X pins σ H s) (k:∀b u,s.heap.get? b=some u→h'.get? b=some u) (hp:s.heap.objs.size≤a) (new:ObjOk X.prog X.w (upd H a o) h' a o) :
    Inv X pins σ (upd H a o) { s with heap:=h',toks:=t' }:=I.un (Un.laid k hp (I.hok.fresh hp)) (I.hok.laid k hp new)
theorem Inv.write {x e:Addr} {o:HO} {t':Nat} (I:Inv X pins σ H s) (mu:Mut (H x)) (he:e=x∨H e=some (.own x)) (k:∀b u,b≠e→s.heap.get? b=some u→h'.get? b=some u) (heo:∃u,h'.get? e=some u)
    (new:ObjOk X.prog X.w (upd H x o) h' x o):Inv X pins σ (upd H x o) { s with heap:=h',toks:=t' }:=I.un (Un.write mu he k heo) (I.hok.write mu he k heo new)
theorem Inv.pins_of {pins':List (Addr×Obj)} (I:Inv X pins σ H s) (h:∀p∈pins',s.heap.get? p.1=some p.2∧H p.1=none∧p.1≠X.env.locals∧p.1∉X.fs∧∀v,p.2.data≠.cell v):Inv X pins' σ H s:=
  ⟨I.ok,I.os,I.bare,I.base,I.loc,I.cell,I.free,I.freeC,fun p hp=>(List.mem_append.mp hp).elim (fun z=>I.pin p (List.mem_append_left _ z)) (h p),I.hok,I.len⟩
theorem Zkc {N:List Str} (hN:N.Nodup) {i j:Nat} {x:Str} (a:N[i]?=some x) (b:N[j]?=some x):i=j:=by
  obtain ⟨h1,e1⟩:=List.getElem?_eq_some_iff.mp a
  obtain ⟨h2,e2⟩:=List.getElem?_eq_some_iff.mp b
  exact (List.getElem_inj hN).mp (e1.trans e2.symm)
theorem Zmb {M:Model} {A:Around} {E:Value→Shared→Prop} {i:Nat} {x:Str} {v:V} {u:Value} {Q:Unit→Shared→Prop} (I:Inv X pins σ H s) (hN:X.N.Nodup) (hi:X.N[i]?=some x) (hx:Loc X.env.scope x) (r:RelV v u)
    (h:∀s',Inv X pins (σ.set i (some v)) H s'→(∃a,Heap.SameBut a s.heap s'.heap∧(a=X.env.locals∨X.env.cells.lookup x=some a))→Q () s') (hf:X.fn x=true∨X.env.scope.names.lookup x=some .local:=by first | exact .inl rfl | exact .inr rfl | assumption):wpAny M A (storeName X.env x u) Q E s:=by
  obtain ⟨m,hn,hl⟩:=id I.loc
  have hcls:(X.env.scope.kind == .class || (X.env.scope.kind == .module && X.env.locals != X.env.globals))=false:=by rw [I.ok.kind]; rfl
  have hiσ:i < σ.length:=by rw [I.len]; exact (List.getElem?_eq_some_iff.mp hi).1
  have cne:=I.cne
  have tracked:∀{a:Addr} {h':Heap},(∃o,s.heap.get? a=some o∧H a=none)→Heap.SameBut a s.heap h'→HOk X.prog X.w H h':=fun {a h'} ha hs b ob e=>by
    obtain ⟨_,_,hfree⟩:=ha
    refine (I.hok b ob e).stay (fun c w' hc q=>(hs.2 c ?_).trans q) (fun _ q=>q) fun _ _ q=>q
    rintro rfl
    rcases hc with rfl | hc
    · rw [hfree] at e; cases e
    · rw [hfree] at hc; cases hc
  rcases hx with hk | hk
  · refine wpAny_storeName_local hk hn (fun h' hn' hs=>?_) hcls
    obtain ⟨oL,_,_,hoL,_⟩:=id hn
    refine h _ ⟨I.ok,I.os,I.bare,⟨fun b o e n hb hx=>?_,fun b o e n hb hx=>?_,I.base.free,fun b o e hx=>?_,I.base.tups,I.base.frzs,I.base.tbls⟩,⟨_,hn',fun j y v' e1 e2 e3=>?_⟩,fun y c e=>?_,I.free,I.freeC,fun p hp=>?_,tracked ⟨oL,hoL,I.free⟩ hs,by simpa using I.len⟩ ⟨_,hs,.inl rfl⟩
    · exact (hs.2 b (Nat.ne_of_lt (Nat.lt_of_lt_of_le (Heap.lt_size e) I.ok.above))).trans (I.base.keep b o e n hb hx)
    · obtain ⟨sl,e1⟩:=I.base.slot b o e n hb hx
      exact ⟨sl,(hs.2 b (Nat.ne_of_lt (Nat.lt_of_lt_of_le (Heap.lt_size e) I.ok.above))).trans e1⟩
    · obtain ⟨o',e1⟩:=I.base.there b o e hx
      exact ⟨o',(hs.2 b (Nat.ne_of_lt (Nat.lt_of_lt_of_le (Heap.lt_size e) I.ok.above))).trans e1⟩
    · by_cases hj:j=i
      · subst hj
        rw [hi] at e1; cases e1
        rw [List.getElem?_set_self hiσ] at e2
        cases e2
        exact ⟨u,r,.inl ⟨hk,by simp⟩⟩
      · rw [List.getElem?_set_ne (Ne.symm hj)] at e2
        obtain ⟨u',r',q⟩:=hl j y v' e1 e2 e3
        refine ⟨u',r',?_⟩
        rcases q with ⟨k,e⟩ | ⟨k,c,e,z⟩
        · refine .inl ⟨k,?_⟩
          have:y≠x:=fun e=>hj (Zkc hN e1 (e ▸ hi))
          simp [this,e]
        · exact .inr ⟨k,c,e,z.sameBut hs (cne y c e)⟩
    · obtain ⟨w',z⟩:=I.cell y c e
      exact ⟨w',z.sameBut hs (cne y c e)⟩
    · obtain ⟨e,n,ne,nf,d⟩:=I.pin p hp
      exact ⟨(hs.2 p.1 ne).trans e,n,ne,nf,d⟩
  · have hfn:X.fn x=true:=by
      rcases hf with z | z
      · exact z
      · rw [z] at hk; cases hk
    obtain ⟨c,hc⟩:=I.ok.has x (.inl hk)
    obtain ⟨w',z⟩:=I.cell x c hc
    refine wpAny_storeName_cell I.ok.kind hk hc z (fun h' hc' hs=>?_)
    obtain ⟨oc,hoc,hocd⟩:=id z
    refine h { s with heap:=h' } ⟨I.ok,I.os,I.bare,⟨fun b o e n hb hx=>?_,fun b o e n hb hx=>?_,I.base.free,fun b o e hx=>?_,I.base.tups,I.base.frzs,I.base.tbls⟩,⟨m,hn.sameBut hs (Ne.symm (cne x c hc)),fun j y v' e1 e2 e3=>?_⟩,fun y c' e=>?_,I.free,I.freeC,fun p hp=>?_,tracked ⟨oc,hoc,I.freeC x c hc⟩ hs,by simpa using I.len⟩ ⟨c,hs,.inr hc⟩
    · exact (hs.2 b (Nat.ne_of_lt (Nat.lt_of_lt_of_le (Heap.lt_size e) (I.ok.cab x c hfn hc)))).trans (I.base.keep b o e n hb hx)
    · obtain ⟨sl,e1⟩:=I.base.slot b o e n hb hx
      exact ⟨sl,(hs.2 b (Nat.ne_of_lt (Nat.lt_of_lt_of_le (Heap.lt_size e) (I.ok.cab x c hfn hc)))).trans e1⟩
    · obtain ⟨o',e1⟩:=I.base.there b o e hx
      exact ⟨o',(hs.2 b (Nat.ne_of_lt (Nat.lt_of_lt_of_le (Heap.lt_size e) (I.ok.cab x c hfn hc)))).trans e1⟩
    · by_cases hj:j=i
      · subst hj
        rw [hi] at e1; cases e1
        rw [List.getElem?_set_self hiσ] at e2
        cases e2
        exact ⟨u,r,.inr ⟨.inl hk,c,hc,hc'⟩⟩
      · rw [List.getElem?_set_ne (Ne.symm hj)] at e2
        obtain ⟨u',r',q⟩:=hl j y v' e1 e2 e3
        refine ⟨u',r',?_⟩
        rcases q with q | ⟨k,c',e,z'⟩
        · exact .inl q
        · refine .inr ⟨k,c',e,z'.sameBut hs ?_⟩
          rintro rfl
          exact hj (Zkc hN e1 (I.ok.inj _ _ _ e hc ▸ hi))
    · by_cases hcc:c'=c
      · subst hcc; exact ⟨_,hc'⟩
      · obtain ⟨w2,z2⟩:=I.cell y c' e
        exact ⟨w2,z2.sameBut hs hcc⟩
    · obtain ⟨e,n,ne,nf,d⟩:=I.pin p hp
      refine ⟨(hs.2 p.1 ?_).trans e,n,ne,nf,d⟩
      intro q
      rw [q,hoc] at e
      have q':oc=p.2:=Option.some.inj e
      exact d w' (by rw [←q']; exact hocd)
theorem ZjV {M:Model} {A:Around} {E:Value→Shared→Prop} {i:Nat} {x:Str} {v:V} {u:Value} {Q:Unit→Shared→Prop} (I:Inv X pins σ H s) (hN:X.N.Nodup) (hi:X.N[i]?=some x) (hx:Loc X.env.scope x) (r:RelV v u)
    (h:∀s',Inv X pins (σ.set i (some v)) H s'→Q () s') (hf:X.fn x=true∨X.env.scope.names.lookup x=some .local:=by first | exact .inl rfl | exact .inr rfl | assumption):wpAny M A (storeName X.env x u) Q E s:=
  Zmb I hN hi hx r (fun s' I' _=>h s' I') hf
theorem Inv.call' {s':Shared} {ch:List Addr} (I:Inv X pins σ H s) (ho:s'.os=s.os) (u:Un (frs X.stack) ch H H' s.heap s'.heap) (hok:HOk X.prog X.w H' s'.heap) (hg:AllBare s'.gens)
    (hch:∀b∈ch,(b∈X.ex∨X.s₀.heap.objs.size≤b)∧b≠X.env.locals∧(∀x c,X.env.cells.lookup x=some c→c≠b)∧∀p∈X.pn++pins,p.1≠b):Inv X pins σ H' s':=by
  obtain ⟨h',g',d',t',o'⟩:=s'
  have e:o'=s.os:=ho
  subst e
  exact I.call (g':=g') (t':=t') (d':=d') u hok hg hch
end
abbrev XK:=Value→Option Addr→Hp→Prop
abbrev St:=List (Option V)
abbrev VK:=V→Hp→Prop
abbrev TE:=St→Hp→VK→Prop
abbrev TT:=St→Hp→(Bool→Hp→Prop)→Prop
abbrev TA:=St→Hp→(List V→Hp→Prop)→Prop
structure ZeO where
  nx:St→Hp→Prop
  rt:VK
  bk:St→Hp→Prop:=fun _ _=>False
  ct:St→Hp→Prop:=fun _ _=>False
abbrev TS:=ZeO→St→Hp→Prop
def EP (X:Cx) (pins:List (Addr×Obj)) (σ:St) (Q:VK) (u:Value) (s':Shared):Prop:=∃v H',Inv X pins σ H' s'∧RelV v u∧Q v H'
def TP (X:Cx) (pins:List (Addr×Obj)) (σ:St) (Q:Bool→Hp→Prop) (b:Bool) (s':Shared):Prop:=∃H',Inv X pins σ H' s'∧Q b H'
def AP (X:Cx) (pins:List (Addr×Obj)) (σ:St) (Q:List V→Hp→Prop) (us:List Value) (s':Shared):Prop:=∃vs H',Inv X pins σ H' s'∧Vals vs us∧Q vs H'
def SP (X:Cx) (pins:List (Addr×Obj)) (D:ZeO) (f:Flow) (s':Shared):Prop:=
  match f with
  | .next=>∃σ' H',Inv X pins σ' H' s'∧D.nx σ' H'
  | .brk=>∃σ' H',Inv X pins σ' H' s'∧D.bk σ' H'
  | .cont=>∃σ' H',Inv X pins σ' H' s'∧D.ct σ' H'
  | .ret u=>∃v σ' H',Inv X pins σ' H' s'∧RelV v u∧D.rt v H'
def PE (X:Cx) (e:Expr) (t:TE):Prop:=
  ∀(pins:List (Addr×Obj)) (s:Shared) (σ:St) (H:Hp) (Q:VK),Inv X pins σ H s→t σ H Q→wpAny (model X.prog X.w) X.A (eval e X.env) (EP X pins σ Q) X.xe s
def PT (X:Cx) (e:Expr) (t:TT):Prop:=
  ∀(pins:List (Addr×Obj)) (s:Shared) (σ:St) (H:Hp) (Q:Bool→Hp→Prop),Inv X pins σ H s→t σ H Q→wpAny (model X.prog X.w) X.A (isTrue e X.env (eval e X.env)) (TP X pins σ Q) X.xe s
def PW (X:Cx) (e:Expr) (t:TT):Prop:=
  ∀(whole:Sem Value) (pins:List (Addr×Obj)) (s:Shared) (σ:St) (H:Hp) (Q:Bool→Hp→Prop),Inv X pins σ H s→t σ H Q→wpAny (model X.prog X.w) X.A (isTrue e X.env whole) (TP X pins σ Q) X.xe s
theorem PW.pt {X:Cx} {e:Expr} {t:TT} (h:PW X e t):PT X e t:=h _
def PA (X:Cx) (es:List Expr) (t:TA):Prop:=
  ∀(pos:Pos) (pins:List (Addr×Obj)) (s:Shared) (σ:St) (H:Hp) (Q:List V→Hp→Prop),Inv X pins σ H s→t σ H Q→wpAny (model X.prog X.w) X.A (spliced (backTo pos (starEach es X.env))) (AP X pins σ Q) X.xe s
def PS (X:Cx) (st:Stmt) (t:TS):Prop:=
  ∀(pins:List (Addr×Obj)) (s:Shared) (σ:St) (H:Hp) (D:ZeO),Inv X pins σ H s→t D σ H→wpAny (model X.prog X.w) X.A (exec st X.env) (SP X pins D) X.xe s
def PSs (X:Cx) (st:List Stmt) (t:TS):Prop:=
  ∀(pins:List (Addr×Obj)) (s:Shared) (σ:St) (H:Hp) (D:ZeO),Inv X pins σ H s→t D σ H→wpAny (model X.prog X.w) X.A (execs st X.env) (SP X pins D) X.xe s
theorem thn {α:Type} {t:Sem α} {Q Q':α→Shared→Prop} {M:Model} {A:Around} {E:Value→Shared→Prop} {s:Shared} (h:wpAny M A t Q E s) (hQ:∀a s,Q a s→Q' a s):wpAny M A t Q' E s:=wpAny_mono h hQ fun _ _ x=>x
end L2
namespace L2
open PySem PySem.Spec PyProof.Rows
section
variable {X:Cx}
theorem bin {a b:Expr} {ta tb:TE} (ha:PE X a ta) (hb:PE X b tb) {pins:List (Addr×Obj)} {s:Shared} {σ:St} {H:Hp} {R:V→V→Hp→Prop} (I:Inv X pins σ H s) (h:ta σ H fun x H1=>tb σ H1 fun y H2=>R x y H2)
    {α:Type} {Q:α→Shared→Prop} {f:Value→Value→Sem α}
    (hf:∀v u s2 x y H2,Inv X pins σ H2 s2→RelV x v→RelV y u→R x y H2→wpAny (model X.prog X.w) X.A (f v u) Q X.xe s2) :
    wpAny (model X.prog X.w) X.A (eval a X.env) (fun v s₁=>wpAny (model X.prog X.w) X.A (eval b X.env) (fun u s₂=>wpAny (model X.prog X.w) X.A (f v u) Q X.xe s₂) X.xe s₁) X.xe s:=by
  refine thn (ha pins s σ H _ I h) fun v s1 ⟨x,H1,I1,r1,q1⟩=>?_
  refine thn (hb pins s1 σ H1 _ I1 q1) fun u s2 ⟨y,H2,I2,r2,q2⟩=>?_
  exact hf v u s2 x y H2 I2 r1 r2 q2
def Zxf (i:Nat):TE:=fun σ H Q=>∃v,σ[i]?=some (some v)∧Q v H
def tC (v:V):TE:=fun _ H Q=>Q v H
theorem Zoo {i:Nat} {x:Str} {pos:Pos} (hN:X.N[i]?=some x) (hv:Vis X.env.scope x) (hd:(x == ("__debug__":Str))=false:=by decide) (hcd:(x == ("__classdict__":Str))=false:=by decide):PE X (.Name x pos) (Zxf i):=by
  intro pins s σ H Q I h
  obtain ⟨v,e,h⟩:=h
  obtain ⟨m,hn,hl⟩:=I.loc
  obtain ⟨u,r,l⟩:=hl i x v hN e hv
  have fin:EP X pins σ Q u s:=⟨v,H,I,r,h⟩
  rcases l with ⟨hk,hm⟩ | ⟨hk,c,hc,hcell⟩
  · exact wpAny_Name (wpAny_loadName_local I.ok.kind hk hn hm fin) hd
  · rcases hk with hk | hk
    · exact wpAny_Name (wpAny_loadName_cell I.ok.kind hk hc hcell fin) hd
    · exact wpAny_Name (wpAny_loadName_free I.ok.kind hk hc hcell fin hcd) hd
theorem ZsD {i j pos}:PE X (.Constant (.int i) j pos) (tC (.int i)):=fun _ _ _ H _ I h=>wpAny_Constant_int ⟨.int i,H,I.tok _,⟨_,rfl⟩,h⟩
theorem Zuk {b j pos}:PE X (.Constant (.bool b) j pos) (tC (.bl b)):=fun _ _ _ H _ I h=>Constant_bool ⟨.bl b,H,I,rfl,h⟩
theorem ZsC {j pos}:PE X (.Constant .none j pos) (tC .non):=fun _ _ _ H _ I h=>Constant_none ⟨.non,H,I,rfl,h⟩
theorem ZsA {x j pos}:PE X (.Constant (.str x) j pos) (tC (.str x)):=fun _ _ _ H _ I h=>Calls.Constant_str ⟨.str x,H,I.tok _,⟨_,rfl⟩,h⟩
def Gl (X:Cx) (x:Str):Prop:=X.env.kindOf x=some .globalImplicit
theorem ZgC {E:Value→Shared→Prop} {pins:List (Addr×Obj)} {s:Shared} {σ:St} {H:Hp} {x:Str} {u:Value} {pos:Pos} {Q:Value→Shared→Prop} (I:Inv X pins σ H s) (hg:Gl X x) (hm:X.mg x=some u) (h:Q u s)
    (hd:(x == ("__debug__":Str))=false:=by decide):wpAny (model X.prog X.w) X.A (eval (.Name x pos) X.env) Q E s:=
  Calls.Name_function_global I.ok.kind hg (Calls.loadGlobal_global (by rw [I.ok.glob]; exact I.mod.glob.keeps I.bk) hm h) hd
theorem Zij {E:Value→Shared→Prop} {pins:List (Addr×Obj)} {s:Shared} {σ:St} {H:Hp} {x:Str} {u:Value} {pos:Pos} {Q:Value→Shared→Prop} (I:Inv X pins σ H s) (hg:Gl X x) (hm:X.mg x=none) (hv:bootBuiltins x=some u) (h:Q u s)
    (hn:x≠"__name__":=by decide) (hd:(x == ("__debug__":Str))=false:=by decide):wpAny (model X.prog X.w) X.A (eval (.Name x pos) X.env) Q E s:=by
  obtain ⟨mb,h1,h2⟩:=I.mod.blt
  exact Calls.Name_function_global I.ok.kind hg (Calls.loadGlobal_builtin (by rw [I.ok.glob]; exact I.mod.glob.keeps I.bk) hm (by rw [I.ok.blt]; exact h1.keeps I.bk) ((h2 x hn).trans hv) h) hd
theorem Zls {x:Str} {v:V} {u:Value} {pos:Pos} (hg:Gl X x) (hm:X.mg x=some u) (r:RelV v u) (hd:(x == ("__debug__":Str))=false:=by decide):PE X (.Name x pos) (tC v):=
  fun _ _ _ H _ I h=>ZgC I hg hm ⟨v,H,I,r,h⟩ hd
variable {a b:Expr} {ta tb:TE} {pos:Pos}
def PC (X:Cx) (op:CmpOp) (a b:Expr) (t:TE):Prop:=
  ∀(pins:List (Addr×Obj)) (s:Shared) (σ:St) (H:Hp) (Q:VK),Inv X pins σ H s→t σ H Q→
    wpAny (model X.prog X.w) X.A (eval a X.env) (fun v s₁=>wpAny (model X.prog X.w) X.A (eval b X.env) (fun u s₂=>wpAny (model X.prog X.w) X.A (compareOp op v u) (EP X pins σ Q) X.xe s₂) X.xe s₁) X.xe s
theorem ZoH (b:Expr) {op:CmpOp} (h:op≠.In) (h2:op≠.NotIn):behindInMarks op b=false:=by
  have e1:(op == CmpOp.In)=false:=by cases op<;>first | rfl | exact absurd rfl h
  have e2:(op == CmpOp.NotIn)=false:=by cases op<;>first | rfl | exact absurd rfl h2
  cases b<;>simp [behindInMarks,e1,e2]
def tB (t:TE):TT:=fun σ H Q=>t σ H fun x H1=>∃c,x=.bl c∧Q c H1
theorem Zsp {op:CmpOp} {t:TE} (h:PC X op a b t) (h1:behindInMarks op b=false:=by first | exact ZoH _ (by decide) (by decide) | rfl):PT X (.Compare a [op] [b] pos) (tB t):=by
  intro pins s σ H Q I hw
  refine wpAny_isTrue_Compare1 (thn (h pins s σ H _ I hw) fun v s1 h1=>thn h1 fun u s2 h2=>thn h2 fun c s3 ⟨x,H1,I1,r1,q1⟩=>?_) h1
  obtain ⟨d,rfl,q⟩:=q1
  cases r1
  exact wpAny_truthy_bool ⟨H1,I1,q⟩
variable {tA tB':TT} {rest:List Expr}
def Zxq (t u:TT):TT:=fun σ H Q=>t σ H fun c H1=>if c=true then u σ H1 Q else Q false H1
def tOr (t u:TT):TT:=fun σ H Q=>t σ H fun c H1=>if c=true then Q true H1 else u σ H1 Q
def Zxl (t:TT):TT:=fun σ H Q=>t σ H fun c H1=>Q (!c) H1
theorem Zqa (ha:PT X a tA):PW X (.BoolOp .And [a] pos) tA:=by
  intro wh pins s σ H Q I h
  refine isTrue_and (thn (ha pins s σ H Q I h) fun c s1 e=>?_)
  cases c with
  | true=>exact isTrue_and_nil e
  | false=>exact e
theorem Zsl (ha:PT X a tA):PW X (.BoolOp .Or [a] pos) tA:=by
  intro wh pins s σ H Q I h
  refine isTrue_or (thn (ha pins s σ H Q I h) fun c s1 e=>?_)
  cases c with
  | false=>exact isTrue_or_nil e
  | true=>exact e
theorem Zsm (ha:PT X a tA) (hb:PW X (.BoolOp .And (b::rest) pos) tB'):PW X (.BoolOp .And (a::b::rest) pos) (Zxq tA tB'):=by
  intro wh pins s σ H Q I h
  refine isTrue_and (thn (ha pins s σ H _ I h) fun c s1 ⟨H1,I1,q1⟩=>?_)
  cases c with
  | true=>exact hb wh pins s1 σ H1 Q I1 q1
  | false=>exact ⟨H1,I1,q1⟩
theorem Zuc (ha:PT X a tA) (hb:PW X (.BoolOp .Or (b::rest) pos) tB'):PW X (.BoolOp .Or (a::b::rest) pos) (tOr tA tB'):=by
  intro wh pins s σ H Q I h
  refine isTrue_or (thn (ha pins s σ H _ I h) fun c s1 ⟨H1,I1,q1⟩=>?_)
  cases c with
  | true=>exact ⟨H1,I1,q1⟩
  | false=>exact hb wh pins s1 σ H1 Q I1 q1
theorem Zso (ha:PT X a tA):PT X (.UnaryOp .Not a pos) (Zxl tA):=by
  intro pins s σ H Q I h
  exact isTrue_not (ha pins s σ H (fun c H1=>Q (!c) H1) I h)
def ZtZ (ta tb:TE):TE:=fun σ H Q=>ta σ H fun x H1=>∃c,x=.bl c∧if c=true then tb σ H1 Q else Q (.bl false) H1
def Zxk (ta tb:TE):TE:=fun σ H Q=>ta σ H fun x H1=>∃c,x=.bl c∧if c=true then Q (.bl true) H1 else tb σ H1 Q
theorem ZsB {op} {t:TE} (h:PE X a t):PE X (.BoolOp op [a] pos) t:=fun pins s σ H Q I hw=>BoolOp_one (h pins s σ H Q I hw)
theorem ZsF (ha:PE X a ta) (hb:PE X (.BoolOp .And (b::rest) pos) tb):PE X (.BoolOp .And (a::b::rest) pos) (ZtZ ta tb):=by
  intro pins s σ H Q I h
  refine BoolOp_and (thn (ha pins s σ H _ I h) fun v s1 ⟨x,H1,I1,r1,q1⟩=>?_)
  obtain ⟨c,rfl,q1⟩:=q1
  cases r1
  refine wpAny_truthy_bool ?_
  cases c with
  | true=>exact hb pins s1 σ H1 Q I1 q1
  | false=>exact ⟨.bl false,H1,I1,rfl,q1⟩
theorem Zug (ha:PE X a ta) (hb:PE X (.BoolOp .Or (b::rest) pos) tb):PE X (.BoolOp .Or (a::b::rest) pos) (Zxk ta tb):=by
  intro pins s σ H Q I h
  refine BoolOp_or (thn (ha pins s σ H _ I h) fun v s1 ⟨x,H1,I1,r1,q1⟩=>?_)
  obtain ⟨c,rfl,q1⟩:=q1
  cases r1
  refine wpAny_truthy_bool ?_
  cases c with
  | false=>exact hb pins s1 σ H1 Q I1 q1
  | true=>exact ⟨.bl true,H1,I1,rfl,q1⟩
def tIf (t:TT) (ta tb:TE):TE:=fun σ H Q=>t σ H fun c H1=>if c=true then ta σ H1 Q else tb σ H1 Q
theorem Zor {c:Expr} (hc:PT X c tA) (ha:PE X a ta) (hb:PE X b tb):PE X (.IfExp c a b pos) (tIf tA ta tb):=by
  intro pins s σ H Q I h
  refine wpAny_IfExp (thn (hc pins s σ H _ I h) fun d s1 ⟨H1,I1,q1⟩=>?_)
  cases d with
  | true=>exact ha pins s1 σ H1 Q I1 q1
  | false=>exact hb pins s1 σ H1 Q I1 q1
end
end L2
namespace L2
open PySem PySem.Spec PyProof.Rows
def SqL (K:PySem.W.Frag) (H:Hp) (a:Addr) (xs:List V):Prop:=
  Rd H a (.lst xs)∨
    ∃(o:Obj) (its:Array Value) (n:Nat),K.lookup a=some o∧o.cls=.type "list"∧o.dict=none∧o.data=.seq its n∧its.size≤sizeLine∧Vals xs its.toList
def SqT (K:PySem.W.Frag) (H:Hp) (a:Addr) (xs:List V):Prop:=
  Rd H a (.tup xs)∨
    ∃(o:Obj) (its:Array Value) (n:Nat),K.lookup a=some o∧o.cls=.type "tuple"∧o.data=.seq its n∧its.size≤sizeLine∧Vals xs its.toList
def Zx0:Value→Option V
  | .none=>some .non
  | .bool b=>some (.bl b)
  | .int i _=>some (.int i)
  | .str x _=>some (.str x)
  | .bytes b _=>some (.byt b)
  | .float b _=>some (.flt b)
  | .ref a=>some (.ref a)
  | .type n=>some (.ty n)
  | _=>none
theorem RelV.abs {x:V} {u:Value} (r:RelV x u):Zx0 u=some x:=by
  cases x with
  | non=>cases r; rfl
  | bl _=>cases r; rfl
  | int _=>obtain ⟨t,rfl⟩:=r; rfl
  | str _=>obtain ⟨t,rfl⟩:=r; rfl
  | byt _=>obtain ⟨t,rfl⟩:=r; rfl
  | flt _=>obtain ⟨t,rfl⟩:=r; rfl
  | ref _=>cases r; rfl
  | ty _=>cases r; rfl
theorem RelV.inj {x y:V} {u:Value} (r:RelV x u) (q:RelV y u):x=y:=Option.some.inj (r.abs.symm.trans q.abs)
theorem Vals.inj:∀{xs ys:List V} {us:List Value},Vals xs us→Vals ys us→xs=ys
  | _,_,_,.nil,.nil=>rfl
  | _,_,_,.cons r t,.cons r' t'=>by rw [r.inj r',Vals.inj t t']
section
variable {X:Cx} {pins:List (Addr×Obj)} {σ:St} {H:Hp} {s:Shared} {a:Addr} {xs ys:List V}
theorem SqL.of {K:PySem.W.Frag} (h:H a=some (.lst xs)):SqL K H a xs:=.inl (.inl h)
theorem SqT.of {K:PySem.W.Frag} (h:H a=some (.tup xs)):SqT K H a xs:=.inl (.inl h)
theorem Inv.list (I:Inv X pins σ H s) (h:SqL X.K H a xs):∃its:List Value,Vals xs its∧PlainL s.heap a its.toArray∧xs.length≤sizeLine:=by
  rcases h with h | ⟨o,its,n,hk,hc,hd,hs,hz,r⟩
  · obtain ⟨z,its,n,r,e⟩:=h.ok I.hok
    exact ⟨its,r,⟨_,n,e,rfl,rfl,rfl⟩,z⟩
  · refine ⟨its.toList,r,⟨o,n,I.kIn a o hk,hc,hd,by simpa using hs⟩,?_⟩
    have e:=r.length
    simp only [Array.length_toList] at e
    omega
theorem Inv.tuple (I:Inv X pins σ H s) (h:SqT X.K H a xs):∃its:List Value,Vals xs its∧IsTup s.heap a its.toArray∧xs.length≤sizeLine:=by
  rcases h with h | ⟨o,its,n,hk,hc,hs,hz,r⟩
  · obtain ⟨z,its,r,p⟩:=h.ok I.hok
    exact ⟨its,r,p,z⟩
  · refine ⟨its.toList,r,⟨o,I.kIn a o hk,hc,n,by simpa using hs⟩,?_⟩
    have e:=r.length
    simp only [Array.length_toList] at e
    omega
theorem Inv.list_inj (I:Inv X pins σ H s) (h:SqL X.K H a xs) (h':SqL X.K H a ys):xs=ys:=by
  obtain ⟨its,r,⟨o,n,e,_,_,d⟩,_⟩:=I.list h
  obtain ⟨its',r',⟨o',n',e',_,_,d'⟩,_⟩:=I.list h'
  rw [e] at e'; cases e'
  rw [d] at d'
  injection d' with d1 _
  have:its=its':=by simpa using congrArg Array.toList d1
  subst this
  exact r.inj r'
theorem Inv.tuple_inj (I:Inv X pins σ H s) (h:SqT X.K H a xs) (h':SqT X.K H a ys):xs=ys:=by
  obtain ⟨its,r,⟨o,e,_,n,d⟩,_⟩:=I.tuple h
  obtain ⟨its',r',⟨o',e',_,n',d'⟩,_⟩:=I.tuple h'
  rw [e] at e'; cases e'
  rw [d] at d'
  injection d' with d1 _
  have:its=its':=by simpa using congrArg Array.toList d1
  subst this
  exact r.inj r'
end
abbrev Cx.wish (X:Cx) (E:Value→Shared→Prop):Cx:={ X with xe:=E }
abbrev Cx.nox (X:Cx):Cx:=X.wish fun _ _=>False
theorem Cx.Ok.wish {X:Cx} (ok:X.Ok) (E:Value→Shared→Prop):(X.wish E).Ok:=
  ⟨ok.mod,ok.kind,ok.glob,ok.blt,ok.above,ok.inj,ok.has,ok.cab,ok.hd,ok.frames,ok.stk,ok.exf,ok.bs,ok.bsz,ok.noex,ok.exfs,ok.funs,ok.frf⟩
theorem Cx.Ok.unwish {X:Cx} {E:Value→Shared→Prop} (ok:(X.wish E).Ok):X.Ok:=
  ⟨ok.mod,ok.kind,ok.glob,ok.blt,ok.above,ok.inj,ok.has,ok.cab,ok.hd,ok.frames,ok.stk,ok.exf,ok.bs,ok.bsz,ok.noex,ok.exfs,ok.funs,ok.frf⟩
section
variable {X:Cx} {pins:List (Addr×Obj)} {σ:St} {H:Hp} {s:Shared} {E:Value→Shared→Prop}
theorem Inv.wish (I:Inv X pins σ H s) (E:Value→Shared→Prop):Inv (X.wish E) pins σ H s:=⟨I.ok.wish E,I.os,I.bare,I.base,I.loc,I.cell,I.free,I.freeC,I.pin,I.hok,I.len⟩
theorem Inv.unwish (I:Inv (X.wish E) pins σ H s):Inv X pins σ H s:=⟨I.ok.unwish,I.os,I.bare,I.base,I.loc,I.cell,I.free,I.freeC,I.pin,I.hok,I.len⟩
theorem SP.unwish {D:ZeO} {f:Flow} {s':Shared} (h:SP (X.wish E) pins D f s'):SP X pins D f s':=by
  cases f with
  | next=>obtain ⟨σ',H',I,q⟩:=h; exact ⟨σ',H',I.unwish,q⟩
  | brk=>obtain ⟨σ',H',I,q⟩:=h; exact ⟨σ',H',I.unwish,q⟩
  | cont=>obtain ⟨σ',H',I,q⟩:=h; exact ⟨σ',H',I.unwish,q⟩
  | ret u=>obtain ⟨v,σ',H',I,r,q⟩:=h; exact ⟨v,σ',H',I.unwish,r,q⟩
theorem PSs.nox {st:List Stmt} {t:TS} (h:PSs X.nox st t):PSs X st t:=fun pins s σ H D I hw=>
  wpAny_mono (h pins s σ H D (I.wish _) hw) (fun _ _ q=>q.unwish) fun _ _ z=>False.elim z
end
section
variable {X:Cx} {st:Stmt} {rest:List Stmt} {t u:TS} {e:Expr} {te:TE} {pos:Pos}
def ZtW:TS:=fun D σ H=>D.nx σ H
def Zxi (t u:TS):TS:=fun D σ H=>t { D with nx:=u D } σ H
theorem Zqf:PSs X [] ZtW:=fun _ _ σ H _ I h=>wpAny_execs_nil ⟨σ,H,I,h⟩
theorem Zoj (h1:PS X st t) (h2:PSs X rest u):PSs X (st::rest) (Zxi t u):=by
  intro pins s σ H D I h
  refine wpAny_execs_cons (thn (h1 pins s σ H { D with nx:=u D } I h) fun f s1 q=>?_)
  cases f with
  | next=>
    obtain ⟨σ',H',I',q⟩:=q
    exact h2 pins s1 σ' H' D I' q
  | ret v=>exact q
  | brk=>exact q
  | cont=>exact q
theorem Zqe (h1:PS X st t):PSs X [st] t:=by
  intro pins s σ H D I h
  refine wpAny_execs_cons (thn (h1 pins s σ H D I h) fun f s1 q=>?_)
  cases f with
  | next=>exact wpAny_execs_nil q
  | ret v=>exact q
  | brk=>exact q
  | cont=>exact q
theorem Inv.quiet {pins:List (Addr×Obj)} {σ:St} {H:Hp} {s:Shared} (I:Inv X pins σ H s):interactive X.env=false:=by simp [interactive,I.ok.kind]
def ZtX (te:TE):TS:=fun D σ H=>te σ H fun _ H1=>D.nx σ H1
theorem Zlq (he:PE X e te) (hs:swapsWith e none pos.line X.env=pure false:=by rfl):PS X (.Expr e pos) (ZtX te):=by
  intro pins s σ H D I h
  exact wpAny_Expr_any (thn (he pins s σ H _ I h) fun v s1 ⟨x,H1,I1,r1,q1⟩=>⟨σ,H1,I1,q1⟩) I.quiet hs
def Zxj (te:TE):TS:=fun D σ H=>te σ H D.rt
theorem Zsq (he:PE X e te):PS X (.Return (some e) pos) (Zxj te):=by
  intro pins s σ H D I h
  exact wpAny_Return_some (thn (he pins s σ H _ I h) fun v s1 ⟨x,H1,I1,r1,q1⟩=>⟨x,σ,H1,I1,r1,q1⟩)
def ZtU:TS:=fun D _ H=>D.rt .non H
theorem Zqg:PS X (.Return none pos) ZtU:=fun _ _ σ H _ I h=>wpAny_Return_none ⟨.non,σ,H,I,rfl,h⟩
def Zxn (c:TT) (t u:TS):TS:=fun D σ H=>c σ H fun b H1=>if b=true then t D σ H1 else u D σ H1
theorem Zue {c:Expr} {a b:List Stmt} {tc:TT} (hc:PT X c tc) (ha:PSs X a t) (hb:PSs X b u):PS X (.If c a b pos) (Zxn tc t u):=by
  intro pins s σ H D I h
  refine wpAny_If (thn (hc pins s σ H _ I h) fun d s1 ⟨H1,I1,q1⟩=>?_)
  cases d with
  | true=>exact ha pins s1 σ H1 D I1 q1
  | false=>exact hb pins s1 σ H1 D I1 q1
end
abbrev TG:=V→St→Hp→(St→Hp→Prop)→Prop
abbrev TGs:=List V→St→Hp→(St→Hp→Prop)→Prop
def PG (X:Cx) (target:Expr) (t:TG):Prop:=
  ∀(pins:List (Addr×Obj)) (s:Shared) (σ:St) (H:Hp) (v:V) (u:Value) (Q:St→Hp→Prop),Inv X pins σ H s→RelV v u→t v σ H Q→
    wpAny (model X.prog X.w) X.A (assign target X.env u) (fun _ s'=>∃σ' H',Inv X pins σ' H' s'∧Q σ' H') X.xe s
def PGs (X:Cx) (ts:List Expr) (t:TGs):Prop:=
  ∀(pins:List (Addr×Obj)) (s:Shared) (σ:St) (H:Hp) (vs:List V) (us:List Value) (Q:St→Hp→Prop),Inv X pins σ H s→Vals vs us→t vs σ H Q→
    wpAny (model X.prog X.w) X.A (assignInOrder ((assignEach ts X.env).map (·.2)) us) (fun _ s'=>∃σ' H',Inv X pins σ' H' s'∧Q σ' H') X.xe s
abbrev Ztc:=V→V→V→Hp→(Hp→Prop)→Prop
def ZuX (X:Cx) (t:Ztc):Prop:=
  ∀(pins:List (Addr×Obj)) (s:Shared) (σ:St) (H:Hp) (o i v:V) (ov iv u:Value) (Q:Hp→Prop),Inv X pins σ H s→RelV o ov→RelV i iv→RelV v u→t o i v H Q→
    wpAny (model X.prog X.w) X.A (setItem ov iv u) (fun _ s'=>∃H',Inv X pins σ H' s'∧Q H') X.xe s
section
variable {X:Cx} {pos:Pos}
def Zks (i:Nat):TG:=fun v σ H Q=>Q (σ.set i (some v)) H
theorem Zfi {i:Nat} {x:Str} (hN:X.N.Nodup) (hi:X.N[i]?=some x) (hx:Loc X.env.scope x) (hf:X.fn x=true∨X.env.scope.names.lookup x=some .local:=by first | exact .inl rfl | exact .inr rfl | assumption):PG X (.Name x pos) (Zks i):=by
  intro pins s σ H v u Q I r h
  exact wpAny_assign_Name (ZjV I hN hi hx r (fun s' I'=>⟨_,H,I',h⟩) hf)
def ZxV:TGs:=fun vs σ H Q=>vs=[]∧Q σ H
def ZuJ (t:TG) (u:TGs):TGs:=fun vs σ H Q=>∃v r,vs=v::r∧t v σ H fun σ' H'=>u r σ' H' Q
theorem Zqj:PGs X [] ZxV:=by
  intro pins s σ H vs us Q I r h
  obtain ⟨e,h⟩:=h
  subst e
  cases r
  exact assignInOrder_nil ⟨σ,H,I,h⟩
theorem Zj3 {e:Expr} {es:List Expr} {t:TG} {u:TGs} (h1:PG X e t) (h2:PGs X es u)
    (hs:(assignEach (e::es) X.env).map (·.2)=assign e X.env::(assignEach es X.env).map (·.2):=by rfl):PGs X (e::es) (ZuJ t u):=by
  intro pins s σ H vs us Q I r h
  obtain ⟨v,vr,e1,h⟩:=h
  subst e1
  cases r with
  | cons r rr=>
    rw [hs]
    refine assignInOrder_cons (thn (h1 pins s σ H _ _ _ I r h) fun _ s1 ⟨σ1,H1,I1,q1⟩=>?_)
    exact h2 pins s1 σ1 H1 _ _ Q I1 rr q1
def ZxU (K:PySem.W.Frag) (n:Nat) (t:TGs):TG:=fun v σ H Q=>∃a xs,v=.ref a∧SqT K H a xs∧xs.length=n∧t xs σ H Q
theorem Zsx {es:List Expr} {k:Nat} {t:TGs} {n:Nat} (hc:X.calm=true) (h:PGs X es t)
    (hn:(assignEach es X.env).length=n:=by rfl) (hst:(assignEach es X.env).findIdx? (·.1)=none:=by rfl):PG X (.Tuple es k pos) (ZxU X.K n t):=by
  intro pins s σ H v u Q I r hw
  obtain ⟨a,xs,e1,hq,hl,hw⟩:=hw
  subst e1
  cases r
  obtain ⟨its,rv,ht,hz⟩:=I.tuple hq
  refine assign_Tuple_tuple (I.ok.hd hc) ht (by simp [hn,←hl,rv.length]) hst fun h' hx=>?_
  have I1:Inv X pins σ H { s with heap:=h' }:=I.kept (t':=s.toks) fun b o e=>hx b o (Nat.ne_of_lt (Heap.lt_size e)) e
  exact h pins _ σ H xs _ Q I1 (by simpa using rv) hw
def ZuI (to ti:TE) (t:Ztc):TG:=fun v σ H Q=>to σ H fun o H1=>ti σ H1 fun i H2=>t o i v H2 fun H3=>Q σ H3
theorem Zsy {o i:Expr} {to ti:TE} {t:Ztc} (ho:PE X o to) (hi:PE X i ti) (hs:ZuX X t)
    (ha:∀v,assign (.Subscript o i pos) X.env v=(do
      let ov ←holding [v] (eval o X.env)
      let iv ←holding [v,ov] (eval i X.env)
      standAt pos
      holding [v,ov,iv] (setItem ov iv v)
      release [v,ov,iv] []):=by intro _; rfl):PG X (.Subscript o i pos) (ZuI to ti t):=by
  intro pins s σ H v u Q I r h
  rw [ha]
  refine wpAny_bind (wpAny_holding (thn (ho pins s σ H _ I h) fun ov s1 ⟨x,H1,I1,r1,q1⟩=>?_))
  refine wpAny_bind (wpAny_holding (thn (hi pins s1 σ H1 _ I1 q1) fun iv s2 ⟨y,H2,I2,r2,q2⟩=>?_))
  refine wpAny_bind (wpAny_standAt (wpAny_bind (wpAny_holding (thn (hs pins s2 σ H2 x y v ov iv u _ I2 r1 r2 r q2) fun _ s3 ⟨H3,I3,q3⟩=>?_))))
  exact wpAny_release ⟨σ,H3,I3,q3⟩
def Zp1 (te:TE) (g:TG):TS:=fun D σ H=>te σ H fun x H1=>g x σ H1 D.nx
theorem Zss {tg e:Expr} {te:TE} {g:TG} (he:PE X e te) (hg:PG X tg g) (hs:swapsWithSole [tg] e pos.line X.env=pure false:=by rfl) (hw:swappedStores [tg] e X.env=pure none:=by rfl)
    (h1:(assignEach [tg] X.env).map (·.2)=[assign tg X.env]:=by rfl):PS X (.Assign [tg] e pos) (Zp1 te g):=by
  intro pins s σ H D I h
  refine wpAny_Assign_stores (thn (he pins s σ H _ I h) fun v s1 ⟨x,H1,I1,r1,q1⟩=>?_) hs hw
  rw [h1]
  exact thn (hg pins s1 σ H1 x v _ I1 r1 q1) fun _ s2 q=>q
theorem Zol {i:Nat} {x:Str} {e:Expr} {te:TE} {pos':Pos} (hN:X.N.Nodup) (hi:X.N[i]?=some x) (hx:Loc X.env.scope x) (he:PE X e te) (hs:swapsWith e (some (.Name x pos')) pos.line X.env=pure false:=by rfl) (hf:X.fn x=true∨X.env.scope.names.lookup x=some .local:=by first | exact .inl rfl | exact .inr rfl | assumption) :
    PS X (.Assign [.Name x pos'] e pos) (Zp1 te (Zks i)):=by
  intro pins s σ H D I h
  refine wpAny_Assign_Name (thn (he pins s σ H _ I h) fun v s1 ⟨y,H1,I1,r1,q1⟩=>?_) hs
  exact ZjV I1 hN hi hx r1 (fun s2 I2=>⟨_,H1,I2,q1⟩) hf
end
section
variable {X:Cx} {pos:Pos}
def Zr7 (c:TT) (tb:TS):TS:=fun D σ H=>∃W:Nat→St→Hp→Prop,(∃m,W m σ H)∧∀m σ H,W m σ H→
  c σ H fun b H1=>if b=true then ∃N:St→Hp→Prop,(∀σ' H',N σ' H'→∃m',m'<m∧W m' σ' H')∧tb { D with nx:=N,ct:=N,bk:=D.nx } σ H1 else D.nx σ H1
theorem Zok {c:Expr} {body:List Stmt} {tc:TT} {tb:TS} (hp:PassesOwn (model X.prog X.w) X.A X.env X.xe) (hc:PT X c tc) (hb:PSs X body tb):PS X (.While c body [] pos) (Zr7 tc tb):=by
  intro pins s σ H D I h
  obtain ⟨W,⟨m0,w0⟩,turn⟩:=h
  refine wpAny_While (codeAny_whileLoop (fun n s'=>∃σ' H',Inv X pins σ' H' s'∧W n σ' H') ?_ m0 ⟨σ,H,I,w0⟩)
  rintro n s1 ⟨σ1,H1,I1,w1⟩
  refine wpAny_passesOwn hp (thn (hc pins s1 σ1 H1 _ I1 (turn n σ1 H1 w1)) fun b s2 ⟨H2,I2,q2⟩=>?_)
  cases b with
  | true=>
    obtain ⟨N,hN,q2⟩:=q2
    rw [if_pos rfl]
    refine wpAny_passesOwn hp (thn (hb pins s2 σ1 H2 _ I2 q2) fun f s3 q3=>?_)
    cases f with
    | next=>
      obtain ⟨σ3,H3,I3,n3⟩:=q3
      obtain ⟨m',hm,w3⟩:=hN σ3 H3 n3
      exact ⟨m',hm,σ3,H3,I3,w3⟩
    | cont=>
      obtain ⟨σ3,H3,I3,n3⟩:=q3
      obtain ⟨m',hm,w3⟩:=hN σ3 H3 n3
      exact ⟨m',hm,σ3,H3,I3,w3⟩
    | brk=>exact q3
    | ret v=>exact q3
  | false=>
    rw [if_neg Bool.false_ne_true]
    exact wpAny_execs_nil ⟨σ1,H2,I2,q2⟩
end
structure It where
  go:Nat→Hp→Prop
  yld:Nat→Hp→V→Hp→Prop
  stop:Nat→Hp→Prop
def Zhr (X:Cx) (pins:List (Addr×Obj)) (H:Hp) (b:Addr):Prop:=
  H b=none∧b≠X.env.locals∧b∉X.fs∧(b∈X.ex∨X.s₀.heap.objs.size≤b)∧(∀x c,X.env.cells.lookup x=some c→c≠b)∧∀p∈X.pn++pins,p.1≠b
theorem Inv.fpOk {X:Cx} {pins:List (Addr×Obj)} {σ:St} {H H':Hp} {s:Shared} {b:Addr} (I:Inv X pins σ H s) (hb:s.heap.objs.size≤b) (hn:H' b=none):Zhr X pins H' b:=by
  refine ⟨hn,Nat.ne_of_gt (Nat.lt_of_lt_of_le I.lt hb),I.nofs hb,.inr (Nat.le_trans I.sz hb),fun x c e z=>?_,fun p hp z=>?_⟩
  · obtain ⟨v,q⟩:=I.cell x c e
    exact absurd (Nat.lt_of_lt_of_le q.lt (by rw [z]; exact hb)) (Nat.lt_irrefl _)
  · exact absurd (Nat.lt_of_lt_of_le (Heap.lt_size (I.pin p hp).1) (by rw [z]; exact hb)) (Nat.lt_irrefl _)
structure ZmG (P:Program) (w:World) (K:PySem.W.Frag) (tg:Expr) (J:It) (fp:List Addr) (it:Addr) (tn:Nat→Heap→Prop):Prop where
  mem:it∈fp
  obj:∀i h,tn i h→∀b∈fp,∃o,h.get? b=some o∧∀v,o.data≠.cell v
  keep:∀i h h',tn i h→(∀b∈fp,∀o,h.get? b=some o→h'.get? b=some o)→tn i h'
  item:∀(X:Cx),X.prog=P→X.w=w→X.K=K→X.calm=true→∀(i:Nat) (pins:List (Addr×Obj)) (s:Shared) (σ:St) (H:Hp) (E:Value→Shared→Prop),Inv X pins σ H s→(∀b∈fp,Zhr X pins H b)→tn i s.heap→J.go i H→
    wpAny (model P w) X.A (pyNext (.ref it)) (fun r s1=>∃u,r=some u∧
      wpAny (model P w) X.A (letOwnedTupleGo tg (.ref it) u) (fun _ s2=>∃x H',Inv X pins σ H' s2∧RelV x u∧J.yld i H x H'∧tn (i+1) s2.heap∧∀b∈fp,H' b=none) E s1) E s
  done:∀(X:Cx),X.prog=P→X.w=w→X.K=K→X.calm=true→∀(i:Nat) (pins:List (Addr×Obj)) (s:Shared) (σ:St) (H:Hp) (E:Value→Shared→Prop),Inv X pins σ H s→(∀b∈fp,Zhr X pins H b)→tn i s.heap→J.stop i H→
    wpAny (model P w) X.A (pyNext (.ref it)) (fun r s1=>r=none∧Inv X pins σ H s1) E s
  self:∀(A:Around) (i:Nat) (s:Shared) (Q:Value→Shared→Prop) (E:Value→Shared→Prop),tn i s.heap→Q (.ref it) s→wpAny (model P w) A (pyIter (.ref it)) Q E s
abbrev TI:=St→Hp→(It→Hp→Prop)→Prop
def PIE (X:Cx) (pins:List (Addr×Obj)) (σ:St) (tg:Expr) (R:It→Hp→Prop) (itv:Value) (s2:Shared):Prop:=
  ∃(it:Addr) (fp:List Addr) (tn:Nat→Heap→Prop) (J:It) (H':Hp),itv=.ref it∧Inv X pins σ H' s2∧ZmG X.prog X.w X.K tg J fp it tn∧tn 0 s2.heap∧(∀b∈fp,Zhr X pins H' b)∧R J H'
def PI (X:Cx) (tg iter:Expr) (wi:TI):Prop:=
  ∀(pins:List (Addr×Obj)) (s:Shared) (σ:St) (H:Hp) (R:It→Hp→Prop),Inv X pins σ H s→wi σ H R→
    wpAny (model X.prog X.w) X.A (eval iter X.env) (fun v s1=>wpAny (model X.prog X.w) X.A (pyIter v) (PIE X pins σ tg R) X.xe s1) X.xe s
theorem Zo7 {M:Model} {A:Around} {E:Value→Shared→Prop} {s:Shared} {tg:Expr} {it:Addr} {u:Value} {o:Obj} {n:String} {vs:Array Value} {Q:Unit→Shared→Prop} (ho:s.heap.get? it=some o) (hc:o.cls=.type n) (hd:o.data=.fields vs)
    (hn:["enumerate","zip","dict_itemiterator","dict_reverseitemiterator","odict_iterator","itertools.zip_longest","itertools.pairwise"].contains n=false) (hQ:Q () s):wpAny M A (letOwnedTupleGo tg (.ref it) u) Q E s:=by
  unfold letOwnedTupleGo
  cases tg<;>first
    | exact wpAny_pure hQ
    | (cases u<;>first
        | exact wpAny_pure hQ
        | (refine wpAny_bind (wpAny_load ho ?_)
           rw [hc,hd]
           show wpAny M A (if (["enumerate","zip","dict_itemiterator","dict_reverseitemiterator","odict_iterator","itertools.zip_longest","itertools.pairwise"].contains n && vs[0]? == some (rawInt _))=true then _ else _) Q E s
           rw [if_neg (by intro h; rw [hn,Bool.false_and] at h; cases h)]
           exact wpAny_pure hQ))
def Itl (K:PySem.W.Frag) (a:Addr):It:=
  ⟨fun i H=>∃xs x,SqL K H a xs∧xs[i]?=some x,fun i H x H'=>H'=H∧∀xs,SqL K H a xs→xs[i]?=some x,fun i H=>∃xs,SqL K H a xs∧xs.length≤i⟩
def Itt (K:PySem.W.Frag) (a:Addr):It:=
  ⟨fun i H=>∃xs x,SqT K H a xs∧xs[i]?=some x,fun i H x H'=>H'=H∧∀xs,SqT K H a xs→xs[i]?=some x,fun i H=>∃xs,SqT K H a xs∧xs.length≤i⟩
def Itr (lo:Int) (n:Nat):It:=⟨fun i _=>i<n,fun i H x H'=>H'=H∧x=.int (lo+i),fun i _=>n≤i⟩
theorem Zl6 {P:Program} {w:World} {K:PySem.W.Frag} {tg:Expr} (a it:Addr):ZmG P w K tg (Itl K a) [it] it (fun i h=>h.IsListIter it a i) where
  mem:=by simp
  obj:=fun i h st b hb=>by
    have e:b=it:=by simpa using hb
    subst e
    obtain ⟨o,e,c,d⟩:=st
    exact ⟨o,e,fun v z=>by rw [d] at z; cases z⟩
  keep:=fun i h h' st k=>st.at fun o e=>k it (by simp) o e
  item:=by
    intro X hP hw hK hc i pins s σ H E I hf st hg
    subst hP hw hK
    obtain ⟨xs,x,hq,hx⟩:=hg
    obtain ⟨its,rv,p,hz⟩:=I.list hq
    obtain ⟨u,hu,ru⟩:=rv.get hx
    obtain ⟨f0,f1,f2,f3,f4,f5⟩:=hf it (by simp)
    refine wpAny_pyNext_list_item st p.isList (x:=u) (by simpa using hu) fun h' st' sb=>?_
    have I1:Inv X pins σ H { s with heap:=h' }:=I.turned (t':=s.toks) (fun b o hb e=>(sb.2 b hb).trans e) f0 f1 f3 f4 f5
    obtain ⟨o,e,c,d⟩:=id st'
    exact ⟨u,rfl,Zo7 (s:={ s with heap:=h' }) e c d (by decide) ⟨x,H,I1,ru,⟨rfl,fun ys hy=>by rw [I.list_inj hy hq]; exact hx⟩,st',fun b hb=>(hf b hb).1⟩⟩
  done:=by
    intro X hP hw hK hc i pins s σ H E I hf st hg
    subst hP hw hK
    obtain ⟨xs,hq,hx⟩:=hg
    obtain ⟨its,rv,p,hz⟩:=I.list hq
    obtain ⟨f0,f1,f2,f3,f4,f5⟩:=hf it (by simp)
    have hl:=rv.length
    exact wpAny_pyNext_list_end (I.ok.hd hc) st p.isList (by simp; omega) fun h' eb=>⟨rfl,I.turned (t':=s.toks) (fun b o hb e=>eb b o hb e) f0 f1 f3 f4 f5⟩
  self:=fun _ _ _ _ _ st h=>wpAny_pyIter_listiter st h
theorem ZkF {P:Program} {w:World} {K:PySem.W.Frag} {tg:Expr} (a it:Addr):ZmG P w K tg (Itt K a) [it] it (fun i h=>h.IsTupleIter it a i) where
  mem:=by simp
  obj:=fun i h st b hb=>by
    have e:b=it:=by simpa using hb
    subst e
    obtain ⟨o,e,c,d⟩:=st
    exact ⟨o,e,fun v z=>by rw [d] at z; cases z⟩
  keep:=fun i h h' st k=>st.at fun o e=>k it (by simp) o e
  item:=by
    intro X hP hw hK hc i pins s σ H E I hf st hg
    subst hP hw hK
    obtain ⟨xs,x,hq,hx⟩:=hg
    obtain ⟨its,rv,p,hz⟩:=I.tuple hq
    obtain ⟨u,hu,ru⟩:=rv.get hx
    obtain ⟨f0,f1,f2,f3,f4,f5⟩:=hf it (by simp)
    refine wpAny_pyNext_tuple_item st (show s.heap.IsTuple a its.toArray from p) (x:=u) (by simpa using hu) fun h' st' sb=>?_
    have I1:Inv X pins σ H { s with heap:=h' }:=I.turned (t':=s.toks) (fun b o hb e=>(sb.2 b hb).trans e) f0 f1 f3 f4 f5
    obtain ⟨o,e,c,d⟩:=id st'
    exact ⟨u,rfl,Zo7 (s:={ s with heap:=h' }) e c d (by decide) ⟨x,H,I1,ru,⟨rfl,fun ys hy=>by rw [I.tuple_inj hy hq]; exact hx⟩,st',fun b hb=>(hf b hb).1⟩⟩
  done:=by
    intro X hP hw hK hc i pins s σ H E I hf st hg
    subst hP hw hK
    obtain ⟨xs,hq,hx⟩:=hg
    obtain ⟨its,rv,p,hz⟩:=I.tuple hq
    obtain ⟨f0,f1,f2,f3,f4,f5⟩:=hf it (by simp)
    have hl:=rv.length
    exact wpAny_pyNext_tuple_end (I.ok.hd hc) st (show s.heap.IsTuple a its.toArray from p) (by simp; omega) fun h' eb=>⟨rfl,I.turned (t':=s.toks) (fun b o hb e=>eb b o hb e) f0 f1 f3 f4 f5⟩
  self:=fun _ _ _ _ _ st h=>wpAny_pyIter_tupleiter st h
theorem ZkG {P:Program} {w:World} {K:PySem.W.Frag} {tg:Expr} (it:Addr) (lo:Int) (n:Nat):ZmG P w K tg (Itr lo n) [it] it (fun i h=>IsRangeIter h it (lo+(i:Nat)*1) ((n:Int)-(i:Nat)) 1) where
  mem:=by simp
  obj:=fun i h st b hb=>by
    have e:b=it:=by simpa using hb
    subst e
    exact ⟨_,st,fun v z=>by
      have z':Data.fields _=Data.cell v:=z
      cases z'⟩
  keep:=fun i h h' st k=>k it (by simp) _ st
  item:=by
    intro X hP hw hK hc i pins s σ H E I hf st hg
    subst hP hw hK
    obtain ⟨f0,f1,f2,f3,f4,f5⟩:=hf it (by simp)
    have W:=Walks.range (prog:=X.prog) (w:=X.w) (I.ok.hd hc) it lo 1 n
    refine W.item i s _ _ hg st fun v h' tk hv st' kk=>?_
    obtain ⟨t,rfl⟩:=hv
    have I1:Inv X pins σ H { s with heap:=h',toks:=tk }:=I.turned (fun b o hb e=>kk b o (by simpa using hb) e) f0 f1 f3 f4 f5
    refine ⟨_,rfl,Zo7 (s:={ s with heap:=h',toks:=tk }) (n:="range_iterator") st' rfl rfl (by decide) ⟨.int (lo+i),H,I1,⟨t,?_⟩,⟨rfl,rfl⟩,st',fun b hb=>(hf b hb).1⟩⟩
    rw [Int.mul_one]
  done:=by
    intro X hP hw hK hc i pins s σ H E I hf st hg
    subst hP hw hK
    obtain ⟨f0,f1,f2,f3,f4,f5⟩:=hf it (by simp)
    exact wpAny_pyNext_range_end (I.ok.hd hc) st (by have:n≤i:=hg; omega) fun h' eb=>⟨rfl,I.turned (t':=s.toks) (fun b o hb e=>eb b o hb e) f0 f1 f3 f4 f5⟩
  self:=fun _ _ _ _ _ st h=>wpAny_pyIter_rangeiter st h
end L2
namespace L2
open PySem PySem.Spec PyProof.Rows
section
variable {X:Cx} {tg:Expr}
theorem Zof {pins:List (Addr×Obj)} {σ:St} {H:Hp} {s:Shared} {R:It→Hp→Prop} {E:Value→Shared→Prop} {lo hi:Int} {t u v:Tok} {tk:Nat} (I:Inv X pins σ H s) (h1 : -(2 ^ 62)≤lo) (h2:lo<2 ^ 62) (h3 : -(2 ^ 62)≤hi) (h4:hi<2 ^ 62)
    (q:R (Itr lo (hi-lo).toNat) H):wpAny (model X.prog X.w) X.A (pyIter (.ref s.heap.objs.size)) (PIE X pins σ tg R) E { s with heap:=s.heap.push { cls:=.type "range",data:=.fields #[.int lo t,.int hi u,.int 1 v] },toks:=tk }:=by
  refine wpAny_pyIter_range (IsRange.new ..) (small_one h1 h2 h3 h4) ?_
  have I1:Inv X pins σ H { s with heap:=s.heap.push { cls:=.type "range",data:=.fields #[.int lo t,.int hi u,.int 1 v] },toks:=tk }:=I.kept fun b o e=>Heap.get?_push_of_some _ e
  refine ⟨(s.heap.push { cls:=.type "range",data:=.fields #[.int lo t,.int hi u,.int 1 v] }).objs.size,[(s.heap.push { cls:=.type "range",data:=.fields #[.int lo t,.int hi u,.int 1 v] }).objs.size],_,_,H,rfl,
    I1.kept (t':=tk) fun b o e=>Heap.get?_push_of_some _ e,ZkG _ lo (hi-lo).toNat,?_,fun b hb=>?_,q⟩
  · have e1:lo+((0:Nat):Int)*1=lo:=by simp
    have e2:(((hi-lo).toNat:Nat):Int)-((0:Nat):Int)=Builtin.Range.rangeSize lo hi 1:=by rw [rangeSize_one]; split<;>omega
    show IsRangeIter _ _ (lo+((0:Nat):Int)*1) ((((hi-lo).toNat:Nat):Int)-((0:Nat):Int)) 1
    rw [e1,e2]
    exact Heap.get?_push_size _ rfl
  · have e:b=(s.heap.push { cls:=.type "range",data:=.fields #[.int lo t,.int hi u,.int 1 v] }).objs.size:=by simpa using hb
    subst e
    exact I1.fpOk (Nat.le_refl _) (I1.hok.fresh (Nat.le_refl _))
def ZuE (ta:TA):TI:=fun σ H R=>ta σ H fun vs H1=>∃j:Int,vs=[.int j]∧-(2 ^ 62)≤j∧j<2 ^ 62∧R (Itr 0 j.toNat) H1
theorem Zmg {a:Expr} {ta:TA} {p pos:Pos} (hg:Gl X "range") (hm:X.mg "range"=none) (ha:PA X [a] ta) (hs:starEach [a] X.env=[(false,eval a X.env)]:=by rfl):PI X tg (.Call (.Name "range" p) [a] [] pos) (ZuE ta):=by
  intro pins s σ H R I h
  refine Call_ (Zij I hg hm boot_range (PyProof.Rows.callWith_type1 (thn (ha pos pins s σ H _ I h) fun us s1 ⟨vs,H1,I1,r1,q1⟩=>?_) hs rfl))
  obtain ⟨j,e,q1,q2,q⟩:=q1
  subst e
  cases r1 with
  | cons r rr=>
    cases rr
    obtain ⟨t,rfl⟩:=r
    exact call_range_1 (Zof I1 (by omega) (by omega) q1 q2 (by simpa using q))
def Zxo (wi:TI) (g:TG) (tb:TS):TS:=fun D σ H=>wi σ H fun J H1=>∃W:Nat→Nat→St→Hp→Prop,(∃m,W 0 m σ H1)∧∀i m σ H,W i m σ H→
  (J.stop i H∧D.nx σ H)∨(J.go i H∧∃N:St→Hp→Prop,(∀σ' H',N σ' H'→∃m',m'<m∧W (i+1) m' σ' H')∧∀x H',J.yld i H x H'→g x σ H' fun σ2 H2=>tb { D with nx:=N,ct:=N,bk:=D.nx } σ2 H2)
def Zib (fp:List Addr) (h:Heap):List (Addr×Obj):=fp.filterMap fun b=>(h.get? b).map fun o=>(b,o)
theorem ZdI {fp:List Addr} {h:Heap} {b:Addr} {o:Obj} (hb:b∈fp) (e:h.get? b=some o):(b,o)∈Zib fp h:=List.mem_filterMap.mpr ⟨b,hb,by rw [e]; rfl⟩
theorem Zml {fp:List Addr} {h:Heap} {p:Addr×Obj} (hp:p∈Zib fp h):p.1∈fp∧h.get? p.1=some p.2:=by
  obtain ⟨b,hb,e⟩:=List.mem_filterMap.mp hp
  cases q:h.get? b with
  | none=>rw [q] at e; cases e
  | some o=>
    rw [q] at e
    have e':(b,o)=p:=Option.some.inj e
    subst e'
    exact ⟨hb,q⟩
theorem Inv.pinned {pins:List (Addr×Obj)} {σ:St} {H:Hp} {s:Shared} {fp:List Addr} (I:Inv X pins σ H s) (hf:∀b∈fp,Zhr X pins H b) (ho:∀b∈fp,∃o,s.heap.get? b=some o∧∀v,o.data≠.cell v):Inv X (pins++Zib fp s.heap) σ H s:=
  I.pins_of fun p hp=>(List.mem_append.mp hp).elim (fun z=>I.pin p (List.mem_append_right _ z)) fun z=>by
    obtain ⟨hb,e⟩:=Zml z
    obtain ⟨f0,f1,f2,_⟩:=hf p.1 hb
    obtain ⟨o,e',d⟩:=ho p.1 hb
    rw [e] at e'; cases e'
    exact ⟨e,f0,f1,f2,d⟩
theorem Inv.unpinned {pins pl:List (Addr×Obj)} {σ:St} {H:Hp} {s:Shared} (I:Inv X (pins++pl) σ H s):Inv X pins σ H s:=I.pins_of fun p hp=>I.pin p (List.mem_append_right _ (List.mem_append_left _ hp))
theorem Zom {iter:Expr} {body:List Stmt} {wi:TI} {g:TG} {tb:TS} {pos:Pos} (hp:PassesOwn (model X.prog X.w) X.A X.env X.xe) (hc:X.calm=true) (hi:PI X tg iter wi) (hg:PG X tg g) (hb:PSs X body tb)
    (hs:∀x,foldedSetIterable iter X.env x=pure x:=by intro _; rfl):PS X (.For tg iter body [] pos) (Zxo wi g tb):=by
  intro pins s σ H D I h
  refine wpAny_For (thn (hi pins s σ H _ I h) fun v s1 h1=>thn h1 fun itv s2 h2=>?_) hs
  obtain ⟨it,fp,tn,J,H2,e,I2,T,st2,f2,W,⟨m0,w0⟩,turn⟩:=h2
  subst e
  have stat:∀{H':Hp},(∀b∈fp,H' b=none)→∀b∈fp,Zhr X pins H' b:=fun hn b hb=>⟨hn b hb,(f2 b hb).2⟩
  refine codeAny_forLoop_any (fun n s'=>∃i σ' H',Inv X pins σ' H' s'∧tn i s'.heap∧(∀b∈fp,H' b=none)∧W i n σ' H') ?_ m0 ⟨0,σ,H2,I2,st2,fun b hb=>(f2 b hb).1,w0⟩
  rintro n s3 ⟨i,σ3,H3,I3,st3,fr3,w3⟩
  rcases turn i n σ3 H3 w3 with ⟨stop,qn⟩ | ⟨go,N,hN,step⟩
  · refine wpAny_passesOwn hp (thn (T.done X rfl rfl rfl hc i pins s3 σ3 H3 X.xe I3 (stat fr3) st3 stop) fun r s4 ⟨hr,I4⟩=>?_)
    subst hr
    exact wpAny_execs_nil ⟨σ3,H3,I4,qn⟩
  · refine wpAny_passesOwn hp (thn (T.item X rfl rfl rfl hc i pins s3 σ3 H3 X.xe I3 (stat fr3) st3 go) fun r s4 ⟨u,hr,h4⟩=>?_)
    subst hr
    refine wpAny_passesOwn hp (thn h4 fun _ s5 ⟨x,H5,I5,r5,y5,st5,fr5⟩=>?_)
    have I5':=I5.pinned (stat fr5) (T.obj _ _ st5)
    refine wpAny_passesOwn hp (thn (hg _ s5 σ3 H5 x u _ I5' r5 (step x H5 y5)) fun _ s6 ⟨σ6,H6,I6,q6⟩=>?_)
    refine wpAny_passesOwn hp (thn (hb _ s6 σ6 H6 _ I6 q6) fun f s7 q7=>?_)
    have again:∀{σ7:St} {H7:Hp},Inv X (pins++Zib fp s5.heap) σ7 H7 s7→N σ7 H7→∃m,m<n∧∃i σ' H',Inv X pins σ' H' s7∧tn i s7.heap∧(∀b∈fp,H' b=none)∧W i m σ' H':=fun {σ7 H7} I7 n7=>by
      obtain ⟨m',hm,w7⟩:=hN σ7 H7 n7
      refine ⟨m',hm,i+1,σ7,H7,I7.unpinned,T.keep _ _ _ st5 fun b hb o e=>(I7.pin (b,o) (List.mem_append_right _ (List.mem_append_right _ (ZdI hb e)))).1,fun b hb=>?_,w7⟩
      obtain ⟨o,e,d⟩:=T.obj _ _ st5 b hb
      exact (I7.pin (b,o) (List.mem_append_right _ (List.mem_append_right _ (ZdI hb e)))).2.1
    cases f with
    | next=>obtain ⟨σ7,H7,I7,n7⟩:=q7; exact again I7 n7
    | cont=>obtain ⟨σ7,H7,I7,n7⟩:=q7; exact again I7 n7
    | brk=>obtain ⟨σ7,H7,I7,q7⟩:=q7; exact ⟨σ7,H7,I7.unpinned,q7⟩
    | ret v=>obtain ⟨x7,σ7,H7,I7,r7,q7⟩:=q7; exact ⟨x7,σ7,H7,I7.unpinned,r7,q7⟩
end
end L2
namespace L2
open PySem PySem.Spec PyProof.Rows
abbrev R2:=V→V→Hp→VK→Prop
def OpR (X:Cx) (f:Value→Value→Sem Value) (r:R2):Prop:=
  ∀(pins:List (Addr×Obj)) (s:Shared) (σ:St) (H:Hp) (x y:V) (v u:Value) (Q:VK),Inv X pins σ H s→RelV x v→RelV y u→r x y H Q→
    wpAny (model X.prog X.w) X.A (f v u) (EP X pins σ Q) X.xe s
def CallR (X:Cx) (f:Value) (r:List V→Hp→VK→Prop):Prop:=
  ∀(pins:List (Addr×Obj)) (s:Shared) (σ:St) (H:Hp) (xs:List V) (us:List Value) (Q:VK),Inv X pins σ H s→Vals xs us→r xs H Q→
    wpAny (model X.prog X.w) X.A (call f us) (EP X pins σ Q) X.xe s
def Zx1 (X:Cx) (r:V→Hp→(Bool→Hp→Prop)→Prop):Prop:=
  ∀(pins:List (Addr×Obj)) (s:Shared) (σ:St) (H:Hp) (x:V) (v:Value) (Q:Bool→Hp→Prop),Inv X pins σ H s→RelV x v→r x H Q→
    wpAny (model X.prog X.w) X.A (truthy v) (TP X pins σ Q) X.xe s
def tOp (r:R2) (ta tb:TE):TE:=fun σ H Q=>ta σ H fun x H1=>tb σ H1 fun y H2=>r x y H2 Q
def rI (C:Int→Int→Prop) (g:Int→Int→V):R2:=fun x y H Q=>∃i j,x=.int i∧y=.int j∧C i j∧Q (g i j) H
def rI0 (g:Int→Int→V):R2:=fun x y H Q=>∃i j,x=.int i∧y=.int j∧Q (g i j) H
section
variable {X:Cx} {a b c:Expr} {ta tb tc:TE} {pos:Pos}
theorem Zs9 (ha:PE X a ta) (hb:PE X b tb) {pins:List (Addr×Obj)} {s:Shared} {σ:St} {H:Hp} {R:V→V→Hp→Prop} (I:Inv X pins σ H s)
    (h:ta σ H fun x H1=>tb σ H1 fun y H2=>R x y H2) {Q:Value→Shared→Prop} {f:Value→Value→Sem Value}
    (hf:∀v u s2 x y H2,Inv X pins σ H2 s2→RelV x v→RelV y u→R x y H2→wpAny (model X.prog X.w) X.A (f v u) Q X.xe s2) :
    wpAny (model X.prog X.w) X.A (eval a X.env) (fun v s₁=>wpAny (model X.prog X.w) X.A (eval b X.env) (fun u s₂=>wpAny (model X.prog X.w) X.A (f v u) Q X.xe s₂) X.xe s₁) X.xe s:=by
  refine thn (ha pins s σ H _ I h) fun v s1 ⟨x,H1,I1,r1,q1⟩=>?_
  refine thn (hb pins s1 σ H1 _ I1 q1) fun u s2 ⟨y,H2,I2,r2,q2⟩=>?_
  exact hf v u s2 x y H2 I2 r1 r2 q2
theorem Zuh {op:Operator} {r:R2} (ho:OpR X (binaryOp op) r) (ha:PE X a ta) (hb:PE X b tb):PE X (.BinOp a op b pos) (tOp r ta tb):=by
  intro pins s σ H Q I h
  exact wpAny_BinOp (Zs9 ha hb I h fun v u s2 x y H2 I2 rx ry q=>ho pins s2 σ H2 x y v u Q I2 rx ry q)
theorem opI {f:Value→Value→Sem Value} {C:Int→Int→Prop} {g:Int→Int→Int}
    (rule:∀(i j:Int) (t u:Tok) (s:Shared) (Q:Value→Shared→Prop) (E:Value→Shared→Prop),C i j→Q (.int (g i j) s.toks) { s with toks:=s.toks+1 }→wpAny (model X.prog X.w) X.A (f (.int i t) (.int j u)) Q E s) :
    OpR X f (rI C fun i j=>.int (g i j)):=by
  intro pins s σ H x y v u Q I rx ry h
  obtain ⟨i,j,rfl,rfl,hc,q⟩:=h
  obtain ⟨t,rfl⟩:=rx
  obtain ⟨t',rfl⟩:=ry
  exact rule i j t t' s _ _ hc ⟨.int (g i j),H,I.tok _,⟨_,rfl⟩,q⟩
theorem ZsP {f:Value→Value→Sem Value} {g:Int→Int→Int}
    (rule:∀(i j:Int) (t u:Tok) (s:Shared) (Q:Value→Shared→Prop) (E:Value→Shared→Prop),Q (.int (g i j) s.toks) { s with toks:=s.toks+1 }→wpAny (model X.prog X.w) X.A (f (.int i t) (.int j u)) Q E s) :
    OpR X f (rI0 fun i j=>.int (g i j)):=by
  intro pins s σ H x y v u Q I rx ry h
  obtain ⟨i,j,rfl,rfl,q⟩:=h
  obtain ⟨t,rfl⟩:=rx
  obtain ⟨t',rfl⟩:=ry
  exact rule i j t t' s _ _ ⟨.int (g i j),H,I.tok _,⟨_,rfl⟩,q⟩
theorem Zqp {f:Value→Value→Sem Value} {g:Int→Int→Bool}
    (rule:∀(i j:Int) (t u:Tok) (s:Shared) (Q:Value→Shared→Prop) (E:Value→Shared→Prop),Q (.bool (g i j)) s→wpAny (model X.prog X.w) X.A (f (.int i t) (.int j u)) Q E s) :
    OpR X f (rI0 fun i j=>.bl (g i j)):=by
  intro pins s σ H x y v u Q I rx ry h
  obtain ⟨i,j,rfl,rfl,q⟩:=h
  obtain ⟨t,rfl⟩:=rx
  obtain ⟨t',rfl⟩:=ry
  exact rule i j t t' s _ _ ⟨.bl (g i j),H,I,rfl,q⟩
def CMul (i j:Int):Prop:=(-(2 ^ 64)<i∧i<2 ^ 64)∨(-(2 ^ 64)<j∧j<2 ^ 64)
theorem CMul.ok {i j:Int} (h:CMul i j):IntMulOk i j:=by
  rcases h with ⟨h1,h2⟩ | ⟨h1,h2⟩
  · exact .of_left (intBits_le_64 h1 h2)
  · exact .of_right (intBits_le_64 h1 h2)
theorem op_add:OpR X (binaryOp .Add) (rI0 fun i j=>.int (i+j)):=ZsP fun _ _ _ _ _ _ _ q=>add_int q
theorem ZsH:OpR X (binaryOp .Sub) (rI0 fun i j=>.int (i-j)):=ZsP fun _ _ _ _ _ _ _ q=>sub_int q
theorem op_mul:OpR X (binaryOp .Mult) (rI CMul fun i j=>.int (i*j)):=opI fun _ _ _ _ _ _ _ hc q=>mul_int q hc.ok
theorem ZsK:OpR X (binaryOp .Mod) (rI (fun _ j=>0<j) fun i j=>.int (i % j)):=opI fun i j _ _ _ _ _ hc q=>by
  have h1:(0:Int)<j:=hc
  exact mod_int' (by omega) (by rw [Int.fmod_eq_emod_of_nonneg i (by omega)]; exact q)
theorem ZsO:OpR X (binaryOp .BitAnd) (rI0 fun i j=>.int (Builtin.bitAnd i j)):=ZsP fun _ _ _ _ _ _ _ q=>and_int q
end
section
variable {X:Cx} {a b c:Expr} {ta tb tc:TE} {pos:Pos}
theorem Zo9 {pins:List (Addr×Obj)} {σ:St} {H:Hp} {s:Shared} {Q:VK} {k k':Bool} (I:Inv X pins σ H s) (q:Q (.bl k) H) (e:k=k'):EP X pins σ Q (.bool k') s:=by
  subst e
  exact ⟨.bl k,H,I,rfl,q⟩
theorem Zun:OpR X (compareOp .Lt) (rI0 fun i j=>.bl (decide (i<j))):=Zqp fun _ _ _ _ _ _ _ q=>lt_int q
theorem Zuo:OpR X (compareOp .LtE) (rI0 fun i j=>.bl (decide (i≤j))):=Zqp fun _ _ _ _ _ _ _ q=>le_int q
theorem Zup:OpR X (compareOp .Gt) (rI0 fun i j=>.bl (decide (j<i))):=Zqp fun _ _ _ _ _ _ _ q=>gt_int q
theorem Zuq:OpR X (compareOp .GtE) (rI0 fun i j=>.bl (decide (j≤i))):=Zqp fun _ _ _ _ _ _ _ q=>ge_int q
theorem op_isN:OpR X (compareOp .Is) (fun x y H Q=>y=.non∧Q (.bl (decide (x=.non))) H):=by
  intro pins s σ H x y v u Q I rx ry h
  obtain ⟨rfl,q⟩:=h
  cases ry
  refine is_none_gen (Zo9 I q ?_)
  cases x<;>first
    | (cases rx; rfl)
    | (obtain ⟨t,rfl⟩:=rx; rfl)
theorem op_notN:OpR X (compareOp .IsNot) (fun x y H Q=>y=.non∧Q (.bl (!decide (x=.non))) H):=by
  intro pins s σ H x y v u Q I rx ry h
  obtain ⟨rfl,q⟩:=h
  cases ry
  refine isnot_none_gen (Zo9 I q ?_)
  cases x<;>first
    | (cases rx; rfl)
    | (obtain ⟨t,rfl⟩:=rx; rfl)
theorem OpR.or {f:Value→Value→Sem Value} {r r':R2} (h:OpR X f r) (h':OpR X f r'):OpR X f (fun x y H Q=>r x y H Q∨r' x y H Q):=by
  intro pins s σ H x y v u Q I rx ry q
  rcases q with q | q
  · exact h pins s σ H x y v u Q I rx ry q
  · exact h' pins s σ H x y v u Q I rx ry q
theorem ZoG (b:Expr) {op:CmpOp} (h:op≠.In:=by decide) (h2:op≠.NotIn:=by decide):behindInMarks op b=false:=by
  have e1:(op == CmpOp.In)=false:=by cases op<;>first | rfl | exact absurd rfl h
  have e2:(op == CmpOp.NotIn)=false:=by cases op<;>first | rfl | exact absurd rfl h2
  cases b<;>simp [behindInMarks,e1,e2]
theorem Zqm {op:CmpOp} {r:R2} (ho:OpR X (compareOp op) r) (ha:PE X a ta) (hb:PE X b tb) (hm:behindInMarks op b=false):PE X (.Compare a [op] [b] pos) (tOp r ta tb):=by
  intro pins s σ H Q I h
  exact wpAny_Compare1 (Zs9 ha hb I h fun v u s2 x y H2 I2 rx ry q=>ho pins s2 σ H2 x y v u Q I2 rx ry q) hm
def ZtT (t:TE):TT:=fun σ H Q=>t σ H fun x H'=>∃k,x=.bl k∧Q k H'
theorem Zqd {op:CmpOp} {r:R2} (ho:OpR X (compareOp op) r) (ha:PE X a ta) (hb:PE X b tb) (hm:behindInMarks op b=false):PT X (.Compare a [op] [b] pos) (ZtT (tOp r ta tb)):=by
  intro pins s σ H Q I h
  refine wpAny_isTrue_Compare1 (thn (ha pins s σ H _ I h) fun v s1 ⟨x,H1,I1,r1,q1⟩=>thn (hb pins s1 σ H1 _ I1 q1) fun u s2 ⟨y,H2,I2,r2,q2⟩=>
    thn (ho pins s2 σ H2 x y v u _ I2 r1 r2 q2) fun c s3 ⟨z,H3,I3,r3,k,e,q3⟩=>?_) hm
  subst e
  cases r3
  exact wpAny_truthy_bool ⟨H3,I3,q3⟩
def Zn7 (r r':R2) (ta tb tc:TE):TE:=fun σ H Q=>ta σ H fun x H1=>tb σ H1 fun y H2=>r x y H2 fun z H3=>∃k,z=.bl k∧
  (if k=true then tc σ H3 fun w' H4=>r' y w' H4 Q else Q (.bl false) H3)
theorem Zov {op op':CmpOp} {r r':R2} (ho:OpR X (compareOp op) r) (ho':OpR X (compareOp op') r') (ha:PE X a ta) (hb:PE X b tb) (hc:PE X c tc)
    (hm:lastMarks [op,op'] [b,c]=false:=by with_unfolding_all rfl):PE X (.Compare a [op,op'] [b,c] pos) (Zn7 r r' ta tb tc):=by
  intro pins s σ H Q I h
  refine Compare_chain (thn (ha pins s σ H _ I h) fun v s1 ⟨x,H1,I1,r1,q1⟩=>chain_link (thn (hb pins s1 σ H1 _ I1 q1) fun u s2 ⟨y,H2,I2,r2,q2⟩=>
    thn (ho pins s2 σ H2 x y v u _ I2 r1 r2 q2) fun d s3 ⟨z,H3,I3,r3,k,e,q3⟩=>?_)) hm
  subst e
  cases r3
  refine wpAny_truthy_bool ?_
  cases k with
  | false=>exact ite_ff ⟨.bl false,H3,I3,rfl,q3⟩
  | true=>exact ite_tt (chain_last (thn (hc pins s3 σ H3 _ I3 q3) fun w' s4 ⟨z',H4,I4,r4,q4⟩=>ho' pins s4 σ H4 y z' u w' Q I4 r2 r4 q4))
def TruV (K:PySem.W.Frag) (x:V) (H:Hp) (k:Bool):Prop:=
  match x with
  | .non=>k=false
  | .bl b=>k=b
  | .int i=>k=(i != 0)
  | .str y=>y.length≤sizeLine∧k=((y.length:Int) != 0)
  | .byt y=>y.size≤sizeLine∧k=((y.size:Int) != 0)
  | .ref p=>(∃xs,SqL K H p xs∧k=!xs.isEmpty)∨(∃xs,SqT K H p xs∧k=!xs.isEmpty)∨∃kvs,H p=some (.dK kvs)∧k=!kvs.isEmpty
  | _=>False
theorem Zk0 {κ:Type} {kvs:List (κ×V)} {vs:List (κ×Value)} (r:KV kvs vs):(!vs.isEmpty)=!kvs.isEmpty:=by
  cases r<;>rfl
theorem ZgY {xs:List V} {its:List Value} (r:Vals xs its):(!its.toArray.isEmpty)=!xs.isEmpty:=by
  cases r<;>simp
theorem Ze3:(sizeLine:Nat)<2 ^ 63:=by rw [sizeLine_eq]; decide
theorem ZnX:Zx1 X (fun x H Q=>∃k,TruV X.K x H k∧Q k H):=by
  intro pins s σ H x v Q I rx h
  obtain ⟨k,e,q⟩:=h
  have hl:=Ze3
  have hs:sizeLine=16777216:=sizeLine_eq
  cases x with
  | non=>
    cases rx
    have e':k=false:=e
    subst e'
    exact truthy_none ⟨H,I,q⟩
  | bl b=>
    cases rx
    have e':k=b:=e
    subst e'
    exact wpAny_truthy_bool ⟨H,I,q⟩
  | int i=>
    obtain ⟨t,rfl⟩:=rx
    have e':k=(i != 0):=e
    subst e'
    exact PySem.P.truthy_int ⟨H,I,q⟩
  | str y=>
    obtain ⟨t,rfl⟩:=rx
    obtain ⟨hy,e'⟩:y.length≤sizeLine∧k=((y.length:Int) != 0):=e
    subst e'
    exact PySem.P.truthy_str (by omega) ⟨H,I.tok _,q⟩
  | byt y=>
    obtain ⟨t,rfl⟩:=rx
    obtain ⟨hy,e'⟩:y.size≤sizeLine∧k=((y.size:Int) != 0):=e
    subst e'
    exact PySem.W.truthy_bytes (by omega) ⟨H,I.tok _,q⟩
  | ref p=>
    cases rx
    have e':(∃xs,SqL X.K H p xs∧k=!xs.isEmpty)∨(∃xs,SqT X.K H p xs∧k=!xs.isEmpty)∨∃kvs,H p=some (.dK kvs)∧k=!kvs.isEmpty:=e
    rcases e' with ⟨xs,hx,e'⟩ | ⟨xs,hx,e'⟩ | ⟨kvs,hx,e'⟩
    · subst e'
      obtain ⟨its,r,pl,hz⟩:=I.list hx
      have hlen:=r.length
      exact wpAny_truthy_list pl.isList (by simp only [List.size_toArray]; omega) ⟨H,I.tok _,by rw [ZgY r]; exact q⟩
    · subst e'
      obtain ⟨its,r,pl,hz⟩:=I.tuple hx
      have hlen:=r.length
      exact truthy_tuple pl (by simp only [List.size_toArray]; omega) ⟨H,I.tok _,by rw [ZgY r]; exact q⟩
    · subst e'
      obtain ⟨hz,hS,vs,r,m⟩:kvs.length≤sizeLine∧(p == sysModules)=false∧∃vs,KV kvs vs∧s.heap.DictOf (Zax X.prog X.w) p vs:=I.hok p _ hx
      have hlen:kvs.length=vs.length:=Paired.length r
      exact wpAny_truthy_dict hS m (by omega) ⟨H,I.tok _,by rw [Zk0 r]; exact q⟩
  | _=>exact (show False from e).elim
theorem Zoi (ha:PE X a ta) (he:∀whole,isTrue a X.env whole=(do let v ←whole; standAt a.pos; holding [v] (truthy v))) :
    PT X a (fun σ H Q=>ta σ H fun x H'=>∃k,TruV X.K x H' k∧Q k H'):=by
  intro pins s σ H Q I h
  exact isTrue_plain (thn (ha pins s σ H _ I h) fun v s1 ⟨x,H1,I1,r1,q1⟩=>ZnX pins s1 σ H1 x v Q I1 r1 q1) (he _)
theorem op_add_str:OpR X (binaryOp .Add) (fun x y H Q=>∃i j,x=.str i∧y=.str j∧i.length+j.length≤sizeLine∧Q (.str (i++j)) H):=by
  intro pins s σ H x y v u Q I rx ry h
  obtain ⟨i,j,rfl,rfl,hz,q⟩:=h
  obtain ⟨t,rfl⟩:=rx
  obtain ⟨t',rfl⟩:=ry
  exact add_str (fun t' tk=>⟨.str (i++j),H,I.tok _,⟨_,rfl⟩,q⟩) hz
theorem Zhu {x:V} {us:List Value} (r:Vals [x] us):∃u,us=[u]∧RelV x u:=by
  cases r with
  | cons r1 r2=>cases r2; exact ⟨_,rfl,r1⟩
theorem ZnV {x y:V} {us:List Value} (r:Vals [x,y] us):∃u w',us=[u,w']∧RelV x u∧RelV y w':=by
  cases r with
  | cons r1 r2=>
    cases r2 with
    | cons r3 r4=>cases r4; exact ⟨_,_,rfl,r1,r3⟩
theorem ZmF (hc:X.calm=true):CallR X (.builtin "max") (fun xs H Q=>∃i j,xs=[.int i,.int j]∧Q (.int (if j > i then j else i)) H):=by
  intro pins s σ H xs us Q I r h
  obtain ⟨i,j,rfl,q⟩:=h
  obtain ⟨u,w',rfl,⟨t,rfl⟩,⟨t',rfl⟩⟩:=ZnV r
  refine max_two_ints (I.ok.hd hc) fun h' tk k=>⟨_,H,I.kept k,?_,q⟩
  by_cases hj:j > i
  · rw [if_pos hj,if_pos hj]; exact ⟨_,rfl⟩
  · rw [if_neg hj,if_neg hj]; exact ⟨_,rfl⟩
theorem ZmE (hc:X.calm=true):CallR X (.builtin "min") (fun xs H Q=>∃i j,xs=[.int i,.int j]∧Q (.int (if j<i then j else i)) H):=by
  intro pins s σ H xs us Q I r h
  obtain ⟨i,j,rfl,q⟩:=h
  obtain ⟨u,w',rfl,⟨t,rfl⟩,⟨t',rfl⟩⟩:=ZnV r
  refine min_two_ints (I.ok.hd hc) fun h' tk k=>⟨_,H,I.kept k,?_,q⟩
  by_cases hj:j<i
  · rw [if_pos hj,if_pos hj]; exact ⟨_,rfl⟩
  · rw [if_neg hj,if_neg hj]; exact ⟨_,rfl⟩
end
end L2
namespace L2
open PySem PySem.Spec PyProof.Rows
structure ObjM (h:Heap) (x dx C:Addr) (mA:Str→Option Value):Prop where
  obj:h.get? x=some (PySem.W.instObj C dx)
  ns:h.Ns1 dx mA
  ne:dx≠x
theorem Zms {h:Heap} {dx:Addr} {mA:Str→Option Value} (n:h.Ns1 dx mA):∃od,h.get? dx=some od∧∀name,PySem.W.lookIn name od=some (mA name):=by
  obtain ⟨o,es,ep,ho,hd,hk,_,hm⟩:=n
  refine ⟨o,ho,fun name=>?_⟩
  have e:=hm name
  unfold nsFind findBy at e
  rw [←Array.find?_toList] at e
  unfold PySem.W.lookIn
  rw [hd]
  dsimp only
  split
  · rename_i y q
    rw [q] at e
    exact congrArg some e
  · rename_i q
    rw [q] at e
    have a:es.toList.any (·.refKey)=false:=by
      rw [List.any_eq_false]
      intro y hy
      obtain ⟨z,t,hkey⟩:=hk y (Array.mem_toList_iff.mp hy)
      simp [DictEntry.refKey,hkey]
    have a':¬es.toList.any (·.refKey)=true:=by rw [a]; exact Bool.false_ne_true
    rw [if_neg a']
    exact congrArg some e
theorem ObjM.look {h:Heap} {x dx C:Addr} {mA:Str→Option Value} (I:ObjM h x dx C mA):∃od,PySem.W.InstAt h x (PySem.W.instObj C dx) C (some od)∧∀name,PySem.W.lookIn name od=some (mA name):=
  let ⟨od,ho,hl⟩:=Zms I.ns
  ⟨od,⟨I.obj,rfl,rfl,ho⟩,hl⟩
section
variable {prog:Program} {w:World} {A:Around} {E:Value→Shared→Prop} {s:Shared} {K:PySem.W.Frag} {x dx C f:Addr} {mA:Str→Option Value} {name:Str} {v:Value}
theorem ZqP {expr:Bool} {Q:Value→Shared→Prop} (X:K.In s.heap) (I:ObjM s.heap x dx C mA) (hg:PySem.W.plainGet K C name=true) (hh:PySem.W.hasDictIn K C=true)
    (ha:PySem.W.findIn K (.ref C) name=some none) (hv:mA name=some v) (hv':PySem.W.handedIn v=true) (h:Q v { s with toks:=s.toks+1 }) :
    wpAny (model prog w) A (getAttr (.ref x) name expr) Q E s:=by
  obtain ⟨od,J,hl⟩:=I.look
  exact PySem.W.get_value X J (PySem.W.plainGet_of hg).1 (PySem.W.findObj_own hh ha rfl (by rw [hl,hv])) hv' h
theorem Zp3 {ns:List Str} {Q:Unit→Shared→Prop} (X:K.In s.heap) (I:ObjM s.heap x dx C mA)
    (hs:PySem.W.findIn K (.ref C) "__setattr__"=some (some (.builtin "object.__setattr__"))) (hp:PySem.W.plainOver K C=true) (ht:PySem.W.takerIn K C name=some none) (hh:PySem.W.hasDictIn K C=true)
    (hw:PySem.Within mA ns) (hsz:ns.length≤sizeLine)
    (h:∀h',ObjM h' x dx C (fun y=>if y=name then some v else mA y)→Heap.SameBut dx s.heap h'→Q () { s with heap:=h',toks:=s.toks+2 }) :
    wpAny (model prog w) A (setAttr (.ref x) name v) Q E s:=by
  obtain ⟨od,J,hl⟩:=I.look
  refine PySem.W.set_plain X J hs (PySem.W.osa_open (s:={ s with toks:=s.toks+1 }) (r:=none) X J hp ht fun b=>?_)
  obtain ⟨cd,hc,hd'⟩:=PySem.W.any_some hh
  have hx:s.heap.get? x=some ⟨.ref C,some dx,.plain,#[]⟩:=I.obj
  refine wpAny_bind (wpAny_pure (wpAny_bind (wpAny_bind (wpAny_loadPart hx (wpAny_bind (PySem.W.Looks.here (s:={ s with toks:=s.toks+1 }) (PySem.W.looks_clsIn X hc) ?_))))))
  rw [hd']
  refine wpAny_pure (a:=some dx) (wpAny_bind (wpAny_pure (wpAny_bind ?_)))
  refine wpAny_nsSet1 (s:={ s with toks:=s.toks+1 }) I.ns fun h' hn2 hs2=>?_
  obtain ⟨oD,esD,epD,hoD,hdD,hcD⟩:=hn2.count (PySem.Within.cons name v hw)
  refine wpAny_bind (wpAny_lookBehind hoD (by rw [hdD]; exact pastItsLine_dict (Nat.le_trans hcD (by rw [List.length_cons]; omega))) ?_)
  exact wpAny_pure (h _ ⟨(hs2.2 _ (Ne.symm I.ne)).trans I.obj,hn2,I.ne⟩ hs2)
theorem ZoQ {R:Result→Shared→Prop} {vs:List Value} {kw:List (Str×Value)} (X:K.In s.heap) (hm:PySem.W.makesIn K C=true)
    (hi:PySem.W.findIn K (.ref C) "__init__"=some (some (.ref f))) (hf:PySem.W.typeIn K (.ref f)=some (.type "function"))
    (h:codeAny (model prog w) (A.under (.builtin "type.__call__" ⟨.ref C::vs,kw⟩)) (.call (.ref f) ⟨.ref (s.heap.objs.size+1)::vs,kw⟩) (PySem.W.InitBack (s.heap.objs.size+1) R)
      { s with heap:=(s.heap.push PySem.W.emptyDict).push (PySem.W.instObj C s.heap.objs.size) }) :
    codeAny (model prog w) A (.call (.ref C) ⟨vs,kw⟩) R s:=by
  obtain ⟨hh,g,d,t,os⟩:=s
  exact PySem.W.make_core (PySem.W.makes_of X hm) (PySem.W.looks_findIn X hi) (fun self=>PySem.W.bind_fn X self hf) (.inl rfl) h
end
def Zdi (f:Str) (v:V):List (Str×V)→List (Str×V)
  | []=>[(f,v)]
  | (g,x)::r=>if g=f then (g,v)::r else (g,x)::Zdi f v r
theorem Zga (f g:Str) (v:V):∀fs:List (Str×V),(Zdi f v fs).lookup g=if g=f then some v else fs.lookup g
  | []=>by
    show List.lookup g [(f,v)]=_
    by_cases h:g=f
    · have hb:(g == f)=true:=beq_iff_eq.mpr h
      simp only [List.lookup,hb,if_pos h]
    · have hb:(g == f)=false:=beq_eq_false_iff_ne.mpr h
      simp only [List.lookup,hb,if_neg h]
  | (k,x)::r=>by
    have ih:=Zga f g v r
    rw [show Zdi f v ((k,x)::r)=(if k=f then (k,v)::r else (k,x)::Zdi f v r) from rfl]
    by_cases hk:k=f
    · rw [if_pos hk]
      by_cases h:g=k
      · have hb:(g == k)=true:=beq_iff_eq.mpr h
        simp only [List.lookup,hb,if_pos (h.trans hk)]
      · have hb:(g == k)=false:=beq_eq_false_iff_ne.mpr h
        simp only [List.lookup,hb,if_neg (fun e:g=f=>h (e.trans hk.symm))]
    · rw [if_neg hk]
      by_cases h:g=k
      · have hb:(g == k)=true:=beq_iff_eq.mpr h
        simp only [List.lookup,hb,if_neg (fun e:g=f=>hk (h.symm.trans e))]
      · have hb:(g == k)=false:=beq_eq_false_iff_ne.mpr h
        simp only [List.lookup,hb]
        exact ih
theorem ZfV (f:Str) (v:V):∀fs:List (Str×V),f∈(Zdi f v fs).map (·.1)∧∀g,g∈fs.map (·.1)→g∈(Zdi f v fs).map (·.1)
  | []=>⟨by simp [Zdi],fun g h=>by simp at h⟩
  | (k,x)::r=>by
    obtain ⟨i1,i2⟩:=ZfV f v r
    rw [show Zdi f v ((k,x)::r)=(if k=f then (k,v)::r else (k,x)::Zdi f v r) from rfl]
    by_cases hk:k=f
    · rw [if_pos hk]
      subst hk
      exact ⟨by simp,fun g h=>by simpa using h⟩
    · rw [if_neg hk]
      refine ⟨?_,fun g h=>?_⟩
      · rw [List.map_cons]
        exact List.mem_cons_of_mem _ i1
      · rw [List.map_cons] at h ⊢
        rcases List.mem_cons.mp h with e | e
        · exact List.mem_cons.mpr (.inl e)
        · exact List.mem_cons_of_mem _ (i2 g e)
theorem Zgb (f:Str) (v:V):∀fs:List (Str×V),(Zdi f v fs).length≤fs.length+1
  | []=>by simp [Zdi]
  | (k,x)::r=>by
    have ih:=Zgb f v r
    rw [show Zdi f v ((k,x)::r)=(if k=f then (k,v)::r else (k,x)::Zdi f v r) from rfl]
    by_cases hk:k=f
    · rw [if_pos hk,List.length_cons,List.length_cons]; omega
    · rw [if_neg hk,List.length_cons,List.length_cons]; omega
theorem RelO.some_of {v:V} {o:Option Value} (r:RelO (some v) o):∃u,o=some u∧RelV v u:=by
  cases o with
  | none=>exact (show False from r).elim
  | some u=>exact ⟨u,rfl,r⟩
theorem RelO.none_of {o:Option Value} (r:RelO none o):o=none:=by
  cases o with
  | none=>rfl
  | some u=>exact (show False from r).elim
theorem Zmy {v:V} {u:Value} (r:RelV v u):PySem.W.handedIn u=true:=by
  cases v with
  | non=>cases (show u=Value.none from r); rfl
  | bl b=>cases (show u=Value.bool b from r); rfl
  | int i=>obtain ⟨t,e⟩:=(show ∃t,u=Value.int i t from r); cases e; rfl
  | str x=>obtain ⟨t,e⟩:=(show ∃t,u=Value.str x t from r); cases e; rfl
  | byt b=>obtain ⟨t,e⟩:=(show ∃t,u=Value.bytes b t from r); cases e; rfl
  | flt b=>obtain ⟨t,e⟩:=(show ∃t,u=Value.float b t from r); cases e; rfl
  | ref a=>cases (show u=Value.ref a from r); rfl
  | ty n=>cases (show u=Value.type n from r); rfl
section
variable {P:Program} {w:World} {H H':Hp} {h h':Heap} {a C dx:Addr} {fs fs':List (Str×V)}
theorem ZlN (hok:HOk P w H h) (e:H a=some (.ins C dx fs)):∃mA,ObjM h a dx C mA∧(∀f,RelO (fs.lookup f) (mA f))∧PySem.Within mA (fs.map (·.1))∧fs.length≤1000∧H dx=some (.own a):=by
  obtain ⟨d,z,ne,ob,mA,n,r,q⟩:=(show ObjOk P w H h a (.ins C dx fs) from hok a _ e)
  exact ⟨mA,⟨ob,n,ne⟩,r,q,z,d⟩
end
structure Cls (K:PySem.W.Frag) (C:Addr):Prop where
  pg:PySem.W.plainGet K C Str.empty=true
  hd:PySem.W.hasDictIn K C=true
  po:PySem.W.plainOver K C=true
  sa:PySem.W.findIn K (.ref C) "__setattr__"=some (some (.builtin "object.__setattr__"))
theorem Cls.get {K:PySem.W.Frag} {C:Addr} (c:Cls K C) (f:Str):PySem.W.plainGet K C f=true:=c.pg
def NoAttr (K:PySem.W.Frag) (C:Addr) (f:Str):Prop:=PySem.W.findIn K (.ref C) f=some none
theorem NoAttr.taker {K:PySem.W.Frag} {C:Addr} {f:Str} (n:NoAttr K C f):PySem.W.takerIn K C f=some none:=by
  unfold PySem.W.takerIn
  rw [show PySem.W.findIn K (.ref C) f=some none from n]
  rfl
structure Con (K:PySem.W.Frag) (C:Addr) (f:Str) (v:V) (u:Value):Prop where
  at_:PySem.W.findIn K (.ref C) f=some (some u)
  rel:RelV v u
  get:PySem.W.specialIn K u "__get__"=some none
  cp:PySem.W.copiedNames.contains f=false
structure Zx2 (K:PySem.W.Frag) (C:Addr) (m:Str) (f:Addr):Prop where
  at_:PySem.W.findIn K (.ref C) m=some (some (.ref f))
  fn:PySem.W.isFn K (.ref f)=true
  kp:PySem.W.keepIn K (.ref f)=true
section
variable {X:Cx} {pins:List (Addr×Obj)} {σ:St} {H:Hp} {s:Shared} {a C dx:Addr} {fs:List (Str×V)} {f:Str} {v:V} {A:Around} {E:Value→Shared→Prop}
theorem Zk1 {b:Bool} {Q:Value→Shared→Prop} (I:Inv X pins σ H s) (e:H a=some (.ins C dx fs)) (c:Cls X.K C) (n:NoAttr X.K C f) (l:fs.lookup f=some v)
    (h:∀u s',Inv X pins σ H s'→RelV v u→Q u s'):wpAny (model X.prog X.w) A (getAttr (.ref a) f b) Q E s:=by
  obtain ⟨mA,O,r,_,_,_⟩:=ZlN I.hok e
  obtain ⟨u,hu,ru⟩:=RelO.some_of (v:=v) (o:=mA f) (by rw [←l]; exact r f)
  exact ZqP I.kIn O (c.get f) c.hd n hu (Zmy ru) (h u _ (I.tok _) ru)
theorem ZkK {y:V} {u:Value} {Q:Unit→Shared→Prop} (I:Inv X pins σ H s) (e:H a=some (.ins C dx fs)) (c:Cls X.K C) (n:NoAttr X.K C f) (hl:fs.length<1000) (ry:RelV y u)
    (h:∀s',Inv X pins σ (upd H a (.ins C dx (Zdi f y fs))) s'→Q () s'):wpAny (model X.prog X.w) A (setAttr (.ref a) f u) Q E s:=by
  obtain ⟨mA,O,r,wi,_,ho⟩:=ZlN I.hok e
  have hz:(fs.map (·.1)).length≤sizeLine:=by rw [List.length_map,sizeLine_eq]; omega
  refine Zp3 I.kIn O c.sa c.po n.taker c.hd wi hz fun h' O' sb=>h _ ?_
  have hd:∃o,h'.get? dx=some o:=let ⟨o,_,_,e',_⟩:=O'.ns; ⟨o,e'⟩
  refine I.write (x:=a) (e:=dx) (by rw [e]; exact True.intro) (.inr ho) (fun b q hb z=>(sb.2 b hb).trans z) hd ?_
  refine ⟨by rw [ZO O.ne]; exact ho,?_,O.ne,O'.obj,_,O'.ns,fun g=>?_,fun g hg=>?_⟩
  · have:=Zgb f y fs; omega
  · show RelO ((Zdi f y fs).lookup g) (if g=f then some u else mA g)
    rw [Zga]
    by_cases q:g=f
    · rw [if_pos q,if_pos q]; exact ry
    · rw [if_neg q,if_neg q]; exact r g
  · by_cases q:g=f
    · rw [q]; exact (ZfV f y fs).1
    · refine (ZfV f y fs).2 g (wi g fun z=>hg ?_)
      show (if g=f then some u else mA g)=none
      rw [if_neg q]; exact z
theorem Inv.made (I:Inv X pins σ H s):Inv X pins σ (upd (upd H s.heap.objs.size (.own (s.heap.objs.size+1))) (s.heap.objs.size+1) (.ins C s.heap.objs.size []))
    { s with heap:=(s.heap.push PySem.W.emptyDict).push (PySem.W.instObj C s.heap.objs.size) }:=by
  have e1:(s.heap.push PySem.W.emptyDict).get? s.heap.objs.size=some PySem.W.emptyDict:=Heap.get?_push_size s.heap rfl
  have e2:((s.heap.push PySem.W.emptyDict).push (PySem.W.instObj C s.heap.objs.size)).get? (s.heap.objs.size+1)=some (PySem.W.instObj C s.heap.objs.size):=by
    have:=Heap.get?_push_size (s.heap.push PySem.W.emptyDict) (o:=PySem.W.instObj C s.heap.objs.size) rfl
    rwa [Heap.size_push] at this
  have e3:(s.heap.push PySem.W.emptyDict).Ns s.heap.objs.size (fun _=>none):=⟨PySem.W.emptyDict,#[],_,e1,rfl,(fun e he=>absurd he (by simp)),fun _=>rfl⟩
  have I1:=I.laid (a:=s.heap.objs.size) (o:=.own (s.heap.objs.size+1)) (h':=s.heap.push PySem.W.emptyDict) (t':=s.toks) (fun b u q=>Heap.get?_push_of_some _ q) (Nat.le_refl _) ⟨_,e1⟩
  refine I1.laid (a:=s.heap.objs.size+1) (o:=.ins C s.heap.objs.size []) (t':=s.toks) (fun b u q=>Heap.get?_push_of_some _ q) (Nat.le_of_eq (Heap.size_push _ _)) ?_
  have ne:s.heap.objs.size≠s.heap.objs.size+1:=Nat.ne_of_lt (Nat.lt_succ_self _)
  refine ⟨by rw [ZO ne,zl],Nat.zero_le _,ne,e2,fun _=>none,(Heap.Ns1.of_empty e3).at fun o q=>Heap.get?_push_of_some _ q,fun _=>True.intro,fun y hy=>absurd rfl hy⟩
theorem Zq3 {prog:Program} {w:World} {env:Env} {e:Expr} {f:Str} {pos:Pos} {s:Shared} {Q:Value→Shared→Prop} (hb:attributeBase e f env (eval e env)=eval e env)
    (h:wpAny (model prog w) A (eval e env) (fun o s₁=>wpAny (model prog w) A (getAttr o f true) Q E s₁) E s):wpAny (model prog w) A (eval (.Attribute e f pos) env) Q E s:=
  Attribute_any_ h (by rw [arm_eval_Attribute,hb])
end
def Zxp (K:PySem.W.Frag) (ta:TE) (f:Str):TE:=fun σ H Q=>ta σ H fun x H1=>∃a C dx fs v,x=.ref a∧H1 a=some (.ins C dx fs)∧Cls K C∧NoAttr K C f∧fs.lookup f=some v∧Q v H1
def Zxw (K:PySem.W.Frag) (ta tv:TE) (f:Str):TS:=fun D σ H=>tv σ H fun y H1=>ta σ H1 fun x H2=>∃a C dx fs,x=.ref a∧H2 a=some (.ins C dx fs)∧Cls K C∧NoAttr K C f∧fs.length<1000∧
  D.nx σ (upd H2 a (.ins C dx (Zdi f y fs)))
section
variable {X:Cx} {o e value:Expr} {f:Str} {pos pos' tpos:Pos} {ta tv:TE}
theorem ZsE (he:PE X e ta) (hb:attributeBase e f X.env (eval e X.env)=eval e X.env):PE X (.Attribute e f pos) (Zxp X.K ta f):=by
  intro pins s σ H Q I h
  refine Zq3 hb (thn (he pins s σ H _ I h) fun u s1 ⟨x,H1,I1,rx,a,C,dx,fs,v,ex,ea,c,n,l,q⟩=>?_)
  subst ex
  obtain rfl:u=Value.ref a:=rx
  exact Zk1 I1 ea c n l fun u' s2 I2 ru=>⟨v,H1,I2,ru,q⟩
theorem Zsr (ha:PE X o ta) (hv:PE X value tv) (hs:swapsWith value (some (.Attribute o f pos')) pos.line X.env=pure false):PS X (.Assign [.Attribute o f pos'] value pos) (Zxw X.K ta tv f):=by
  intro pins s σ H D I h
  refine plainObj_wpAny_Assign_Attribute (thn (hv pins s σ H _ I h) fun u s1 ⟨y,H1,I1,ry,q⟩=>thn (ha pins s1 σ H1 _ I1 q) fun ov s2 ⟨x,H2,I2,rx,a,C,dx,fs,ex,ea,c,n,l,q2⟩=>?_) hs
  subst ex
  obtain rfl:ov=Value.ref a:=rx
  exact ZkK I2 ea c n l ry fun s3 I3=>⟨σ,_,I3,q2⟩
end
section
variable {X:Cx} {pins:List (Addr×Obj)} {σ:St} {H:Hp} {s:Shared} {A:Around} {E:Value→Shared→Prop} {Q:Value→Shared→Prop} {c:Value} {b:Bool}
inductive Zhi (K:PySem.W.Frag) (H:Hp):V→Value→Prop where
  | non:Zhi K H .non (.type "NoneType")
  | bl (x:Bool):Zhi K H (.bl x) (.type "bool")
  | int (i:Int):Zhi K H (.int i) (.type "int")
  | str (x:Str):Zhi K H (.str x) (.type "str")
  | flt (x:UInt64):Zhi K H (.flt x) (.type "float")
  | lst {a:Addr} {xs:List V} (e:H a=some (.lst xs)):Zhi K H (.ref a) (.type "list")
  | frz {a:Addr} {o:Obj} {xs:List V} (e:H a=some (.frz o (.lst xs))):Zhi K H (.ref a) (.type "list")
  | tup {a:Addr} {xs:List V} (e:H a=some (.tup xs)):Zhi K H (.ref a) (.type "tuple")
  | dK {a:Addr} {kvs:List (Key×V)} (e:H a=some (.dK kvs)):Zhi K H (.ref a) (.type "dict")
  | dT {a:Addr} {kvs:List (List Key×V)} (e:H a=some (.dT kvs)):Zhi K H (.ref a) (.type "dict")
  | ins {a C dx:Addr} {fs:List (Str×V)} (e:H a=some (.ins C dx fs)) (cl:Cls K C) (ha:PySem.W.findIn K (.ref C) "__class__"=some (some (.builtin "object.__class__")))
      (hn:PySem.W.specialIn K (.builtin "object.__class__") "__get__"=some (some (.builtin "getset_descriptor.__get__"))) (htk:PySem.W.takesIn K (.builtin "object.__class__")=some true)
      (hm:PySem.W.mroIn K C (.type "object")=some true):Zhi K H (.ref a) (.ref C)
end
end L2
namespace L2
open PySem PySem.Spec PyProof.Rows
structure Room (k:Nat) (A:Around):Prop where
  hd:A.handled=none
  dp:A.depth+3*k+5<recursionLimit
  un:A.units+16*k+200<cLine
theorem Room.mono {j k:Nat} {A:Around} (r:Room k A) (h:j≤k):Room j A:=⟨r.hd,by have:=r.dp; omega,by have:=r.un; omega⟩
theorem Room.deeper {k:Nat} {A:Around} (r:Room (k+1) A) (env:Env):Room k (A.deeper env):=
  ⟨r.hd,by have:=r.dp; show A.depth+1+3*k+5<_; omega,by have:=r.un; show A.units+3+16*k+200<_; omega⟩
theorem ZkV {A:Around} {C:Addr} {us:List Value} {kw:List (Str×Value)}:(A.under (.builtin "type.__call__" ⟨.ref C::us,kw⟩)).depth=A.depth+1:=by
  first | rfl | simp [Around.under,Code.weight,Code.isCreation,Code.isGuard,Code.isCaller,Code.frames,Code.isFrame,guardIds]
theorem ZkU {A:Around} {C:Addr} {us:List Value} {kw:List (Str×Value)}:(A.under (.builtin "type.__call__" ⟨.ref C::us,kw⟩)).units=A.units+1:=by
  first | rfl | simp [Around.under,Code.cUnits,Code.frames,Code.isFrame]
theorem Room.make {k:Nat} {A:Around} (r:Room (k+1) A) (C:Addr) (us:List Value) (kw:List (Str×Value)):Room k (A.under (.builtin "type.__call__" ⟨.ref C::us,kw⟩)):=
  ⟨r.hd,by have:=r.dp; rw [ZkV]; omega,by have:=r.un; rw [ZkU]; omega⟩
theorem Room.depth {k:Nat} {A:Around} (r:Room k A):A.depth<recursionLimit:=by have:=r.dp; omega
theorem Room.units {k:Nat} {A:Around} (r:Room k A):A.units+64<cLine:=by have:=r.un; omega
def Zp0:TA:=fun _ H Q=>Q [] H
def Zn6 (ta:TE) (tr:TA):TA:=fun σ H Q=>ta σ H fun x H1=>tr σ H1 fun xs H2=>Q (x::xs) H2
section
variable {X:Cx} {e:Expr} {es:List Expr} {te:TE} {t:TA} {pos:Pos}
theorem ZkQ:PA X [] Zp0:=fun _ _ _ _ H Q I h=>Calls.spliced_nil ⟨[],H,I,.nil,h⟩
theorem Zic (ha:PE X e te) (hr:PA X es t) (hs:starEach (e::es) X.env=(false,eval e X.env)::starEach es X.env:=by rfl):PA X (e::es) (Zn6 te t):=by
  intro pos pins s σ H Q I h
  rw [hs]
  show wpAny _ _ (spliced ((false,eval e X.env)::backTo pos (starEach es X.env))) _ _ s
  refine Calls.spliced_cons (thn (ha pins s σ H _ I h) fun u s1 ⟨x,H1,I1,r1,q1⟩=>?_)
  exact thn (hr pos pins s1 σ H1 _ I1 q1) fun us s2 ⟨xs,H2,I2,r2,q2⟩=>⟨x::xs,H2,I2,.cons r1 r2,q2⟩
def Zxg (t:TA):TE:=fun σ H Q=>t σ H fun xs H1=>xs.length≤sizeLine∧∀p,H1 p=none→Q (.ref p) (upd H1 p (.tup xs))
def Zxm (t:TA):TE:=fun σ H Q=>t σ H fun xs H1=>xs.length≤sizeLine∧∀p,H1 p=none→Q (.ref p) (upd H1 p (.lst xs))
theorem Zsz {x1} (h:PA X es t):PE X (.Tuple es x1 pos) (Zxg t):=by
  intro pins s σ H Q I hq
  refine wpAny_Tuple_spliced (thn (h pos pins s σ H _ I hq) fun us s1 ⟨xs,H1,I1,r,z,q⟩=>⟨by rw [←r.length]; exact z,?_⟩)
  have hf:H1 s1.heap.objs.size=none:=I1.hok.fresh (Nat.le_refl _)
  refine ⟨.ref s1.heap.objs.size,upd H1 s1.heap.objs.size (.tup xs),I1.laid (t':=s1.toks) (fun b u e=>Heap.get?_push_of_some _ e) (Nat.le_refl _) ?_,rfl,q _ hf⟩
  exact ⟨z,us,r,⟨_,Heap.get?_push_size _ rfl,rfl,_,rfl⟩⟩
theorem ZkP (h:PA X es t):PE X (.List es pos) (Zxm t):=by
  intro pins s σ H Q I hq
  refine wpAny_List_spliced (thn (h pos pins s σ H _ I hq) fun us s1 ⟨xs,H1,I1,r,z,q⟩=>⟨by rw [←r.length]; exact z,?_⟩)
  have hf:H1 s1.heap.objs.size=none:=I1.hok.fresh (Nat.le_refl _)
  refine ⟨.ref s1.heap.objs.size,upd H1 s1.heap.objs.size (.lst xs),I1.laid (t':=s1.toks) (fun b u e=>Heap.get?_push_of_some _ e) (Nat.le_refl _) ?_,rfl,q _ hf⟩
  exact ⟨z,us,0,r,Heap.get?_push_size _ rfl⟩
end
abbrev Sp:=List V→Hp→VK→XK→Prop
abbrev CXT:=List Env→Hp→Shared→XK→Value→Shared→Prop
structure Env0 (P:Program) (w:World) (K:PySem.W.Frag) (mg:Str→Option Value) (base:Heap) (A:Around) (outer:List Env) (s:Shared) (H:Hp):Prop where
  frames:A.frames=some outer
  mod:Mod K mg base
  bs:∀b o,base.get? b=some o→s.heap.get? b=some o∧H b=none
  bsz:base.objs.size≤s.heap.objs.size
  funs:s.heap.FunFrames base outer
  frf:∀b∈frs outer,H b=none
  hok:HOk P w H s.heap
  bare:AllBare s.gens
def CE (outer:List Env) (P:Program) (w:World) (H:Hp) (s:Shared) (Q:VK) (u:Value) (s':Shared):Prop:=
  ∃v H',s'.os=s.os∧AllBare s'.gens∧Un (frs outer) [] H H' s.heap s'.heap∧HOk P w H' s'.heap∧RelV v u∧Q v H'
def CR (CX:CXT) (outer:List Env) (P:Program) (w:World) (H:Hp) (s:Shared) (Q:VK) (E:XK) (r:Result) (s':Shared):Prop:=
  match r with
  | .ok (.ret u)=>CE outer P w H s Q u s'
  | .ok _=>False
  | .error e=>CX outer H s E e s'
structure FnOk (P:Program) (w:World) (K:PySem.W.Frag) (mg:Str→Option Value) (base:Heap) (CX:CXT) (k:Nat) (f:Addr) (fd:FuncData) (ps:List Str) (sp:Sp):Prop where
  len:∀vs H Q E,sp vs H Q E→vs.length=ps.length
  run:∀(A:Around) (outer:List Env) (s:Shared) (H:Hp) (args:Args) (us:List Value) (vs:List V) (Q:VK) (E:XK),Room k A→Env0 P w K mg base A outer s H→BindsTo s fd args (ps.zip us)→Vals vs us→sp vs H Q E→
    codeAny (model P w) A (.call (.ref f) args) (CR CX outer P w H s Q E) s
theorem FnOk.imp {P:Program} {w:World} {K:PySem.W.Frag} {mg:Str→Option Value} {base:Heap} {CX:CXT} {k:Nat} {f:Addr} {fd:FuncData} {ps:List Str} {sp sp':Sp} (F:FnOk P w K mg base CX k f fd ps sp)
    (h:∀vs H Q E,sp' vs H Q E→sp vs H Q E):FnOk P w K mg base CX k f fd ps sp':=
  ⟨fun vs H Q E q=>F.len vs H Q E (h _ _ _ _ q),fun A outer s H args us vs Q E hr he hb hv hs=>F.run A outer s H args us vs Q E hr he hb hv (h _ _ _ _ hs)⟩
theorem Env0.make {P:Program} {w:World} {K:PySem.W.Frag} {mg:Str→Option Value} {base:Heap} {A:Around} {outer:List Env} {s:Shared} {H:Hp} (e:Env0 P w K mg base A outer s H) (C:Addr) (us:List Value) (kw:List (Str×Value)) :
    Env0 P w K mg base (A.under (.builtin "type.__call__" ⟨.ref C::us,kw⟩)) outer s H:=⟨by first | exact e.frames | (simpa [Around.under,Code.envs,Code.isFrame,pushEnvs] using e.frames),e.mod,e.bs,e.bsz,e.funs,e.frf,e.hok,e.bare⟩
section
variable {X:Cx} {pins:List (Addr×Obj)} {σ:St} {H:Hp} {s s':Shared}
theorem Inv.env0 (I:Inv X pins σ H s):Env0 X.prog X.w X.K X.mg X.base X.A X.stack s H:=
  ⟨I.ok.frames,I.ok.mod,I.bs,Nat.le_trans I.ok.bsz I.sz,I.stack,I.stkFree,I.hok,I.bare⟩
theorem Inv.after {Q:VK} {u:Value} (I:Inv X pins σ H s) (h:CE X.stack X.prog X.w H s Q u s'):EP X pins σ Q u s':=by
  obtain ⟨v,H',os,bare,un,hok,r,q⟩:=h
  obtain ⟨hh,g,d,t,os'⟩:=s'
  obtain rfl:os'=s.os:=os
  exact ⟨v,H',I.call (h':=hh) (g':=g) (d':=d) (t':=t) (ch:=[]) un hok bare (fun b z=>absurd z (by simp)),r,q⟩
end
def Zrl (sp:Sp) (dvs:List V) (E:XK) (t:TA):TE:=fun σ H Q=>t σ H fun vs H1=>sp (vs++dvs) H1 Q E
def Zrj (C:Addr) (sp:Sp) (dvs:List V) (E:XK) (t:TA):TE:=fun σ H Q=>t σ H fun vs H1=>∀x dx,H1 x=none→H1 dx=none→dx≠x→
  sp (.ref x::(vs++dvs)) (upd (upd H1 dx (.own x)) x (.ins C dx [])) (fun v H2=>v=.non∧Q (.ref x) H2) E
def Binds (K:PySem.W.Frag) (fd:FuncData) (ps:List Str) (ds:List Value):Prop:=
  ∀(s:Shared) (us:List Value),K.In s.heap→(us++ds).length=ps.length→BindsTo s fd ⟨us,[]⟩ (ps.zip (us++ds))
theorem Binds.all {K:PySem.W.Frag} {fd:FuncData} {ps:List Str} (h:∀us:List Value,us.length=ps.length→bindArgs fd ⟨us,[]⟩=pure (ps.zip us)):Binds K fd ps []:=fun s us _ hl=>by
  rw [List.append_nil] at hl ⊢
  exact .of_eq (h us hl)
def Zf2 (CX:CXT) (X:Cx) (E:XK):Prop:=∀(pins:List (Addr×Obj)) (σ:St) (H:Hp) (s:Shared) (e:Value) (s':Shared),Inv X pins σ H s→CX X.stack H s E e s'→X.xe e s'
section
variable {X:Cx} {CX:CXT} {k:Nat} {f C:Addr} {fd:FuncData} {ps:List Str} {sp:Sp} {dvs:List V} {ds:List Value} {E:XK} {x m:Str} {p pos apos:Pos} {e o:Expr} {es:List Expr} {ta:TE} {t:TA}
theorem Zsh {pins:List (Addr×Obj)} {σ:St} {H:Hp} {s:Shared} {Q:VK} {us:List Value} {vs:List V} (F:FnOk X.prog X.w X.K X.mg X.base CX k f fd ps sp) (hr:Room k X.A) (hb:Binds X.K fd ps ds) (hd:Vals dvs ds) (hx:Zf2 CX X E)
    (I:Inv X pins σ H s) (r:Vals vs us) (h:sp (vs++dvs) H Q E):wpAny (model X.prog X.w) X.A (call (.ref f) us) (EP X pins σ Q) X.xe s:=by
  have r2:Vals (vs++dvs) (us++ds):=r.append hd
  have hl:(us++ds).length=ps.length:=by rw [←r2.length]; exact F.len _ _ _ _ h
  refine wpAny_call (codeAny_mono (F.run X.A X.stack s H ⟨us,[]⟩ (us++ds) (vs++dvs) Q E hr I.env0 (hb s us I.kIn hl) r2 h) fun r s' hq=>?_)
  cases r with
  | error e=>exact hx pins σ H s e s' I hq
  | ok fl=>
    cases fl with
    | ret u=>exact I.after hq
    | next=>exact False.elim hq
    | brk=>exact False.elim hq
    | cont=>exact False.elim hq
theorem Zqn (F:FnOk X.prog X.w X.K X.mg X.base CX k f fd ps sp) (hr:Room k X.A) (hg:Gl X x) (hm:X.mg x=some (.ref f)) (hk:PySem.W.keepIn X.K (.ref f)=true) (hb:Binds X.K fd ps ds) (hd:Vals dvs ds) (hx:Zf2 CX X E)
    (ha:PA X (e::es) t) (hdb:(x == ("__debug__":Str))=false:=by decide) (he:starEach (e::es) X.env=(false,eval e X.env)::starEach es X.env:=by rfl) (hpl:(backTo pos (starEach es X.env)).any (·.1)=false:=by rfl) :
    PE X (.Call (.Name x p) (e::es) [] pos) (Zrl sp dvs E t):=by
  intro pins s σ H Q I h
  refine wpAny_Call_Name_kw (ZgC I hg hm ?_ hdb)
  refine PySem.W.callWith_K (h₀:=X.base) I.ok.mod.kin hk (thn (ha pos pins s σ H _ I h) fun us s1 ⟨vs,H1,I1,r,q⟩=>⟨I1.kIn,?_⟩) he hpl
  exact Zsh F hr hb hd hx I1 r q
structure Mk (K:PySem.W.Frag) (C f:Addr):Prop where
  makes:PySem.W.makesIn K C=true
  init:PySem.W.findIn K (.ref C) "__init__"=some (some (.ref f))
  fn:PySem.W.isFn K (.ref f)=true
  kp:PySem.W.keepIn K (.ref C)=true
theorem Zj1 {pins:List (Addr×Obj)} {σ:St} {H:Hp} {s:Shared} {Q:VK} {us:List Value} {vs:List V} (M:Mk X.K C f) (F:FnOk X.prog X.w X.K X.mg X.base CX k f fd ps sp) (hr:Room (k+1) X.A) (hb:Binds X.K fd ps ds) (hd:Vals dvs ds)
    (hx:Zf2 CX X E) (I:Inv X pins σ H s) (r:Vals vs us)
    (h:∀x dx,H x=none→H dx=none→dx≠x→sp (.ref x::(vs++dvs)) (upd (upd H dx (.own x)) x (.ins C dx [])) (fun v H2=>v=.non∧Q (.ref x) H2) E) :
    wpAny (model X.prog X.w) X.A (call (.ref C) us) (EP X pins σ Q) X.xe s:=by
  have hq:=h (s.heap.objs.size+1) s.heap.objs.size (I.hok.fresh (Nat.le_succ _)) (I.hok.fresh (Nat.le_refl _)) (Nat.ne_of_lt (Nat.lt_succ_self _))
  have I2:=Inv.made (C:=C) I
  have r2:Vals (V.ref (s.heap.objs.size+1)::(vs++dvs)) (Value.ref (s.heap.objs.size+1)::(us++ds)):=.cons rfl (r.append hd)
  have hl:(Value.ref (s.heap.objs.size+1)::us++ds).length=ps.length:=by
    have e:=r2.length
    rw [F.len _ _ _ _ hq] at e
    exact e.symm
  refine wpAny_call (ZoQ (f:=f) I.kIn M.makes M.init (beq_iff_eq.mp M.fn) (codeAny_mono (F.run _ X.stack _ _ ⟨Value.ref (s.heap.objs.size+1)::us,[]⟩ (Value.ref (s.heap.objs.size+1)::(us++ds)) _ _ E (hr.make C us [])
    (I2.env0.make C us []) (hb _ (Value.ref (s.heap.objs.size+1)::us) I2.kIn hl) r2 hq) fun r s' hq'=>?_))
  cases r with
  | error e=>exact hx pins σ _ _ e s' I2 hq'
  | ok fl=>
    cases fl with
    | ret u=>
      obtain ⟨v,H',I3,rv,ev,q3⟩:=I2.after hq'
      subst ev
      exact ⟨rv,⟨V.ref (s.heap.objs.size+1),H',I3,rfl,q3⟩⟩
    | next=>exact False.elim hq'
    | brk=>exact False.elim hq'
    | cont=>exact False.elim hq'
theorem Zqk (M:Mk X.K C f) (F:FnOk X.prog X.w X.K X.mg X.base CX k f fd ps sp) (hr:Room (k+1) X.A) (hg:Gl X x) (hm:X.mg x=some (.ref C)) (hb:Binds X.K fd ps ds) (hd:Vals dvs ds) (hx:Zf2 CX X E)
    (ha:PA X (e::es) t) (hdb:(x == ("__debug__":Str))=false:=by decide) (he:starEach (e::es) X.env=(false,eval e X.env)::starEach es X.env:=by rfl) (hpl:(backTo pos (starEach es X.env)).any (·.1)=false:=by rfl) :
    PE X (.Call (.Name x p) (e::es) [] pos) (Zrj C sp dvs E t):=by
  intro pins s σ H Q I h
  refine wpAny_Call_Name_kw (ZgC I hg hm ?_ hdb)
  refine PySem.W.callWith_K (h₀:=X.base) I.ok.mod.kin M.kp (thn (ha pos pins s σ H _ I h) fun us s1 ⟨vs,H1,I1,r,q⟩=>⟨I1.kIn,?_⟩) he hpl
  exact Zj1 M F hr hb hd hx I1 r q
theorem Zoq (M:Mk X.K C f) (F:FnOk X.prog X.w X.K X.mg X.base CX k f fd ps sp) (hr:Room (k+1) X.A) (hg:Gl X x) (hm:X.mg x=some (.ref C)) (hb:Binds X.K fd ps ds) (hd:Vals dvs ds) (hx:Zf2 CX X E)
    (hdb:(x == ("__debug__":Str))=false:=by decide):PE X (.Call (.Name x p) [] [] pos) (Zrj C sp dvs E Zp0):=by
  intro pins s σ H Q I h
  refine wpAny_Call_Name_kw (ZgC I hg hm ?_ hdb)
  exact PySem.W.callWith_K0 I.kIn M.kp (Zj1 (us:=[]) M F hr hb hd hx I .nil h)
end
section
variable {X:Cx} {CX:CXT} {k:Nat} {f C:Addr} {fd:FuncData} {ps ks:List Str} {sp:Sp} {E:XK} {x m:Str} {p pos apos kpos:Pos} {e o:Expr} {es:List Expr} {kws:List Keyword} {te ta:TE} {t tk:TA} {nm:Option Str}
structure Zx4 (K:PySem.W.Frag) (fd:FuncData) (ps ks:List Str) (g:List Value→List Value→List Value) (gV:List V→List V→List V):Prop where
  to:∀(s:Shared) (us ws:List Value),K.In s.heap→(g us ws).length=ps.length→BindsTo s fd ⟨us,ks.zip ws⟩ (ps.zip (g us ws))
  rel:∀{vs:List V} {us:List Value} {zs:List V} {ws:List Value},Vals vs us→Vals zs ws→Vals (gV vs zs) (g us ws)
variable {g:List Value→List Value→List Value} {gV:List V→List V→List V}
end
structure Zr (N P:List Str) (sc:Scope):Prop where
  kind:sc.kind=.function
  co:sc.isCoroutine=false
  gen:sc.isGenerator=false
  nd:N.Nodup
  pre:N.take P.length=P
  par:∀x∈P,sc.names.lookup x=some .local∨sc.names.lookup x=some .cell
  nofree:∀y∈sc.names,y.2≠.free
theorem ZhU {kindOf:Str→Option NameKind} {x:Str}:∀{binds:List (Str×Value)} {m:Str→Option Value},(∀v,(x,v)∉binds)→bindL kindOf binds m x=m x
  | [],_,_=>rfl
  | (n,v)::r,m,h=>by
    unfold bindL
    rw [ZhU fun w hw=>h w (List.mem_cons_of_mem _ hw)]
    split
    · have:x≠n:=by rintro rfl; exact h v List.mem_cons_self
      simp [this]
    · rfl
theorem ZhW {kindOf:Str→Option NameKind} {x:Str}:∀{binds:List (Str×Value)} {m:Str→Option Value},(∀v,(x,v)∉binds)→bindC kindOf binds m x=m x
  | [],_,_=>rfl
  | (n,v)::r,m,h=>by
    unfold bindC
    rw [ZhW fun w hw=>h w (List.mem_cons_of_mem _ hw)]
    split
    · rfl
    · have:x≠n:=by rintro rfl; exact h v List.mem_cons_self
      simp [this]
theorem ZhV {kindOf:Str→Option NameKind} {x:Str} {v:Value}:∀{P:List Str} {vs:List Value} {i:Nat} {m:Str→Option Value},P.Nodup→P[i]?=some x→vs[i]?=some v→kindOf x=some .local→
    bindL kindOf (P.zip vs) m x=some v
  | [],_,_,_,_,h,_,_=>by simp at h
  | _::_,[],_,_,_,_,h,_=>by simp at h
  | p::P,w::vs,0,m,nd,h1,h2,hk=>by
    simp at h1 h2; subst h1; subst h2
    show bindL kindOf ((p,w)::P.zip vs) m p=_
    unfold bindL
    rw [ZhU fun v hv=>(List.nodup_cons.mp nd).1 (List.of_mem_zip hv).1,if_pos hk]
    simp
  | p::P,w::vs,i+1,m,nd,h1,h2,hk=>by
    show bindL kindOf ((p,w)::P.zip vs) m x=_
    unfold bindL
    exact ZhV (i:=i) (List.nodup_cons.mp nd).2 (by simpa using h1) (by simpa using h2) hk
theorem ZhX {kindOf:Str→Option NameKind} {x:Str} {v:Value}:∀{P:List Str} {vs:List Value} {i:Nat} {m:Str→Option Value},P.Nodup→P[i]?=some x→vs[i]?=some v→kindOf x≠some .local→
    bindC kindOf (P.zip vs) m x=some v
  | [],_,_,_,_,h,_,_=>by simp at h
  | _::_,[],_,_,_,_,h,_=>by simp at h
  | p::P,w::vs,0,m,nd,h1,h2,hk=>by
    simp at h1 h2; subst h1; subst h2
    show bindC kindOf ((p,w)::P.zip vs) m p=_
    unfold bindC
    rw [ZhW fun v hv=>(List.nodup_cons.mp nd).1 (List.of_mem_zip hv).1,if_neg hk]
    simp
  | p::P,w::vs,i+1,m,nd,h1,h2,hk=>by
    show bindC kindOf ((p,w)::P.zip vs) m x=_
    unfold bindC
    exact ZhX (i:=i) (List.nodup_cons.mp nd).2 (by simpa using h1) (by simpa using h2) hk
def ZdU (N:List Str) (vs:List V):St:=vs.map some++List.replicate (N.length-vs.length) none
def Zg1 (CX:CXT) (P:Program) (w:World) (K:PySem.W.Frag) (mg:Str→Option Value) (base:Heap) (N:List Str) (qual:Str) (scope:Scope) (f:Addr) (cd:Value) (A:Around) (outer:List Env) (s:Shared) (H:Hp) (E:XK):Cx where
  prog:=P
  w:=w
  K:=K
  mg:=mg
  base:=base
  A:=A.deeper (envOfC qual scope s.heap.objs.size f cd)
  N:=N
  s₀:=s
  H₀:=H
  env:=envOfC qual scope s.heap.objs.size f cd
  outer:=outer
  stack:=envOfC qual scope s.heap.objs.size f cd::outer
  ex:=[]
  calm:=true
  fn:=fun _=>true
  pn:=[]
  xe:=fun e s'=>wpAny (model P w) (A.deeper (envOfC qual scope s.heap.objs.size f cd)) (leaving (envOfC qual scope s.heap.objs.size f cd) e) (fun _ s''=>CX outer H s E e s'') (fun e' s''=>CX outer H s E e' s'') s'
theorem Zkz {sc:Scope} {n:Nat} {x:Str} (h:sc.names.lookup x=some .cell):∃c,(cellsFrom n sc.names []).lookup x=some c:=by
  have q:=PySem.W.cellsFrom_some sc.names n [] (.inl h)
  exact Option.isSome_iff_exists.mp q
theorem Zmv {CX:CXT} {P:Program} {w:World} {K:PySem.W.Frag} {mg:Str→Option Value} {base:Heap} {N ps:List Str} {qual:Str} {scope:Scope} {f:Addr} {cd:Value} {A:Around} {outer:List Env} {s s1:Shared} {H:Hp} {E:XK} {us:List Value} {vs:List V}
    (S:Zr N ps scope) (hd:A.handled=none) (e0:Env0 P w K mg base A outer s H) (hl:vs.length=ps.length) (r:Vals vs us)
    (x:InCallC s s.heap.objs.size (bindL (envOfC qual scope s.heap.objs.size f cd).kindOf (ps.zip us) fun _=>none) (cellsFrom (s.heap.objs.size+1) scope.names []) (bindC (envOfC qual scope s.heap.objs.size f cd).kindOf (ps.zip us) fun _=>none) s1) :
    Inv (Zg1 CX P w K mg base N qual scope f cd A outer s H E) [] (ZdU N vs) H s1:=by
  have hpl:ps.length≤N.length:=by have:=congrArg List.length S.pre; rw [List.length_take] at this; omega
  obtain ⟨h1,tk,rfl,hk⟩:=x.done
  have noA:∀b:Addr,b∉(Zg1 CX P w K mg base N qual scope f cd A outer s H E).ex:=fun b z=>absurd (show b∈([]:List Addr) from z) (by simp)
  refine ⟨⟨e0.mod,S.kind,rfl,rfl,Nat.le_refl _,fun y z c h1 h2=>?_,fun y hy=>?_,fun y c _ h=>?_,fun _=>hd,Around.frames_deeper e0.frames,.inr ⟨rfl,rfl⟩,fun b z=>absurd z (noA b),e0.bs,e0.bsz,fun b _ _=>noA b,fun b z=>absurd z (noA b),e0.funs,e0.frf⟩,
    rfl,e0.bare,Un.kept hk,⟨_,x.toInCall.ns,fun i y v h1 h2 h3=>?_⟩,fun y c h=>⟨_,x.cell y c h⟩,e0.hok.fresh (Nat.le_refl _),fun y c h=>?_,fun p hp=>absurd (show p∈([]:List (Addr×Obj)) from hp) (by simp),e0.hok.kept hk,?_⟩
  · exact name_of_addr x.apart (PySem.mem_of_lookup h1) (PySem.mem_of_lookup h2)
  · have hy:scope.names.lookup y=some .cell∨scope.names.lookup y=some .free:=hy
    rcases hy with hy | hy
    · exact Zkz hy
    · exact absurd rfl (S.nofree _ (PySem.mem_of_lookup hy))
  · exact Nat.le_of_lt (x.above y c (PySem.mem_of_lookup h))
  · have hi:i<vs.length:=by
      unfold ZdU at h2
      by_cases hi:i<vs.length
      · exact hi
      · rw [List.getElem?_append_right (by simpa using hi)] at h2
        rw [List.getElem?_replicate] at h2
        split at h2<;>cases h2
    have ha:vs[i]?=some v:=by
      unfold ZdU at h2
      rw [List.getElem?_append_left (by simpa using hi),List.getElem?_map] at h2
      cases e:vs[i]? with
      | none=>rw [e] at h2; cases h2
      | some a=>rw [e] at h2; cases h2; rfl
    obtain ⟨u,hu,rv⟩:=r.get ha
    have hp:ps[i]?=some y:=by
      rw [←S.pre,List.getElem?_take_of_lt (by omega)]; exact h1
    have ndP:ps.Nodup:=by rw [←S.pre]; exact S.nd.sublist (List.take_sublist _ _)
    refine ⟨u,rv,?_⟩
    rcases S.par y (List.mem_of_getElem? hp) with k | k
    · exact .inl ⟨k,ZhV ndP hp hu k⟩
    · obtain ⟨c,e⟩:=Zkz (n:=s.heap.objs.size+1) k
      refine .inr ⟨.inl k,c,e,?_⟩
      have q:=x.cell y c e
      rw [ZhX ndP hp hu (by show scope.names.lookup y≠_; rw [k]; decide)] at q
      exact q
  · exact e0.hok.fresh (Nat.le_of_lt (x.above y c (PySem.mem_of_lookup h)))
  · unfold ZdU
    show _=N.length
    rw [List.length_append,List.length_map,List.length_replicate]
    omega
theorem ZuL {CX:CXT} {P:Program} {w:World} {K:PySem.W.Frag} {mg:Str→Option Value} {base:Heap} {k:Nat} {f:Addr} {name qual:Str} {params:Arguments} {body:List Stmt} {scope:Scope} {dV kV doc pm cdv ct oc:Value} {an od:Option Addr}
    {osl:Array (Option Value)} {N ps:List Str} {sp:Sp} (lk:K.lookup f=some ⟨oc,od,.func (PySem.W.fnOf name qual params body scope dV kV doc pm an cdv ct),osl⟩) (hcd:PySem.W.codeIn K cdv qual=true) (S:Zr N ps scope)
    (len:∀vs H Q E,sp vs H Q E→vs.length=ps.length)
    (hbody:∀(A:Around) (outer:List Env) (s:Shared) (H:Hp) (vs:List V) (Q:VK) (E:XK),Room k (A.deeper (envOfC qual scope s.heap.objs.size f cdv))→sp vs H Q E→
      ∃t,PSs (Zg1 CX P w K mg base N qual scope f cdv A outer s H E) body t∧t { nx:=fun _ H'=>Q .non H',rt:=Q } (ZdU N vs) H) :
    FnOk P w K mg base CX (k+1) f (PySem.W.fnOf name qual params body scope dV kV doc pm an cdv ct) ps sp:=by
  refine ⟨len,fun A outer s H args us vs Q E hr e0 hb r hsp=>?_⟩
  have hl:=len _ _ _ _ hsp
  have KX:K.In s.heap:=e0.mod.kin.keeps fun b o e=>(e0.bs b o e).1
  have lim:s.heap.NoLimit:=e0.mod.nolimit.keeps fun b o e=>(e0.bs b o e).1
  have hkind:∀y∈ps.zip us,scope.names.lookup y.1=some .local∨(scope.names.lookup y.1=some .cell∧((cellsFrom (s.heap.objs.size+1) scope.names []).lookup y.1).isSome=true):=fun ⟨n,v⟩ hy=>by
    rcases S.par n (List.of_mem_zip hy).1 with q | q
    · exact .inl q
    · exact .inr ⟨q,PySem.W.cellsFrom_some _ _ _ (.inl q)⟩
  refine codeAny_call_function hr.depth (KX _ _ lk) rfl S.co S.gen rfl (PySem.W.codeRec_of KX hcd) (hb _ _ _ _ ?_)
  refine wpAny_newFunctionEnv_cells S.kind hkind fun env he s1 x=>?_
  subst he
  refine ⟨lim.keeps x.toInCall.keep,codeAny_func ?_⟩
  obtain ⟨t,ht,hq⟩:=hbody A outer s H vs Q E (hr.deeper _) hsp
  have I:Inv (Zg1 CX P w K mg base N qual scope f cdv A outer s H E) [] (ZdU N vs) H s1:=Zmv S hr.hd e0 hl r x
  refine wpAny_mono (ht [] s1 (ZdU N vs) H _ I hq) (fun fl s' hs=>?_) fun e s' hs=>hs
  have fin:∀{σ':St} {H':Hp} {v:V} {u:Value},Inv (Zg1 CX P w K mg base N qual scope f cdv A outer s H E) [] σ' H' s'→RelV v u→Q v H'→CE outer P w H s Q u s':=
    fun {σ' H' v u} J rv q=>⟨v,H',J.os,J.bare,J.base,J.hok,rv,q⟩
  cases fl with
  | ret u=>
    obtain ⟨v,σ',H',J,rv,q⟩:=hs
    exact fin J rv q
  | next=>
    obtain ⟨σ',H',J,q⟩:=hs
    exact fin (v:=V.non) (u:=Value.none) J rfl q
  | brk=>
    obtain ⟨_,_,_,q⟩:=hs
    exact False.elim q
  | cont=>
    obtain ⟨_,_,_,q⟩:=hs
    exact False.elim q
end L2
namespace L2
open PySem PySem.Spec PyProof.Rows
section
variable {X:Cx} {x:Str} {p pos:Pos} {e:Expr} {es:List Expr} {t:TA} {id T:String} {r:List V→Hp→VK→Prop}
def tCB (r:List V→Hp→VK→Prop) (t:TA):TE:=fun σ H Q=>t σ H fun vs H1=>r vs H1 Q
theorem Zox (hc:CallR X (.builtin id) r) (hg:Gl X x) (hm:X.mg x=none) (hv:bootBuiltins x=some (.builtin id)) (ha:PA X (e::es) t) (hn:x≠"__name__":=by decide) (hdb:(x == ("__debug__":Str))=false:=by decide)
    (he:starEach (e::es) X.env=(false,eval e X.env)::starEach es X.env:=by rfl) (hpl:(backTo pos (starEach es X.env)).any (·.1)=false:=by rfl):PE X (.Call (.Name x p) (e::es) [] pos) (tCB r t):=by
  intro pins s σ H Q I h
  refine wpAny_Call_Name_kw (Zij I hg hm hv ?_ hn hdb)
  exact PyProof.Rows.callWith_builtin1 (thn (ha pos pins s σ H _ I h) fun us s1 ⟨vs,H1,I1,r1,q1⟩=>hc pins s1 σ H1 vs us Q I1 r1 q1) he hpl
theorem Zmi (hc:CallR X (.type T) r) (hg:Gl X x) (hm:X.mg x=none) (hv:bootBuiltins x=some (.type T)) (ha:PA X (e::es) t) (hn:x≠"__name__":=by decide) (hdb:(x == ("__debug__":Str))=false:=by decide)
    (he:starEach (e::es) X.env=(false,eval e X.env)::starEach es X.env:=by rfl) (hpl:(backTo pos (starEach es X.env)).any (·.1)=false:=by rfl):PE X (.Call (.Name x p) (e::es) [] pos) (tCB r t):=by
  intro pins s σ H Q I h
  refine wpAny_Call_Name_kw (Zij I hg hm hv ?_ hn hdb)
  exact PyProof.Rows.callWith_type1 (thn (ha pos pins s σ H _ I h) fun us s1 ⟨vs,H1,I1,r1,q1⟩=>hc pins s1 σ H1 vs us Q I1 r1 q1) he hpl
end
end L2
namespace HT
open PySem PyProof.Rows
section
open PySem.SeqAt
open PySem.AutoSeq1 (wpAny_loadPart')
open PySem.MeetsSeq PySem.MeetsSeq2 PySem.MeetsSeq3
end
section
variable {prog:Program} {w:World} {A:Around} {E:Value→Shared→Prop} {s:Shared}
theorem cat_tup {t b:Addr} {vs ws:List Value} {Q:Value→Shared→Prop} (ht:IsTup s.heap t vs.toArray) (hb:IsTup s.heap b ws.toArray) (hv:vs≠[])
    (h1:ws=[]→Q (.ref t) s) (h2:ws≠[]→Q (.ref s.heap.objs.size) { s with heap:=s.heap.push { cls:=.type "tuple",data:=.seq (vs++ws).toArray } })
    (hsz:vs.length+ws.length≤sizeLine):wpAny (model prog w) A (binaryOp .Add (.ref t) (.ref b)) Q E s:=by
  obtain ⟨⟨cls,dd,data,sl⟩,ho,hc,n,hd⟩:=id ht
  obtain ⟨⟨cls2,dd2,data2,sl2⟩,ho2,hc2,n2,hd2⟩:=id hb
  simp only at hc hd hc2 hd2
  subst hc hd hc2 hd2
  have e:vs.toArray++ws.toArray=(vs++ws).toArray:=by simp
  by_cases hw:ws=[]
  · exact concat_meets ⟨_,ho,rfl⟩ ⟨_,ho2,rfl⟩ noFill_tuple_add seq_tuple_add PySem.F.slot_tuple_add PySem.F.entry_tuple_add (PySem.F.args_tuple_add_2 _ _)
      (tuple_addW1 t b vs.toArray ws.toArray n n2 dd dd2 sl sl2 (by simpa using hv) (by simp [hw])) ⟨ho,ho2,h1 hw⟩
  · refine concat_meets ⟨_,ho,rfl⟩ ⟨_,ho2,rfl⟩ noFill_tuple_add seq_tuple_add PySem.F.slot_tuple_add PySem.F.entry_tuple_add (PySem.F.args_tuple_add_2 _ _)
      (tuple_addW2 t b vs.toArray ws.toArray n n2 dd dd2 sl sl2 (by simpa using hv) (by simpa using hw) (by rw [List.size_toArray,List.size_toArray]; exact hsz)) ⟨ho,ho2,?_⟩
    rw [e]
    exact h2 hw
def sIx (n d:Nat):Option Int→Nat
  | none=>d
  | some v=>if v<0 then (v+(n:Int)).toNat else min v.toNat n
theorem sIx_none (n d:Nat):sIx n d none=d:=rfl
theorem sIx_nat (n d k:Nat):sIx n d (some (k:Int))=min k n:=by
  show (if (k:Int)<0 then ((k:Int)+(n:Int)).toNat else min (k:Int).toNat n)=min k n
  rw [if_neg (by omega),Int.toNat_natCast]
theorem Zsg (n d:Nat) (hd:d≤n) (o:Option Int):sIx n d o≤n:=by
  cases o with
  | none=>exact hd
  | some v=>
    show (if v<0 then (v+(n:Int)).toNat else min v.toNat n)≤n
    by_cases hv:v<0
    · rw [if_pos hv]; omega
    · rw [if_neg hv]; exact Nat.min_le_right _ _
theorem ZlS (v:Int) (n d:Nat):(if v<0 then max (v+(n:Int)) 0 else min v (n:Int))=((sIx n d (some v):Nat):Int):=by
  show (if v<0 then max (v+(n:Int)) 0 else min v (n:Int))=(((if v<0 then (v+(n:Int)).toNat else min v.toNat n):Nat):Int)
  by_cases hv:v<0
  · simp only [if_pos hv]; omega
  · simp only [if_neg hv]; omega
theorem Zk8 (lo hi:Option Int) (n:Nat):Builtin.Slice.sliceAdjust lo hi 1 (n:Int)=(((sIx n 0 lo:Nat):Int),((sIx n n hi:Nat):Int)):=by
  have h1:¬((1:Int)<0):=by omega
  unfold Builtin.Slice.sliceAdjust
  simp only [h1,if_false]
  refine Prod.ext ?_ ?_
  · cases lo with
    | none=>rfl
    | some v=>exact ZlS v n 0
  · cases hi with
    | none=>rfl
    | some v=>exact ZlS v n n
theorem ZkO (i j:Nat):Builtin.Slice.slicePlaces (i:Int) (j:Int) 1=j-i:=by
  unfold Builtin.Slice.slicePlaces
  have h1:(1:Int) > 0:=by omega
  simp only [h1,if_true,Int.ediv_one]
  split<;>omega
theorem ZgN {v:Value} {o:Option Int} {Q:Option Int→Shared→Prop} (p:IsPart v o) (h:Q o s):wpAny (model prog w) A (Builtin.Slice.slicePartIndex v) Q E s:=by
  cases p with
  | none=>exact slicePart_none h
  | int i t=>exact slicePart_int h
theorem ZfM {sl:Addr} {vl vu:Value} {lo hi:Option Int} {n:Nat} {Q:Int×Int×Nat→Shared→Prop} (hs:s.heap.IsSliceOf sl vl vu .none) (pl:IsPart vl lo) (pu:IsPart vu hi)
    (h:Q (((sIx n 0 lo:Nat):Int),1,sIx n n hi-sIx n 0 lo) s):wpAny (model prog w) A (Builtin.Slice.sliceApplied (.ref sl) (pure (n:Int))) Q E s:=by
  obtain ⟨os,hos,hcs,hds⟩:=id hs
  unfold Builtin.Slice.sliceApplied Builtin.Slice.sliceFields
  refine wpAny_bind (wpAny_bind (wpAny_field hos hds (x:=vl) rfl (wpAny_bind (wpAny_field hos hds (x:=vu) rfl (wpAny_bind (wpAny_field hos hds (x:=.none) rfl (wpAny_pure ?_)))))))
  refine wpAny_bind (slicePart_none ?_)
  show wpAny _ _ (if ((1:Int) == 0)=true then _ else _) _ _ s
  rw [if_neg (by decide)]
  refine wpAny_bind (ZgN pl (wpAny_bind (ZgN pu (wpAny_bind (wpAny_pure ?_)))))
  show wpAny _ _ (match Builtin.Slice.sliceAdjust lo hi 1 (n:Int) with | (lo,hi)=>pure (lo,(1:Int),Builtin.Slice.slicePlaces lo hi 1)) _ _ s
  rw [Zk8 lo hi n]
  show wpAny _ _ (pure (((sIx n 0 lo:Nat):Int),(1:Int),Builtin.Slice.slicePlaces ((sIx n 0 lo:Nat):Int) ((sIx n n hi:Nat):Int) 1)) _ _ s
  rw [ZkO]
  exact wpAny_pure h
theorem Zon (xs:Array Value) (i k:Nat):((List.range k).filterMap fun (m:Nat)=>xs[((i:Int)+(m:Int)*1).toNat]?).toArray=((xs.toList.drop i).take k).toArray:=by
  have e:(fun (m:Nat)=>xs[((i:Int)+(m:Int)*1).toNat]?)=fun m=>xs[i+m]?:=by
    funext m
    have:((i:Int)+(m:Int)*1).toNat=i+m:=by omega
    rw [this]
  rw [e]
  have:=pick_run xs i k
  rw [List.filterMap_map] at this
  have e2:((fun x=>xs[x]?)∘fun x=>i+x)=fun m=>xs[i+m]?:=rfl
  rw [e2] at this
  rw [this]
theorem getItem_tuple_cut {t sl:Addr} {items:Array Value} {vl vu:Value} {lo hi:Option Int} {Q:Value→Shared→Prop} (ht:IsTup s.heap t items) (hs:s.heap.IsSliceOf sl vl vu .none) (pl:IsPart vl lo) (pu:IsPart vu hi)
    (hw:¬(sIx items.size 0 lo=0∧sIx items.size items.size hi=items.size))
    (h:Q (.ref s.heap.objs.size) { s with heap:=s.heap.push { cls:=.type "tuple",data:=.seq ((items.toList.drop (sIx items.size 0 lo)).take (sIx items.size items.size hi-sIx items.size 0 lo)).toArray } })
    (hsz:items.size≤sizeLine):wpAny (model prog w) A (getItem (.ref t) (.ref sl)) Q E s:=by
  have htake:sizeOk (.seq ((items.toList.drop (sIx items.size 0 lo)).take (sIx items.size items.size hi-sIx items.size 0 lo)).toArray):=by
    show ((items.toList.drop (sIx items.size 0 lo)).take (sIx items.size items.size hi-sIx items.size 0 lo)).toArray.size≤sizeLine
    rw [List.size_toArray,List.length_take,List.length_drop,Array.length_toList]
    omega
  have hj:sIx items.size items.size hi≤items.size:=Zsg _ _ (Nat.le_refl _) hi
  obtain ⟨os,hos,hcs,hds⟩:=id hs
  have hTs:s.TypeIs (.ref sl) "slice":=⟨os,hos,hcs⟩
  unfold getItem
  try with_reducible refine wpAny_holding ?_
  first | refine wpAny_bind (wpAny_pure ?_) | skip
  refine wpAny_bind (wpAny_sequenceKey ht.typeIs (by decide) ?_)
  refine wpAny_bind (wpAny_callSpecial?_slot (name:=Str.ofString "__getitem__") ht.typeIs PyProof.Rows.slot_tuple_getitem
    (wpAny_call_entry PyProof.Rows.slot_tuple_getitem ht.typeIs entry_tuple_getitem ?_ (args_tuple_getitem _ _)))
  show wpAny _ _ (Builtin.Tuple.tupleItemsOf (.ref t) >>= _) _ _ s
  refine wpAny_bind (tupleItemsOf_ ht ?_)
  refine wpAny_bind (wpAny_typeOf hTs ?_)
  rw [if_pos (by decide)]
  refine wpAny_bind (ZfM hs pl pu ?_)
  have hno:¬((((sIx items.size 0 lo:Nat):Int) == 0 && (1:Int) == 1 && (sIx items.size items.size hi-sIx items.size 0 lo) == items.size)=true):=by
    intro q
    rw [Bool.and_eq_true,Bool.and_eq_true] at q
    have q1:((sIx items.size 0 lo:Nat):Int)=0:=eq_of_beq q.1.1
    have q2:sIx items.size items.size hi-sIx items.size 0 lo=items.size:=eq_of_beq q.2
    exact hw ⟨by omega,by omega⟩
  show wpAny _ _ (if (((sIx items.size 0 lo:Nat):Int) == 0 && (1:Int) == 1 && (sIx items.size items.size hi-sIx items.size 0 lo) == items.size)=true then _ else _) _ _ s
  rw [if_neg hno,Zon]
  first
    | exact wpAny_bind (m:=Builtin.Tuple.tupleExact _) (wpAny_newObj_type (wpAny_pure ⟨_,rfl,wpAny_pure h⟩) htake)
    | exact wpAny_bind (m:=Builtin.Tuple.tupleExact _) (wpAny_newObj_type (wpAny_bind (wpAny_pure (wpAny_pure ⟨_,rfl,wpAny_pure h⟩))) htake)
    | exact wpAny_bind (wpAny_bind (m:=Builtin.Tuple.tupleExact _) (wpAny_newObj_type (wpAny_pure (wpAny_pure ⟨_,rfl,wpAny_pure h⟩)) htake))
    | exact wpAny_bind (wpAny_bind (m:=Builtin.Tuple.tupleExact _) (wpAny_newObj_type (wpAny_pure ⟨_,rfl,wpAny_pure h⟩) htake))
end
end HT
namespace L2
open PySem PySem.Spec PyProof.Rows
abbrev TO:=St→Hp→(Option Int→Hp→Prop)→Prop
def PO (X:Cx) (e:Option Expr) (t:TO):Prop:=
  ∀(pins:List (Addr×Obj)) (s:Shared) (σ:St) (H:Hp) (Q:Option Int→Hp→Prop),Inv X pins σ H s→t σ H Q→
    wpAny (model X.prog X.w) X.A (evalPart e X.env) (fun u s'=>∃o H',Inv X pins σ H' s'∧IsPart u o∧Q o H') X.xe s
def ZpZ:TO:=fun _ H Q=>Q none H
def ZtV (t:TE):TO:=fun σ H Q=>t σ H fun x H1=>∃i,x=.int i∧Q (some i) H1
section
variable {X:Cx} {e:Expr} {te:TE} {lo hi:Option Expr} {tl th:TO} {pos p2:Pos}
theorem Zqi:PO X none ZpZ:=by
  intro pins s σ H Q I h
  rw [evalPart_none]
  exact wpAny_pure ⟨none,H,I,.none,h⟩
theorem Zqh (h:PE X e te):PO X (some e) (ZtV te):=by
  intro pins s σ H Q I hw
  rw [evalPart_some]
  refine thn (h pins s σ H _ I hw) fun u s1 ⟨x,H1,I1,r1,q1⟩=>?_
  obtain ⟨i,rfl,q⟩:=q1
  obtain ⟨t,rfl⟩:=r1
  exact ⟨some i,H1,I1,.int i t,q⟩
def SlR (X:Cx) (r:V→Option Int→Option Int→Hp→VK→Prop):Prop:=
  ∀(pins:List (Addr×Obj)) (s:Shared) (σ:St) (H:Hp) (x:V) (v vl vu:Value) (lo hi:Option Int) (sl:Addr) (Q:VK),Inv X pins σ H s→RelV x v→s.heap.IsSliceOf sl vl vu .none→IsPart vl lo→IsPart vu hi→r x lo hi H Q→
    ∃T id,typeLookup (.type T) "__getitem__"=pure (some (.builtin id))∧s.TypeIs v T∧wpAny (model X.prog X.w) X.A (getItem v (.ref sl)) (EP X pins σ Q) X.xe s
theorem SlR.or {r r':V→Option Int→Option Int→Hp→VK→Prop} (h:SlR X r) (h':SlR X r'):SlR X (fun x lo hi H Q=>r x lo hi H Q∨r' x lo hi H Q):=by
  intro pins s σ H x v vl vu lo hi sl Q I rx hs pl pu q
  rcases q with q | q
  · exact h pins s σ H x v vl vu lo hi sl Q I rx hs pl pu q
  · exact h' pins s σ H x v vl vu lo hi sl Q I rx hs pl pu q
def tSl (r:V→Option Int→Option Int→Hp→VK→Prop) (te:TE) (tl th:TO):TE:=fun σ H Q=>te σ H fun x H1=>tl σ H1 fun l H2=>th σ H2 fun u H3=>r x l u H3 Q
theorem Zop {r:V→Option Int→Option Int→Hp→VK→Prop} (hr:SlR X r) (he:PE X e te) (hl:PO X lo tl) (hu:PO X hi th):PE X (.Subscript e (.Slice lo hi none p2) pos) (tSl r te tl th):=by
  intro pins s σ H Q I h
  refine Subscript_ (thn (he pins s σ H _ I h) fun v s1 ⟨x,H1,I1,r1,q1⟩=>?_)
  refine wpAny_Slice (thn (hl pins s1 σ H1 _ I1 q1) fun vl s2 ⟨l,H2,I2,pl,q2⟩=>thn (hu pins s2 σ H2 _ I2 q2) fun vu s3 ⟨u,H3,I3,pu,q3⟩=>?_)
  rw [evalPart_none]
  refine wpAny_pure ?_
  have I4:Inv X pins σ H3 { s3 with heap:=s3.heap.push { cls:=.type "slice",data:=.fields #[vl,vu,.none] } }:=I3.kept (t':=s3.toks) fun b ob q=>Heap.get?_push_of_some _ q
  obtain ⟨T,id,hT,ht,hg⟩:=hr pins { s3 with heap:=s3.heap.push { cls:=.type "slice",data:=.fields #[vl,vu,.none] } } σ H3 x v vl vu l u s3.heap.objs.size Q I4 r1 (Heap.IsSliceOf.new ..) pl pu q3
  show wpAny (model X.prog X.w) X.A (subscriptTail e (.Slice lo hi none p2) v (.ref s3.heap.objs.size)) (EP X pins σ Q) X.xe { s3 with heap:=s3.heap.push { cls:=.type "slice",data:=.fields #[vl,vu,.none] } }
  exact tail_any (ops:=[.ref s3.heap.objs.size,v]) ht hT hg (by with_unfolding_all rfl)
def Zkx (xs:List V) (lo hi:Option Int):List V:=(xs.drop (HT.sIx xs.length 0 lo)).take (HT.sIx xs.length xs.length hi-HT.sIx xs.length 0 lo)
theorem Zge (xs:List V) (lo hi:Option Int):(Zkx xs lo hi).length≤xs.length:=by
  unfold Zkx
  rw [List.length_take,List.length_drop]
  omega
def Zxx (K:PySem.W.Frag):V→Option Int→Option Int→Hp→VK→Prop:=fun x lo hi H Q=>∃a xs,x=.ref a∧SqT K H a xs∧
  ¬(HT.sIx xs.length 0 lo=0∧HT.sIx xs.length xs.length hi=xs.length)∧∀p,H p=none→Q (.ref p) (upd H p (.tup (Zkx xs lo hi)))
theorem Zsc:SlR X (Zxx X.K):=by
  intro pins s σ H x v vl vu lo hi sl Q I rx hs pl pu h
  obtain ⟨a,xs,rfl,hx,hw,q⟩:=h
  cases rx
  obtain ⟨its,r,ht,hz⟩:=I.tuple hx
  have hlen:its.toArray.size=xs.length:=by rw [List.size_toArray]; exact r.length.symm
  refine ⟨"tuple",_,PyProof.Rows.slot_tuple_getitem.lookup,ht.typeIs,?_⟩
  refine HT.getItem_tuple_cut ht hs pl pu (by rw [hlen]; exact hw) ?_ (by rw [hlen]; exact hz)
  rw [hlen]
  refine ⟨.ref s.heap.objs.size,_,I.laid (t':=s.toks) (o:=.tup (Zkx xs lo hi)) (fun b ob q=>Heap.get?_push_of_some _ q) (Nat.le_refl _) ?_,rfl,q _ (I.hok.fresh (Nat.le_refl _))⟩
  exact ⟨Nat.le_trans (Zge xs lo hi) hz,_,(r.drop (HT.sIx xs.length 0 lo)).take (HT.sIx xs.length xs.length hi-HT.sIx xs.length 0 lo),IsTup.new _ _⟩
def Zub (K:PySem.W.Frag):R2:=fun x y H Q=>∃a b xs ys,x=.ref a∧y=.ref b∧SqT K H a xs∧SqT K H b ys∧xs≠[]∧xs.length+ys.length≤sizeLine∧
  (ys=[]→Q (.ref a) H)∧(ys≠[]→∀p,H p=none→Q (.ref p) (upd H p (.tup (xs++ys))))
theorem Vals.nil_iff {xs:List V} {us:List Value} (r:Vals xs us):us=[]↔xs=[]:=by
  cases r with
  | nil=>simp
  | cons _ _=>simp
theorem op_catT:OpR X (binaryOp .Add) (Zub X.K):=by
  intro pins s σ H x y v u Q I rx ry h
  obtain ⟨a,b,xs,ys,rfl,rfl,ha,hb,hx,hz,q1,q2⟩:=h
  cases rx
  cases ry
  obtain ⟨its,r1,p1,_⟩:=I.tuple ha
  obtain ⟨its2,r2,p2,_⟩:=I.tuple hb
  refine HT.cat_tup p1 p2 (fun z=>hx (r1.nil_iff.mp z)) (fun z=>⟨.ref a,H,I,rfl,q1 (r2.nil_iff.mp z)⟩) (fun z=>?_) (by rw [←r1.length,←r2.length]; exact hz)
  refine ⟨.ref s.heap.objs.size,_,I.laid (t':=s.toks) (o:=.tup (xs++ys)) (fun b ob q=>Heap.get?_push_of_some _ q) (Nat.le_refl _) ?_,rfl,q2 (fun w=>z (r2.nil_iff.mpr w)) _ (I.hok.fresh (Nat.le_refl _))⟩
  exact ⟨by rw [List.length_append]; exact hz,_,r1.append r2,IsTup.new _ _⟩
end
end L2
namespace L2
open PySem PySem.Spec PyProof.Rows
def ixN (n:Nat) (i:Int):Option Nat:=if 0≤i then (if i<n then some i.toNat else none) else if -(n:Int)≤i then some (i+n).toNat else none
def atI {α:Type} (xs:List α) (i:Int):Option α:=(ixN xs.length i).bind fun j=>xs[j]?
theorem ZlL {n:Nat} {i:Int} {j:Nat} (h:ixN n i=some j):seqIndex? i n=some j∧j<n∧-(n:Int)≤i∧i<n:=by
  unfold ixN at h
  by_cases h0:0≤i
  · rw [if_pos h0] at h
    by_cases h1:i<n
    · rw [if_pos h1] at h
      have e:i.toNat=j:=Option.some.inj h
      exact ⟨by rw [seqIndex_of h0 h1,e],by omega,by omega,h1⟩
    · rw [if_neg h1] at h; cases h
  · rw [if_neg h0] at h
    by_cases h1 : -(n:Int)≤i
    · rw [if_pos h1] at h
      have e:(i+n).toNat=j:=Option.some.inj h
      exact ⟨by rw [seqIndex_neg (by omega) h1,e],by omega,h1,by omega⟩
    · rw [if_neg h1] at h; cases h
theorem ZiA {α:Type} {xs:List α} {i:Int} {v:α} (h:atI xs i=some v):∃j,seqIndex? i xs.length=some j∧xs[j]?=some v∧j<xs.length∧-(xs.length:Int)≤i∧i<xs.length:=by
  unfold atI at h
  cases e:ixN xs.length i with
  | none=>rw [e] at h; cases h
  | some j=>
    rw [e] at h
    obtain ⟨h1,h2,h3,h4⟩:=ZlL e
    exact ⟨j,h1,h,h2,h3,h4⟩
theorem ZgF {α:Type} {xs:List α} {j:Nat} {v:α} (h:xs[j]?=some v):atI xs (j:Int)=some v:=by
  have hj:j<xs.length:=(List.getElem?_eq_some_iff.mp h).1
  have e:ixN xs.length (j:Int)=some j:=by
    unfold ixN
    rw [if_pos (by omega),if_pos (by omega)]; simp
  unfold atI; rw [e]; exact h
def Zl4 (b:Expr):Prop:=∀o i,subscripted b false o i=operate [o,i] (getItem o i)
def IxR (X:Cx) (r:R2):Prop:=
  ∀(value slice:Expr) (pins:List (Addr×Obj)) (s:Shared) (σ:St) (H:Hp) (x y:V) (v u:Value) (Q:VK),Inv X pins σ H s→RelV x v→RelV y u→r x y H Q→
    subscripted slice false v u=operate [v,u] (getItem v u)→wpAny (model X.prog X.w) X.A (subscriptTail value slice v u) (EP X pins σ Q) X.xe s
def MtR (X:Cx) (id:String) (r:V→List V→Hp→VK→Prop):Prop:=
  ∀(pins:List (Addr×Obj)) (s:Shared) (σ:St) (H:Hp) (x:V) (xs:List V) (v:Value) (us:List Value) (Q:VK),Inv X pins σ H s→RelV x v→Vals xs us→r x xs H Q→
    wpAny (model X.prog X.w) X.A (call (.builtin id) (v::us)) (EP X pins σ Q) X.xe s
section
variable {X:Cx} {a b:Expr} {ta tb:TE} {pos:Pos}
theorem IxR.or {r r':R2} (h:IxR X r) (h':IxR X r'):IxR X (fun x y H Q=>r x y H Q∨r' x y H Q):=by
  intro value slice pins s σ H x y v u Q I rx ry q hs
  rcases q with q | q
  · exact h value slice pins s σ H x y v u Q I rx ry q hs
  · exact h' value slice pins s σ H x y v u Q I rx ry q hs
theorem Zuj {r:R2} (hr:IxR X r) (ha:PE X a ta) (hb:PE X b tb) (hs:Zl4 b):PE X (.Subscript a b pos) (tOp r ta tb):=by
  intro pins s σ H Q I h
  exact Subscript_ (Zs9 ha hb I h fun v u s2 x y H2 I2 rx ry q=>hr a b pins s2 σ H2 x y v u Q I2 rx ry q (hs _ _))
def Zua (K:PySem.W.Frag):R2:=fun x y H Q=>∃p xs i v,x=.ref p∧y=.int i∧SqL K H p xs∧atI xs i=some v∧Q v H
def Zt8 (K:PySem.W.Frag):R2:=fun x y H Q=>∃p xs i v,x=.ref p∧y=.int i∧SqT K H p xs∧atI xs i=some v∧Q v H
def Zt9:R2:=fun x y H Q=>∃z i c,x=.str z∧y=.int i∧z.length≤sizeLine∧atI z.cps.toList i=some c∧Q (.str ⟨#[c]⟩) H
theorem ix_list:IxR X (Zua X.K):=by
  intro value slice pins s σ H x y v u Q I rx ry h hs
  obtain ⟨p,xs,i,z,rfl,rfl,hq,he,q⟩:=h
  cases rx
  obtain ⟨t,rfl⟩:=ry
  obtain ⟨its,r,pl,hz⟩:=I.list hq
  obtain ⟨j,h1,h2,h3,h4,h5⟩:=ZiA he
  obtain ⟨w,ew,rw'⟩:=r.get h2
  have hl:=r.length
  have hn:=Ze3
  have fin:EP X pins σ Q w s:=⟨z,H,I,rw',q⟩
  by_cases h0:0≤i
  · have hj:i.toNat=j:=by
      rw [seqIndex_of h0 h5] at h1
      exact Option.some.inj h1
    exact item_listR pl.isList h0 (by omega) (by rw [hj]; simpa using ew) fin hs
  · have hj:(i+(its.toArray.size:Int)).toNat=j:=by
      rw [seqIndex_neg (by omega) h4] at h1
      rw [List.size_toArray,←hl]
      exact Option.some.inj h1
    exact subscriptTail_builtinR (x:=w) pl.isList.typeIs slot_list_getitem.lookup
      (wpAny_getItem_list_neg (Q:=fun r s'=>r=w∧EP X pins σ Q r s') pl.isList (by omega) (by rw [List.size_toArray]<;>omega) (by omega) (by rw [hj]; simpa using ew) ⟨rfl,fin⟩) hs
theorem ix_tup:IxR X (Zt8 X.K):=by
  intro value slice pins s σ H x y v u Q I rx ry h hs
  obtain ⟨p,xs,i,z,rfl,rfl,hq,he,q⟩:=h
  cases rx
  obtain ⟨t,rfl⟩:=ry
  obtain ⟨its,r,pl,hz⟩:=I.tuple hq
  obtain ⟨j,h1,h2,h3,h4,h5⟩:=ZiA he
  obtain ⟨w,ew,rw'⟩:=r.get h2
  have hl:=r.length
  have hn:=Ze3
  have fin:EP X pins σ Q w s:=⟨z,H,I,rw',q⟩
  exact subscriptTail_builtinR (x:=w) pl.typeIs slot_tuple_getitem.lookup
    (getItem_tuple (j:=j) (Q:=fun r s'=>r=w∧EP X pins σ Q r s') pl (by omega) (by omega) (by rw [List.size_toArray,←hl]; exact h1) (by simpa using ew) ⟨rfl,fin⟩) hs
theorem Zs2:IxR X Zt9:=by
  intro value slice pins s σ H x y v u Q I rx ry h hs
  obtain ⟨z,i,c,rfl,rfl,hz,he,q⟩:=h
  obtain ⟨t,rfl⟩:=rx
  obtain ⟨t',rfl⟩:=ry
  obtain ⟨j,h1,h2,h3,h4,h5⟩:=ZiA he
  have hl:z.cps.toList.length=z.length:=by simp [Str.length]
  rw [hl] at h1 h4 h5
  have hn:=Ze3
  exact tail_any (typeIs_str s z t) slot_str_getitem.lookup (getItem_str (c:=c) (by
    have e1:decide (i < -(2 ^ 63:Int))=false:=decide_eq_false (by omega)
    have e2:decide (i≥2 ^ 63)=false:=decide_eq_false (by omega)
    rw [e1,e2,Bool.or_false]) (by rw [h1]; simpa using h2) ⟨.str ⟨#[c]⟩,H,I.tok _,⟨_,rfl⟩,q⟩) hs
def rIx (K:PySem.W.Frag):R2:=fun x y H Q=>Zua K x y H Q∨Zt8 K x y H Q∨Zt9 x y H Q
theorem Zs3:IxR X (rIx X.K):=ix_list.or (ix_tup.or Zs2)
theorem ZkT (its:List Value) (n j:Nat) (u:Value):Obj.mapSeq (·.setIfInBounds j u) { cls:=.type "list",data:=.seq its.toArray n }={ cls:=.type "list",data:=.seq (its.set j u).toArray n }:=by
  simp [Obj.mapSeq]
theorem Inv.lst {pins:List (Addr×Obj)} {σ:St} {H:Hp} {s:Shared} {p:Addr} {xs:List V} (I:Inv X pins σ H s) (h:H p=some (.lst xs)) :
    ∃(its:List Value) (n:Nat),Vals xs its∧s.heap.get? p=some { cls:=.type "list",data:=.seq its.toArray n }∧xs.length≤sizeLine:=by
  obtain ⟨z,its,n,r,e⟩:=I.hok p _ h
  exact ⟨its,n,r,e,z⟩
theorem Inv.lstUpd {pins:List (Addr×Obj)} {σ:St} {H:Hp} {s:Shared} {p:Addr} {xs ys:List V} {its its':List Value} {n n':Nat} {f:Obj→Obj} (I:Inv X pins σ H s) (h:H p=some (.lst xs))
    (ho:s.heap.get? p=some { cls:=.type "list",data:=.seq its.toArray n }) (hf:f { cls:=.type "list",data:=.seq its.toArray n }={ cls:=.type "list",data:=.seq its'.toArray n' }) (r:Vals ys its') (hz:ys.length≤sizeLine) (t:Nat) :
    Inv X pins σ (upd H p (.lst ys)) { s with heap:=s.heap.update p f,toks:=t }:=by
  have e:(s.heap.update p f).get? p=some { cls:=.type "list",data:=.seq its'.toArray n' }:=by
    rw [Heap.get?_update_self f ho (by rw [hf]<;>rfl),hf]
  refine I.write (x:=p) (e:=p) (by rw [h]; trivial) (.inl rfl) (fun b u hb q=>(Heap.get?_update_other _ _ (Ne.symm hb)).trans q) ⟨_,e⟩ ?_
  exact ⟨hz,its',n',r,e⟩
def Zrs:V→V→V→Hp→(Hp→Prop)→Prop:=fun o i v H Q=>∃p xs k j,o=.ref p∧i=.int k∧H p=some (.lst xs)∧ixN xs.length k=some j∧Q (upd H p (.lst (xs.set j v)))
theorem Zod:ZuX X Zrs:=by
  intro pins s σ H o i v ov iv u Q I ro ri rv h
  obtain ⟨p,xs,k,j,rfl,rfl,hp,hj,q⟩:=h
  cases ro
  obtain ⟨t,rfl⟩:=ri
  obtain ⟨its,n,r,ho,hz⟩:=I.lst hp
  obtain ⟨h1,h2,h3,h4⟩:=ZlL hj
  have hl:=r.length
  have hn:=Ze3
  have I':Inv X pins σ (upd H p (.lst (xs.set j v))) { s with heap:=s.heap.update p (Obj.mapSeq (·.setIfInBounds j u)) }:=
    I.lstUpd hp ho (ZkT its n j u) (r.set rv j) (by rw [List.length_set]; exact hz) s.toks
  by_cases h0:0≤k
  · have hk:k.toNat=j:=by
      rw [seqIndex_of h0 h4] at h1
      exact Option.some.inj h1
    exact PySem.W.ki_setAt ho h0 (by omega) (by rw [List.size_toArray,←hl]; exact h4) (by rw [hk]; exact ⟨_,I',q⟩)
  · have hk:(k+(its.toArray.size:Int)).toNat=j:=by
      rw [seqIndex_neg (by omega) h3] at h1
      rw [List.size_toArray,←hl]
      exact Option.some.inj h1
    exact PySem.W.ki_setBack ho (by omega) (by rw [List.size_toArray,←hl]; exact h3) (by omega) (by rw [hk]; exact ⟨_,I',q⟩)
theorem Zh7 (lo hi:Option Int) (n:Nat):(sliceBounds lo hi none n).1=((HT.sIx n 0 lo:Nat):Int)∧(sliceBounds lo hi none n).2.1=((HT.sIx n n hi:Nat):Int)∧(sliceBounds lo hi none n).2.2=1:=by
  refine ⟨?_,?_,rfl⟩
  · cases lo with
    | none=>simp [sliceBounds,HT.sIx]
    | some i=>
      simp only [sliceBounds,HT.sIx,Option.getD_none,show (1:Int) > 0 by decide,if_true]
      by_cases h:i<0
      · simp only [h,if_true]<;>omega
      · simp only [h,if_false]<;>omega
  · cases hi with
    | none=>simp [sliceBounds,HT.sIx]
    | some i=>
      simp only [sliceBounds,HT.sIx,Option.getD_none,show (1:Int) > 0 by decide,if_true]
      by_cases h:i<0
      · simp only [h,if_true]<;>omega
      · simp only [h,if_false]<;>omega
theorem Zhl (its:List Value) (lo hi:Option Int):slicePick its.toArray lo hi none=((its.drop (HT.sIx its.length 0 lo)).take (HT.sIx its.length its.length hi-HT.sIx its.length 0 lo)).toArray:=by
  obtain ⟨h1,h2,h3⟩:=Zh7 lo hi its.toArray.size
  unfold slicePick
  rw [h1,h2,h3]
  simp only [sliceRange_one,pick_run,List.size_toArray]<;>rfl
def Zt6 (K:PySem.W.Frag):V→Option Int→Option Int→Hp→VK→Prop:=fun x lo hi H Q=>∃a xs,x=.ref a∧SqL K H a xs∧∀p,H p=none→Q (.ref p) (upd H p (.lst (Zkx xs lo hi)))
theorem sl_list:SlR X (Zt6 X.K):=by
  intro pins s σ H x v vl vu lo hi sl Q I rx hs pl pu h
  obtain ⟨a,xs,rfl,hx,q⟩:=h
  cases rx
  obtain ⟨its,r,ht,hz⟩:=I.list hx
  have hlen:=r.length
  refine ⟨"list",_,slot_list_getitem.lookup,ht.isList.typeIs,?_⟩
  refine wpAny_getItem_list_slice ht.isList hs pl pu .none (by simp) ?_ (by rw [List.size_toArray]<;>omega)
  rw [Zhl,←hlen]
  refine ⟨.ref s.heap.objs.size,_,I.laid (t':=s.toks) (o:=.lst (Zkx xs lo hi)) (fun b ob q=>Heap.get?_push_of_some _ q) (Nat.le_refl _) ?_,rfl,q _ (I.hok.fresh (Nat.le_refl _))⟩
  exact ⟨Nat.le_trans (Zge xs lo hi) hz,_,0,(r.drop (HT.sIx xs.length 0 lo)).take (HT.sIx xs.length xs.length hi-HT.sIx xs.length 0 lo),Heap.get?_push_size _ rfl⟩
def Zc1:V→Bool
  | .non=>true
  | .bl _=>true
  | .int _=>true
  | .str _=>true
  | _=>false
def eqV:V→V→Bool
  | .non,.non=>true
  | .bl a,.bl b=>a == b
  | .bl a,.int b=>(if a then 1 else 0) == b
  | .int a,.bl b=>a == (if b then 1 else 0)
  | .int a,.int b=>a == b
  | .str a,.str b=>a == b
  | _,_=>false
theorem Zs6 {A:Around} {s:Shared} {y x:V} {u v:Value} (ry:RelV y u) (rx:RelV x v) (fy:Zc1 y=true) (fx:Zc1 x=true):SeqAt.EqAt A s u v (eqV y x):=by
  cases y with
  | non=>
    cases ry
    cases x with
    | non=>cases rx; exact SeqAt.EqAt.same _
    | bl b=>cases rx; exact SeqAt.EqAt.none_bool b
    | int b=>obtain ⟨t,rfl⟩:=rx; exact SeqAt.EqAt.none_int b t
    | str b=>obtain ⟨t,rfl⟩:=rx; exact SeqAt.EqAt.none_str b t
    | _=>exact absurd (show false=true from fx) Bool.false_ne_true
  | bl a=>
    cases ry
    cases x with
    | non=>cases rx; exact SeqAt.EqAt.bool_none a
    | bl b=>cases rx; exact SeqAt.EqAt.bool_bool a b
    | int b=>obtain ⟨t,rfl⟩:=rx; exact SeqAt.EqAt.bool_int a b t
    | str b=>obtain ⟨t,rfl⟩:=rx; exact SeqAt.EqAt.bool_str a b t
    | _=>exact absurd (show false=true from fx) Bool.false_ne_true
  | int a=>
    obtain ⟨t',rfl⟩:=ry
    cases x with
    | non=>cases rx; exact SeqAt.EqAt.int_none a t'
    | bl b=>cases rx; exact SeqAt.EqAt.int_bool a t' b
    | int b=>obtain ⟨t,rfl⟩:=rx; exact SeqAt.EqAt.int_int a t' b t
    | str b=>obtain ⟨t,rfl⟩:=rx; exact SeqAt.EqAt.int_str a t' b t
    | _=>exact absurd (show false=true from fx) Bool.false_ne_true
  | str a=>
    obtain ⟨t',rfl⟩:=ry
    cases x with
    | non=>cases rx; exact SeqAt.EqAt.str_none a t'
    | bl b=>cases rx; exact SeqAt.EqAt.str_bool a t' b
    | int b=>obtain ⟨t,rfl⟩:=rx; exact SeqAt.EqAt.str_int a t' b t
    | str b=>obtain ⟨t,rfl⟩:=rx; exact SeqAt.EqAt.str_str a t' b t
    | _=>exact absurd (show false=true from fx) Bool.false_ne_true
  | _=>exact absurd (show false=true from fy) Bool.false_ne_true
def eqU (x:V) (u:Value):Bool:=match u with
  | .none=>eqV .non x
  | .bool b=>eqV (.bl b) x
  | .int i _=>eqV (.int i) x
  | .str z _=>eqV (.str z) x
  | _=>false
theorem Zpa {x y:V} {u:Value} (r:RelV y u) (f:Zc1 y=true):eqU x u=eqV y x:=by
  cases y with
  | non=>cases r; rfl
  | bl b=>cases r; rfl
  | int i=>obtain ⟨t,rfl⟩:=r; rfl
  | str z=>obtain ⟨t,rfl⟩:=r; rfl
  | _=>exact absurd (show false=true from f) Bool.false_ne_true
theorem ZfG {x:V}:∀{xs:List V} {us:List Value},Vals xs us→xs.all Zc1=true→us.any (eqU x)=xs.any fun y=>eqV y x
  | _,_,.nil,_=>rfl
  | y::xs,u::us,.cons r t,f=>by
    rw [List.all_cons,Bool.and_eq_true] at f
    rw [List.any_cons,List.any_cons,Zpa r f.1,ZfG t f.2]
theorem Zee {A:Around} {s:Shared} {x:V} {v:Value} (rx:RelV x v) (fx:Zc1 x=true):∀{xs:List V} {us:List Value},Vals xs us→xs.all Zc1=true→∀u∈us,SeqAt.EqAt A s u v (eqU x u)
  | _,_,.nil,_=>fun u hu=>by cases hu
  | y::xs,u::us,.cons r t,f=>fun u' hu=>by
    rw [List.all_cons,Bool.and_eq_true] at f
    rcases List.mem_cons.mp hu with rfl | hu
    · rw [Zpa r f.1]; exact Zs6 r rx f.1 fx
    · exact Zee rx fx t f.2 u' hu
def inV (x:V) (xs:List V):Bool:=xs.any fun y=>eqV y x
def rIn (K:PySem.W.Frag) (neg:Bool):R2:=fun x y H Q=>∃p xs,y=.ref p∧(SqL K H p xs∨SqT K H p xs)∧Zc1 x=true∧xs.all Zc1=true∧Q (.bl (if neg then !inV x xs else inV x xs)) H
theorem Zmj:OpR X (compareOp .In) (rIn X.K false):=by
  intro pins s σ H x y v u Q I rx ry h
  obtain ⟨p,xs,rfl,hq,fx,fs,q⟩:=h
  cases ry
  rcases hq with hq | hq
  · obtain ⟨its,r,pl,hz⟩:=I.list hq
    refine SeqAt.in_listAt (eqU x) pl.isList (fun w hw=>Zee rx fx r fs w (by simpa using hw)) ⟨.bl _,H,I,rfl,?_⟩
    rw [show its.toArray.any (eqU x)=its.any (eqU x) by simp,ZfG r fs]
    exact q
  · obtain ⟨its,r,pl,hz⟩:=I.tuple hq
    refine SeqAt.in_tupleAt (eqU x) pl (fun w hw=>Zee rx fx r fs w (by simpa using hw)) ⟨.bl _,H,I,rfl,?_⟩
    rw [show its.toArray.any (eqU x)=its.any (eqU x) by simp,ZfG r fs]
    exact q
theorem Zid:OpR X (compareOp .NotIn) (rIn X.K true):=by
  intro pins s σ H x y v u Q I rx ry h
  obtain ⟨p,xs,rfl,hq,fx,fs,q⟩:=h
  cases ry
  rcases hq with hq | hq
  · obtain ⟨its,r,pl,hz⟩:=I.list hq
    refine SeqAt.notIn_listAt (eqU x) pl.isList (fun w hw=>Zee rx fx r fs w (by simpa using hw)) ⟨.bl _,H,I,rfl,?_⟩
    rw [show its.toArray.any (eqU x)=its.any (eqU x) by simp,ZfG r fs]
    exact q
  · obtain ⟨its,r,pl,hz⟩:=I.tuple hq
    refine SeqAt.notIn_tupleAt (eqU x) pl (fun w hw=>Zee rx fx r fs w (by simpa using hw)) ⟨.bl _,H,I,rfl,?_⟩
    rw [show its.toArray.any (eqU x)=its.any (eqU x) by simp,ZfG r fs]
    exact q
theorem Zix:CallR X (.builtin "len") (fun xs H Q=>∃p ys,xs=[.ref p]∧(SqL X.K H p ys∨SqT X.K H p ys)∧Q (.int ys.length) H):=by
  intro pins s σ H xs us Q I r h
  obtain ⟨p,ys,rfl,hq,q⟩:=h
  obtain ⟨u,rfl,rx⟩:=Zhu r
  cases rx
  have hn:=Ze3
  rcases hq with hq | hq
  · obtain ⟨its,r',pl,hz⟩:=I.list hq
    have hlen:=r'.length
    exact Calls.call_len_list pl.isList (by simp only [List.size_toArray]<;>omega) ⟨.int ys.length,H,I.tok _,⟨s.toks+1,by rw [List.size_toArray,hlen]⟩,q⟩
  · obtain ⟨its,r',pl,hz⟩:=I.tuple hq
    have hlen:=r'.length
    exact len_tuple pl (by simp only [List.size_toArray]<;>omega) ⟨.int ys.length,H,I.tok _,⟨s.toks+1,by rw [List.size_toArray,hlen]⟩,q⟩
theorem call_len_str:CallR X (.builtin "len") (fun xs H Q=>∃z,xs=[.str z]∧z.length≤sizeLine∧Q (.int z.length) H):=by
  intro pins s σ H xs us Q I r h
  obtain ⟨z,rfl,hz,q⟩:=h
  obtain ⟨u,rfl,t,rfl⟩:=Zhu r
  have hn:=Ze3
  exact len_str (by omega) ⟨.int z.length,H,I.tok _,⟨_,rfl⟩,q⟩
theorem CallR.or {f:Value} {r r':List V→Hp→VK→Prop} (h:CallR X f r) (h':CallR X f r'):CallR X f (fun xs H Q=>r xs H Q∨r' xs H Q):=by
  intro pins s σ H xs us Q I rs q
  rcases q with q | q
  · exact h pins s σ H xs us Q I rs q
  · exact h' pins s σ H xs us Q I rs q
theorem Ziw:CallR X (.type "list") (fun xs H Q=>∃p ys,xs=[.ref p]∧(SqL X.K H p ys∨SqT X.K H p ys)∧∀l,H l=none→Q (.ref l) (upd H l (.lst ys))):=by
  intro pins s σ H xs us Q I r h
  obtain ⟨p,ys,rfl,hq,q⟩:=h
  obtain ⟨u,rfl,rx⟩:=Zhu r
  cases rx
  have fin:∀(its:List Value),Vals ys its→ys.length≤sizeLine→∀(h':Heap) (c':Nat),(∀b o',s.heap.get? b=some o'→h'.get? b=some o')→
      h'.get? s.heap.objs.size=some { cls:=.type "list",dict:=none,data:=.seq its.toArray c',slots:=#[] }→EP X pins σ Q (.ref s.heap.objs.size) { s with heap:=h' }:=fun its r' hz h' c' kp e=>
    ⟨.ref s.heap.objs.size,_,I.laid (t':=s.toks) kp (Nat.le_refl _) (show ObjOk X.prog X.w _ h' _ (.lst ys) from ⟨hz,its,c',r',e⟩),rfl,q _ (I.hok.fresh (Nat.le_refl _))⟩
  rcases hq with hq | hq
  · obtain ⟨its,r',pl,hz⟩:=I.list hq
    have hlen:=r'.length
    obtain ⟨o,ho,hc,n,hd⟩:=pl.isList
    exact call_list_seq p (.inl rfl) ho hc hd (fun h' c' kp e=>fin its r' hz h' c' kp e) (by simp only [List.size_toArray]<;>omega)
  · obtain ⟨its,r',pl,hz⟩:=I.tuple hq
    have hlen:=r'.length
    obtain ⟨o,ho,hc,n,hd⟩:=pl
    exact call_list_seq p (.inr rfl) ho hc hd (fun h' c' kp e=>fin its r' hz h' c' kp e) (by simp only [List.size_toArray]<;>omega)
theorem Zhq:CallR X (.type "tuple") (fun xs H Q=>∃p ys,xs=[.ref p]∧((SqL X.K H p ys∧∀l,H l=none→Q (.ref l) (upd H l (.tup ys)))∨(SqT X.K H p ys∧Q (.ref p) H))):=by
  intro pins s σ H xs us Q I r h
  obtain ⟨p,ys,rfl,h⟩:=h
  obtain ⟨u,rfl,rx⟩:=Zhu r
  cases rx
  rcases h with ⟨hq,q⟩ | ⟨hq,q⟩
  · obtain ⟨its,r',pl,hz⟩:=I.list hq
    have hlen:=r'.length
    refine call_tuple_list pl.isList (fun h' kp=>?_) (by simp only [List.size_toArray]<;>omega)
    have I1:Inv X pins σ H { s with heap:=h' }:=I.kept (t':=s.toks) kp
    have I2:Inv X pins σ (upd H h'.objs.size (.tup ys)) { s with heap:=h'.push { cls:=.type "tuple",data:=.seq its.toArray } }:=
      I1.laid (t':=s.toks) (fun b o e=>Heap.get?_push_of_some _ e) (Nat.le_refl _) (show ObjOk X.prog X.w _ _ _ (.tup ys) from ⟨hz,its,r',IsTup.new _ _⟩)
    exact ⟨.ref h'.objs.size,_,I2,rfl,q _ (I1.hok.fresh (Nat.le_refl _))⟩
  · obtain ⟨its,r',pl,hz⟩:=I.tuple hq
    exact call_tuple_same pl ⟨.ref p,H,I,rfl,q⟩
def tyV (K:PySem.W.Frag) (T:String) (x:V) (H:Hp):Prop:=match x with
  | .str _=>T = "str"
  | .int _=>T = "int"
  | .ref p=>(T = "list"∧∃xs,SqL K H p xs)∨(T = "tuple"∧∃o,K.lookup p=some o∧o.cls=.type "tuple"∧o.dict=none)∨
      (T = "dict"∧((∃kvs,H p=some (.dK kvs))∨∃kvs,H p=some (.dT kvs)))∨(T = "set"∧∃S n,H p=some (.set S n))
  | _=>False
theorem ZrS {pins:List (Addr×Obj)} {σ:St} {H:Hp} {s:Shared} {T:String} {x:V} {v:Value} (I:Inv X pins σ H s) (r:RelV x v) (ty:tyV X.K T x H) :
    s.TypeIs v T∧∀a,v=.ref a→∃ob,s.heap.get? a=some ob∧ob.dict=none:=by
  cases x with
  | str z=>
    obtain ⟨t,rfl⟩:=r
    cases (show T = "str" from ty)
    exact ⟨typeIs_str s z t,fun _ e=>nomatch e⟩
  | int i=>
    obtain ⟨t,rfl⟩:=r
    cases (show T = "int" from ty)
    exact ⟨typeIs_int s i t,fun _ e=>nomatch e⟩
  | ref p=>
    cases r
    rcases ty with ⟨rfl,xs,hq⟩ | ⟨rfl,o,hk,hc,hd⟩ | ⟨rfl,hk⟩ | ⟨rfl,S,n,hk⟩
    · obtain ⟨its,_,pl,_⟩:=I.list hq
      refine ⟨pl.isList.typeIs,fun a e=>?_⟩
      cases e
      obtain ⟨o,n,e,c,hd,_⟩:=pl
      exact ⟨o,e,hd⟩
    · refine ⟨⟨o,I.kIn p o hk,hc⟩,fun a e=>?_⟩
      cases e
      exact ⟨o,I.kIn _ o hk,hd⟩
    · have z:∃o,s.heap.get? p=some o∧o.ExactDict:=by
        rcases hk with ⟨kvs,hk⟩ | ⟨kvs,hk⟩
        · obtain ⟨_,_,_,_,o,_,_,e,ex,_⟩:=I.hok p _ hk
          exact ⟨o,e,ex⟩
        · obtain ⟨_,_,_,_,o,_,_,e,ex,_⟩:=I.hok p _ hk
          exact ⟨o,e,ex⟩
      obtain ⟨o,e,ex⟩:=z
      refine ⟨⟨o,e,ex.1⟩,fun a e2=>?_⟩
      cases e2
      exact ⟨o,e,ex.2.1⟩
    · obtain ⟨o,_,_,_,e,ex,_⟩:=I.hok p _ hk
      refine ⟨⟨o,e,ex.1⟩,fun a e2=>?_⟩
      cases e2
      exact ⟨o,e,ex.2.1⟩
  | _=>exact False.elim ty
def tBM (K:PySem.W.Frag) (T:String) (r:V→List V→Hp→VK→Prop) (to:TE) (t:TA):TE:=fun σ H Q=>to σ H fun x H1=>tyV K T x H1∧t σ H1 fun xs H2=>r x xs H2 Q
variable {o e:Expr} {es:List Expr} {to:TE} {t:TA} {name:Str} {apos cpos:Pos} {T id:String} {r:V→List V→Hp→VK→Prop}
theorem Zru (pa:PlainAttrs T) (slot:Slot T name id) (hty:typeOf (.builtin id)=pure (.type "method_descriptor")) (hm:MtR X id r) (ho:PE X o to) (ha:PA X (e::es) t)
    (hbase:attributeBase o name X.env (eval o X.env)=eval o X.env:=by rfl)
    (hfew:((backTo cpos (starEach (e::es) X.env)).all (fun x=>!x.1) && (backToKw cpos (keywordEach [] X.env)).all (fun x=>x.1.isSome)
      && decide ((e::es).length+([]:List Keyword).length+(if ([]:List Keyword).isEmpty then 0 else 1)<30))=true:=by rfl)
    (hline:(apos.endLine == cpos.line)=true:=by rfl) (hs:starEach (e::es) X.env=(false,eval e X.env)::starEach es X.env:=by rfl) (hplain:(backTo cpos (starEach es X.env)).any (·.1)=false:=by rfl) :
    PE X (.Call (.Attribute o name apos) (e::es) [] cpos) (tBM X.K T r to t):=by
  intro pins s σ H Q I h
  refine wpAny_Call_method_late hbase hfew hline rfl (thn (ho pins s σ H _ I h) fun v s1 ⟨x,H1,I1,r1,ty,q1⟩=>?_)
  obtain ⟨h1,h2⟩:=ZrS I1 r1 ty
  refine ⟨T,id,pa,slot,hty,h1,h2,?_⟩
  have hA:=ha cpos pins s1 σ H1 _ I1 q1
  rw [hs] at hA ⊢
  refine Calls.callWith_builtin (by show (false || (backTo cpos (starEach es X.env)).any (·.1))=false; rw [hplain]<;>rfl) (Calls.evalArgs_plain ?_)
  exact thn hA fun us s2 ⟨vs,H2,I2,r2,q2⟩=>hm pins s2 σ H2 x vs v us Q I2 r1 r2 q2
end
end L2
namespace L2
open PySem PySem.Spec PyProof.Rows
def MtM (X:Cx) (id:String) (r:V→List V→Hp→VK→Prop):Prop:=
  ∀(pins:List (Addr×Obj)) (s:Shared) (σ:St) (H:Hp) (x:V) (xs:List V) (v:Value) (us:List Value) (Q:VK),Inv X pins σ H s→RelV x v→Vals xs us→r x xs H Q→
    wpAny (model X.prog X.w) X.A (call (.builtin id) (v::us)) (EP X pins σ Q) X.xe s
theorem Vals.one:∀{x:V} {us:List Value},Vals [x] us→∃u,us=[u]∧RelV x u
  | _,_,.cons r .nil=>⟨_,rfl,r⟩
theorem Vals.rep {xs:List V} {us:List Value} (h:Vals xs us):∀k:Nat,Vals (List.replicate k xs).flatten (List.replicate k us).flatten
  | 0=>.nil
  | k+1=>by
    rw [List.replicate_succ,List.replicate_succ,List.flatten_cons,List.flatten_cons]
    exact Vals.append h (Vals.rep h k)
theorem ZeE (its:List Value):∀(k:Nat) (acc:List Value),
    List.foldl (fun x1 x2=>x1++x2) acc.toArray (List.replicate k its.toArray)=(acc++(List.replicate k its).flatten).toArray
  | 0,acc=>by simp
  | k+1,acc=>by
    have e:acc.toArray++its.toArray=(acc++its).toArray:=by simp
    have e2:(acc++its)++(List.replicate k its).flatten=acc++(List.replicate (k+1) its).flatten:=by
      rw [List.replicate_succ,List.flatten_cons,List.append_assoc]
    rw [←e2,←ZeE its k (acc++its),←e,List.replicate_succ,List.foldl_cons]
section
variable {X:Cx} {pins:List (Addr×Obj)} {σ:St} {H:Hp} {s:Shared} {l b:Addr} {xs ys zs:List V}
theorem Inv.lset {its its':List Value} {n:Nat} {f:Array Value→Array Value} {t':Nat} (I:Inv X pins σ H s) (hH:H l=some (.lst xs))
    (e:s.heap.get? l=some { cls:=.type "list",data:=.seq its.toArray n }) (hf:f its.toArray=its'.toArray) (hv:Vals ys its') (hz:ys.length≤sizeLine) :
    Inv X pins σ (upd H l (.lst ys)) { s with heap:=s.heap.update l (Obj.mapSeq f),toks:=t' }:=by
  have q:=PySem.IsL.update e f
  rw [hf] at q
  refine I.write (x:=l) (e:=l) (by rw [hH]; exact trivial) (.inl rfl) (fun b' u hb hu=>(Heap.get?_update_other s.heap (Obj.mapSeq f) (Ne.symm hb)).trans hu) ⟨_,q⟩ ?_
  exact ⟨hz,its',_,hv,q⟩
theorem Inv.lnew {its:List Value} {t':Nat} (I:Inv X pins σ H s) (hv:Vals ys its) (hz:ys.length≤sizeLine) :
    Inv X pins σ (upd H s.heap.objs.size (.lst ys)) { s with heap:=s.heap.push { cls:=.type "list",data:=.seq its.toArray },toks:=t' }:=
  I.laid (fun _ _ q=>Heap.get?_push_of_some _ q) (Nat.le_refl _) ⟨hz,its,0,hv,Heap.get?_push_size _ rfl⟩
theorem Inv.fresh (I:Inv X pins σ H s):H s.heap.objs.size=none:=I.hok.fresh (Nat.le_refl _)
theorem Inv.lstM (I:Inv X pins σ H s) (hH:H l=some (.lst xs)):xs.length≤sizeLine∧∃(its:List Value) (n:Nat),Vals xs its∧xs.length=its.length∧s.heap.get? l=some { cls:=.type "list",data:=.seq its.toArray n }:=by
  obtain ⟨z,its,n,r,e⟩:=I.hok l _ hH
  exact ⟨z,its,n,r,r.length,e⟩
theorem Zfn {n:Nat} (h:n≤sizeLine):Builtin.List.listTooLong n=false:=by
  unfold Builtin.List.listTooLong
  exact decide_eq_false (by omega)
end
section
variable {X:Cx}
def Zh9:V→List V→Hp→VK→Prop:=fun x vs H Q=>∃l xs y,x=.ref l∧vs=[y]∧H l=some (.lst xs)∧xs.length<sizeLine∧Q .non (upd H l (.lst (xs++[y])))
theorem ZhH:MtM X "list.append" Zh9:=by
  intro pins s σ H x vs v us Q I rx rv h
  obtain ⟨l,xs,y,rfl,rfl,hH,hz,q⟩:=h
  cases rx
  obtain ⟨u,rfl,ru⟩:=rv.one
  obtain ⟨z,its,n,r,hl,e⟩:=I.lstM hH
  refine call_meets F.slot_list_append ⟨_,e,rfl⟩ F.entry_list_append (F.args_list_append_2 _ _) (PySem.list_append l its.toArray n u (by rw [List.size_toArray]; omega)) ⟨e,?_⟩
  refine ⟨.non,_,I.lset (its':=its++[u]) hH e (by simp) (r.append (.cons ru .nil)) ?_,rfl,q⟩
  rw [List.length_append,List.length_singleton]
  omega
def Zp9:V→List V→Hp→VK→Prop:=fun x vs H Q=>∃l b xs zs,x=.ref l∧vs=[.ref b]∧H l=some (.lst xs)∧H b=some (.lst zs)∧xs.length+zs.length≤sizeLine∧Q .non (upd H l (.lst (xs++zs)))
theorem Ztv:MtM X "list.extend" Zp9:=by
  intro pins s σ H x vs v us Q I rx rv h
  obtain ⟨l,b,xs,zs,rfl,rfl,hH,hB,hz,q⟩:=h
  cases rx
  obtain ⟨u,rfl,ru⟩:=rv.one
  cases ru
  obtain ⟨z,its,n,r,hl,e⟩:=I.lstM hH
  obtain ⟨z2,its2,n2,r2,hl2,e2⟩:=I.lstM hB
  have hsz:its.toArray.size+its2.toArray.size≤sizeLine:=by rw [List.size_toArray,List.size_toArray]; omega
  have hlong:¬(!its.toArray.isEmpty && Builtin.List.listTooLong (its.toArray.size+its2.toArray.size))=true:=by
    rw [Zfn hsz,Bool.and_false]
    exact Bool.false_ne_true
  refine call_meets F.slot_list_extend ⟨_,e,rfl⟩ F.entry_list_extend (F.args_list_extend_2 _ _)
    (AutoSeq1.list_extend_list_list_0 l its.toArray n b its2.toArray n2 hlong (by rw [List.size_toArray]; omega) (by omega)) ⟨e,e2,?_⟩
  refine ⟨.non,_,I.lset (its':=its++its2) hH e (by simp) (r.append r2) ?_,rfl,q⟩
  rw [List.length_append]
  omega
def Zxz:R2:=fun x y H Q=>∃l b xs zs,x=.ref l∧y=.ref b∧H l=some (.lst xs)∧H b=some (.lst zs)∧xs.length+zs.length≤sizeLine∧∀p,H p=none→Q (.ref p) (upd H p (.lst (xs++zs)))
theorem ZsN:OpR X (binaryOp .Add) Zxz:=by
  intro pins s σ H x y v u Q I rx ry h
  obtain ⟨l,b,xs,zs,rfl,rfl,hH,hB,hz,q⟩:=h
  cases rx
  cases ry
  obtain ⟨z,its,n,r,hl,e⟩:=I.lstM hH
  obtain ⟨z2,its2,n2,r2,hl2,e2⟩:=I.lstM hB
  refine PySem.P.add_list e e2 ?_ (by rw [List.size_toArray,List.size_toArray]; omega)
  have ea:its.toArray++its2.toArray=(its++its2).toArray:=by simp
  rw [ea]
  exact ⟨.ref _,_,I.lnew (t':=s.toks) (r.append r2) (by rw [List.length_append]; omega),rfl,q _ I.fresh⟩
def Zxy:R2:=fun x y H Q=>∃l k xs,x=.ref l∧y=.int k∧H l=some (.lst xs)∧-(2 ^ 63)≤k∧k<2 ^ 63∧xs.length*k.toNat≤sizeLine∧
  ∀p,H p=none→Q (.ref p) (upd H p (.lst (List.replicate k.toNat xs).flatten))
theorem Zii {α:Type} (xs:List α) (k:Nat):(List.replicate k xs).flatten.length=k*xs.length:=by
  induction k with
  | zero=>simp
  | succ k ih=>rw [List.replicate_succ,List.flatten_cons,List.length_append,ih,Nat.succ_mul,Nat.add_comm]
theorem ZsI:OpR X (binaryOp .Mult) Zxy:=by
  intro pins s σ H x y v u Q I rx ry h
  obtain ⟨l,k,xs,rfl,rfl,hH,h1,h2,hz,q⟩:=h
  cases rx
  obtain ⟨t,rfl⟩:=ry
  obtain ⟨z,its,n,r,hl,e⟩:=I.lstM hH
  have hlen:its.toArray.size*k.toNat≤sizeLine:=by rw [List.size_toArray,←hl]; exact hz
  have hcap:¬its.toArray.size*k.toNat > (2 ^ 63-1)/8:=by
    have:(sizeLine:Nat)≤(2 ^ 63-1)/8:=by decide
    omega
  have hfit:¬(!Builtin.List.listFitsIndex k)=true:=by
    rw [fitsIndex_both h1 h2]
    exact Bool.false_ne_true
  have hlong:¬Builtin.List.listTooLong (its.toArray.size*k.toNat)=true:=by
    rw [Zfn hlen]
    exact Bool.false_ne_true
  have hnew:List.foldl (fun x1 x2=>x1++x2) #[] (List.replicate (if its.toArray.isEmpty=true then 0 else k.toNat) its.toArray)=(List.replicate k.toNat its).flatten.toArray:=by
    have f0:∀m:Nat,List.foldl (fun x1 x2=>x1++x2) #[] (List.replicate m its.toArray)=(List.replicate m its).flatten.toArray:=fun m=>by
      have:=ZeE its m []
      rw [List.nil_append] at this
      exact this
    rw [f0]
    cases its with
    | nil=>simp
    | cons a r'=>rw [if_neg (by simp)]
  refine wpAny_binaryOp_repeat_ref (T:="list") (U:="int") (by decide) ⟨_,e,rfl⟩ (fun s'=>typeIs_int s' k t) noFill_list_mul F.fills_int_mul F.slot_int_rmul repeat_list F.slot_int_index.lookup
    (call_meets F.slot_int_rmul (typeIs_int s k t) F.entry_int_rmul (F.args_int_rmul_2 _ _) (int___rmul___int_list k t l its.toArray n)
      ⟨e,rfl,⟨_,e,rfl⟩,call_meets F.slot_list_mul ⟨_,e,rfl⟩ F.entry_list_mul (F.args_list_mul_2 _ _) (AutoListH.list___mul___list_int_3 l its.toArray n k t hfit hcap hlong) ⟨e,?_⟩⟩)
  rw [hnew]
  exact ⟨.ref _,_,I.lnew (t':=s.toks) (r.rep k.toNat) (by rw [Zii,Nat.mul_comm]; exact hz),rfl,q _ I.fresh⟩
end
section
variable {prog:Program} {w:World} {A:Around} {E:Value→Shared→Prop} {s:Shared}
theorem Zk7 {a c n:Nat} (hac:a≤c) (hc:c≤n):sliceBounds (some (a:Int)) (some (c:Int)) none n=((a:Int),(c:Int),1):=by
  simp only [sliceBounds,Option.getD_none]
  have h1:¬((a:Int)<0):=by omega
  have h2:¬((c:Int)<0):=by omega
  simp only [h1,h2,if_false,show (1:Int) > 0 by decide,if_true]
  congr 1
  · omega
  · congr 1; omega
set_option maxRecDepth 100000 in
theorem ZpF {l b sl:Addr} {items new:Array Value} {n n2:Nat} {vl vu:Value} {a c:Nat} {Q:Unit→Shared→Prop}
    (e:s.heap.get? l=some { cls:=.type "list",data:=.seq items n }) (e2:s.heap.get? b=some { cls:=.type "list",data:=.seq new n2 }) (hne:l≠b)
    (hs:s.heap.IsSliceOf sl vl vu .none) (pl:IsPart vl (some (a:Int))) (pu:IsPart vu (some (c:Int))) (hac:a≤c) (hc:c≤items.size)
    (hsz:items.size+new.size≤sizeLine) (h:Q () { s with heap:=s.heap.update l (Obj.mapSeq fun xs=>xs.extract 0 a++new++xs.extract c xs.size) }) :
    wpAny (model prog w) A (setItem (.ref l) (.ref sl) (.ref b)) Q E s:=by
  have hl:s.heap.IsList l items:=PySem.IsL.isList e
  have hb:s.heap.IsList b new:=PySem.IsL.isList e2
  obtain ⟨os,hos,hcs,hds⟩:=id hs
  have hTs:s.TypeIs (.ref sl) "slice":=⟨os,hos,hcs⟩
  have hstep:¬((rawPart none == rawInt 0)=true):=Bool.false_ne_true
  have hsame:Builtin.List.listSameRef (.ref l) (.ref b)=false:=by
    unfold Builtin.List.listSameRef
    exact beq_eq_false_iff_ne.mpr hne
  have hmax:(max (a:Int) (c:Int)).toNat=c:=by omega
  have hz':((fun xs:Array Value=>xs.extract 0 a++new++xs.extract c xs.size) items).size≤sizeLine+1:=by
    simp only [Array.size_append,Array.size_extract]
    omega
  unfold setItem
  try with_reducible refine wpAny_holding ?_
  first | refine wpAny_bind (wpAny_pure ?_) | skip
  refine wpAny_bind (wpAny_sequenceKey hl.typeIs (by decide) ?_)
  refine wpAny_bind (wpAny_callSpecial?_slot (name:=Str.ofString "__setitem__") hl.typeIs slot_list_setitem
    (wpAny_call_entry slot_list_setitem hl.typeIs entry_list_setitem ?_ (args_list_setitem _ _ _)))
  show wpAny _ _ (Builtin.List.listSubscript? (.ref sl) >>= _) _ _ s
  refine wpAny_bind ?_
  unfold Builtin.List.listSubscript?
  refine wpAny_bind (wpAny_specialOf hTs slice_no_index ?_)
  simp only [Option.isNone_none,if_true]
  refine wpAny_pure ?_
  show wpAny _ _ (typeOf (.ref sl) >>= _) _ _ s
  refine wpAny_bind (wpAny_typeOf hTs ?_)
  first
    | rw [if_neg (by decide)]
    | refine PySem.W.KFB.if_not (by decide) ?_
  rw [listSliceParts_eq]
  refine wpAny_bind (wpAny_bind (wpAny_field hos hds (x:=.none) rfl (wpAny_bind (wpAny_listPart .none ?_))))
  rw [if_neg hstep]
  refine wpAny_bind (wpAny_field hos hds (x:=vl) rfl (wpAny_bind (wpAny_listPart pl ?_)))
  refine wpAny_bind (wpAny_field hos hds (x:=vu) rfl (wpAny_bind (wpAny_listPart pu (wpAny_pure ?_))))
  first
    | simp only [hsame,Bool.false_eq_true,if_false]
    | refine PySem.W.KFB.if_not hsame ?_
    | (dsimp only
       rw [if_neg (by rw [hsame]; exact Bool.false_ne_true)])
  refine wpAny_bind (m:=Builtin.List.listAllItems (.ref b) "must assign iterable to extended slice") ?_
  unfold Builtin.List.listAllItems
  refine wpAny_bind (wpAny_typeOf hb.typeIs ?_)
  first
    | refine PySem.W.KFB.if_so (by decide) ?_
    | rw [if_pos (by decide)]
    | simp only [beq_self_eq_true,Bool.true_or,if_true]
  unfold Builtin.List.listItems
  refine wpAny_bind (wpAny_seqItems e2 rfl (wpAny_pure ?_))
  refine wpAny_bind (wpAny_bind (wpAny_seqItems e rfl (wpAny_pure ?_)))
  refine wpAny_bind (wpAny_of_eq ((sliceIndices_raw (some (a:Int)) (some (c:Int)) none items.size (by simp)).trans (congrArg (pure:Int×Int×Int→Sem (Int×Int×Int)) (Zk7 hac hc))) ?_)
  show wpAny _ _ (if ((1:Int) == 1)=true then _ else _) _ _ s
  rw [if_pos (by decide)]
  refine wpAny_bind (wpAny_rule ?_)
  first
    | simp only [Zfn hsz,Bool.false_eq_true,if_false]
    | refine PySem.W.KFB.if_not (Zfn hsz) ?_
  first | refine wpAny_bind (wpAny_pure ?_) | skip
  show wpAny _ _ (updateSeq l (fun xs=>xs.extract 0 ((a:Int)).toNat++new++xs.extract (max (a:Int) (c:Int)).toNat xs.size) >>= _) _ _ s
  rw [hmax,Int.toNat_natCast]
  refine wpAny_bind (wpAny_updateSeq (hz:=Nat.le_trans (Nat.le_add_right _ _) hsz) (_hz':=hz') e rfl ?_)
  refine wpAny_bind (wpAny_letGo ?_)
  first
    | exact wpAny_bind (wpAny_pure (wpAny_pure ⟨.none,rfl,wpAny_pure h⟩))
    | exact wpAny_pure ⟨.none,rfl,wpAny_pure h⟩
end
section
variable {X:Cx}
end
end L2
namespace Att
open PySem PySem.W PySem.Calls PyProof.Rows
theorem Zgv {P:Params} {h:Heap}:∀(ns:List Int) (vs:List Value),WellAll P h vs (ns.map WData.int)→IntsAre vs ns:=by
  intro ns
  induction ns with
  | nil=>
    intro vs w
    rw [List.map_nil] at w
    cases w
    exact .nil
  | cons n ns ih=>
    intro vs w
    rw [List.map_cons] at w
    cases w with
    | cons a b=>
      cases a
      exact .cons _ _ (ih _ b)
theorem Zmd {l:OpenLaw} {n:Nat} (hn:l.most=some n) {P:Params} {h:Heap} {args:List WData} {vals:List Value}
    (hpre:l.row.toRowW.claim.pre args=true) (hwl:WellAll P h vals args) :
    ∃a vs ns,vals=[Value.ref a]∧args=[WData.list (ns.map WData.int)]∧h.get? a=some { cls:=.type "list",data:=.seq vs.toArray }∧IntsAre vs ns∧ns.length≤n:=by
  have hsh:WShape.hasAll [] args [.list .int]=true:=(pre_splitW hpre).1
  have hc:l.pre.holds [] { args:=args }=true:=(pre_splitW hpre).2
  obtain ⟨d,r,rfl,h1,h2⟩:=hasAllW_cons hsh
  obtain rfl:=hasAllW_nil h2
  obtain ⟨xs,rfl,h3⟩:=hasW_list h1
  obtain ⟨ns,rfl⟩:=items_int h3
  have hlen:ns.length≤n:=by
    unfold OpenLaw.pre at hc
    have h4:(WTm.not (.lt (.lit (.int (n:Int))) (.len (.arg 0)))).holds [] { args:=[.list (ns.map .int)] }=true:=by
      have h4:=(holds_andW hc).1
      rw [hn] at h4
      exact h4
    have h5:=condW_of h4 (w_not (w_lt w_lit (w_len_list (w_arg rfl))))
    rw [List.length_map] at h5
    refine Nat.le_of_not_lt fun q=>?_
    have q':(n:Int)<((ns.length:Nat):Int):=by omega
    first
      | (rw [decide_eq_true q'] at h5; exact absurd h5 (by decide))
      | (simp at h5; omega)
  cases hwl with
  | cons w1 w2=>
    cases w2
    cases w1 with
    | list ho hall=>exact ⟨_,_,ns,rfl,rfl,ho,Zgv ns _ hall,hlen⟩
theorem Zmf (l:OpenLaw) (args:List WData):l.row.toRowW.claim.post args (.bool true) args=true:=
  postW_of (r:=l.row.toRowW) (X:=(true == true))
    (show WShape.has [] (.bool true) .bool=true by first | rfl | decide | simp [WShape.has,WShape.arms,WShape.armsAll])
    (show (WTm.eq .res (.lit (.bool true))).value [] { args:=args,res:=some (.bool true),after:=args }=some (.bool (true == true)) from w_eq_bool (w_res rfl) w_lit) rfl
theorem attach_call {l:OpenLaw} {n:Nat} {q:Program} {loose:List Str} {XP:(Str→Option Value)→Heap→Prop} {YP:World→Heap→Prop} {d:DefRec}
    (hn:l.most=some n) (hdf:d.params.defaults=[])
    (call:∀(w:World) (s₀ s₁:Shared) (mg mb:Str→Option Value) (fa:Addr) (o:Obj) (pm cd doc:Value) (a:Addr) (vs:List Value) (ns:List Int),
      Ground q loose [] XP w s₀ mg mb s₁.heap→YP w s₁.heap→
      s₁.heap.get? fa=some o→o.data=.func (docDef d.name d.params d.body d.scope pm cd doc)→s₁.heap.CodeRec cd d.name→mg d.name=some (.ref fa)→
      s₁.heap.get? a=some { cls:=.type "list",data:=.seq vs.toArray }→IntsAre vs ns→ns.length≤n→s₁.gens=#[]→
      codeAny (model l.prog w) callerA (.call (.ref fa) ⟨[.ref a],[]⟩) (fun r s'=>r=.ok (.ret (.bool true))∧OldK s₁.heap s'.heap∧s'.os=s₁.os∧AllBare s'.gens) s₁) :
    WalkO q loose XP YP l.row.toRowW d [] (fun f vs=>PySem.call f vs):=by
  intro w s₀ s₁ mg mb G Y fa o pm cd doc dV kV ho hd hcd hD hmg hg args vals as hpre hlay hrd hwl hlo
  obtain rfl:dV=.none:=Dflts.none hD hdf
  obtain rfl:kV=.none:=Dflts.noKw hD
  obtain ⟨a,vs,ns,rfl,rfl,hobj,hints,hlen⟩:=Zmd hn hpre hwl
  refine enter_call (codeAny_mono (call w s₀ s₁ mg mb fa o pm cd doc a vs ns G Y ho (fd_plain hd) hcd hmg hobj hints hlen hg) fun r s' hq=>?_)
  obtain ⟨rfl,h2,h3,h4⟩:=hq
  exact ⟨.inl ⟨.bool true,.bool true,[],rfl,fun _=>rfl,.bool true,Zmf l _,fun _=>⟨List.Pairwise.nil,fun _ hm=>(nomatch hm)⟩⟩,h2,h3,h4⟩
section
variable {prog:Program} {w:World} {A:Around} {E:Value→Shared→Prop} {s:Shared} {K:Frag}
end
end Att
namespace L2
open PySem PySem.Spec PyProof.Rows
theorem Zht:∀{vs:List Value} {ns:List Int},IntsAre vs ns→Vals (ns.map V.int) vs
  | _,_,.nil=>.nil
  | _,_,.cons n t h=>.cons ⟨t,rfl⟩ (Zht h)
def Zq9 (H:Hp):Prop:=∀b,H b=none∨∃o xs,H b=some (.frz o (.lst xs))
theorem ZoV {P:Program} {w:World} {K:PySem.W.Frag} {mg mb:Str→Option Value} {CX:CXT} {k:Nat} {fa a:Addr} {fd:FuncData} {x:Str} {sp:Sp} {s₁:Shared} {vs:List Value} {ns:List Int}
    (KX:K.In s₁.heap) (hns:s₁.heap.Ns mainGlobals mg) (hb:s₁.heap.Ns builtinsNs mb) (hbb:∀x:Str,x≠"__name__"→mb x=bootBuiltins x) (hlim:s₁.heap.NoLimit) (hg:s₁.gens=#[])
    (ha:s₁.heap.get? a=some { cls:=.type "list",data:=.seq vs.toArray }) (hi:IntsAre vs ns) (hl:ns.length≤sizeLine) (hr:Room k callerA)
    (F:∀base:Heap,K.In base→base.Ns mainGlobals mg→FnOk P w K mg base CX k fa fd [x] sp) (hbind:∀(s:Shared) (u:Value),BindsTo s fd ⟨[u],[]⟩ [(x,u)])
    (hsp:∀H:Hp,Zq9 H→SqL K H a (ns.map V.int)→sp [.ref a] H (fun v _=>v=.bl true) fun _ _ _=>False)
    (hCX:∀H e s',CX [] H s₁ (fun _ _ _=>False) e s'→False) :
    codeAny (model P w) callerA (.call (.ref fa) ⟨[.ref a],[]⟩) (fun r s'=>r=.ok (.ret (.bool true))∧OldK s₁.heap s'.heap∧s'.os=s₁.os∧AllBare s'.gens) s₁:=by
  have rv:=Zht hi
  have lenV:=hi.length
  have core:∀H:Hp,Zq9 H→SqL K H a (ns.map V.int)→HOk P w H s₁.heap→(∀b,H b≠none→b=a)→(H a≠none→K.lookup a=none)→
      codeAny (model P w) callerA (.call (.ref fa) ⟨[.ref a],[]⟩) (fun r s'=>r=.ok (.ret (.bool true))∧OldK s₁.heap s'.heap∧s'.os=s₁.os∧AllBare s'.gens) s₁:=by
    intro H hO hS hok hA hK
    have base_of:∀{b:Addr} {o:Obj},s₁.heap.get? b=some o→H b=none→(Zio s₁.heap H).get? b=some o:=fun e n=>Zo3 e n
    have noA:∀{b:Addr} {o:Obj} {es:Array DictEntry} {ep:Nat},s₁.heap.get? b=some o→o.data=.dict es ep→H b=none:=fun {b o es ep} e d=>by
      cases q:H b with
      | none=>rfl
      | some u=>
        have e':b=a:=hA b (by rw [q]; simp)
        subst e'
        rw [ha] at e; cases e
        have d':Data.seq vs.toArray _=Data.dict es ep:=d
        cases d'
    have nsK:∀{b:Addr} {m:Str→Option Value},s₁.heap.Ns b m→(Zio s₁.heap H).Ns b m:=fun {b m} ⟨o,es,ep,e,d,r⟩=>⟨o,es,ep,base_of e (noA e d),d,r⟩
    have hKb:K.In (Zio s₁.heap H):=fun b o e=>base_of (KX b o e) (by
      cases q:H b with
      | none=>rfl
      | some u=>
        have e':b=a:=hA b (by rw [q]; simp)
        subst e'
        rw [hK (by rw [q]; simp)] at e; cases e)
    have hM:Mod K mg (Zio s₁.heap H):=⟨hKb,nsK hns,⟨mb,nsK hb,hbb⟩,let ⟨mc,h1,h2⟩:=hlim; ⟨mc,nsK h1,h2⟩⟩
    have e0:Env0 P w K mg (Zio s₁.heap H) callerA [] s₁ H:=⟨rfl,hM,fun b o e=>Zqq e,Nat.le_of_eq (Zmx _ _),trivial,fun b hb=>absurd (show b∈([]:List Addr) from hb) (by simp),hok,.of_eq hg⟩
    refine codeAny_mono ((F _ hKb (nsK hns)).run callerA [] s₁ H ⟨[.ref a],[]⟩ [.ref a] [.ref a] _ _ hr e0 (hbind s₁ (.ref a)) (.cons rfl .nil) (hsp H hO hS)) fun r s' h=>?_
    cases r with
    | error e=>exact (hCX H e s' h).elim
    | ok fl=>
      cases fl with
      | next=>exact False.elim h
      | brk=>exact False.elim h
      | cont=>exact False.elim h
      | ret u=>
        obtain ⟨v,H',os,bare,un,hok',r',q⟩:=h
        have q':v=.bl true:=q
        subst q'
        obtain rfl:u=Value.bool true:=r'
        refine ⟨rfl,OldK.of_keep fun b o e=>?_,os,bare⟩
        cases q:H b with
        | none=>exact un.keep b o e q (by intro z; exact absurd (show b∈([]:List Addr) from z) (by simp)) (by simp)
        | some u=>
          rcases hO b with z | ⟨ob,xs,z⟩
          · rw [q] at z; cases z
          · have z2:=un.frzs b ob _ z
            obtain ⟨e1,_⟩:=hok b _ z
            obtain ⟨e2,_⟩:=hok' b _ z2
            rw [e] at e1; cases e1
            exact e2
  cases hk:K.lookup a with
  | some o=>
    have e:=KX a o hk
    rw [ha] at e
    cases e
    refine core (fun _=>none) (fun _=>.inl rfl) (.inr ⟨_,vs.toArray,_,hk,rfl,rfl,rfl,by rw [List.size_toArray,lenV]; exact hl,by simpa using rv⟩) (fun b u z=>by have z':(none:Option HO)=some u:=z; cases z') (fun b z=>absurd rfl z) fun z=>absurd rfl z
  | none=>
    refine core (fun b=>if b=a then some (.frz { cls:=.type "list",data:=.seq vs.toArray } (.lst (ns.map V.int))) else none) (fun b=>?_) (.inl (.inr ⟨{ cls:=.type "list",data:=.seq vs.toArray },if_pos rfl⟩)) (fun b u z=>?_) (fun b z=>?_) fun _=>hk
    · by_cases hb:b=a
      · exact .inr ⟨_,_,if_pos hb⟩
      · exact .inl (if_neg hb)
    · by_cases hb:b=a
      · have z':=(if_pos hb).symm.trans z
        cases z'
        subst hb
        exact ⟨ha,by rw [List.length_map]; exact hl,vs,_,rv,ha⟩
      · have z':=(if_neg hb).symm.trans z
        cases z'
    · by_cases hb:b=a
      · exact hb
      · exact absurd (if_neg hb) z
end L2
namespace L2
open PySem PySem.Spec PyProof.Rows
theorem ZpL {l:PySem.W.OpenLaw} {n k:Nat} {q:Program} {loose:List Str} {XP:(Str→Option Value)→Heap→Prop} {YP:World→Heap→Prop} {d:DefRec} {K:Params→PySem.W.Frag} {CX:World→CXT} {sp:World→Sp} {x:Str}
    (hn:l.most=some n) (hn2:n≤sizeLine) (hdf:d.params.defaults=[]) (hr:Room k callerA)
    (hY:∀(w:World) (h:Heap),YP w h→(K w.params).In h)
    (F:∀(w:World) (mg:Str→Option Value) (fa:Addr) (h:Heap),(K w.params).In h→h.Ns mainGlobals mg→mg d.name=some (.ref fa)→
      ∃fd:FuncData,(∀(s:Shared) (u:Value),BindsTo s fd ⟨[u],[]⟩ [(x,u)])∧
        ∀base:Heap,(K w.params).In base→base.Ns mainGlobals mg→FnOk l.prog w (K w.params) mg base (CX w) k fa fd [x] (sp w))
    (hsp:∀(w:World) (H:Hp) (a:Addr) (ns:List Int),ns.length≤n→Zq9 H→SqL (K w.params) H a (ns.map V.int)→sp w [.ref a] H (fun v _=>v=.bl true) fun _ _ _=>False)
    (hCX:∀(w:World) (H:Hp) (s:Shared) (e:Value) (s':Shared),CX w [] H s (fun _ _ _=>False) e s'→False) :
    PySem.W.WalkO q loose XP YP l.row.toRowW d [] (fun f vs=>PySem.call f vs):=by
  refine Att.attach_call hn hdf fun w s₀ s₁ mg mb fa o pm cd doc a vs ns G Y ho hd hcd hmg hobj hints hlen hg=>?_
  have KX:=hY w _ Y
  obtain ⟨fd,hb,hF⟩:=F w mg fa _ KX G.T.g hmg
  exact ZoV KX G.T.g G.T.b G.T.builtins G.T.nolimit hg hobj hints (Nat.le_trans hlen hn2) hr hF hb (fun H hO hS=>hsp w H a ns hlen hO hS) fun H e s'=>hCX w H s₁ e s'
end L2
namespace L2
open PySem PySem.Spec PyProof.Rows
def ZlO (s:Stmt) (j:Nat):Stmt:=match s with
  | .ClassDef _ _ _ body _ _ _ _ _ _ _=>body.getD j (.Pass ⟨0,0,0,0⟩)
  | _=>.Pass ⟨0,0,0,0⟩
def Zt (s:Stmt):Arguments:=match s with
  | .FunctionDef _ a _ _ _ _ _ _ _ _=>a
  | _=>{ posonlyargs:=[],args:=[],vararg:=none,kwonlyargs:=[],kw_defaults:=[],kwarg:=none,defaults:=[] }
def Zo (s:Stmt):List Stmt:=match s with
  | .FunctionDef _ _ b _ _ _ _ _ _ _=>b
  | _=>[]
def Ze (s:Stmt):Scope:=match s with
  | .FunctionDef _ _ _ _ _ _ sc _ _ _=>sc
  | _=>{ kind:=.function,names:=[],isGenerator:=false,isCoroutine:=false }
abbrev CX0:CXT:=fun _ _ _ _ _ _=>False
abbrev E0:XK:=fun _ _ _=>False
theorem Zoy {X:Cx}:Zf2 CX0 X E0:=fun _ _ _ _ _ _ _ h=>h.elim
structure Fun (K:PySem.W.Frag) (x qual:Str) (st:Stmt) (f:Addr) (fd:FuncData):Prop where
  ex:∃(oc:Value) (od:Option Addr) (kV doc pm:Value) (an:Option Addr) (cdv ct:Value) (osl:Array (Option Value)),
    fd=PySem.W.fnOf x qual (Zt st) (Zo st) (Ze st) .none kV doc pm an cdv ct∧K.lookup f=some ⟨oc,od,.func fd,osl⟩∧PySem.W.codeIn K cdv qual=true
  kp:PySem.W.keepIn K (.ref f)=true
section
variable {P:Program} {w:World} {K:PySem.W.Frag} {mg:Str→Option Value} {base:Heap}
theorem Fun.ok {x qual:Str} {st:Stmt} {f:Addr} {fd:FuncData} {N ps:List Str} {k:Nat} {sp:Sp} (F:Fun K x qual st f fd) (S:Zr N ps (Ze st)) (len:∀vs H Q E,sp vs H Q E→vs.length=ps.length)
    (hbody:∀(cdv:Value) (A:Around) (outer:List Env) (s:Shared) (H:Hp) (vs:List V) (Q:VK) (E:XK),Room k (A.deeper (envOfC qual (Ze st) s.heap.objs.size f cdv))→sp vs H Q E→
      ∃t,PSs (Zg1 CX0 P w K mg base N qual (Ze st) f cdv A outer s H E).nox (Zo st) t∧t { nx:=fun _ H'=>Q .non H',rt:=Q } (ZdU N vs) H):FnOk P w K mg base CX0 (k+1) f fd ps sp:=by
  obtain ⟨oc,od,kV,doc,pm,an,cdv,ct,osl,rfl,lk,hcd⟩:=F.ex
  refine ZuL lk hcd S len fun A outer s H vs Q E hr hsp=>?_
  obtain ⟨t,h,q⟩:=hbody cdv A outer s H vs Q E hr hsp
  exact ⟨t,h.nox,q⟩
theorem Fun.binds {x qual:Str} {st:Stmt} {f:Addr} {fd:FuncData} {ps:List Str} (F:Fun K x qual st f fd)
    (h:∀(kV doc pm:Value) (an:Option Addr) (cdv ct:Value) (us:List Value),us.length=ps.length→bindArgs (PySem.W.fnOf x qual (Zt st) (Zo st) (Ze st) .none kV doc pm an cdv ct) ⟨us,[]⟩=pure (ps.zip us)):Binds K fd ps []:=by
  obtain ⟨oc,od,kV,doc,pm,an,cdv,ct,osl,rfl,lk,hcd⟩:=F.ex
  exact .all (h kV doc pm an cdv ct)
theorem Zz {x qual:Str} {st:Stmt} {f:Addr} {oc:Value} {od an:Option Addr} {osl:Array (Option Value)} {kV doc pm cdv ct:Value} (l:K.lookup f=some ⟨oc,od,.func (PySem.W.fnOf x qual (Zt st) (Zo st) (Ze st) .none kV doc pm an cdv ct),osl⟩)
    (c:PySem.W.codeIn K cdv qual=true) (k:PySem.W.keepIn K (.ref f)=true):Fun K x qual st f (PySem.W.fnOf x qual (Zt st) (Zo st) (Ze st) .none kV doc pm an cdv ct):=⟨⟨oc,od,kV,doc,pm,an,cdv,ct,osl,rfl,l,c⟩,k⟩
end
section
variable {X:Cx}
end
end L2
namespace L2
open PySem PySem.Spec PyProof.Rows
section
variable {P:Program} {w:World} {K:PySem.W.Frag} {mg:Str→Option Value} {base:Heap}
def Zn (K:PySem.W.Frag) (mg:Str→Option Value) (x:Str) (st:Stmt) (ps:List Str):Prop:=
  ∃(f:Addr) (fd:FuncData),Fun K x x st f fd∧Binds K fd ps []∧mg x=some (.ref f)
def Def (P:Program) (w:World) (K:PySem.W.Frag) (mg:Str→Option Value) (base:Heap) (k:Nat) (x:Str) (ps:List Str) (sp:Sp):Prop:=
  ∃(f:Addr) (fd:FuncData),FnOk P w K mg base CX0 k f fd ps sp∧Binds K fd ps []∧PySem.W.keepIn K (.ref f)=true∧mg x=some (.ref f)
end
section
variable {X:Cx} {k:Nat} {x:Str} {ps:List Str} {sp:Sp} {p pos:Pos} {e:Expr} {es:List Expr} {t:TA}
theorem Zow {j:Nat} (D:Def X.prog X.w X.K X.mg X.base k x ps sp) (hr:Room j X.A) (hj:k≤j) (ha:PA X (e::es) t) (hg:Gl X x:=by rfl) (hdb:(x == ("__debug__":Str))=false:=by decide)
    (he:starEach (e::es) X.env=(false,eval e X.env)::starEach es X.env:=by rfl) (hpl:(backTo pos (starEach es X.env)).any (·.1)=false:=by rfl):PE X (.Call (.Name x p) (e::es) [] pos) (Zrl sp [] E0 t):=by
  obtain ⟨f,fd,F,b,kp,m⟩:=D
  exact Zqn F (hr.mono hj) hg m kp b .nil Zoy ha hdb he hpl
theorem Zql {i:Int} (h:∃t,X.mg x=some (.int i t)) (hg:Gl X x:=by rfl) (hd:(x == ("__debug__":Str))=false:=by decide):PE X (.Name x pos) (tC (.int i)):=by
  obtain ⟨t,h⟩:=h
  exact Zls hg h ⟨t,rfl⟩ hd
def ZuY (_ j:Int):Prop:=0<j∧j.natAbs.log2<9000
theorem Zoz:OpR X (binaryOp .FloorDiv) (rI ZuY fun i j=>.int (i/j)):=opI fun i j _ _ _ _ _ hc q=>by
  have h1:(0:Int)<j:=hc.1
  exact floordiv_int (by omega) (by rw [Int.fdiv_eq_ediv_of_nonneg i (by omega)]; exact q) (.inl (PyProof.noPylong_of_log2 hc.2))
end
end L2
set_option maxHeartbeats 4000000
namespace L2
open PySem PySem.Spec PyProof.Rows
theorem ZfA {scope:Scope} {env:Env} (h:∀x∈scope.names,x.2=.free→∃c,env.cells.lookup x.1=some c) :
    ∃cl:List (Str×Addr),closureFor scope env=pure cl∧(∀n c,(n,c)∈cl→env.cells.lookup n=some c)∧∀x∈scope.names,x.2=.free→∃c,(x.1,c)∈cl:=by
  have key:∀(names:List (Str×NameKind)) (acc:List (Str×Addr)),(∀x∈names,x.2=.free→∃c,env.cells.lookup x.1=some c)→(∀n c,(n,c)∈acc→env.cells.lookup n=some c)→
      ∃cl:List (Str×Addr),(forIn names acc fun (x:Str×NameKind) (cs:List (Str×Addr))=>if (x.2 == NameKind.free)=true then (do let c ←cellOf env x.1; pure (ForInStep.yield ((x.1,c)::cs)):Sem _) else pure (ForInStep.yield cs))=(pure cl:Sem _)∧
        (∀n c,(n,c)∈cl→env.cells.lookup n=some c)∧(∀p∈acc,p∈cl)∧∀x∈names,x.2=.free→∃c,(x.1,c)∈cl:=by
    intro names
    induction names with
    | nil=>intro acc _ ha; exact ⟨acc,rfl,ha,fun _ p=>p,fun x hx=>nomatch hx⟩
    | cons y r ih=>
      intro acc hx ha
      obtain ⟨n,k⟩:=y
      by_cases hk:k=.free
      · subst hk
        obtain ⟨c,hc⟩:=hx (n,.free) List.mem_cons_self rfl
        obtain ⟨cl,e,h1,h2,h3⟩:=ih ((n,c)::acc) (fun x z=>hx x (List.mem_cons_of_mem _ z)) (fun m d z=>by
          rcases List.mem_cons.mp z with z | z
          · cases z; exact hc
          · exact ha m d z)
        refine ⟨cl,?_,h1,fun p z=>h2 p (List.mem_cons_of_mem _ z),fun x z zf=>?_⟩
        · have ec:cellOf env n=pure c:=by unfold cellOf; rw [hc]
          rw [List.forIn_cons]
          simp only [beq_self_eq_true,if_true,ec,pure_bind]
          exact e
        · rcases List.mem_cons.mp z with z | z
          · cases z; exact ⟨c,h2 _ List.mem_cons_self⟩
          · exact h3 x z zf
      · obtain ⟨cl,e,h1,h2,h3⟩:=ih acc (fun x z=>hx x (List.mem_cons_of_mem _ z)) ha
        refine ⟨cl,?_,h1,h2,fun x z zf=>?_⟩
        · have hb:(k == NameKind.free)=false:=by simpa using hk
          rw [List.forIn_cons]
          simp only [hb,Bool.false_eq_true,if_false,pure_bind]
          exact e
        · rcases List.mem_cons.mp z with z | z
          · cases z; exact absurd zf hk
          · exact h3 x z zf
  obtain ⟨cl,e,h1,_,h3⟩:=key scope.names [] h (fun n c z=>nomatch z)
  refine ⟨cl,?_,h1,h3⟩
  simp only [closureFor]
  rw [e]
  rfl
def Cx.comp (X:Cx) (scope:Scope) (N':List Str) (cl:List (Str×Addr)) (C:Addr) (s₀:Shared) (H₀:Hp) (fp:List Addr):Cx where
  prog:=X.prog
  w:=X.w
  K:=X.K
  mg:=X.mg
  base:=X.base
  A:=X.A
  N:=N'
  s₀:=s₀
  H₀:=H₀
  env:=compEnvC scope cl C X.env
  outer:=X.stack
  stack:=X.stack
  ex:=fp
  fn:=fun _=>false
  calm:=X.calm
  pn:=[]
  xe:=fun _ _=>False
def inner (src:List Nat) (σ:St) (x:Option V):St:=x::src.map fun j=>(σ[j]?).join
theorem ZgV {α:Type} {l:List (Str×α)} {n:Str} {c:α} (h:(n,c)∈l):∃d,l.lookup n=some d:=by
  induction l with
  | nil=>cases h
  | cons y r ih=>
    obtain ⟨m,d⟩:=y
    by_cases e:n == m
    · exact ⟨d,by rw [List.lookup_cons,e]⟩
    · rcases List.mem_cons.mp h with z | z
      · cases z; exact absurd (beq_self_eq_true n) e
      · obtain ⟨d',q⟩:=ih z
        exact ⟨d',by rw [List.lookup_cons,Bool.eq_false_iff.mpr e]; exact q⟩
theorem ZdC {env:Env} {n:Str}:∀{names:List (Str×NameKind)} {k:NameKind},(∀y∈names,y.2≠.cell)→
    (names.map fun (n,k)=>if (k == NameKind.free && env.scope.kind == .function && env.kindOf n == some .cell) then (n,NameKind.cell) else (n,k)).lookup n=some k→(k=.cell∨k=.free)→(n,NameKind.free)∈names
  | [],_,_,h,_=>by simp at h
  | (m,j)::r,k,hc,h,hk=>by
    have nc:j≠.cell:=hc (m,j) List.mem_cons_self
    rw [List.map_cons] at h
    by_cases e:n == m
    · have en:n=m:=by simpa using e
      subst en
      by_cases cnd:(j == NameKind.free && env.scope.kind == .function && env.kindOf n == some .cell)=true
      · have:j=.free:=by
          simp only [Bool.and_eq_true,beq_iff_eq] at cnd
          exact cnd.1.1
        rw [this]
        exact List.mem_cons_self
      · simp only [cnd] at h
        rw [if_neg (by simp),List.lookup_cons,beq_self_eq_true] at h
        cases h
        rcases hk with rfl | rfl
        · exact absurd rfl nc
        · exact List.mem_cons_self
    · refine List.mem_cons_of_mem _ (ZdC (env:=env) (k:=k) (fun y hy=>hc y (List.mem_cons_of_mem _ hy)) ?_ hk)
      rw [List.lookup_cons] at h
      have e2:(n == (if (j == NameKind.free && env.scope.kind == .function && env.kindOf m == some .cell)=true then (m,NameKind.cell) else (m,j)).1)=false:=by
        split<;>exact Bool.eq_false_iff.mpr e
      rw [e2] at h
      exact h
theorem Zfg {env:Env}:∀{names:List (Str×NameKind)} {x:Str},names.lookup x=some .free→
    (names.map fun (n,k)=>if (k == NameKind.free && env.scope.kind == .function && env.kindOf n == some .cell) then (n,NameKind.cell) else (n,k)).lookup x=some .cell∨
    (names.map fun (n,k)=>if (k == NameKind.free && env.scope.kind == .function && env.kindOf n == some .cell) then (n,NameKind.cell) else (n,k)).lookup x=some .free
  | [],_,h=>by simp at h
  | (n,k)::r,x,h=>by
    have ih:=@Zfg env r x
    rw [List.map_cons]
    cases hx:x == n with
    | true=>
      simp only [List.lookup_cons,hx] at h
      cases h
      by_cases hc:(NameKind.free == NameKind.free && env.scope.kind == .function && env.kindOf n == some .cell)=true
      · left
        show List.lookup x ((if (NameKind.free == NameKind.free && env.scope.kind == .function && env.kindOf n == some .cell)=true then (n,NameKind.cell) else (n,NameKind.free))::_)=_
        rw [if_pos hc,List.lookup_cons,hx]
      · right
        show List.lookup x ((if (NameKind.free == NameKind.free && env.scope.kind == .function && env.kindOf n == some .cell)=true then (n,NameKind.cell) else (n,NameKind.free))::_)=_
        rw [if_neg hc,List.lookup_cons,hx]
    | false=>
      simp only [List.lookup_cons,hx] at h
      have e:∀t,List.lookup x ((if (k == NameKind.free && env.scope.kind == .function && env.kindOf n == some .cell)=true then (n,NameKind.cell) else (n,k))::t)=List.lookup x t:=fun t=>by
        split<;>rw [List.lookup_cons,hx]
      rcases ih h with q | q
      · exact .inl ((e _).trans q)
      · exact .inr ((e _).trans q)
section
variable {X:Cx} {x:Str} {px:Pos} {iter elt:Expr} {scope:Scope} {pos:Pos} {N':List Str} {src:List Nat} {wi:TI} {te:TE}
structure ZbI (scope sc:Scope) (x:Str) (N N':List Str) (src:List Nat):Prop where
  kind:scope.kind=.function
  cell:∀y∈scope.names,y.2≠.cell
  loc:∀y∈scope.names,y.2=.local→scope.names.lookup y.1=some .local
  own:scope.names.lookup x=some .local
  free:∀y∈scope.names,y.2=.free→sc.names.lookup y.1=some .cell
  nd:N'.Nodup
  names:N'=x::src.map fun j=>N.getD j x
  all:∀j∈src,j<N.length
  fr:∀j∈src,sc.names.lookup (N.getD j x)=some .cell∧scope.names.lookup (N.getD j x)=some .free
theorem Zk6 {pins:List (Addr×Obj)} {σ:St} {H:Hp} {s s':Shared} {C:Addr} {cl:List (Str×Addr)} {fp:List Addr} (I:Inv X pins σ H s) (S:ZbI scope X.env.scope x X.N N' src)
    (hcl:∀n c,(n,c)∈cl→X.env.cells.lookup n=some c) (hcl2:∀y∈scope.names,y.2=.free→∃c,(y.1,c)∈cl) (hC:s.heap.objs.size≤C) (hfp:∀b∈fp,Zhr X pins H b) (hfl:∀b∈fp,b<s.heap.objs.size)
    (hn:∃m,s'.heap.Ns C m) (hk:∀b o,s.heap.get? b=some o→s'.heap.get? b=some o) (ho:s'.os=s.os) (hg:s'.gens=s.gens) :
    Inv (X.comp scope N' cl C s H fp) [] (inner src σ none) H s':=by
  have cll:∀n c,cl.lookup n=some c→X.env.cells.lookup n=some c:=fun n c e=>hcl n c (PySem.mem_of_lookup e)
  refine ⟨⟨I.ok.mod,S.kind,I.ok.glob,I.ok.blt,hC,fun y z c h1 h2=>I.ok.inj y z c (cll _ _ h1) (cll _ _ h2),fun y hy=>?_,fun y c h=>absurd (show false=true from h) (by decide),I.ok.hd,I.ok.frames,.inl rfl,fun b hb=>⟨Nat.ne_of_lt (Nat.lt_of_lt_of_le (hfl b hb) hC),fun y c e=>(hfp b hb).2.2.2.2.1 y c (cll y c e)⟩,
    I.bs,Nat.le_trans I.ok.bsz I.sz,fun b o e hb=>?_,fun b hb=>?_,I.stack,I.stkFree⟩,ho,?_,Un.kept hk,?_,fun y c e=>?_,I.hok.fresh hC,fun y c e=>I.freeC y c (cll y c e),fun p hp=>absurd (show p∈([]:List (Addr×Obj)) from hp) (by simp),I.hok.kept hk,?_⟩
  · have hy':(relabel scope X.env).names.lookup y=some .cell∨(relabel scope X.env).names.lookup y=some .free:=hy
    have:(y,NameKind.free)∈scope.names:=by
      rcases hy' with h | h
      · exact ZdC S.cell h (.inl rfl)
      · exact ZdC S.cell h (.inr rfl)
    obtain ⟨c,hc⟩:=hcl2 _ this rfl
    exact ZgV hc
  · rcases (hfp b hb).2.2.2.1 with z | z
    · exact I.ok.noex b o e z
    · exact absurd (Nat.lt_of_lt_of_le (Heap.lt_size e) (Nat.le_trans I.ok.bsz z)) (Nat.lt_irrefl _)
  · intro hs
    rcases List.mem_cons.mp (I.stkSub b hs) with z | z
    · exact (hfp b hb).2.1 z
    · exact (hfp b hb).2.2.1 z
  · rw [hg]; exact I.bare
  · obtain ⟨m,hm⟩:=hn
    refine ⟨m,hm,fun i y v h1 h2 h3=>?_⟩
    have h1':N'[i]?=some y:=h1
    rw [S.names] at h1'
    cases i with
    | zero=>cases (show (some none:Option (Option V))=some (some v) from h2)
    | succ k=>
      rw [List.getElem?_cons_succ,List.getElem?_map] at h1'
      have h2':(src.map fun j=>(σ[j]?).join)[k]?=some (some v):=h2
      rw [List.getElem?_map] at h2'
      cases e:src[k]? with
      | none=>rw [e] at h1'; cases h1'
      | some j=>
        rw [e] at h1' h2'
        have hj:=List.mem_of_getElem? e
        have ey:X.N.getD j x=y:=Option.some.inj h1'
        have ev:(σ[j]?).join=some v:=Option.some.inj h2'
        have eN:X.N[j]?=some y:=by
          have:=S.all j hj
          rw [List.getElem?_eq_getElem this]
          rw [List.getD_eq_getElem?_getD,List.getElem?_eq_getElem this] at ey
          exact congrArg some ey
        have eσ:σ[j]?=some (some v):=by
          cases q:σ[j]? with
          | none=>rw [q] at ev; cases ev
          | some z=>rw [q] at ev; exact congrArg some ev
        obtain ⟨k1,k2⟩:=S.fr j hj
        rw [ey] at k1 k2
        obtain ⟨mo,hmo,hl⟩:=I.loc
        obtain ⟨u,r,l⟩:=hl j y v eN eσ (.inr (.inl k1))
        refine ⟨u,r,?_⟩
        rcases l with ⟨z,_⟩ | ⟨_,c,hc,hcell⟩
        · have z':X.env.scope.names.lookup y=some .local:=z
          rw [k1] at z'; cases z'
        · obtain ⟨c',hc'⟩:=hcl2 _ (PySem.mem_of_lookup k2) rfl
          obtain ⟨d,hd⟩:=ZgV hc'
          have ed:d=c:=by
            have:=cll _ _ hd
            rw [hc] at this
            exact (Option.some.inj this).symm
          subst ed
          obtain ⟨o,e1,e2⟩:=hcell
          refine .inr ⟨?_,d,hd,o,hk _ _ e1,e2⟩
          rcases h3 with z | z | z
          · have z':(relabel scope X.env).names.lookup y=some .local:=z
            rcases Zfg (env:=X.env) k2 with w | w
            · have w':(relabel scope X.env).names.lookup y=some .cell:=w
              rw [w'] at z'; cases z'
            · have w':(relabel scope X.env).names.lookup y=some .free:=w
              rw [w'] at z'; cases z'
          · exact .inl z
          · exact .inr z
  · obtain ⟨v,o,e1,e2⟩:=I.cell y c (cll y c e)
    exact ⟨v,o,hk _ _ e1,e2⟩
  · show (inner src σ none).length=N'.length
    rw [S.names]
    unfold inner
    rw [List.length_cons,List.length_cons,List.length_map,List.length_map]
theorem Zky {prog:Program} {w:World} {A:Around} {R:Result→Shared→Prop} {s:Shared} {elt target iter:Expr} {scope:Scope} {pos:Pos} {it acc:Value} {env:Env} (I:Nat→Shared→Prop)
    (turn:∀n s,I n s→wpAny (model prog w) A (pyNext it) (fun r s₁=>match r with
      | none=>R (.ok .next) s₁
      | some v=>wpAny (model prog w) A (letOwnedTupleGo target it v) (fun _ s₂=>wpAny (model prog w) A (assign target env v) (fun _ s₃=>wpAny (model prog w) A (eval elt env) (fun x s₄=>
          wpAny (model prog w) A (call (.builtin "list.append") [acc,x]) (fun _ s₅=>∃m,m<n∧I m s₅) (notedBy (model prog w) A env fun e s'=>R (.error e) s') s₄) (notedBy (model prog w) A env fun e s'=>R (.error e) s') s₃)
          (notedBy (model prog w) A env fun e s'=>R (.error e) s') s₂) (notedBy (model prog w) A env fun e s'=>R (.error e) s') s₁) (notedBy (model prog w) A env fun e s'=>R (.error e) s') s)
    (n:Nat) (h:I n s):codeAny (model prog w) A (.compLoop (.ListComp elt [⟨target,iter,[],0⟩] scope pos) 0 it acc env) R s:=by
  refine codeAny_loop rfl I (fun n s hI=>?_) n h
  show wpAny _ A ((compTurn (.ListComp elt [⟨target,iter,[],0⟩] scope pos) 0 it acc env).onRaise (fun x=>do noteFrame x env; theTreesLotGoes x)) _ _ s
  refine wpAny_noted ?_
  rw [compTurn_list1]
  refine wpAny_bind (wpAny_standAt (wpAny_bind (thn (turn n s hI) fun r s₁ h₁=>?_)))
  cases r with
  | none=>exact wpAny_pure h₁
  | some v=>
    refine wpAny_bind (thn h₁ fun _ s₂ h₂=>wpAny_bind (thn h₂ fun _ s₃ h₃=>?_))
    exact wpAny_bind (wpAny_bind (thn h₃ fun x s₄ h₄=>wpAny_bind (thn h₄ fun _ s₅ h₅=>wpAny_pure (wpAny_pure ⟨rfl,h₅⟩))))
def lcR (J:It) (src:List Nat) (σ:St) (te:TE) (H1:Hp) (Q:VK):Prop:=∃(n:Nat) (Pv:Nat→List V→Hp→Prop),n≤sizeLine∧Pv 0 [] H1∧
  (∀i ys H,i<n→Pv i ys H→J.go i H∧∀y H',J.yld i H y H'→te (inner src σ (some y)) H' fun z H2=>Pv (i+1) (ys++[z]) H2)∧
  ∀ys H,Pv n ys H→J.stop n H∧∀p,H p=none→Q (.ref p) (upd H p (.lst ys))
def tLc (wi:TI) (src:List Nat) (te:TE):TE:=fun σ H Q=>wi σ H fun J H1=>lcR J src σ te H1 Q
theorem HOk.lay {P:Program} {w:World} {H:Hp} {h:Heap} {a:Addr} {o:HO} (x:HOk P w H h) (hn:H a=none) (new:ObjOk P w (upd H a o) h a o):HOk P w (upd H a o) h:=fun b u e=>by
  by_cases hb:b=a
  · subst hb; rw [zl] at e; cases e; exact new
  · rw [ZO hb] at e
    exact (x b u e).stay (fun c v _ q=>q) (fun c q=>by rw [ZO (zj q hn)]; exact q) fun c xs q=>by rw [ZO (zj q hn)]; exact q
theorem Un.lay {fs ex:List Addr} {H H1:Hp} {h h1:Heap} {a:Addr} {o:HO} (u:Un fs ex H H1 h h1) (hn:H1 a=none) (hh:h.get? a=none):Un fs ex H (upd H1 a o) h h1 where
  keep:=u.keep
  slot:=u.slot
  free:=fun b ob q n hx=>by rw [ZO (fun z=>by rw [z,hh] at q; cases q)]; exact u.free b ob q n hx
  there:=u.there
  tups:=fun b xs q=>by rw [ZO (zj (u.tups b xs q) hn)]; exact u.tups b xs q
  frzs:=fun b ob xs q=>by rw [ZO (zj (u.frzs b ob xs q) hn)]; exact u.frzs b ob xs q
  tbls:=fun b ps q=>by
    obtain ⟨m,e⟩:=u.tbls b ps q
    exact ⟨m,by rw [ZO (zj e hn)]; exact e⟩
theorem ZoU {pins:List (Addr×Obj)} {σ:St} {H:Hp} {s:Shared} {cl:List (Str×Addr)} {it:Addr} {fp:List Addr} {tn:Nat→Heap→Prop} {J:It} {n:Nat} {Pv:Nat→List V→Hp→Prop} {RR:Value→Addr→Result→Shared→Prop} {E:Value→Shared→Prop}
    (I:Inv X pins σ H s) (hcm:X.calm=true) (S:ZbI scope X.env.scope x X.N N' src) (hcl:∀n c,(n,c)∈cl→X.env.cells.lookup n=some c) (hcl2:∀y∈scope.names,y.2=.free→∃c,(y.1,c)∈cl)
    (T:ZmG X.prog X.w X.K (.Name x px) J fp it tn) (t0:tn 0 s.heap) (hfp:∀b∈fp,Zhr X pins H b)
    (helt:∀(cl:List (Str×Addr)) (C:Addr) (s₀:Shared) (H₀:Hp) (fp:List Addr),PE (X.comp scope N' cl C s₀ H₀ fp) elt te)
    (hn:n≤sizeLine) (p0:Pv 0 [] H) (turn:∀i ys H,i<n→Pv i ys H→J.go i H∧∀y H',J.yld i H y H'→te (inner src σ (some y)) H' fun z H2=>Pv (i+1) (ys++[z]) H2) (stop:∀ys H,Pv n ys H→J.stop n H)
    (hR:∀(D C:Addr) (o:Obj) (ys:List V) (H':Hp) (s':Shared),Pv n ys H'→H' D=none→Inv X (pins++[(C,o)]) σ (upd H' D (.lst ys)) s'→(∃m,s'.heap.Ns C m)→Zhr X pins (upd H' D (.lst ys)) C→RR (.ref D) C (.ok .next) s') :
    wpAny (model X.prog X.w) X.A (newList []) (fun acc s₃=>wpAny (model X.prog X.w) X.A (newFunctionEnv scope X.env.globals cl [] X.env.qual none .none (some X.env)) (fun cenv s₄=>
      codeAny (model X.prog X.w) X.A (.compStart (.ListComp elt [⟨.Name x px,iter,[],0⟩] scope pos) 0 (.ref it) acc { cenv with scope:=relabel scope X.env }) (RR acc cenv.locals) s₄) E s₃) E s:=by
  refine wpAny_newObj_type (wpAny_newFunctionEnv S.cell (by intro y hy; simp at hy) (fun h₁ hns₁ hsb₁=>?_) S.kind)
  dsimp only at hns₁ hsb₁ ⊢
  generalize hH2:s.heap.push { cls:=.type "list",dict:=none,data:=.seq ([]:List Value).toArray }=H2 at hns₁ hsb₁ ⊢
  have hC:H2.objs.size=s.heap.objs.size+1:=by rw [←hH2,Heap.size_push]
  have hDC:s.heap.objs.size≠H2.objs.size:=by rw [hC]; exact Nat.ne_of_lt (Nat.lt_succ_self _)
  have hCle:s.heap.objs.size≤H2.objs.size:=by rw [hC]; exact Nat.le_succ _
  have below:∀b,b<s.heap.objs.size→b≠H2.objs.size∧b≠s.heap.objs.size:=fun b hb=>⟨by rw [hC]; exact Nat.ne_of_lt (Nat.lt_succ_of_lt hb),Nat.ne_of_lt hb⟩
  have old:∀b o,s.heap.get? b=some o→h₁.get? b=some o:=fun b o e=>hsb₁.extBut b o (below b (Heap.lt_size e)).1 (Heap.get?_push_of_some _ (hH2 ▸ Heap.get?_push_of_some _ e))
  have hacc:h₁.PlainList s.heap.objs.size #[]:=⟨_,hsb₁.extBut _ _ hDC (Heap.get?_push_of_some _ (hH2 ▸ Heap.get?_push_size _ rfl))⟩
  have hfl:∀b∈fp,b<s.heap.objs.size:=fun b hb=>by
    obtain ⟨o,e,_⟩:=T.obj 0 _ t0 b hb
    exact Heap.lt_size e
  have fresh:∀a,s.heap.objs.size≤a→s.heap.get? a=none:=fun a ha=>by
    cases e:s.heap.get? a with
    | none=>rfl
    | some o'=>exact absurd (Heap.lt_size e) (Nat.not_lt.mpr ha)
  generalize eD:s.heap.objs.size=D at hDC hacc hCle below fresh hfl hC ⊢
  generalize eC:H2.objs.size=C at hDC hCle below hC hns₁ hsb₁ ⊢
  have I1:Inv (X.comp scope N' cl C s H fp) [] (inner src σ none) H { s with heap:=h₁,toks:=s.toks+([]:List (Str×Value)).length }:=
    Zk6 I S hcl hcl2 (by rw [eD]; exact hCle) hfp (by rw [eD]; exact hfl) ⟨_,hns₁⟩ old rfl rfl
  have stat:∀{H':Hp} {pl:List (Addr×Obj)},(∀p∈pl,p.1=D)→(∀b∈fp,H' b=none)→∀b∈fp,Zhr (X.comp scope N' cl C s H fp) pl H' b:=fun {H' pl} hp hn b hb=>
    ⟨hn b hb,(below b (hfl b hb)).1,fun z=>by
      rcases List.mem_cons.mp (I.stkSub b z) with q | q
      · exact (hfp b hb).2.1 q
      · exact (hfp b hb).2.2.1 q,.inl hb,fun y c e=>(hfp b hb).2.2.2.2.1 y c (hcl y c (PySem.mem_of_lookup e)),fun p hq=>by
      rw [hp p (by rcases List.mem_append.mp hq with z | z; exact absurd (show p∈([]:List (Addr×Obj)) from z) (by simp); exact z)]
      exact Ne.symm (below b (hfl b hb)).2⟩
  have nD:D∉frs X.stack:=fun z=>by
    rcases List.mem_cons.mp (I.stkSub D z) with q | q
    · have:=I.lt; rw [←q,eD] at this; exact Nat.lt_irrefl _ this
    · exact I.nofs (a:=D) (by rw [eD]; exact Nat.le_refl _) q
  have nC:C∉X.fs:=I.nofs (by rw [eD]; exact hCle)
  have cellD:∀y c,cl.lookup y=some c→c<D:=fun y c e=>by
    obtain ⟨v,q⟩:=I.cell y c (hcl y c (PySem.mem_of_lookup e))
    have:=q.lt
    rw [eD] at this
    exact this
  have loop:∀s₃:Shared,s₃={ s with heap:=h₁,toks:=s.toks+([]:List (Str×Value)).length }→
      codeAny (model X.prog X.w) X.A (.compLoop (.ListComp elt [⟨.Name x px,iter,[],0⟩] scope pos) 0 (.ref it) (.ref D) (compEnvC scope cl C X.env)) (RR (.ref D) C) s₃:=by
    rintro s₃ rfl
    refine Zky (fun k s'=>∃(i:Nat) (ys:List V) (its:List Value) (H':Hp) (xo:Option V),Inv (X.comp scope N' cl C s H fp) [] (inner src σ xo) H' s'∧tn i s'.heap∧(∀b∈fp,H' b=none)∧s'.heap.PlainList D its.toArray∧Vals ys its∧H' D=none∧
      Pv i ys H'∧ys.length=i∧i≤n∧k=n+1-i) ?_ (n+1) ⟨0,[],[],H,none,I1,T.keep _ _ _ t0 (fun b _ o e=>old b o e),fun b hb=>(hfp b hb).1,hacc,.nil,I.hok.fresh (by rw [eD]; exact Nat.le_refl _),p0,rfl,Nat.zero_le _,rfl⟩
    rintro k s' ⟨i,ys,its,H',xo,I3,t3,f3,l3,v3,d3,p3,e3,le3,rfl⟩
    by_cases hlt:i<n
    · obtain ⟨go,step⟩:=turn i ys H' hlt p3
      obtain ⟨nn,oD⟩:=id l3
      have I3p:Inv (X.comp scope N' cl C s H fp) [(D,{ cls:=.type "list",data:=.seq its.toArray nn })] (inner src σ xo) H' s':=
        I3.pins_of fun p hp=>by
          have ep:p=(D,{ cls:=.type "list",data:=.seq its.toArray nn }):=by simpa using hp
          subst ep
          exact ⟨oD,d3,hDC,nD,fun v z=>by cases z⟩
      refine thn (T.item (X.comp scope N' cl C s H fp) rfl rfl rfl hcm i _ s' _ H' _ I3p (stat (by simp) f3) t3 go) fun r s4 ⟨u,hr,h4⟩=>?_
      subst hr
      refine thn h4 fun _ s5 ⟨y,H5,I5,r5,y5,st5,fr5⟩=>?_
      have I5':=I5.pinned (stat (by simp) fr5) (T.obj _ _ st5)
      have hg:PG (X.comp scope N' cl C s H fp) (.Name x px) (Zks 0):=
        Zfi S.nd (by show N'[0]?=some x; rw [S.names]; rfl) (.inl (lookup_relabel_local S.own)) (.inr (lookup_relabel_local S.own))
      refine wpAny_mono (hg _ s5 _ H5 y u (fun σ2 H2=>σ2=inner src σ (some y)∧H2=H5) I5' r5 ⟨rfl,rfl⟩) (fun _ s6 ⟨σ6,H6,I6,e6,e6'⟩=>?_) fun _ _ z=>False.elim z
      subst e6 e6'
      refine wpAny_mono (helt cl C s H fp _ s6 _ _ _ I6 (step y _ y5)) (fun v s7 ⟨z,H7,I7,r7,q7⟩=>?_) fun _ _ z=>False.elim z
      have o7:=I7.pin (D,{ cls:=.type "list",data:=.seq its.toArray nn }) (by simp)
      have hys:its.toArray.size≤sizeLine:=by
        have:=v3.length
        rw [List.size_toArray]
        omega
      refine wpAny_list_append_plain (hsz:=hys) (items:=its.toArray) (s:=s7) ⟨nn,o7.1⟩ fun h8 hl8 hs8=>?_
      refine ⟨n+1-(i+1),by omega,i+1,ys++[z],its++[v],H7,some y,?_,?_,?_,?_,v3.append (.cons r7 .nil),o7.2.1,q7,by rw [List.length_append,e3]<;>rfl,hlt,rfl⟩
      · have I7':Inv (X.comp scope N' cl C s H fp) [] (inner src σ (some y)) H7 s7:=I7.pins_of fun p hp=>absurd hp (by simp)
        exact I7'.turned (t':=s7.toks) (it:=D) (fun b o hb e=>(hs8.2 b hb).trans e) o7.2.1 hDC (.inr (by show s.heap.objs.size≤D; rw [eD]; exact Nat.le_refl _)) (fun y c e=>Nat.ne_of_lt (cellD y c e)) fun p hp=>absurd (show p∈([]:List (Addr×Obj)) from hp) (by simp)
      · refine T.keep _ _ _ st5 fun b hb o e=>(hs8.2 b (below b (hfl b hb)).2).trans ?_
        exact (I7.pin (b,o) (List.mem_append_right _ (List.mem_append_right _ (ZdI hb e)))).1
      · intro b hb
        obtain ⟨o,e,_⟩:=T.obj _ _ st5 b hb
        exact (I7.pin (b,o) (List.mem_append_right _ (List.mem_append_right _ (ZdI hb e)))).2.1
      · have:(its++[v]).toArray=its.toArray.push v:=by simp
        rw [this]; exact hl8
    · have ein:i=n:=by omega
      subst ein
      obtain ⟨nn,oD⟩:=id l3
      have I3p:Inv (X.comp scope N' cl C s H fp) [(D,{ cls:=.type "list",data:=.seq its.toArray nn })] (inner src σ xo) H' s':=
        I3.pins_of fun p hp=>by
          have ep:p=(D,{ cls:=.type "list",data:=.seq its.toArray nn }):=by simpa using hp
          subst ep
          exact ⟨oD,d3,hDC,nD,fun v z=>by cases z⟩
      refine thn (T.done (X.comp scope N' cl C s H fp) rfl rfl rfl hcm i _ s' _ H' _ I3p (stat (by simp) f3) t3 (stop ys H' p3)) fun r s4 ⟨hr,I4⟩=>?_
      subst hr
      have o4:=I4.pin (D,{ cls:=.type "list",data:=.seq its.toArray nn }) (by simp)
      have newI:Inv X pins σ (upd H' D (.lst ys)) s4:=I.call' (ch:=fp) I4.os (I4.base.lay d3 (fresh D (Nat.le_refl _))) (I4.hok.lay d3 ⟨by omega,its,nn,v3,o4.1⟩) I4.bare (fun b hb=>
        ⟨(hfp b hb).2.2.2.1,(hfp b hb).2.1,(hfp b hb).2.2.2.2.1,(hfp b hb).2.2.2.2.2⟩)
      obtain ⟨m,hm,_⟩:=I4.loc
      obtain ⟨o,es,ep,ho,hd,_⟩:=id hm
      refine hR D C o ys H' s4 p3 d3 (newI.pins_of fun p hp=>?_) ⟨m,hm⟩ (I.fpOk (by rw [eD]; exact hCle) (by rw [ZO (Ne.symm hDC)]; exact I4.free))
      rcases List.mem_append.mp hp with z | z
      · exact newI.pin p (List.mem_append_right _ z)
      · have ep:p=(C,o):=by simpa using z
        subst ep
        refine ⟨ho,by rw [ZO (Ne.symm hDC)]; exact I4.free,fun z=>?_,nC,fun v z=>?_⟩
        · have:=I.lt
          rw [eD,←z] at this
          exact absurd (Nat.lt_of_lt_of_le this hCle) (Nat.lt_irrefl _)
        · have z':o.data=.cell v:=z
          rw [hd] at z'; cases z'
  exact codeAny_compStart_list (loop _ rfl) (T.self _ 0 _ _ _ (T.keep _ _ _ t0 (fun b _ o e=>old b o e)) (loop _ rfl))
theorem Zui {sc:Scope} {N:List Str} (S:ZbI scope sc x N N' src) (hsc:X.env.scope=sc) (hN:X.N=N) (hi:PI X (.Name x px) iter wi)
    (helt:∀(cl:List (Str×Addr)) (C:Addr) (s₀:Shared) (H₀:Hp) (fp:List Addr),PE (X.comp scope N' cl C s₀ H₀ fp) elt te) (hcm:X.calm=true:=by rfl) (hs:∀v,foldedSetIterable iter X.env v=pure v:=by intro _; rfl) :
    PE X (.ListComp elt [⟨.Name x px,iter,[],0⟩] scope pos) (tLc wi src te):=by
  subst hsc hN
  intro pins s σ H Q I h
  obtain ⟨cl,hclos,hcl,hcl2⟩:=ZfA (scope:=scope) (env:=X.env) fun y hy hf=>I.ok.has y.1 (.inl (S.free y hy hf))
  rw [eval_ListComp]
  refine wpAny_comprehension_free (use:=none) rfl hs hclos S.kind S.loc ?_
  refine thn (hi pins s σ H _ I h) fun v s1 h1=>thn h1 fun itv s2 h2=>?_
  obtain ⟨it,fp,tn,J,H2,e,I2,T,st2,f2,n,Pv,hn,p0,turn,done⟩:=h2
  subst e
  refine ZoU I2 hcm S hcl hcl2 T st2 f2 helt hn p0 turn (fun ys H p=>(done ys H p).1) fun D C o ys H' s' p d J' hm ho=>?_
  obtain ⟨m,hm⟩:=hm
  refine ⟨m,hm,fun h' hs'=>?_⟩
  have J2:Inv X pins σ (upd H' D (.lst ys)) s':=J'.pins_of fun q hq=>J'.pin q (List.mem_append_right _ (List.mem_append_left _ hq))
  obtain ⟨f0,f1,f2,f3,f4,f5⟩:=ho
  exact ⟨.ref D,_,J2.turned (t':=s'.toks) (it:=C) (fun b o hb e=>(hs'.2 b hb).trans e) f0 f1 f3 f4 f5,rfl,(done ys H' p).2 D d⟩
theorem Zud {sc:Scope} {N:List Str} {i:Nat} {y:Str} {py spos:Pos} (hnd:X.N.Nodup) (hi':X.N[i]?=some y) (S:ZbI scope sc x N N' src) (hsc:X.env.scope=sc) (hN:X.N=N) (hi:PI X (.Name x px) iter wi)
    (helt:∀(cl:List (Str×Addr)) (C:Addr) (s₀:Shared) (H₀:Hp) (fp:List Addr),PE (X.comp scope N' cl C s₀ H₀ fp) elt te) (hsw:swapsWith (.ListComp elt [⟨.Name x px,iter,[],0⟩] scope pos) (some (.Name y py)) spos.line X.env=pure true:=by rfl)
    (hy:X.env.scope.names.lookup y=some .local:=by rfl) (hcm:X.calm=true:=by rfl) (hs:∀v,foldedSetIterable iter X.env v=pure v:=by intro _; rfl) :
    PS X (.Assign [.Name y py] (.ListComp elt [⟨.Name x px,iter,[],0⟩] scope pos) spos) (Zp1 (tLc wi src te) (Zks i)):=by
  subst hsc hN
  intro pins s σ H Dn I h
  obtain ⟨cl,hclos,hcl,hcl2⟩:=ZfA (scope:=scope) (env:=X.env) fun y hy hf=>I.ok.has y.1 (.inl (S.free y hy hf))
  rw [exec_Assign_Name_used _ _ _ _ hsw]
  refine wpAny_bind (wpAny_standAt (wpAny_bind ?_))
  show wpAny _ X.A (do let _ ←comprehension (.ListComp elt [⟨.Name x px,iter,[],0⟩] scope pos) scope X.env _ (newList []) false (eval iter X.env) (some (assign (.Name y py) X.env))) _ _ s
  refine wpAny_bind (wpAny_mono (wpAny_comprehension_free (use:=some (assign (.Name y py) X.env)) (Q:=fun _ s'=>SP X pins Dn .next s') rfl hs hclos S.kind S.loc ?_) (fun _ s' hq=>wpAny_pure (wpAny_pure hq)) fun _ _ e=>e)
  refine thn (hi pins s σ H _ I h) fun v s1 h1=>thn h1 fun itv s2 h2=>?_
  obtain ⟨it,fp,tn,J,H2,e,I2,T,st2,f2,n,Pv,hn,p0,turn,done⟩:=h2
  subst e
  refine ZoU I2 hcm S hcl hcl2 T st2 f2 helt hn p0 turn (fun ys H p=>(done ys H p).1) fun D C o ys H' s' p d J' hm ho=>?_
  show wpAny _ X.A (assign (.Name y py) X.env (.ref D)) _ _ _
  obtain ⟨m,hm⟩:=hm
  have hg:PG X (.Name y py) (Zks i):=Zfi hnd hi' (.inl hy) (.inr hy)
  refine thn (hg _ s' σ _ (.ref D) (.ref D) (fun σ2 H3=>σ2=σ.set i (some (.ref D))∧H3=upd H' D (.lst ys)) J' rfl ⟨rfl,rfl⟩) fun _ s6 ⟨σ6,H6,I6,e6,e7⟩=>?_
  subst e6 e7
  have pc:=I6.pin (C,o) (by simp)
  have pc':=J'.pin (C,o) (by simp)
  refine ⟨m,hm.at fun q e=>?_,fun h' hs'=>?_⟩
  · rw [pc'.1] at e; cases e; exact pc.1
  have J2:Inv X pins (σ.set i (some (.ref D))) (upd H' D (.lst ys)) s6:=I6.pins_of fun q hq=>I6.pin q (List.mem_append_right _ (List.mem_append_left _ hq))
  obtain ⟨f0,f1,f2,f3,f4,f5⟩:=ho
  exact ⟨_,_,J2.turned (t':=s6.toks) (it:=C) (fun b o hb e=>(hs'.2 b hb).trans e) f0 f1 f3 f4 f5,(done ys H' p).2 D d⟩
end
end L2
namespace L2
open PySem PySem.Spec PyProof.Rows PySem.SeqAt
section
variable {X:Cx}
theorem ZhD {ns:List Int}:∀k,k≤ns.length→preSum (fun i=>ns.getD i 0) k=(ns.take k).sum
  | 0,_=>by simp [preSum]
  | k+1,h=>by
    have hk:k<ns.length:=by omega
    rw [preSum,ZhD k (by omega),List.take_add_one,List.getElem?_eq_getElem hk,List.getD_eq_getElem?_getD,List.getElem?_eq_getElem hk]
    show _=(ns.take k++[ns[k]]).sum
    rw [List.sum_append,List.sum_cons,List.sum_nil,Int.add_zero]
    rfl
theorem Zpp (hc:X.calm=true):CallR X (.builtin "sum") (fun xs H Q=>∃(p:Addr) (ns:List Int),xs=[.ref p]∧SqL X.K H p (ns.map V.int)∧Q (.int ns.sum) H):=by
  intro pins s σ H xs us Q I r h
  obtain ⟨p,ns,rfl,hq,q⟩:=h
  obtain ⟨u,rfl,rx⟩:=Zhu r
  cases rx
  obtain ⟨its,r',pl,hz⟩:=I.list hq
  have hl:=r'.length
  rw [List.length_map] at hl
  refine call_sum_walkG (wpAny_pyIter_list pl.isList ?_)
  have hne:p≠s.heap.objs.size:=by
    obtain ⟨o,n,e,_⟩:=pl
    exact Nat.ne_of_lt (Heap.lt_size e)
  refine ⟨s.heap.objs.size,_,_,_,_,_,fun i=>ns.getD i 0,rfl,Walks.list (A:=X.A.in1) (I.ok.hd hc) _ p hne its.toArray,⟨⟨_,Heap.get?_push_size _ rfl,rfl,rfl⟩,?_⟩,?_,?_,fun h' tk t' hk=>?_⟩
  · obtain ⟨o,n,e,hc',hd,hs⟩:=pl
    exact ⟨o,Heap.get?_push_of_some _ e,hc',n,hs⟩
  · intro b hb
    have hb':b=s.heap.objs.size∨b=p:=by simpa using hb
    rcases hb' with rfl | rfl
    · show _<(s.heap.push _).objs.size
      rw [Heap.size_push]; exact Nat.lt_succ_self _
    · obtain ⟨o,n,e,_⟩:=pl
      show _<(s.heap.push _).objs.size
      rw [Heap.size_push]; exact Nat.lt_succ_of_lt (Heap.lt_size e)
  · intro i v hp
    have hp':its[i]?=some v:=by simpa using hp
    have hi:i<ns.length:=by rw [hl]; exact (List.getElem?_eq_some_iff.mp hp').1
    obtain ⟨u,hu,ru⟩:=r'.get (i:=i) (x:=.int (ns.getD i 0)) (by rw [List.getElem?_map,List.getElem?_eq_getElem hi,List.getD_eq_getElem?_getD,List.getElem?_eq_getElem hi]; rfl)
    rw [hp'] at hu; cases hu
    exact ru
  · refine ⟨.int ns.sum,H,(I.kept (t':=s.toks) fun b o e=>Heap.get?_push_of_some _ e).turned (it:=s.heap.objs.size) (fun b o hb e=>hk b o (by simpa using hb) e) (I.hok.fresh (Nat.le_refl _)) (Nat.ne_of_gt I.lt) (.inr I.sz) (fun x c e z=>?_) (fun q hq z=>?_),⟨t',?_⟩,q⟩
    · obtain ⟨v,w'⟩:=I.cell x c e
      exact absurd w'.lt (by rw [z]; exact Nat.lt_irrefl _)
    · exact absurd (Heap.lt_size (I.pin q hq).1) (by rw [z]; exact Nat.lt_irrefl _)
    · rw [List.size_toArray,←hl,ZhD _ (Nat.le_refl _),List.take_length]
mutual
inductive RdV (K:PySem.W.Frag) (H:Hp):V→PyData→Prop
  | non:RdV K H .non .none
  | bl (b:Bool):RdV K H (.bl b) (.bool b)
  | int (i:Int):RdV K H (.int i) (.int i)
  | str (x:Str):RdV K H (.str x) (.str x)
  | lst {a:Addr} {xs:List V} {ds:List PyData}:SqL K H a xs→RdVs K H xs ds→RdV K H (.ref a) (.list ds)
  | tup {a:Addr} {xs:List V} {ds:List PyData}:SqT K H a xs→RdVs K H xs ds→RdV K H (.ref a) (.tuple ds)
inductive RdVs (K:PySem.W.Frag) (H:Hp):List V→List PyData→Prop
  | nil:RdVs K H [] []
  | cons {x:V} {xs:List V} {d:PyData} {ds:List PyData}:RdV K H x d→RdVs K H xs ds→RdVs K H (x::xs) (d::ds)
end
mutual
theorem RdV.reads {pins:List (Addr×Obj)} {σ:St} {H:Hp} {s:Shared} (I:Inv X pins σ H s):∀{x:V} {d:PyData} {u:Value},RdV X.K H x d→RelV x u→∃as,Reads s.heap u d as
  | _,_,_,.non,r=>by cases r; exact ⟨_,.none⟩
  | _,_,_,.bl b,r=>by cases r; exact ⟨_,.bool b⟩
  | _,_,_,.int i,r=>by obtain ⟨t,rfl⟩:=r; exact ⟨_,.int i t⟩
  | _,_,_,.str x,r=>by obtain ⟨t,rfl⟩:=r; exact ⟨_,.str x t⟩
  | _,_,_,.lst h hs,r=>by
    cases r
    obtain ⟨its,rv,⟨o,n,e,hc,hd,hq⟩,_⟩:=I.list h
    obtain ⟨as,q⟩:=RdVs.reads I hs rv
    exact ⟨_,.list e hc hq (by simpa using q)⟩
  | _,_,_,.tup h hs,r=>by
    cases r
    obtain ⟨its,rv,⟨o,e,hc,n,hq⟩,_⟩:=I.tuple h
    obtain ⟨as,q⟩:=RdVs.reads I hs rv
    exact ⟨_,.tuple e hc hq (by simpa using q)⟩
theorem RdVs.reads {pins:List (Addr×Obj)} {σ:St} {H:Hp} {s:Shared} (I:Inv X pins σ H s):∀{xs:List V} {ds:List PyData} {us:List Value},RdVs X.K H xs ds→Vals xs us→∃as,ReadsAll s.heap us ds as
  | _,_,_,.nil,r=>by cases r; exact ⟨_,.nil⟩
  | _,_,_,.cons h hs,r=>by
    cases r with
    | cons r rr=>
      obtain ⟨as,q⟩:=RdV.reads I h r
      obtain ⟨bs,q2⟩:=RdVs.reads I hs rr
      exact ⟨_,.cons q q2⟩
end
theorem ZsM (hu:X.A.units+64<cLine):OpR X (compareOp .Eq) (fun x y H Q=>∃d e:PyData,RdV X.K H x d∧RdV X.K H y e∧shaped d=true∧shaped e=true∧noMix d e=true∧Q (.bl (same d e)) H):=by
  intro pins s σ H x y v u Q I rx ry h
  obtain ⟨d,e,hd,he,sd,se,hm,q⟩:=h
  obtain ⟨as,ra⟩:=hd.reads I rx
  obtain ⟨bs,rb⟩:=he.reads I ry
  exact eq_dataH_same ra rb sd se hu hm ⟨.bl _,H,I,rfl,q⟩
theorem ZsJ (hu:X.A.units+64<cLine):OpR X (compareOp .NotEq) (fun x y H Q=>∃d e:PyData,RdV X.K H x d∧RdV X.K H y e∧shaped d=true∧shaped e=true∧noMix d e=true∧Q (.bl (!same d e)) H):=by
  intro pins s σ H x y v u Q I rx ry h
  obtain ⟨d,e,hd,he,sd,se,hm,q⟩:=h
  obtain ⟨as,ra⟩:=hd.reads I rx
  obtain ⟨bs,rb⟩:=he.reads I ry
  exact ne_dataH_same ra rb sd se hu hm ⟨.bl _,H,I,rfl,q⟩
theorem Zqo:OpR X (compareOp .IsNot) (fun x y H Q=>∃b c:Bool,x=.bl b∧y=.bl c∧Q (.bl (!(b == c))) H):=by
  intro pins s σ H x y v u Q I rx ry h
  obtain ⟨b,c,rfl,rfl,q⟩:=h
  cases rx
  cases ry
  have e:(Value.bool b == Value.bool c)=(b == c):=by cases b<;>cases c<;>rfl
  exact wpAny_isNot_plain rfl ⟨.bl _,H,I,rfl,by rw [e]; exact q⟩
def Zd6 (xs:List V) (lo hi st:Option Int):List V:=(sliceRange (sliceBounds lo hi st xs.length).1 (sliceBounds lo hi st xs.length).2.1 (sliceBounds lo hi st xs.length).2.2).filterMap (xs[·]?)
theorem Vals.pick {xs:List V} {us:List Value} (r:Vals xs us):∀ks:List Nat,Vals (ks.filterMap (xs[·]?)) (ks.filterMap (us[·]?))
  | []=>.nil
  | k::ks=>by
    cases e:xs[k]? with
    | none=>
      have e':=r.none_of e
      rw [List.filterMap_cons_none e,List.filterMap_cons_none e']
      exact r.pick ks
    | some x=>
      obtain ⟨u,e',q⟩:=r.get e
      rw [List.filterMap_cons_some e,List.filterMap_cons_some e']
      exact .cons q (r.pick ks)
def Zxh (K:PySem.W.Frag) (te:TE) (tl th ts:TO):TE:=fun σ H Q=>te σ H fun x H1=>tl σ H1 fun l H2=>th σ H2 fun u H3=>ts σ H3 fun st H4=>∃a xs,x=.ref a∧SqL K H4 a xs∧st≠some 0∧(Zd6 xs l u st).length≤sizeLine∧
  ∀p,H4 p=none→Q (.ref p) (upd H4 p (.lst (Zd6 xs l u st)))
theorem Zmh {e sp:Expr} {te:TE} {lo hi:Option Expr} {tl th ts:TO} {pos p2:Pos} (he:PE X e te) (hl:PO X lo tl) (hu:PO X hi th) (hs:PO X (some sp) ts):PE X (.Subscript e (.Slice lo hi (some sp) p2) pos) (Zxh X.K te tl th ts):=by
  intro pins s σ H Q I h
  refine Subscript_ (thn (he pins s σ H _ I h) fun v s1 ⟨x,H1,I1,r1,q1⟩=>?_)
  refine wpAny_Slice (thn (hl pins s1 σ H1 _ I1 q1) fun vl s2 ⟨l,H2,I2,pl,q2⟩=>thn (hu pins s2 σ H2 _ I2 q2) fun vu s3 ⟨u,H3,I3,pu,q3⟩=>thn (hs pins s3 σ H3 _ I3 q3) fun vs s4 ⟨st,H4,I4,ps,q4⟩=>?_)
  obtain ⟨a,xs,rfl,hx,h0,hz',q⟩:=q4
  cases r1
  have I5:Inv X pins σ H4 { s4 with heap:=s4.heap.push { cls:=.type "slice",data:=.fields #[vl,vu,vs] } }:=I4.kept (t':=s4.toks) fun b ob q=>Heap.get?_push_of_some _ q
  obtain ⟨its,r,ht,hz⟩:=I5.list hx
  have hlen:=r.length
  show wpAny (model X.prog X.w) X.A (subscriptTail e (.Slice lo hi (some sp) p2) (.ref a) (.ref s4.heap.objs.size)) (EP X pins σ Q) X.xe { s4 with heap:=s4.heap.push { cls:=.type "slice",data:=.fields #[vl,vu,vs] } }
  refine tail_any (ops:=[.ref a,.ref s4.heap.objs.size]) ht.isList.typeIs slot_list_getitem.lookup (wpAny_getItem_list_slice ht.isList (Heap.IsSliceOf.new ..) pl pu ps h0 ?_ (by rw [List.size_toArray]<;>omega)) (by with_unfolding_all rfl)
  have ep:slicePick its.toArray l u st=((sliceRange (sliceBounds l u st xs.length).1 (sliceBounds l u st xs.length).2.1 (sliceBounds l u st xs.length).2.2).filterMap (its[·]?)).toArray:=by
    unfold slicePick
    rw [List.size_toArray,←hlen]
    simp
  rw [ep]
  refine ⟨.ref _,_,I5.laid (t':=s4.toks) (o:=.lst (Zd6 xs l u st)) (fun b ob q=>Heap.get?_push_of_some _ q) (Nat.le_refl _) ?_,rfl,q _ (I5.hok.fresh (Nat.le_refl _))⟩
  exact ⟨hz',_,0,r.pick _,Heap.get?_push_size _ rfl⟩
theorem ZfQ:fillsNumberSlot (.type "tuple") "mul"=pure false:=
  PySem.fillsNumberSlot_seq (id:="tuple.__mul__") (r:=some (.builtin "tuple.__rmul__")) F.slot_tuple_mul.lookup (by decide +kernel) F.slot_tuple_rmul.lookup (by decide +kernel)
theorem Zh8:seqRepeat? (.type "tuple")=pure (some (.builtin "tuple.__mul__")):=by
  unfold seqRepeat?
  rw [PySem.seqSlot_of (T:="tuple") (name:="__mul__") (id:="tuple.__mul__") F.slot_tuple_mul.lookup (by decide +kernel),PySem.seqSlot_of (T:="tuple") (name:="__rmul__") (id:="tuple.__rmul__") F.slot_tuple_rmul.lookup (by decide +kernel)]
  rfl
end
end L2
namespace L2
open PySem PySem.Spec PyProof.Rows Builtin
theorem ZgZ (a:Int) (t:Tok) (l:Addr) (items:Array Value) (n:Nat) (dd:Option Addr) (sl:Array (Option Value)) :
    Meets (Builtin.«int.__rmul__» ⟨[.int a t,.ref l],[]⟩) (fun _ R s=>s.heap.get? l=some { cls:=.type "tuple",dict:=dd,data:=.seq items n,slots:=sl }∧R (.ok (.ret Value.notImplemented)) s):=
  .of_wp fun prog w A R s h=>by obtain ⟨hp,g,d,tk,os⟩:=s; obtain ⟨hl,h⟩:=h; wp_walk; exact ⟨_,rfl,h⟩
theorem Zhj (l:Addr) (items:Array Value) (n:Nat) (dd:Option Addr) (sl:Array (Option Value)) (u:Tok) :
    Meets (Builtin.«tuple.__mul__» ⟨[.ref l,.int 1 u],[]⟩) (fun _ R s=>s.heap.get? l=some { cls:=.type "tuple",dict:=dd,data:=.seq items n,slots:=sl }∧R (.ok (.ret (Value.ref l))) s):=
  .of_wp fun prog w A R s h=>by
    obtain ⟨hp,g,d,tk,os⟩:=s; obtain ⟨hl,h⟩:=h
    wp_walk
    exact ⟨_,rfl,h⟩
theorem ZgJ (l:Addr) (items:Array Value) (n:Nat) (dd:Option Addr) (sl:Array (Option Value)) (u:Tok) (h0:items.isEmpty=false) :
    Meets (Builtin.«tuple.__mul__» ⟨[.ref l,.int 0 u],[]⟩) (fun _ R s=>s.heap.get? l=some { cls:=.type "tuple",dict:=dd,data:=.seq items n,slots:=sl }∧R (.ok (.ret (Value.ref s.heap.objs.size))) { s with heap:=s.heap.push { cls:=.type "tuple",data:=.seq #[] } }):=
  .of_wp fun prog w A R s h=>by
    obtain ⟨hp,g,d,tk,os⟩:=s; obtain ⟨hl,h⟩:=h
    wp_walk
    exact ⟨_,rfl,h⟩
theorem ZgK (l:Addr) (items:Array Value) (n:Nat) (dd:Option Addr) (sl:Array (Option Value)) (x:Int) (u:Tok) (h0:items.isEmpty=false) (h1:2≤x) (h2:x<1000) (h3:items.size*x≤1000) :
    Meets (Builtin.«tuple.__mul__» ⟨[.ref l,.int x u],[]⟩) (fun _ R s=>s.heap.get? l=some { cls:=.type "tuple",dict:=dd,data:=.seq items n,slots:=sl }∧R (.ok (.ret (Value.ref s.heap.objs.size))) { s with heap:=s.heap.push { cls:=.type "tuple",data:=.seq (List.foldl (fun x1 x2=>x1++x2) #[] (List.replicate x.toNat items)) } }):=
  .of_wp fun prog w A R s h=>by
    obtain ⟨hp,g,d,tk,os⟩:=s; obtain ⟨hl,h⟩:=h
    have c1:¬(decide (x < -(2 ^ 63)) || decide (x≥2 ^ 63))=true:=by rw [decide_eq_false (by omega),decide_eq_false (by omega)]; decide
    have c2:¬(items.isEmpty || x == 1)=true:=by
      have:(x == 1)=false:=by simp; omega
      rw [h0,this]; decide
    have c3:¬(decide (x≤0) || items.isEmpty)=true:=by rw [h0,decide_eq_false (by omega)]; decide
    have c4:¬((items.size:Int)*x > (2 ^ 63-1)/8):=by omega
    have c5:¬Tuple.tupleTooMany ((items.size:Int)*x)=true:=by
      unfold Tuple.tupleTooMany
      rw [decide_eq_false (by rw [sizeLine_eq]; omega)]
      decide
    wp_walk
    rw [if_neg c1]
    wp_walk
    rw [if_neg c2]
    show wpAny (model prog w) A.in1 (if (decide (x≤0) || items.isEmpty)=true then _ else if (items.size:Int)*x > (2 ^ 63-1)/8 then _ else if Tuple.tupleTooMany ((items.size:Int)*x)=true then _ else _) _ _ _
    rw [if_neg c3,if_neg c4,if_neg c5]
    have hz:(List.foldl (fun x1 x2=>x1++x2) #[] (List.replicate x.toNat items)).size≤sizeLine:=by
      have:(List.replicate x.toNat items).foldl (fun x1 x2=>x1++x2) #[]=(List.replicate x.toNat items.toList).flatten.toArray:=by
        have:=ZeE items.toList x.toNat []
        simpa using this
      rw [this,List.size_toArray,Zii,sizeLine_eq]
      have e:items.toList.length=items.size:=by simp
      rw [e]
      have e2:((x.toNat*items.size:Nat):Int)=(items.size:Int)*x:=by
        rw [Int.natCast_mul,Int.mul_comm]
        congr 1
        omega
      omega
    wp_walk
    exact ⟨_,rfl,h⟩
section
variable {X:Cx}
def Zt7 (K:PySem.W.Frag):R2:=fun x y H Q=>∃(a:Addr) (k:Int) (xs:List V),x=.ref a∧y=.int k∧SqT K H a xs∧xs≠[]∧0≤k∧k<1000∧(xs.length:Int)*k≤1000∧
  (k=1→Q (.ref a) H)∧(k≠1→∀p,H p=none→Q (.ref p) (upd H p (.tup (List.replicate k.toNat xs).flatten)))
theorem op_repT:OpR X (binaryOp .Mult) (Zt7 X.K):=by
  intro pins s σ H x y v u Q I rx ry h
  obtain ⟨a,k,xs,rfl,rfl,hH,hne,h0,h1,h2,q1,q2⟩:=h
  cases rx
  obtain ⟨t,rfl⟩:=ry
  obtain ⟨its,r,pl,hz⟩:=I.tuple hH
  obtain ⟨⟨oc,dd,data,sl⟩,e,hc,n,hd⟩:=pl
  simp only at hc hd
  subst hc hd
  have hl:=r.length
  have he:its.toArray.isEmpty=false:=by
    cases r with
    | nil=>exact absurd rfl hne
    | cons _ _=>rfl
  refine wpAny_binaryOp_repeat_ref (T:="tuple") (U:="int") (by decide) ⟨_,e,rfl⟩ (fun s'=>typeIs_int s' k t) ZfQ F.fills_int_mul F.slot_int_rmul Zh8 F.slot_int_index.lookup
    (call_meets F.slot_int_rmul (typeIs_int s k t) F.entry_int_rmul (F.args_int_rmul_2 _ _) (ZgZ k t a its.toArray n dd sl) ⟨e,rfl,⟨_,e,rfl⟩,?_⟩)
  by_cases k1:k=1
  · subst k1
    exact call_meets F.slot_tuple_mul ⟨_,e,rfl⟩ F.entry_tuple_mul (F.args_tuple_mul_2 _ _) (Zhj a its.toArray n dd sl t) ⟨e,.ref a,H,I,rfl,q1 rfl⟩
  · by_cases k0:k=0
    · subst k0
      refine call_meets F.slot_tuple_mul ⟨_,e,rfl⟩ F.entry_tuple_mul (F.args_tuple_mul_2 _ _) (ZgJ a its.toArray n dd sl t he) ⟨e,.ref s.heap.objs.size,_,I.laid (t':=s.toks) (o:=.tup []) (fun b ob q=>Heap.get?_push_of_some _ q) (Nat.le_refl _) ?_,rfl,?_⟩
      · exact ⟨Nat.zero_le _,[],.nil,IsTup.new _ _⟩
      · exact q2 k1 _ (I.hok.fresh (Nat.le_refl _))
    · refine call_meets F.slot_tuple_mul ⟨_,e,rfl⟩ F.entry_tuple_mul (F.args_tuple_mul_2 _ _) (ZgK a its.toArray n dd sl k t he (by omega) h1 (by rw [List.size_toArray,←hl]; exact h2)) ⟨e,?_⟩
      have hnew:List.foldl (fun x1 x2=>x1++x2) #[] (List.replicate k.toNat its.toArray)=(List.replicate k.toNat its).flatten.toArray:=by
        have:=ZeE its k.toNat []
        rw [List.nil_append] at this
        exact this
      rw [hnew]
      refine ⟨.ref s.heap.objs.size,_,I.laid (t':=s.toks) (o:=.tup (List.replicate k.toNat xs).flatten) (fun b ob q=>Heap.get?_push_of_some _ q) (Nat.le_refl _) ?_,rfl,q2 k1 _ (I.hok.fresh (Nat.le_refl _))⟩
      refine ⟨?_,_,r.rep k.toNat,IsTup.new _ _⟩
      rw [Zii,sizeLine_eq]
      have e2:((k.toNat*xs.length:Nat):Int)=(xs.length:Int)*k:=by
        rw [Int.natCast_mul,Int.mul_comm]
        congr 1
        omega
      omega
end
end L2
namespace L2.MM
open PySem PySem.Spec PyProof.Rows
theorem nr {α:Sort _} {a b:α} (h:a=b):a=b:=h
inductive D where
  | non | bl (b:Bool) | int (i:Int) | str (x:Str) | ty (n:String)
  | scr (ns:List Int) | tup (xs:List D) | lst (xs:List D) | ref (l:Nat)
  deriving Inhabited
inductive Cell where
  | lst (xs:List D) | dK (kvs:List (Key×D)) | dT (kvs:List (List Key×D)) | ins (C:Str) (fs:List (Str×D))
abbrev Sto:=List Cell
structure Bx where
  n:Nat
  m:Nat→Addr
  F:Addr→Prop
  os:List Addr
  ks:Addr→List Int→Prop
def Bx.ok (B:Bx) (a:Addr):Prop:=(∀i,i<B.n→B.m i≠a)∧¬B.F a∧a∉B.os
mutual
def RepV (B:Bx) (H:Hp):D→V→Prop
  | .non,v=>v=.non
  | .bl b,v=>v=.bl b
  | .int i,v=>v=.int i
  | .str x,v=>v=.str x
  | .ty n,v=>v=.ty n
  | .scr ns,v=>∃a,v=.ref a∧((∃o,H a=some (.frz o (.lst (ns.map V.int)))∧B.ok a)∨B.ks a ns)
  | .tup xs,v=>∃a vs,v=.ref a∧H a=some (.tup vs)∧B.ok a∧RepL B H xs vs
  | .lst xs,v=>∃a vs,v=.ref a∧H a=some (.lst vs)∧B.ok a∧RepL B H xs vs
  | .ref l,v=>l<B.n∧v=.ref (B.m l)
def RepL (B:Bx) (H:Hp):List D→List V→Prop
  | [],vs=>vs=[]
  | d::ds,vs=>∃v r,vs=v::r∧RepV B H d v∧RepL B H ds r
end
abbrev RepKV {κ:Type} (B:Bx) (H:Hp):List (κ×D)→List (κ×V)→Prop:=Paired fun p q=>p.1=q.1∧RepV B H p.2 q.2
structure ExtS (B B':Bx) (H H':Hp):Prop where
  n:B.n≤B'.n
  m:∀i,i<B.n→B'.m i=B.m i
  fr:∀i,B.n≤i→i<B'.n→H (B'.m i)=none
  keep:∀a o,H a=some o→(∀i,i<B.n→B.m i≠a)→a∉B.os→H' a=some o
  sm:∀a,H a≠none→H' a≠none
  os:∀a,a∈B'.os→a∈B.os∨H a=none
  F:B'.F=B.F
  ks:B'.ks=B.ks
structure ExtE (B B':Bx) (H H':Hp):Prop extends ExtS B B' H H' where
  osE:B'.os=B.os
  ko:∀a o,a∈B.os→(∀i,i<B.n→B.m i≠a)→H a=some o→H' a=some o
theorem ExtS.refl (B:Bx) (H:Hp):ExtS B B H H:=⟨Nat.le_refl _,fun _ _=>rfl,fun i h h'=>absurd h' (Nat.not_lt.mpr h),fun _ _ h _ _=>h,fun _ h=>h,fun _ h=>.inl h,rfl,rfl⟩
theorem ExtE.refl (B:Bx) (H:Hp):ExtE B B H H:=⟨ExtS.refl B H,rfl,fun _ _ _ _ h=>h⟩
section
variable {B B' B'':Bx} {H H' H'':Hp}
theorem Bx.ok.ext {a:Addr} {o:HO} (k:B.ok a) (E:ExtS B B' H H') (h:H a=some o):B'.ok a∧H' a=some o:=by
  refine ⟨⟨fun i hi e=>?_,by rw [E.F]; exact k.2.1,fun z=>?_⟩,E.keep a o h k.1 k.2.2⟩
  · by_cases q:i<B.n
    · rw [E.m i q] at e; exact k.1 i q e
    · have:=E.fr i (Nat.not_lt.mp q) hi
      rw [e,h] at this; cases this
  · rcases E.os a z with z | z
    · exact k.2.2 z
    · rw [h] at z; cases z
theorem ExtS.trans (E:ExtS B B' H H') (E':ExtS B' B'' H' H''):ExtS B B'' H H'' where
  n:=Nat.le_trans E.n E'.n
  m:=fun i hi=>(E'.m i (Nat.lt_of_lt_of_le hi E.n)).trans (E.m i hi)
  fr:=fun i h1 h2=>by
    by_cases q:i<B'.n
    · rw [E'.m i q]; exact E.fr i h1 q
    · cases z:H (B''.m i) with
      | none=>rfl
      | some o=>exact absurd (E'.fr i (Nat.not_lt.mp q) h2) (E.sm _ (by rw [z]; simp))
  keep:=fun a o h h1 h2=>by
    have h':=E.keep a o h h1 h2
    refine E'.keep a o h' (fun i hi e=>?_) (fun z=>?_)
    · by_cases q:i<B.n
      · rw [E.m i q] at e; exact h1 i q e
      · have:=E.fr i (Nat.not_lt.mp q) hi
        rw [e,h] at this; cases this
    · rcases E.os a z with z | z
      · exact h2 z
      · rw [h] at z; cases z
  sm:=fun a h=>E'.sm a (E.sm a h)
  os:=fun a h=>by
    rcases E'.os a h with z | z
    · exact E.os a z
    · right
      cases q:H a with
      | none=>rfl
      | some o=>exact absurd z (E.sm a (by rw [q]; simp))
  F:=E'.F.trans E.F
  ks:=E'.ks.trans E.ks
theorem ExtE.trans (E:ExtE B B' H H') (E':ExtE B' B'' H' H''):ExtE B B'' H H'' where
  toExtS:=E.toExtS.trans E'.toExtS
  osE:=E'.osE.trans E.osE
  ko:=fun a o ha h1 h=>by
    have h':=E.ko a o ha h1 h
    refine E'.ko a o (by rw [E.osE]; exact ha) (fun i hi e=>?_) h'
    by_cases q:i<B.n
    · rw [E.m i q] at e; exact h1 i q e
    · have:=E.fr i (Nat.not_lt.mp q) hi
      rw [e,h] at this; cases this
mutual
theorem RepV.ext (E:ExtS B B' H H'):∀{d:D} {v:V},RepV B H d v→RepV B' H' d v
  | .non,_,h=>h
  | .bl _,_,h=>h
  | .int _,_,h=>h
  | .str _,_,h=>h
  | .ty _,_,h=>h
  | .scr _,_,h=>by
    obtain ⟨a,e,h⟩:=h
    refine ⟨a,e,?_⟩
    rcases h with ⟨o,h,k⟩ | h
    · obtain ⟨k',h'⟩:=k.ext E h
      exact .inl ⟨o,h',k'⟩
    · exact .inr (by rw [E.ks]; exact h)
  | .tup _,_,h=>by
    obtain ⟨a,vs,e,h,k,l⟩:=h
    obtain ⟨k',h'⟩:=k.ext E h
    exact ⟨a,vs,e,h',k',RepL.ext E l⟩
  | .lst _,_,h=>by
    obtain ⟨a,vs,e,h,k,l⟩:=h
    obtain ⟨k',h'⟩:=k.ext E h
    exact ⟨a,vs,e,h',k',RepL.ext E l⟩
  | .ref l,_,h=>⟨Nat.lt_of_lt_of_le h.1 E.n,by rw [h.2,E.m l h.1]⟩
theorem RepL.ext (E:ExtS B B' H H'):∀{ds:List D} {vs:List V},RepL B H ds vs→RepL B' H' ds vs
  | [],_,h=>h
  | _::_,_,h=>by
    obtain ⟨v,r,e,hv,hr⟩:=h
    exact ⟨v,r,e,RepV.ext E hv,RepL.ext E hr⟩
end
theorem RepL.len:∀{ds:List D} {vs:List V},RepL B H ds vs→vs.length=ds.length
  | [],_,h=>by cases (show _=[] from h); rfl
  | _::_,_,h=>by
    obtain ⟨v,r,rfl,_,hr⟩:=h
    simp [RepL.len hr]
theorem RepL.app:∀{ds es:List D} {vs us:List V},RepL B H ds vs→RepL B H es us→RepL B H (ds++es) (vs++us)
  | [],_,_,_,h,q=>by cases (show _=[] from h); exact q
  | _::_,_,_,_,h,q=>by
    obtain ⟨v,r,rfl,hv,hr⟩:=h
    exact ⟨v,_,rfl,hv,RepL.app hr q⟩
theorem RepL.get:∀{ds:List D} {vs:List V} {i:Nat} {d:D},RepL B H ds vs→ds[i]?=some d→∃v,vs[i]?=some v∧RepV B H d v
  | [],_,_,_,_,e=>by simp at e
  | _::_,_,0,_,h,e=>by
    obtain ⟨v,r,rfl,hv,_⟩:=h
    simp at e; subst e
    exact ⟨v,rfl,hv⟩
  | _::_,_,i+1,_,h,e=>by
    obtain ⟨v,r,rfl,_,hr⟩:=h
    obtain ⟨w,q1,q2⟩:=RepL.get (i:=i) hr (by simpa using e)
    exact ⟨w,by simpa using q1,q2⟩
theorem RepL.take:∀{ds:List D} {vs:List V} (n:Nat),RepL B H ds vs→RepL B H (ds.take n) (vs.take n)
  | _,_,0,_=>by rw [List.take_zero,List.take_zero]; exact rfl
  | [],_,n+1,h=>by cases (show _=[] from h); exact rfl
  | _::_,_,n+1,h=>by
    obtain ⟨v,r,rfl,hv,hr⟩:=h
    exact ⟨v,_,rfl,hv,RepL.take n hr⟩
theorem RepL.drop:∀{ds:List D} {vs:List V} (n:Nat),RepL B H ds vs→RepL B H (ds.drop n) (vs.drop n)
  | _,_,0,h=>h
  | [],_,n+1,h=>by cases (show _=[] from h); exact rfl
  | _::_,_,n+1,h=>by
    obtain ⟨v,r,rfl,hv,hr⟩:=h
    exact RepL.drop n hr
theorem RepL.map {α:Type} {f:α→D} {g:α→V} (q:∀a,RepV B H (f a) (g a)):∀l:List α,RepL B H (l.map f) (l.map g)
  | []=>rfl
  | a::l=>⟨_,_,rfl,q a,RepL.map q l⟩
theorem RepKV.ext {κ:Type} (E:ExtS B B' H H'):∀{ks:List (κ×D)} {vs:List (κ×V)},RepKV B H ks vs→RepKV B' H' ks vs
  | _,_,.nil=>.nil
  | _,_,.cons h t=>.cons ⟨h.1,RepV.ext E h.2⟩ (RepKV.ext E t)
end
structure Mo where
  cl:Str→Addr
  K:PySem.W.Frag
def KL (K:PySem.W.Frag) (a:Addr) (ns:List Int):Prop:=∃(o:Obj) (its:Array Value) (n:Nat),K.lookup a=some o∧o.cls=.type "list"∧o.dict=none∧o.data=.seq its n∧its.size≤sizeLine∧Vals (ns.map V.int) its.toList
def CellOk (cl:Mo) (B:Bx) (H:Hp) (a:Addr):Cell→Prop
  | .lst xs=>∃vs,H a=some (.lst vs)∧RepL B H xs vs
  | .dK kvs=>∃vs,H a=some (.dK vs)∧RepKV B H kvs vs
  | .dT kvs=>∃vs,H a=some (.dT vs)∧RepKV B H kvs vs
  | .ins C fs=>∃dx vs,H a=some (.ins (cl.cl C) dx vs)∧RepKV B H fs vs
structure Good (cl:Mo) (B:Bx) (θ:Sto) (H:Hp):Prop where
  len:θ.length=B.n
  inj:∀i j,i<B.n→j<B.n→B.m i=B.m j→i=j
  cel:∀i c,θ[i]?=some c→CellOk cl B H (B.m i) c
  cF:∀i,i<B.n→¬B.F (B.m i)∧B.m i∉B.os
  Fs:∀a,B.F a→H a≠none
  oS:∀a,a∈B.os→H a≠none
  oF:∀a,a∈B.os→¬B.F a
  kc:∀a ns,B.ks a ns→KL cl.K a ns
section
variable {cl:Mo} {B B' B'':Bx} {H H' H'':Hp} {θ θ':Sto}
theorem CellOk.ext {a:Addr} {c:Cell} (k:CellOk cl B H a c) (E:ExtS B B' H H') (h:∀o,H a=some o→H' a=some o):CellOk cl B' H' a c:=by
  cases c with
  | lst xs=>obtain ⟨vs,e,r⟩:=k; exact ⟨vs,h _ e,r.ext E⟩
  | dK kvs=>obtain ⟨vs,e,r⟩:=k; exact ⟨vs,h _ e,r.ext E⟩
  | dT kvs=>obtain ⟨vs,e,r⟩:=k; exact ⟨vs,h _ e,r.ext E⟩
  | ins C fs=>obtain ⟨dx,vs,e,r⟩:=k; exact ⟨dx,vs,h _ e,r.ext E⟩
theorem CellOk.there {a:Addr} {c:Cell} (k:CellOk cl B H a c):H a≠none:=by
  cases c with
  | lst xs=>obtain ⟨vs,e,r⟩:=k; rw [e]; simp
  | dK kvs=>obtain ⟨vs,e,r⟩:=k; rw [e]; simp
  | dT kvs=>obtain ⟨vs,e,r⟩:=k; rw [e]; simp
  | ins C fs=>obtain ⟨dx,vs,e,r⟩:=k; rw [e]; simp
theorem Good.there (G:Good cl B θ H) {i:Nat} (hi:i<B.n):H (B.m i)≠none:=by
  have:i < θ.length:=by rw [G.len]; exact hi
  exact (G.cel i _ (List.getElem?_eq_getElem this)).there
theorem Good.okNone (G:Good cl B θ H) {p:Addr} (h:H p=none):B.ok p:=
  ⟨fun i hi e=>G.there hi (by rw [e]; exact h),fun z=>G.Fs p z h,fun z=>G.oS p z h⟩
theorem Zcw (G:Good cl B θ H) {p:Addr} (h:H p=none) (o:HO):ExtE B B H (upd H p o):=by
  have ne:∀a u,H a=some u→upd H p o a=some u:=fun a u e=>by rw [ZO (zj e h)]; exact e
  exact ⟨⟨Nat.le_refl _,fun _ _=>rfl,fun i h h'=>absurd h' (Nat.not_lt.mpr h),fun a u e _ _=>ne a u e,fun a e=>by
    cases q:H a with
    | none=>exact absurd q e
    | some u=>rw [ne a u q]; simp,fun _ h=>.inl h,rfl,rfl⟩,rfl,fun a u _ _ e=>ne a u e⟩
theorem Zej (G:Good cl B θ H) {p:Addr} (h:H p=none) (o:HO):Good cl B θ (upd H p o):=by
  have E:=Zcw G h o
  exact ⟨G.len,G.inj,fun i c e=>(G.cel i c e).ext E.toExtS fun u q=>by rw [ZO (zj q h)]; exact q,G.cF,fun a z=>E.sm a (G.Fs a z),fun a z=>E.sm a (G.oS a z),G.oF,G.kc⟩
theorem Zp7 (G:Good cl B θ H) {p:Addr} (h:H p=none) {xs:List D} {vs:List V} (r:RepL B H xs vs):RepV B (upd H p (.lst vs)) (.lst xs) (.ref p):=
  ⟨p,vs,rfl,zl,G.okNone h,r.ext (Zcw G h _).toExtS⟩
theorem Zp6 (G:Good cl B θ H) {p:Addr} (h:H p=none) {xs:List D} {vs:List V} (r:RepL B H xs vs):RepV B (upd H p (.tup vs)) (.tup xs) (.ref p):=
  ⟨p,vs,rfl,zl,G.okNone h,r.ext (Zcw G h _).toExtS⟩
def Bx.push (B:Bx) (p:Addr):Bx:={ B with n:=B.n+1,m:=fun i=>if i=B.n then p else B.m i }
theorem Zek (G:Good cl B θ H) {p:Addr} (h:H p=none) (o:HO):ExtE B (B.push p) H (upd H p o):=by
  have E:=Zcw G h o
  refine ⟨⟨Nat.le_succ _,fun i hi=>if_neg (Nat.ne_of_lt hi),fun i h1 h2=>?_,E.keep,E.sm,fun _ h=>.inl h,rfl,rfl⟩,rfl,E.ko⟩
  have e:i=B.n:=Nat.le_antisymm (Nat.le_of_lt_succ h2) h1
  show H (if i=B.n then p else B.m i)=none
  rw [if_pos e]; exact h
theorem ZfY (G:Good cl B θ H) {p:Addr} (h:H p=none) {o:HO} {c:Cell} (k:CellOk cl (B.push p) (upd H p o) p c):Good cl (B.push p) (θ++[c]) (upd H p o):=by
  have E:=Zek G h o
  have hm:∀i,i<B.n→(B.push p).m i=B.m i:=fun i hi=>if_neg (Nat.ne_of_lt hi)
  have hn:(B.push p).m B.n=p:=if_pos rfl
  have cs:∀i,i<(B.push p).n→i<B.n∨i=B.n:=fun i hi=>Nat.lt_succ_iff_lt_or_eq.mp hi
  have ok:=G.okNone h
  refine ⟨by rw [List.length_append,G.len]; rfl,fun i j hi hj e=>?_,fun i c' e=>?_,fun i hi=>?_,fun a z=>E.sm a (G.Fs a z),fun a z=>E.sm a (G.oS a z),G.oF,G.kc⟩
  · rcases cs i hi with a | a<;>rcases cs j hj with b | b
    · rw [hm i a,hm j b] at e; exact G.inj i j a b e
    · rw [hm i a,b,hn] at e; exact absurd e (ok.1 i a)
    · rw [hm j b,a,hn] at e; exact absurd e.symm (ok.1 j b)
    · rw [a,b]
  · by_cases q:i < θ.length
    · rw [List.getElem?_append_left q] at e
      rw [hm i (by rw [←G.len]; exact q)]
      exact (G.cel i c' e).ext E.toExtS fun u z=>by rw [ZO (zj z h)]; exact z
    · have q':=Nat.not_lt.mp q
      rw [List.getElem?_append_right q'] at e
      have:i - θ.length=0:=by
        cases z:i - θ.length with
        | zero=>rfl
        | succ k=>rw [z] at e; simp at e
      rw [this] at e
      simp at e
      subst e
      have:i=B.n:=by rw [←G.len]; omega
      rw [this,hn]; exact k
  · rcases cs i hi with a | a
    · rw [hm i a]; exact G.cF i a
    · rw [a,hn]; exact ⟨ok.2.1,ok.2.2⟩
theorem ZeF (G:Good cl B θ H) {l:Nat} (hl:l<B.n) (o:HO):ExtE B B H (upd H (B.m l) o):=by
  have ne:∀a u,(∀i,i<B.n→B.m i≠a)→H a=some u→upd H (B.m l) o a=some u:=fun a u k e=>by rw [ZO (Ne.symm (k l hl))]; exact e
  exact ⟨⟨Nat.le_refl _,fun _ _=>rfl,fun i h h'=>absurd h' (Nat.not_lt.mpr h),fun a u e k _=>ne a u k e,fun a e=>by
    by_cases q:a=B.m l
    · rw [q,zl]; simp
    · rw [ZO q]; exact e,fun _ h=>.inl h,rfl,rfl⟩,rfl,fun a u _ k e=>ne a u k e⟩
theorem Zei (G:Good cl B θ H) {l:Nat} (hl:l<B.n) {o:HO} {c:Cell} (k:CellOk cl B (upd H (B.m l) o) (B.m l) c):Good cl B (θ.set l c) (upd H (B.m l) o):=by
  have E:=ZeF G hl o
  refine ⟨by rw [List.length_set]; exact G.len,G.inj,fun i c' e=>?_,G.cF,fun a z=>E.sm a (G.Fs a z),fun a z=>E.sm a (G.oS a z),G.oF,G.kc⟩
  by_cases q:i=l
  · subst q
    rw [List.getElem?_set_self (by rw [G.len]; exact hl)] at e
    cases e; exact k
  · rw [List.getElem?_set_ne (Ne.symm q)] at e
    have hi:i<B.n:=by rw [←G.len]; exact (List.getElem?_eq_some_iff.mp e).1
    exact (G.cel i c' e).ext E.toExtS fun u z=>by rw [ZO (fun z'=>q (G.inj i l hi hl z'))]; exact z
end
inductive R (α:Type) where
  | ok (a:α) (θ:Sto) | ex (c:Str) (θ:Sto) | bad
def R.bind {α β:Type} (r:R α) (k:α→Sto→R β):R β:=match r with
  | .ok a θ=>k a θ
  | .ex c θ=>.ex c θ
  | .bad=>.bad
@[simp] theorem R.bind_ok {α β:Type} (a:α) (θ:Sto) (k:α→Sto→R β):(R.ok a θ).bind k=k a θ:=nr rfl
@[simp] theorem R.bind_bad {α β:Type} (k:α→Sto→R β):(R.bad:R α).bind k=.bad:=nr rfl
inductive Sl where
  | no | val (d:D) | own (xs:List D)
structure Frm (cl:Mo) (B:Bx) (θ:Sto) (ρ:List Sl) (σ:St) (H:Hp):Prop where
  good:Good cl B θ H
  len:ρ.length=σ.length
  val:∀(i:Nat) (d:D),ρ[i]?=some (Sl.val d)→∃v,σ[i]?=some (some v)∧RepV B H d v
  own:∀(i:Nat) (xs:List D),ρ[i]?=some (Sl.own xs)→∃a vs,σ[i]?=some (some (.ref a))∧a∈B.os∧H a=some (.lst vs)∧RepL B H xs vs
  ne:∀(i j:Nat) (xs ys:List D) (a:Addr),i≠j→ρ[i]?=some (Sl.own xs)→ρ[j]?=some (Sl.own ys)→σ[i]?=some (some (.ref a))→σ[j]?≠some (some (.ref a))
theorem Frm.ext {cl:Mo} {B B':Bx} {θ θ':Sto} {ρ:List Sl} {σ:St} {H H':Hp} (F:Frm cl B θ ρ σ H) (E:ExtE B B' H H') (G:Good cl B' θ' H'):Frm cl B' θ' ρ σ H' where
  good:=G
  len:=F.len
  val:=fun i d e=>let ⟨v,h1,h2⟩:=F.val i d e; ⟨v,h1,h2.ext E.toExtS⟩
  own:=fun i xs e=>by
    obtain ⟨a,vs,h1,h2,h3,h4⟩:=F.own i xs e
    exact ⟨a,vs,h1,by rw [E.osE]; exact h2,E.ko a _ h2 (fun i hi z=>(F.good.cF i hi).2 (by rw [z]; exact h2)) h3,h4.ext E.toExtS⟩
  ne:=F.ne
def zX (mg:Str→Option Value) (x:Str):Addr:=match mg x with
  | some (.ref a)=>a
  | _=>0
abbrev _root_.L2.Cx.cl (X:Cx):Mo:=⟨zX X.mg,X.K⟩
def XE (X:Cx) (σ:St) (B:Bx) (H:Hp) (c:Str) (θ':Sto):Prop:=False
theorem XE.trans {X:Cx} {σ:St} {B B':Bx} {H H':Hp} {c:Str} {θ':Sto} (h:XE X σ B H c θ') (E:ExtE B B' H H'):XE X σ B' H' c θ':=h
def wpR (X:Cx) (σ:St) {α β:Type} (Rel:Bx→Hp→α→β→Prop) (B:Bx) (H:Hp) (r:R α) (Q:β→Hp→Prop):Prop:=match r with
  | .ok a θ'=>∀B' H' b,ExtE B B' H H'→Good X.cl B' θ' H'→Rel B' H' a b→Q b H'
  | .ex c θ'=>XE X σ B H c θ'
  | .bad=>False
section
variable {X:Cx} {σ:St} {α β γ δ:Type} {Rel:Bx→Hp→α→β→Prop} {Rel':Bx→Hp→γ→δ→Prop} {B B':Bx} {H H':Hp}
theorem wpR.mono {r:R α} {Q Q':β→Hp→Prop} (h:wpR X σ Rel B H r Q) (hQ:∀b H',Q b H'→Q' b H'):wpR X σ Rel B H r Q':=by
  cases r with
  | ok a θ'=>exact fun B' H' b e g q=>hQ _ _ (h B' H' b e g q)
  | ex c θ'=>exact h
  | bad=>exact h
theorem wpR.trans {r:R α} {Q:β→Hp→Prop} (h:wpR X σ Rel B H r Q) (E:ExtE B B' H H'):wpR X σ Rel B' H' r Q:=by
  cases r with
  | ok a θ'=>exact fun B2 H2 b e g q=>h B2 H2 b (E.trans e) g q
  | ex c θ'=>exact XE.trans (c:=c) (θ':=θ') (σ:=σ) (X:=X) h E
  | bad=>exact h
theorem wpR.bind {r:R α} {k:α→Sto→R γ} {Q:δ→Hp→Prop} (h:wpR X σ Rel' B H (r.bind k) Q) :
    wpR X σ Rel B H r (fun b H1=>∃B1 θ1 a,ExtE B B1 H H1∧Good X.cl B1 θ1 H1∧Rel B1 H1 a b∧wpR X σ Rel' B1 H1 (k a θ1) Q):=by
  cases r with
  | ok a θ'=>exact fun B1 H1 b E g q=>⟨B1,θ',a,E,g,q,wpR.trans h E⟩
  | ex c θ'=>exact h
  | bad=>exact h
end
abbrev EM:=List Sl→Sto→R D
abbrev TMr:=List Sl→Sto→R Bool
abbrev AM:=List Sl→Sto→R (List D)
def EqB (_:Bx) (_:Hp) (a b:Bool):Prop:=a=b
def tM (X:Cx) (f:EM):TE:=fun σ H Q=>∃B θ ρ,Frm X.cl B θ ρ σ H∧wpR X σ RepV B H (f ρ θ) Q
def tMT (X:Cx) (f:TMr):TT:=fun σ H Q=>∃B θ ρ,Frm X.cl B θ ρ σ H∧wpR X σ EqB B H (f ρ θ) Q
def tMA (X:Cx) (f:AM):TA:=fun σ H Q=>∃B θ ρ,Frm X.cl B θ ρ σ H∧wpR X σ RepL B H (f ρ θ) Q
def ME (X:Cx) (e:Expr) (f:EM):Prop:=PE X e (tM X f)
def MT (X:Cx) (e:Expr) (f:TMr):Prop:=PT X e (tMT X f)
def MW (X:Cx) (e:Expr) (f:TMr):Prop:=PW X e (tMT X f)
def MA (X:Cx) (es:List Expr) (f:AM):Prop:=PA X es (tMA X f)
section
variable {X:Cx} {σ:St} {H:Hp} {γ δ:Type} {Rel':Bx→Hp→γ→δ→Prop}
theorem ZW {f:EM} {Q Q':VK} (h:tM X f σ H Q) (hQ:∀v H',Q v H'→Q' v H'):tM X f σ H Q':=let ⟨B,θ,ρ,F,w⟩:=h; ⟨B,θ,ρ,F,w.mono hQ⟩
theorem Zdh {f:TMr} {Q Q':Bool→Hp→Prop} (h:tMT X f σ H Q) (hQ:∀v H',Q v H'→Q' v H'):tMT X f σ H Q':=let ⟨B,θ,ρ,F,w⟩:=h; ⟨B,θ,ρ,F,w.mono hQ⟩
theorem Zbi {f:AM} {Q Q':List V→Hp→Prop} (h:tMA X f σ H Q) (hQ:∀v H',Q v H'→Q' v H'):tMA X f σ H Q':=let ⟨B,θ,ρ,F,w⟩:=h; ⟨B,θ,ρ,F,w.mono hQ⟩
variable {B:Bx} {θ:Sto} {ρ:List Sl}
theorem step {f:EM} {k:D→Sto→R γ} {Q:δ→Hp→Prop} (F:Frm X.cl B θ ρ σ H) (h:wpR X σ Rel' B H ((f ρ θ).bind k) Q) :
    tM X f σ H (fun v H1=>∃B1 θ1 d,ExtE B B1 H H1∧Frm X.cl B1 θ1 ρ σ H1∧RepV B1 H1 d v∧wpR X σ Rel' B1 H1 (k d θ1) Q):=
  ⟨B,θ,ρ,F,(wpR.bind (Rel:=RepV) h).mono fun v H1 ⟨B1,θ1,d,E,G,r,w⟩=>⟨B1,θ1,d,E,F.ext E G,r,w⟩⟩
theorem Zll {f:TMr} {k:Bool→Sto→R γ} {Q:δ→Hp→Prop} (F:Frm X.cl B θ ρ σ H) (h:wpR X σ Rel' B H ((f ρ θ).bind k) Q) :
    tMT X f σ H (fun c H1=>∃B1 θ1,ExtE B B1 H H1∧Frm X.cl B1 θ1 ρ σ H1∧wpR X σ Rel' B1 H1 (k c θ1) Q):=
  ⟨B,θ,ρ,F,(wpR.bind (Rel:=EqB) h).mono fun v H1 ⟨B1,θ1,d,E,G,r,w⟩=>by cases (show d=v from r); exact ⟨B1,θ1,E,F.ext E G,w⟩⟩
theorem Zf6 {f:AM} {k:List D→Sto→R γ} {Q:δ→Hp→Prop} (F:Frm X.cl B θ ρ σ H) (h:wpR X σ Rel' B H ((f ρ θ).bind k) Q) :
    tMA X f σ H (fun v H1=>∃B1 θ1 d,ExtE B B1 H H1∧Frm X.cl B1 θ1 ρ σ H1∧RepL B1 H1 d v∧wpR X σ Rel' B1 H1 (k d θ1) Q):=
  ⟨B,θ,ρ,F,(wpR.bind (Rel:=RepL) h).mono fun v H1 ⟨B1,θ1,d,E,G,r,w⟩=>⟨B1,θ1,d,E,F.ext E G,r,w⟩⟩
theorem ZR {α β:Type} {Rel:Bx→Hp→α→β→Prop} {a:α} {b:β} {Q:β→Hp→Prop} (G:Good X.cl B θ H) (r:Rel B H a b) (h:wpR X σ Rel B H (.ok a θ) Q):Q b H:=h B H b (ExtE.refl B H) G r
end
theorem PE.imp {X:Cx} {e:Expr} {t t':TE} (h:PE X e t) (hi:∀σ H Q,t' σ H Q→t σ H Q):PE X e t':=fun pins s σ H Q I q=>h pins s σ H Q I (hi σ H Q q)
theorem PT.imp {X:Cx} {e:Expr} {t t':TT} (h:PT X e t) (hi:∀σ H Q,t' σ H Q→t σ H Q):PT X e t':=fun pins s σ H Q I q=>h pins s σ H Q I (hi σ H Q q)
theorem PW.imp {X:Cx} {e:Expr} {t t':TT} (h:PW X e t) (hi:∀σ H Q,t' σ H Q→t σ H Q):PW X e t':=fun wh pins s σ H Q I q=>h wh pins s σ H Q I (hi σ H Q q)
theorem PA.imp {X:Cx} {es:List Expr} {t t':TA} (h:PA X es t) (hi:∀σ H Q,t' σ H Q→t σ H Q):PA X es t':=fun pos pins s σ H Q I q=>h pos pins s σ H Q I (hi σ H Q q)
theorem OpR.imp {X:Cx} {f:Value→Value→Sem Value} {r r':R2} (h:OpR X f r) (hi:∀x y H Q,r' x y H Q→r x y H Q):OpR X f r':=fun pins s σ H x y v u Q I rx ry q=>h pins s σ H x y v u Q I rx ry (hi x y H Q q)
theorem IxR.imp {X:Cx} {r r':R2} (h:IxR X r) (hi:∀x y H Q,r' x y H Q→r x y H Q):IxR X r':=fun pins s σ H x y v u Q v1 s1 I rx ry q=>h pins s σ H x y v u Q v1 s1 I rx ry (hi _ _ _ _ q)
theorem CallR.imp {X:Cx} {f:Value} {r r':List V→Hp→VK→Prop} (h:CallR X f r) (hi:∀xs H Q,r' xs H Q→r xs H Q):CallR X f r':=fun pins s σ H xs us Q I r q=>h pins s σ H xs us Q I r (hi _ _ _ q)
end L2.MM
namespace L2.MM
open PySem PySem.Spec PyProof.Rows
noncomputable section
variable {X:Cx}
def ZaC (θ:Sto):D→Option (List D)
  | .lst xs=>some xs
  | .ref l=>match θ[l]? with
    | some (.lst xs)=>some xs
    | _=>none
  | _=>none
def seqOf (θ:Sto):D→Option (List D)
  | .tup xs=>some xs
  | .scr ns=>some (ns.map D.int)
  | d=>ZaC θ d
theorem ZaB {cl:Mo} {B:Bx} {θ:Sto} {H:Hp} (G:Good cl B θ H) {d:D} {v:V} {xs:List D} (r:RepV B H d v) (h:ZaC θ d=some xs):∃a vs,v=.ref a∧H a=some (.lst vs)∧RepL B H xs vs:=by
  cases d with
  | lst ys=>
    obtain ⟨a,vs,e,h1,_,h2⟩:=r
    cases h
    exact ⟨a,vs,e,h1,h2⟩
  | ref l=>
    obtain ⟨hl,rfl⟩:=r
    simp only [ZaC] at h
    split at h
    · rename_i ys e
      cases h
      obtain ⟨vs,q1,q2⟩:=G.cel l _ e
      exact ⟨_,vs,rfl,q1,q2⟩
    · cases h
  | _=>cases h
theorem ZcE {cl:Mo} {B:Bx} {θ:Sto} {H:Hp} (G:Good cl B θ H) {d:D} {v:V} {xs:List D} (r:RepV B H d v) (h:seqOf θ d=some xs) :
    ∃a vs,v=.ref a∧(SqL cl.K H a vs∨SqT cl.K H a vs)∧RepL B H xs vs:=by
  cases d with
  | tup ys=>
    obtain ⟨a,vs,e,h1,_,h2⟩:=r
    cases h
    exact ⟨a,vs,e,.inr (SqT.of h1),h2⟩
  | scr ns=>
    obtain ⟨a,e,h1⟩:=r
    cases h
    refine ⟨a,ns.map V.int,e,.inl ?_,RepL.map (f:=D.int) (g:=V.int) (fun _=>rfl) ns⟩
    rcases h1 with ⟨o,h1,_⟩ | h1
    · exact .inl (.inr ⟨o,h1⟩)
    · exact .inr (G.kc a ns h1)
  | lst ys=>
    obtain ⟨a,vs,e,h1,h2⟩:=ZaB G r (show ZaC θ (.lst ys)=some xs from h)
    exact ⟨a,vs,e,.inl (SqL.of h1),h2⟩
  | ref l=>
    obtain ⟨a,vs,e,h1,h2⟩:=ZaB G r (show ZaC θ (.ref l)=some xs from h)
    exact ⟨a,vs,e,.inl (SqL.of h1),h2⟩
  | _=>cases h
abbrev BIG:Nat:=100000
theorem zV {n:Nat} (h:n≤BIG):n≤sizeLine:=Nat.le_trans h (by rw [sizeLine_eq]; decide)
def Zd (i:Nat):EM:=fun ρ θ=>match ρ[i]? with
  | some (Sl.val d)=>.ok d θ
  | _=>.bad
def mC (d:D):EM:=fun _ θ=>.ok d θ
section
variable {a b c e:Expr} {pos:Pos} {fa fb fc:EM} {ft fu:TMr}
theorem Za (i:Nat) {x:Str} {pos:Pos} (hN:X.N[i]?=some x:=by rfl) (hv:Vis X.env.scope x:=by first | exact Or.inl rfl | exact Or.inr (Or.inl rfl) | exact Or.inr (Or.inr rfl))
    (hd:(x == ("__debug__":Str))=false:=by decide) (hcd:(x == ("__classdict__":Str))=false:=by decide):ME X (.Name x pos) (Zd i):=by
  refine PE.imp (Zoo hN hv hd hcd) fun σ H Q h=>?_
  obtain ⟨B,θ,ρ,F,w⟩:=h
  unfold Zd at w
  split at w
  · rename_i d e
    obtain ⟨v,h1,h2⟩:=F.val i d e
    exact ⟨v,h1,ZR F.good h2 w⟩
  · exact w.elim
theorem Zmq {d:D} {v:V} (h:PE X e (tC v)) (r:∀B H,RepV B H d v):ME X e (mC d):=by
  refine PE.imp h fun σ H Q h=>?_
  obtain ⟨B,θ,ρ,F,w⟩:=h
  exact ZR F.good (r B H) w
theorem Zj {i j pos}:ME X (.Constant (.int i) j pos) (mC (.int i)):=Zmq ZsD fun _ _=>rfl
theorem Zad {i j pos}:ME X (.Constant (.bool i) j pos) (mC (.bl i)):=Zmq Zuk fun _ _=>rfl
theorem Zbw {j pos}:ME X (.Constant .none j pos) (mC .non):=Zmq ZsC fun _ _=>rfl
theorem ZoN {i j pos}:ME X (.Constant (.str i) j pos) (mC (.str i)):=Zmq ZsA fun _ _=>rfl
theorem Zl {x:Str} {i:Int} (h:∃t,X.mg x=some (.int i t)) (hg:Gl X x:=by rfl) (hd:(x == ("__debug__":Str))=false:=by decide):ME X (.Name x pos) (mC (.int i)):=Zmq (Zql h hg hd) fun _ _=>rfl
theorem ZA {x:Str} {y:Str} (h:∃t,X.mg x=some (.str y t)) (hg:Gl X x:=by rfl) (hd:(x == ("__debug__":Str))=false:=by decide):ME X (.Name x pos) (mC (.str y)):=by
  obtain ⟨t,h⟩:=h
  exact Zmq (Zls hg h (v:=.str y) ⟨t,rfl⟩ hd) fun _ _=>rfl
abbrev OM:=D→D→Sto→R D
def mOp (g:OM) (fa fb:EM):EM:=fun ρ θ=>(fa ρ θ).bind fun x θ=>(fb ρ θ).bind fun y θ=>g x y θ
def rM (X:Cx) (g:OM):R2:=fun x y H Q=>∃σ B θ d e,Good X.cl B θ H∧RepV B H d x∧RepV B H e y∧wpR X σ RepV B H (g d e θ) Q
theorem Zlj {g:OM} (σ:St) (H:Hp) (Q:VK) (h:tM X (mOp g fa fb) σ H Q):tOp (rM X g) (tM X fa) (tM X fb) σ H Q:=by
  obtain ⟨B,θ,ρ,F,w⟩:=h
  refine ZW (step F w) ?_
  rintro x' H1 ⟨B1,θ1,x,E1,F1,rx,w1⟩
  refine ZW (step F1 w1) ?_
  rintro y' H2 ⟨B2,θ2,y,E2,F2,ry,w2⟩
  exact ⟨σ,B2,θ2,x,y,F2.good,rx.ext E2.toExtS,ry,w2⟩
theorem ZF {op:Operator} {g:OM} (ho:OpR X (binaryOp op) (rM X g)) (ha:ME X a fa) (hb:ME X b fb):ME X (.BinOp a op b pos) (mOp g fa fb):=PE.imp (Zuh ho ha hb) Zlj
theorem zG {op:CmpOp} {g:OM} (ho:OpR X (compareOp op) (rM X g)) (ha:ME X a fa) (hb:ME X b fb) (hm:behindInMarks op b=false:=by first | exact ZoG _ | rfl):ME X (.Compare a [op] [b] pos) (mOp g fa fb):=PE.imp (Zqm ho ha hb hm) Zlj
theorem ZH {g:OM} (hr:IxR X (rM X g)) (ha:ME X a fa) (hb:ME X b fb) (hs:Zl4 b:=by intro _ _; rfl):ME X (.Subscript a b pos) (mOp g fa fb):=PE.imp (Zuj hr ha hb hs) Zlj
def ZI (f:EM):TMr:=fun ρ θ=>(f ρ θ).bind fun x θ=>match x with
  | .bl k=>.ok k θ
  | _=>.bad
theorem ZjS {f:EM} (σ:St) (H:Hp) (Q:Bool→Hp→Prop) (h:tMT X (ZI f) σ H Q):tM X f σ H (fun v H1=>∃k,v=.bl k∧Q k H1):=by
  obtain ⟨B,θ,ρ,F,w⟩:=h
  refine ZW (step F w) ?_
  rintro v H1 ⟨B1,θ1,x,E1,F1,rx,w1⟩
  cases x with
  | bl k=>exact ⟨k,rx,ZR (Rel:=EqB) F1.good rfl w1⟩
  | _=>exact w1.elim
theorem ZG {op:CmpOp} {g:OM} (ho:OpR X (compareOp op) (rM X g)) (ha:ME X a fa) (hb:ME X b fb) (hm:behindInMarks op b=false:=by first | exact ZoG _ | rfl):MT X (.Compare a [op] [b] pos) (ZI (mOp g fa fb)):=by
  refine PT.imp (Zqd ho ha hb hm) fun σ H Q h=>?_
  have q:=ZjS σ H Q h
  exact Zlj σ H _ q
def ZfS (g g':OM) (fa fb fc:EM):EM:=fun ρ θ=>(fa ρ θ).bind fun x θ=>(fb ρ θ).bind fun y θ=>(g x y θ).bind fun z θ=>match z with
  | .bl true=>(fc ρ θ).bind fun w θ=>g' y w θ
  | .bl false=>.ok (.bl false) θ
  | _=>.bad
theorem Zn5 {g g':OM} (σ:St) (H:Hp) (Q:VK) (h:tM X (ZfS g g' fa fb fc) σ H Q):Zn7 (rM X g) (rM X g') (tM X fa) (tM X fb) (tM X fc) σ H Q:=by
  obtain ⟨B,θ,ρ,F,w⟩:=h
  refine ZW (step F w) ?_
  rintro x' H1 ⟨B1,θ1,x,E1,F1,rx,w1⟩
  refine ZW (step F1 w1) ?_
  rintro y' H2 ⟨B2,θ2,y,E2,F2,ry,w2⟩
  refine ⟨σ,B2,θ2,x,y,F2.good,rx.ext E2.toExtS,ry,(wpR.bind (Rel:=RepV) w2).mono ?_⟩
  rintro z' H3 ⟨B3,θ3,z,E3,G3,rz,w3⟩
  have F3:=F2.ext E3 G3
  cases z with
  | bl k=>
    refine ⟨k,rz,?_⟩
    cases k with
    | true=>
      rw [if_pos rfl]
      refine ZW (step F3 w3) ?_
      rintro w' H4 ⟨B4,θ4,u,E4,F4,ru,w4⟩
      exact ⟨σ,B4,θ4,y,u,F4.good,ry.ext (E3.trans E4).toExtS,ru,w4⟩
    | false=>
      rw [if_neg Bool.false_ne_true]
      exact ZR G3 (show RepV B3 H3 (.bl false) (.bl false) from rfl) w3
  | _=>exact w3.elim
theorem ZgT {op op':CmpOp} {g g':OM} (ho:OpR X (compareOp op) (rM X g)) (ho':OpR X (compareOp op') (rM X g')) (ha:ME X a fa) (hb:ME X b fb) (hc:ME X c fc)
    (hm:lastMarks [op,op'] [b,c]=false:=by with_unfolding_all rfl):ME X (.Compare a [op,op'] [b,c] pos) (ZfS g g' fa fb fc):=PE.imp (Zov ho ho' ha hb hc hm) Zn5
def Zgn (θ:Sto):D→Option Bool
  | .non=>some false
  | .bl b=>some b
  | .int i=>some (i != 0)
  | .str x=>if x.length≤BIG then some ((x.length:Int) != 0) else none
  | d=>(seqOf θ d).map fun xs=>!xs.isEmpty
def z5 (f:EM):TMr:=fun ρ θ=>(f ρ θ).bind fun x θ=>match Zgn θ x with
  | some k=>.ok k θ
  | none=>.bad
theorem RepL.emp {B:Bx} {H:Hp} {xs:List D} {vs:List V} (r:RepL B H xs vs):vs.isEmpty=xs.isEmpty:=by
  cases xs with
  | nil=>cases (show vs=[] from r); rfl
  | cons _ _=>obtain ⟨v,q,rfl,_,_⟩:=r; rfl
theorem Zle {cl:Mo} {B:Bx} {θ:Sto} {H:Hp} (G:Good cl B θ H) {d:D} {v:V} {k:Bool} (r:RepV B H d v) (h:Zgn θ d=some k):TruV cl.K v H k:=by
  have sq:∀xs,seqOf θ d=some xs→((seqOf θ d).map fun xs=>!xs.isEmpty)=some k→TruV cl.K v H k:=fun xs e q=>by
    rw [e] at q
    cases q
    obtain ⟨a,vs,rfl,h1,h2⟩:=ZcE G r e
    show TruV cl.K (V.ref a) H (!xs.isEmpty)
    rw [←h2.emp]
    rcases h1 with h1 | h1
    · exact .inl ⟨vs,h1,rfl⟩
    · exact .inr (.inl ⟨vs,h1,rfl⟩)
  cases d with
  | non=>cases (show v=.non from r); cases h; rfl
  | bl b=>cases (show v=.bl b from r); cases h; rfl
  | int i=>cases (show v=.int i from r); cases h; rfl
  | str x=>
    cases (show v=.str x from r)
    simp only [Zgn] at h
    split at h
    · rename_i hz; cases h; exact ⟨zV hz,rfl⟩
    · cases h
  | ty n=>simp [Zgn,seqOf,ZaC] at h
  | scr ns=>exact sq _ rfl h
  | tup xs=>exact sq _ rfl h
  | lst xs=>exact sq _ rfl h
  | ref l=>
    cases e:seqOf θ (.ref l) with
    | none=>simp only [Zgn,e] at h; cases h
    | some xs=>exact sq xs e h
theorem ZD (ha:ME X a fa) (he:∀whole,isTrue a X.env whole=(do let v ←whole; standAt a.pos; holding [v] (truthy v)):=by intro _; rfl):MT X a (z5 fa):=by
  refine PT.imp (Zoi ha he) fun σ H Q h=>?_
  obtain ⟨B,θ,ρ,F,w⟩:=h
  refine ZW (step F w) ?_
  rintro v H1 ⟨B1,θ1,x,E1,F1,rx,w1⟩
  cases e:Zgn θ1 x with
  | none=>rw [e] at w1; exact w1.elim
  | some k=>rw [e] at w1; exact ⟨k,Zle F1.good rx e,ZR (Rel:=EqB) F1.good rfl w1⟩
def ZfT (f g:TMr):TMr:=fun ρ θ=>(f ρ θ).bind fun k θ=>if k=true then g ρ θ else .ok false θ
def mOr (f g:TMr):TMr:=fun ρ θ=>(f ρ θ).bind fun k θ=>if k=true then .ok true θ else g ρ θ
def ZeM (f:TMr):TMr:=fun ρ θ=>(f ρ θ).bind fun k θ=>.ok (!k) θ
theorem Za6 (ha:MT X a ft):MW X (.BoolOp .And [a] pos) ft:=Zqa ha
theorem ZaT (ha:MT X a ft):MW X (.BoolOp .Or [a] pos) ft:=Zsl ha
theorem Zda {rest:List Expr} (ha:MT X a ft) (hb:MW X (.BoolOp .And (b::rest) pos) fu):MW X (.BoolOp .And (a::b::rest) pos) (ZfT ft fu):=by
  refine PW.imp (Zsm ha hb) fun σ H Q h=>?_
  obtain ⟨B,θ,ρ,F,w⟩:=h
  refine Zdh (Zll F w) ?_
  rintro k H1 ⟨B1,θ1,E1,F1,w1⟩
  cases k with
  | true=>rw [if_pos rfl] at w1 ⊢; exact ⟨B1,θ1,ρ,F1,w1⟩
  | false=>rw [if_neg Bool.false_ne_true] at w1 ⊢; exact ZR (Rel:=EqB) F1.good rfl w1
theorem Zed {rest:List Expr} (ha:MT X a ft) (hb:MW X (.BoolOp .Or (b::rest) pos) fu):MW X (.BoolOp .Or (a::b::rest) pos) (mOr ft fu):=by
  refine PW.imp (Zuc ha hb) fun σ H Q h=>?_
  obtain ⟨B,θ,ρ,F,w⟩:=h
  refine Zdh (Zll F w) ?_
  rintro k H1 ⟨B1,θ1,E1,F1,w1⟩
  cases k with
  | true=>rw [if_pos rfl] at w1 ⊢; exact ZR (Rel:=EqB) F1.good rfl w1
  | false=>rw [if_neg Bool.false_ne_true] at w1 ⊢; exact ⟨B1,θ1,ρ,F1,w1⟩
theorem MW.mt {e:Expr} {f:TMr} (h:MW X e f):MT X e f:=PW.pt h
theorem ZbK (ha:MT X a ft):MT X (.UnaryOp .Not a pos) (ZeM ft):=by
  refine PT.imp (Zso ha) fun σ H Q h=>?_
  obtain ⟨B,θ,ρ,F,w⟩:=h
  refine Zdh (Zll F w) ?_
  rintro k H1 ⟨B1,θ1,E1,F1,w1⟩
  exact ZR (Rel:=EqB) F1.good rfl w1
def Zcu (f g:EM):EM:=fun ρ θ=>(f ρ θ).bind fun x θ=>match x with
  | .bl true=>g ρ θ
  | .bl false=>.ok (.bl false) θ
  | _=>.bad
def Zmr (f g:EM):EM:=fun ρ θ=>(f ρ θ).bind fun x θ=>match x with
  | .bl true=>.ok (.bl true) θ
  | .bl false=>g ρ θ
  | _=>.bad
def ZoR (f:EM):EM:=fun ρ θ=>(f ρ θ).bind fun x θ=>match Zgn θ x with
  | some k=>.ok (.bl (!k)) θ
  | none=>.bad
theorem ZcJ {op} (h:ME X a fa):ME X (.BoolOp op [a] pos) fa:=ZsB h
theorem ZbL {rest:List Expr} (ha:ME X a fa) (hb:ME X (.BoolOp .And (b::rest) pos) fb):ME X (.BoolOp .And (a::b::rest) pos) (Zcu fa fb):=by
  refine PE.imp (ZsF ha hb) fun σ H Q h=>?_
  obtain ⟨B,θ,ρ,F,w⟩:=h
  refine ZW (step F w) ?_
  rintro v H1 ⟨B1,θ1,x,E1,F1,rx,w1⟩
  cases x with
  | bl k=>
    refine ⟨k,rx,?_⟩
    cases k with
    | true=>rw [if_pos rfl]; exact ⟨B1,θ1,ρ,F1,w1⟩
    | false=>rw [if_neg Bool.false_ne_true]; exact ZR F1.good (show RepV B1 H1 (.bl false) (.bl false) from rfl) w1
  | _=>exact w1.elim
theorem ZlF {rest:List Expr} (ha:ME X a fa) (hb:ME X (.BoolOp .Or (b::rest) pos) fb):ME X (.BoolOp .Or (a::b::rest) pos) (Zmr fa fb):=by
  refine PE.imp (Zug ha hb) fun σ H Q h=>?_
  obtain ⟨B,θ,ρ,F,w⟩:=h
  refine ZW (step F w) ?_
  rintro v H1 ⟨B1,θ1,x,E1,F1,rx,w1⟩
  cases x with
  | bl k=>
    refine ⟨k,rx,?_⟩
    cases k with
    | true=>rw [if_pos rfl]; exact ZR F1.good (show RepV B1 H1 (.bl true) (.bl true) from rfl) w1
    | false=>rw [if_neg Bool.false_ne_true]; exact ⟨B1,θ1,ρ,F1,w1⟩
  | _=>exact w1.elim
theorem ZsV (ha:ME X a fa):ME X (.UnaryOp .Not a pos) (ZoR fa):=by
  intro pins s σ H Q I h
  obtain ⟨B,θ,ρ,F,w⟩:=h
  refine UnaryOp_ (thn (ha pins s σ H _ I (step F w)) fun v s1 ⟨x,H1,I1,r1,q1⟩=>?_)
  obtain ⟨B1,θ1,d,E1,F1,rx,w1⟩:=q1
  cases e:Zgn θ1 d with
  | none=>rw [e] at w1; exact w1.elim
  | some k=>
    rw [e] at w1
    refine not_of (thn (ZnX pins s1 σ H1 x v (fun k' H'=>Q (.bl (!k')) H') I1 r1 ⟨k,Zle F1.good rx e,ZR F1.good (show RepV B1 H1 (.bl (!k)) (.bl (!k)) from rfl) w1⟩) fun b s2 ⟨H2,I2,q2⟩=>?_)
    exact ⟨.bl (!b),H2,I2,rfl,q2⟩
def Zfr (t:TMr) (f g:EM):EM:=fun ρ θ=>(t ρ θ).bind fun k θ=>if k=true then f ρ θ else g ρ θ
theorem Zco {c:Expr} (hc:MT X c ft) (ha:ME X a fa) (hb:ME X b fb):ME X (.IfExp c a b pos) (Zfr ft fa fb):=by
  refine PE.imp (Zor hc ha hb) fun σ H Q h=>?_
  obtain ⟨B,θ,ρ,F,w⟩:=h
  refine Zdh (Zll F w) ?_
  rintro k H1 ⟨B1,θ1,E1,F1,w1⟩
  cases k with
  | true=>rw [if_pos rfl] at w1 ⊢; exact ⟨B1,θ1,ρ,F1,w1⟩
  | false=>rw [if_neg Bool.false_ne_true] at w1 ⊢; exact ⟨B1,θ1,ρ,F1,w1⟩
def Zk:AM:=fun _ θ=>.ok [] θ
def Zc (f:EM) (g:AM):AM:=fun ρ θ=>(f ρ θ).bind fun x θ=>(g ρ θ).bind fun xs θ=>.ok (x::xs) θ
theorem Zg:MA X [] Zk:=PA.imp ZkQ fun σ H Q h=>by
  obtain ⟨B,θ,ρ,F,w⟩:=h
  exact ZR (Rel:=RepL) F.good (show RepL B H [] [] from rfl) w
theorem Zb {es:List Expr} {fs:AM} (ha:ME X e fa) (hr:MA X es fs) (hs:starEach (e::es) X.env=(false,eval e X.env)::starEach es X.env:=by rfl):MA X (e::es) (Zc fa fs):=by
  refine PA.imp (Zic ha hr hs) fun σ H Q h=>?_
  obtain ⟨B,θ,ρ,F,w⟩:=h
  refine ZW (step F w) ?_
  rintro x' H1 ⟨B1,θ1,x,E1,F1,rx,w1⟩
  refine Zbi (Zf6 F1 w1) ?_
  rintro xs' H2 ⟨B2,θ2,xs,E2,F2,rxs,w2⟩
  exact ZR (Rel:=RepL) F2.good (show RepL B2 H2 (x::xs) (x'::xs') from ⟨x',xs',rfl,rx.ext E2.toExtS,rxs⟩) w2
def Zb8 (f:AM):EM:=fun ρ θ=>(f ρ θ).bind fun xs θ=>if xs.length≤BIG then .ok (.tup xs) θ else .bad
def ZeN (f:AM):EM:=fun ρ θ=>(f ρ θ).bind fun xs θ=>if xs.length≤BIG then .ok (.lst xs) θ else .bad
def Zdq (f:AM):EM:=fun ρ θ=>(f ρ θ).bind fun xs θ=>if xs.length≤BIG then .ok (.ref θ.length) (θ++[.lst xs]) else .bad
theorem ZgI {σ:St} {B:Bx} {θ:Sto} {H:Hp} {xs:List D} {vs:List V} {Q:VK} (G:Good X.cl B θ H) (r:RepL B H xs vs) (w:wpR X σ RepV B H (.ok (.tup xs) θ) Q):∀p,H p=none→Q (.ref p) (upd H p (.tup vs)):=
  fun p hp=>w B _ _ (Zcw G hp _) (Zej G hp _) (Zp6 G hp r)
theorem ZeY {σ:St} {B:Bx} {θ:Sto} {H:Hp} {xs:List D} {vs:List V} {Q:VK} (G:Good X.cl B θ H) (r:RepL B H xs vs) (w:wpR X σ RepV B H (.ok (.lst xs) θ) Q):∀p,H p=none→Q (.ref p) (upd H p (.lst vs)):=
  fun p hp=>w B _ _ (Zcw G hp _) (Zej G hp _) (Zp7 G hp r)
theorem ZpK {σ:St} {B:Bx} {θ:Sto} {H:Hp} {xs:List D} {vs:List V} {Q:VK} (G:Good X.cl B θ H) (r:RepL B H xs vs) (w:wpR X σ RepV B H (.ok (.ref θ.length) (θ++[.lst xs])) Q):∀p,H p=none→Q (.ref p) (upd H p (.lst vs)):=
  fun p hp=>w (B.push p) _ _ (Zek G hp _) (ZfY G hp ⟨vs,zl,r.ext (Zek G hp _).toExtS⟩) ⟨by rw [G.len]; exact Nat.lt_succ_self _,by rw [G.len]; show V.ref p=V.ref (if B.n=B.n then p else B.m B.n); rw [if_pos rfl]⟩
theorem zW {es:List Expr} {fs:AM} {x1} (h:MA X es fs):ME X (.Tuple es x1 pos) (Zb8 fs):=by
  refine PE.imp (Zsz h) fun σ H Q h=>?_
  obtain ⟨B,θ,ρ,F,w⟩:=h
  refine Zbi (Zf6 F w) ?_
  rintro xs' H2 ⟨B2,θ2,xs,E2,F2,rxs,w2⟩
  split at w2
  · rename_i hz
    exact ⟨by rw [rxs.len]; exact zV hz,ZgI F2.good rxs w2⟩
  · exact w2.elim
theorem Zcn {es:List Expr} {fs:AM} (h:MA X es fs):ME X (.List es pos) (ZeN fs):=by
  refine PE.imp (ZkP h) fun σ H Q h=>?_
  obtain ⟨B,θ,ρ,F,w⟩:=h
  refine Zbi (Zf6 F w) ?_
  rintro xs' H2 ⟨B2,θ2,xs,E2,F2,rxs,w2⟩
  split at w2
  · rename_i hz
    exact ⟨by rw [rxs.len]; exact zV hz,ZeY F2.good rxs w2⟩
  · exact w2.elim
theorem Zfp {es:List Expr} {fs:AM} (h:MA X es fs):ME X (.List es pos) (Zdq fs):=by
  refine PE.imp (ZkP h) fun σ H Q h=>?_
  obtain ⟨B,θ,ρ,F,w⟩:=h
  refine Zbi (Zf6 F w) ?_
  rintro xs' H2 ⟨B2,θ2,xs,E2,F2,rxs,w2⟩
  split at w2
  · rename_i hz
    exact ⟨by rw [rxs.len]; exact zV hz,ZpK F2.good rxs w2⟩
  · exact w2.elim
abbrev GM:=List D→Sto→R D
def mCB (g:GM) (f:AM):EM:=fun ρ θ=>(f ρ θ).bind fun xs θ=>g xs θ
def rC (X:Cx) (g:GM):List V→Hp→VK→Prop:=fun xs H Q=>∃σ B θ ds,Good X.cl B θ H∧RepL B H ds xs∧wpR X σ RepV B H (g ds θ) Q
theorem Zrk {g:GM} {fs:AM} (σ:St) (H:Hp) (Q:VK) (h:tM X (mCB g fs) σ H Q):tCB (rC X g) (tMA X fs) σ H Q:=by
  obtain ⟨B,θ,ρ,F,w⟩:=h
  refine Zbi (Zf6 F w) ?_
  rintro xs' H2 ⟨B2,θ2,xs,E2,F2,rxs,w2⟩
  exact ⟨σ,B2,θ2,xs,F2.good,rxs,w2⟩
theorem zP {x:Str} {id:String} {p:Pos} {es:List Expr} {fs:AM} {g:GM} (hc:CallR X (.builtin id) (rC X g)) (hm:X.mg x=none) (hv:bootBuiltins x=some (.builtin id)) (ha:MA X (e::es) fs) (hg:Gl X x:=by rfl) (hn:x≠"__name__":=by decide) (hdb:(x == ("__debug__":Str))=false:=by decide)
    (he:starEach (e::es) X.env=(false,eval e X.env)::starEach es X.env:=by rfl) (hpl:(backTo pos (starEach es X.env)).any (·.1)=false:=by rfl):ME X (.Call (.Name x p) (e::es) [] pos) (mCB g fs):=
  PE.imp (Zox hc hg hm hv ha hn hdb he hpl) Zrk
theorem ZfR {x:Str} {T:String} {p:Pos} {es:List Expr} {fs:AM} {g:GM} (hc:CallR X (.type T) (rC X g)) (hm:X.mg x=none) (hv:bootBuiltins x=some (.type T)) (ha:MA X (e::es) fs) (hg:Gl X x:=by rfl) (hn:x≠"__name__":=by decide) (hdb:(x == ("__debug__":Str))=false:=by decide)
    (he:starEach (e::es) X.env=(false,eval e X.env)::starEach es X.env:=by rfl) (hpl:(backTo pos (starEach es X.env)).any (·.1)=false:=by rfl):ME X (.Call (.Name x p) (e::es) [] pos) (mCB g fs):=
  PE.imp (Zmi hc hg hm hv ha hn hdb he hpl) Zrk
end
end
end L2.MM
namespace L2.MM
open PySem PySem.Spec PyProof.Rows PySem.SeqAt
noncomputable section
variable {X:Cx}
section
open Classical in
def opI (C:Int→Int→Prop) (g:Int→Int→D):OM:=fun x y θ=>match x,y with
  | .int i,.int j=>if C i j then .ok (g i j) θ else .bad
  | _,_=>.bad
open Classical in
@[simp] theorem Zvd (C:Int→Int→Prop) (g:Int→Int→D) (i j:Int) (θ:Sto):opI C g (.int i) (.int j) θ=if C i j then .ok (g i j) θ else .bad:=nr rfl
open Classical in
theorem Zea {f:Value→Value→Sem Value} {C:Int→Int→Prop} {g:Int→Int→D} {gV:Int→Int→V} (h:OpR X f (rI C gV)) (r:∀B H i j,RepV B H (g i j) (gV i j)):OpR X f (rM X (opI C g)):=by
  refine OpR.imp h fun x y H Q q=>?_
  obtain ⟨σ,B,θ,d,e,G,rd,re,w⟩:=q
  unfold opI at w
  split at w
  · rename_i i j
    split at w
    · rename_i hc
      exact ⟨i,j,rd,re,hc,ZR G (r B H i j) w⟩
    · exact w.elim
  · exact w.elim
theorem ZhB {f:Value→Value→Sem Value} {g:Int→Int→V} (h:OpR X f (rI0 g)):OpR X f (rI (fun _ _=>True) g):=OpR.imp h fun x y H Q ⟨i,j,a,b,_,q⟩=>⟨i,j,a,b,q⟩
abbrev ZeZ:OM:=opI (fun _ _=>True) fun i j=>.int (i-j)
abbrev Zgx:OM:=opI (fun _ j=>0<j∧j<18446744073709551616) fun i j=>.int (i/j)
abbrev Zbm:OM:=opI (fun _ j=>0<j) fun i j=>.int (i % j)
abbrev ZuU:OM:=opI (fun _ _=>True) fun i j=>.int (Builtin.bitAnd i j)
abbrev ltM:OM:=opI (fun _ _=>True) fun i j=>.bl (decide (i<j))
abbrev leM:OM:=opI (fun _ _=>True) fun i j=>.bl (decide (i≤j))
abbrev gtM:OM:=opI (fun _ _=>True) fun i j=>.bl (decide (j<i))
abbrev geM:OM:=opI (fun _ _=>True) fun i j=>.bl (decide (j≤i))
theorem Zeb:OpR X (binaryOp .Sub) (rM X ZeZ):=Zea (ZhB ZsH) fun _ _ _ _=>rfl
theorem Zf8:OpR X (binaryOp .FloorDiv) (rM X Zgx):=Zea (OpR.imp Zoz fun x y H Q ⟨i,j,a,b,c,q⟩=>⟨i,j,a,b,⟨c.1,by
  have h:j.natAbs<2 ^ 64:=by have:=c.1; have:=c.2; omega
  have h0:j.natAbs≠0:=by have:=c.1; omega
  have:=(Nat.log2_lt h0).mpr h
  omega⟩,q⟩) fun _ _ _ _=>rfl
theorem ZbX:OpR X (binaryOp .Mod) (rM X Zbm):=Zea ZsK fun _ _ _ _=>rfl
theorem Zur:OpR X (binaryOp .BitAnd) (rM X ZuU):=Zea (ZhB ZsO) fun _ _ _ _=>rfl
theorem ZxC:OpR X (compareOp .Lt) (rM X ltM):=Zea (ZhB Zun) fun _ _ i j=>by show _=V.bl _; congr
theorem ZkR:OpR X (compareOp .LtE) (rM X leM):=Zea (ZhB Zuo) fun _ _ i j=>by show _=V.bl _; congr
theorem Zj9:OpR X (compareOp .Gt) (rM X gtM):=Zea (ZhB Zup) fun _ _ i j=>by show _=V.bl _; congr
theorem Zqt:OpR X (compareOp .GtE) (rM X geM):=Zea (ZhB Zuq) fun _ _ i j=>by show _=V.bl _; congr
def zx:OM:=fun x y θ=>match x,y with
  | .int i,.int j=>.ok (.int (i+j)) θ
  | .str i,.str j=>if i.length+j.length≤BIG then .ok (.str (i++j)) θ else .bad
  | .tup xs,.tup ys=>if xs.isEmpty=false∧xs.length+ys.length≤BIG then .ok (.tup (xs++ys)) θ else .bad
  | x,y=>match ZaC θ x,ZaC θ y with
    | some xs,some ys=>if xs.length+ys.length≤BIG then .ok (.lst (xs++ys)) θ else .bad
    | _,_=>.bad
@[simp] theorem ZuW (i j:Int) (θ:Sto):zx (.int i) (.int j) θ=.ok (.int (i+j)) θ:=nr rfl
@[simp] theorem Zpw (xs ys:List D) (θ:Sto):zx (.lst xs) (.lst ys) θ=if xs.length+ys.length≤BIG then .ok (.lst (xs++ys)) θ else .bad:=nr rfl
@[simp] theorem ZuV (xs ys:List D) (θ:Sto):zx (.tup xs) (.tup ys) θ=if xs.isEmpty=false∧xs.length+ys.length≤BIG then .ok (.tup (xs++ys)) θ else .bad:=nr rfl
theorem zv:OpR X (binaryOp .Add) (rM X zx):=by
  refine OpR.imp (op_add.or (op_add_str.or (op_catT.or ZsN))) fun x y H Q q=>?_
  obtain ⟨σ,B,θ,d,e,G,rd,re,w⟩:=q
  unfold zx at w
  split at w
  · exact .inl ⟨_,_,rd,re,ZR G (show RepV B H (.int _) (.int _) from rfl) w⟩
  · split at w
    · rename_i hz
      exact .inr (.inl ⟨_,_,rd,re,zV hz,ZR G (show RepV B H (.str _) (.str _) from rfl) w⟩)
    · exact w.elim
  · split at w
    · rename_i xs ys hz
      obtain ⟨a,vs,rfl,h1,k1,l1⟩:=rd
      obtain ⟨b,us,rfl,h2,k2,l2⟩:=re
      refine .inr (.inr (.inl ⟨a,b,vs,us,rfl,rfl,SqT.of h1,SqT.of h2,?_,?_,fun z=>?_,fun _=>ZgI G (l1.app l2) w⟩))
      · intro z
        have:=l1.emp
        rw [z,hz.1] at this
        simp at this
      · rw [l1.len,l2.len]; exact zV hz.2
      · have e0:ys=[]:=by
          have:=l2.emp
          rw [z] at this
          cases ys with
          | nil=>rfl
          | cons _ _=>simp at this
        subst e0
        rw [List.append_nil] at w
        exact ZR G (show RepV B H (.tup xs) (.ref a) from ⟨a,vs,rfl,h1,k1,l1⟩) w
    · exact w.elim
  · split at w
    · rename_i xs ys e1 e2
      split at w
      · rename_i hz
        obtain ⟨a,vs,rfl,h1,l1⟩:=ZaB G rd e1
        obtain ⟨b,us,rfl,h2,l2⟩:=ZaB G re e2
        exact .inr (.inr (.inr ⟨a,b,vs,us,rfl,rfl,h1,h2,by rw [l1.len,l2.len]; exact zV hz,ZeY G (l1.app l2) w⟩))
      · exact w.elim
    · exact w.elim
def Zf3 (i j:Int):Prop:=(-18446744073709551616<i∧i<18446744073709551616)∨(-18446744073709551616<j∧j<18446744073709551616)
instance {i j:Int}:Decidable (Zf3 i j):=by unfold Zf3; infer_instance
def Zgu:OM:=fun x y θ=>match x,y with
  | .int i,.int j=>if Zf3 i j then .ok (.int (i*j)) θ else .bad
  | .tup xs,.int k=>if xs.isEmpty=false∧0≤k∧k<1000∧(xs.length:Int)*k≤1000 then .ok (.tup (List.replicate k.toNat xs).flatten) θ else .bad
  | x,.int k=>match ZaC θ x with
    | some xs=>if -1000000≤k∧k≤1000000∧xs.length*k.toNat≤BIG then .ok (.lst (List.replicate k.toNat xs).flatten) θ else .bad
    | _=>.bad
  | _,_=>.bad
@[simp] theorem Zuv (i j:Int) (θ:Sto):Zgu (.int i) (.int j) θ=if Zf3 i j then .ok (.int (i*j)) θ else .bad:=nr rfl
theorem RepL.rep {B:Bx} {H:Hp} {xs:List D} {vs:List V} (r:RepL B H xs vs):∀k:Nat,RepL B H (List.replicate k xs).flatten (List.replicate k vs).flatten
  | 0=>rfl
  | k+1=>by
    rw [List.replicate_succ,List.replicate_succ,List.flatten_cons,List.flatten_cons]
    exact r.app (RepL.rep r k)
theorem Zfl:OpR X (binaryOp .Mult) (rM X Zgu):=by
  refine OpR.imp (op_mul.or (op_repT.or ZsI)) fun x y H Q q=>?_
  obtain ⟨σ,B,θ,d,e,G,rd,re,w⟩:=q
  unfold Zgu at w
  split at w
  · split at w
    · rename_i hc
      exact .inl ⟨_,_,rd,re,hc.imp (fun h=>⟨by have:=h.1; omega,by have:=h.2; omega⟩) (fun h=>⟨by have:=h.1; omega,by have:=h.2; omega⟩),ZR G (show RepV B H (.int _) (.int _) from rfl) w⟩
    · exact w.elim
  · split at w
    · rename_i xs k hz
      obtain ⟨a,vs,rfl,h1,k1,l1⟩:=rd
      obtain ⟨z1,z2,z3,z4⟩:=hz
      refine .inr (.inl ⟨a,k,vs,rfl,re,SqT.of h1,?_,z2,z3,by rw [l1.len]; exact z4,fun z=>?_,fun _=>ZgI G (l1.rep _) w⟩)
      · intro z
        have:=l1.emp
        rw [z,z1] at this
        simp at this
      · subst z
        have e0:(List.replicate (1:Int).toNat xs).flatten=xs:=by simp
        rw [e0] at w
        exact ZR G (show RepV B H (.tup xs) (.ref a) from ⟨a,vs,rfl,h1,k1,l1⟩) w
    · exact w.elim
  · split at w
    · rename_i xs e1
      split at w
      · rename_i hz
        obtain ⟨a,vs,rfl,h1,l1⟩:=ZaB G rd e1
        exact .inr (.inr ⟨a,_,vs,rfl,re,h1,by have:=hz.1; omega,by have:=hz.2.1; omega,by rw [l1.len]; exact zV hz.2.2,ZeY G (l1.rep _) w⟩)
      · exact w.elim
    · exact w.elim
  · exact w.elim
def ZxF (f:EM):EM:=fun ρ θ=>(f ρ θ).bind fun x θ=>match x with
  | .int i=>.ok (.int (-i)) θ
  | _=>.bad
mutual
def dat:D→PyData
  | .bl b=>.bool b
  | .int i=>.int i
  | .str x=>.str x
  | .tup xs=>.tuple (Zel xs)
  | .lst xs=>.list (Zel xs)
  | _=>.none
def Zel:List D→List PyData
  | []=>[]
  | d::r=>dat d::Zel r
end
mutual
def plain:D→Bool
  | .non=>true
  | .bl _=>true
  | .int _=>true
  | .str _=>true
  | .tup xs=>ZbJ xs
  | .lst xs=>ZbJ xs
  | _=>false
def ZbJ:List D→Bool
  | []=>true
  | d::r=>plain d && ZbJ r
end
mutual
theorem rdv {B:Bx} {H:Hp} {K:PySem.W.Frag}:∀{d:D} {v:V},plain d=true→RepV B H d v→RdV K H v (dat d)
  | .non,_,_,r=>by cases (show _=V.non from r); exact .non
  | .bl b,_,_,r=>by cases (show _=V.bl b from r); exact .bl b
  | .int i,_,_,r=>by cases (show _=V.int i from r); exact .int i
  | .str x,_,_,r=>by cases (show _=V.str x from r); exact .str x
  | .tup xs,_,p,r=>by
    obtain ⟨a,vs,rfl,h,_,l⟩:=r
    exact .tup (SqT.of h) (Zp8 p l)
  | .lst xs,_,p,r=>by
    obtain ⟨a,vs,rfl,h,_,l⟩:=r
    exact .lst (SqL.of h) (Zp8 p l)
  | .ty _,_,p,_=>nomatch p
  | .scr _,_,p,_=>nomatch p
  | .ref _,_,p,_=>nomatch p
theorem Zp8 {B:Bx} {H:Hp} {K:PySem.W.Frag}:∀{ds:List D} {vs:List V},ZbJ ds=true→RepL B H ds vs→RdVs K H vs (Zel ds)
  | [],_,_,r=>by cases (show _=[] from r); exact .nil
  | d::ds,_,p,r=>by
    obtain ⟨v,q,rfl,hv,hq⟩:=r
    have p':plain d=true∧ZbJ ds=true:=by simpa [ZbJ] using p
    exact .cons (rdv p'.1 hv) (Zp8 p'.2 hq)
end
mutual
theorem ZjY:∀{d e:D},plain d=true→plain e=true→(same (dat d) (dat e)=true↔d=e):=fun {d e} p q=>by
  cases d with
  | ty _=>exact nomatch p
  | scr _=>exact nomatch p
  | ref _=>exact nomatch p
  | non=>cases e<;>simp_all [plain,dat,same]
  | bl _=>cases e<;>simp_all [plain,dat,same]
  | int _=>cases e<;>simp_all [plain,dat,same]
  | str _=>cases e<;>simp_all [plain,dat,same]
  | tup xs=>
    cases e with
    | tup ys=>
      simp only [dat,same,D.tup.injEq]
      exact ZfN p q
    | ty _=>exact nomatch q
    | scr _=>exact nomatch q
    | ref _=>exact nomatch q
    | _=>simp [dat,same]
  | lst xs=>
    cases e with
    | lst ys=>
      simp only [dat,same,D.lst.injEq]
      exact ZfN p q
    | ty _=>exact nomatch q
    | scr _=>exact nomatch q
    | ref _=>exact nomatch q
    | _=>simp [dat,same]
theorem ZfN:∀{ds es:List D},ZbJ ds=true→ZbJ es=true→(sameAll (Zel ds) (Zel es)=true↔ds=es)
  | [],[],_,_=>by simp [Zel,sameAll]
  | [],_::_,_,_=>by simp [Zel,sameAll]
  | _::_,[],_,_=>by simp [Zel,sameAll]
  | d::ds,e::es,p,q=>by
    have p':plain d=true∧ZbJ ds=true:=by simpa [ZbJ] using p
    have q':plain e=true∧ZbJ es=true:=by simpa [ZbJ] using q
    simp only [Zel,sameAll,Bool.and_eq_true,List.cons.injEq]
    rw [ZjY p'.1 q'.1,ZfN p'.2 q'.2]
end
def look (θ:Sto) (d:D):D:=match d with
  | .ref l=>match θ[l]? with
    | some (.lst xs)=>.lst xs
    | _=>.ref l
  | d=>d
theorem Zfu {B:Bx} {θ:Sto} {H:Hp} {K:PySem.W.Frag} (G:Good X.cl B θ H) {d:D} {v:V} (r:RepV B H d v) (p:plain (look θ d)=true):RdV K H v (dat (look θ d)):=by
  cases d with
  | ref l=>
    unfold look at p ⊢
    simp only at p ⊢
    split at p
    · rename_i xs e
      obtain ⟨hl,rfl⟩:=r
      obtain ⟨vs,h1,h2⟩:=G.cel l _ e
      exact .lst (SqL.of h1) (Zp8 p h2)
    · exact nomatch p
  | _=>exact rdv p r
structure ZkE (x y:D):Prop where
  px:plain x=true
  py:plain y=true
  sx:shaped (dat x)=true
  sy:shaped (dat y)=true
  nm:noMix (dat x) (dat y)=true
open Classical in
def eqM:OM:=fun x y θ=>if ZkE (look θ x) (look θ y) then .ok (.bl (decide (look θ x=look θ y))) θ else .bad
open Classical in
def neM:OM:=fun x y θ=>if ZkE (look θ x) (look θ y) then .ok (.bl (!decide (look θ x=look θ y))) θ else .bad
open Classical in
theorem ZjZ {d e:D} (p:plain d=true) (q:plain e=true):same (dat d) (dat e)=decide (d=e):=by
  rw [Bool.eq_iff_iff,ZjY p q,decide_eq_true_iff]
open Classical in
theorem Zae (hu:X.A.units+64<cLine):OpR X (compareOp .Eq) (rM X eqM):=by
  refine OpR.imp (ZsM hu) fun x y H Q q=>?_
  obtain ⟨σ,B,θ,d,e,G,rd,re,w⟩:=q
  unfold eqM at w
  split at w
  · rename_i c
    refine ⟨_,_,Zfu G rd c.px,Zfu G re c.py,c.sx,c.sy,c.nm,?_⟩
    rw [ZjZ c.px c.py]
    exact ZR G (show RepV B H (.bl _) (.bl _) from rfl) w
  · exact w.elim
open Classical in
theorem Ze0 (hu:X.A.units+64<cLine):OpR X (compareOp .NotEq) (rM X neM):=by
  refine OpR.imp (ZsJ hu) fun x y H Q q=>?_
  obtain ⟨σ,B,θ,d,e,G,rd,re,w⟩:=q
  unfold neM at w
  split at w
  · rename_i c
    refine ⟨_,_,Zfu G rd c.px,Zfu G re c.py,c.sx,c.sy,c.nm,?_⟩
    rw [ZjZ c.px c.py]
    exact ZR G (show RepV B H (.bl _) (.bl _) from rfl) w
  · exact w.elim
def ZiB:List D→Bool
  | []=>true
  | .int _::r=>ZiB r
  | _=>false
def Zhh:List D→Bool
  | []=>true
  | .str _::r=>Zhh r
  | _=>false
def memI (i:Int):List D→Bool
  | .int j::r=>decide (j=i) || memI i r
  | _=>false
def memS (x:Str):List D→Bool
  | .str y::r=>decide (y=x) || memS x r
  | _=>false
def inD (θ:Sto) (x y:D):Option Bool:=match seqOf θ y with
  | none=>none
  | some ys=>match x with
    | .int i=>if ZiB ys=true then some (memI i ys) else none
    | .str z=>if Zhh ys=true then some (memS z ys) else none
    | _=>none
def inM:OM:=fun x y θ=>match inD θ x y with
  | some k=>.ok (.bl k) θ
  | none=>.bad
def Zec:OM:=fun x y θ=>match inD θ x y with
  | some k=>.ok (.bl (!k)) θ
  | none=>.bad
theorem Zgm {B:Bx} {H:Hp}:∀{ys:List D} {vs:List V},ZiB ys=true→RepL B H ys vs→vs.all Zc1=true∧∀i:Int,inV (.int i) vs=memI i ys
  | [],_,_,r=>by cases (show _=[] from r); exact ⟨rfl,fun _=>rfl⟩
  | d::ys,_,h,r=>by
    cases d with
    | int j=>
      obtain ⟨v,q,rfl,hv,hq⟩:=r
      cases (show v=V.int j from hv)
      obtain ⟨h1,h2⟩:=Zgm (show ZiB ys=true from h) hq
      refine ⟨by simp [Zc1] at h1 ⊢; exact h1,fun i=>?_⟩
      have:=h2 i
      unfold inV at this ⊢
      rw [List.any_cons,this]
      show (j == i || memI i ys)=(decide (j=i) || memI i ys)
      rw [Bool.beq_eq_decide_eq]
    | _=>exact nomatch h
theorem Zgl {B:Bx} {H:Hp}:∀{ys:List D} {vs:List V},Zhh ys=true→RepL B H ys vs→vs.all Zc1=true∧∀i:Str,inV (.str i) vs=memS i ys
  | [],_,_,r=>by cases (show _=[] from r); exact ⟨rfl,fun _=>rfl⟩
  | d::ys,_,h,r=>by
    cases d with
    | str j=>
      obtain ⟨v,q,rfl,hv,hq⟩:=r
      cases (show v=V.str j from hv)
      obtain ⟨h1,h2⟩:=Zgl (show Zhh ys=true from h) hq
      refine ⟨by simp [Zc1] at h1 ⊢; exact h1,fun i=>?_⟩
      have:=h2 i
      unfold inV at this ⊢
      rw [List.any_cons,this]
      show (j == i || memS i ys)=(decide (j=i) || memS i ys)
      rw [Bool.beq_eq_decide_eq]
    | _=>exact nomatch h
theorem Zo0 {cl:Mo} {B:Bx} {θ:Sto} {H:Hp} (G:Good cl B θ H) {d e:D} {x y:V} {k:Bool} (rd:RepV B H d x) (re:RepV B H e y) (h:inD θ d e=some k) :
    ∃p xs,y=.ref p∧(SqL cl.K H p xs∨SqT cl.K H p xs)∧Zc1 x=true∧xs.all Zc1=true∧inV x xs=k:=by
  unfold inD at h
  split at h
  · cases h
  · rename_i ys e1
    obtain ⟨a,vs,rfl,h1,h2⟩:=ZcE G re e1
    split at h
    · split at h
      · rename_i i hz
        cases h
        cases (show x=V.int i from rd)
        obtain ⟨q1,q2⟩:=Zgm hz h2
        exact ⟨a,vs,rfl,h1,rfl,q1,q2 i⟩
      · cases h
    · split at h
      · rename_i i hz
        cases h
        cases (show x=V.str i from rd)
        obtain ⟨q1,q2⟩:=Zgl hz h2
        exact ⟨a,vs,rfl,h1,rfl,q1,q2 i⟩
      · cases h
    · cases h
theorem Zj8:OpR X (compareOp .In) (rM X inM):=by
  refine OpR.imp Zmj fun x y H Q q=>?_
  obtain ⟨σ,B,θ,d,e,G,rd,re,w⟩:=q
  unfold inM at w
  split at w
  · rename_i k e1
    obtain ⟨p,xs,h1,h2,h3,h4,h5⟩:=Zo0 G rd re e1
    exact ⟨p,xs,h1,h2,h3,h4,by rw [h5]; exact ZR G (show RepV B H (.bl _) (.bl _) from rfl) w⟩
  · exact w.elim
theorem Zlx:OpR X (compareOp .NotIn) (rM X Zec):=by
  refine OpR.imp Zid fun x y H Q q=>?_
  obtain ⟨σ,B,θ,d,e,G,rd,re,w⟩:=q
  unfold Zec at w
  split at w
  · rename_i k e1
    obtain ⟨p,xs,h1,h2,h3,h4,h5⟩:=Zo0 G rd re e1
    exact ⟨p,xs,h1,h2,h3,h4,by rw [h5]; exact ZR G (show RepV B H (.bl _) (.bl _) from rfl) w⟩
  · exact w.elim
def Zck:D→Bool
  | .non=>true
  | _=>false
theorem Zkn {B:Bx} {H:Hp} {d:D} {v:V} (r:RepV B H d v):Zck d=decide (v=.non):=by
  cases d with
  | non=>cases (show v=.non from r); simp [Zck]
  | bl b=>cases (show v=.bl b from r); simp [Zck]
  | int i=>cases (show v=.int i from r); simp [Zck]
  | str x=>cases (show v=.str x from r); simp [Zck]
  | ty n=>cases (show v=.ty n from r); simp [Zck]
  | scr ns=>obtain ⟨a,rfl,_⟩:=r; simp [Zck]
  | tup xs=>obtain ⟨a,o,rfl,_⟩:=r; simp [Zck]
  | lst xs=>obtain ⟨a,o,rfl,_⟩:=r; simp [Zck]
  | ref l=>obtain ⟨_,rfl⟩:=r; simp [Zck]
def isM:OM:=fun x y θ=>match y with
  | .non=>.ok (.bl (Zck x)) θ
  | .bl c=>match x with
    | .bl b=>.ok (.bl (b == c)) θ
    | _=>.bad
  | _=>.bad
def Zin:OM:=fun x y θ=>match y with
  | .non=>.ok (.bl (!Zck x)) θ
  | .bl c=>match x with
    | .bl b=>.ok (.bl (!(b == c))) θ
    | _=>.bad
  | _=>.bad
theorem ZsL:OpR X (compareOp .Is) (fun x y H Q=>∃b c:Bool,x=.bl b∧y=.bl c∧Q (.bl (b == c)) H):=by
  intro pins s σ H x y v u Q I rx ry h
  obtain ⟨b,c,rfl,rfl,q⟩:=h
  cases rx
  cases ry
  have e:(Value.bool b == Value.bool c)=(b == c):=by cases b<;>cases c<;>rfl
  exact wpAny_is_plain rfl ⟨.bl _,H,I,rfl,by rw [e]; exact q⟩
theorem Zqs:OpR X (compareOp .Is) (rM X isM):=by
  refine OpR.imp (op_isN.or ZsL) fun x y H Q q=>?_
  obtain ⟨σ,B,θ,d,e,G,rd,re,w⟩:=q
  unfold isM at w
  split at w
  · refine .inl ⟨re,?_⟩
    have q:=ZR G (show RepV B H (.bl _) (.bl _) from rfl) w
    rw [Zkn rd] at q
    exact q
  · split at w
    · exact .inr ⟨_,_,rd,re,ZR G (show RepV B H (.bl _) (.bl _) from rfl) w⟩
    · exact w.elim
  · exact w.elim
theorem Zqr:OpR X (compareOp .IsNot) (rM X Zin):=by
  refine OpR.imp (op_notN.or Zqo) fun x y H Q q=>?_
  obtain ⟨σ,B,θ,d,e,G,rd,re,w⟩:=q
  unfold Zin at w
  split at w
  · refine .inl ⟨re,?_⟩
    have q:=ZR G (show RepV B H (.bl _) (.bl _) from rfl) w
    rw [Zkn rd] at q
    exact q
  · split at w
    · exact .inr ⟨_,_,rd,re,ZR G (show RepV B H (.bl _) (.bl _) from rfl) w⟩
    · exact w.elim
  · exact w.elim
end
end
end L2.MM
namespace L2.MM
open PySem PySem.Spec PyProof.Rows PySem.SeqAt
noncomputable section
variable {X:Cx}
section
def ixD (θ:Sto) (x:D) (i:Int):Option D:=match x with
  | .str z=>if z.length≤BIG then (atI z.cps.toList i).map fun c=>.str ⟨#[c]⟩ else none
  | x=>(seqOf θ x).bind (atI · i)
def ixM:OM:=fun x y θ=>match y with
  | .int i=>match ixD θ x i with
    | some d=>.ok d θ
    | none=>.bad
  | _=>.bad
theorem RepL.atI {B:Bx} {H:Hp} {xs:List D} {vs:List V} {i:Int} {d:D} (r:RepL B H xs vs) (h:atI xs i=some d):∃v,atI vs i=some v∧RepV B H d v:=by
  unfold L2.atI at h ⊢
  rw [r.len]
  cases e:ixN xs.length i with
  | none=>rw [e] at h; cases h
  | some j=>
    rw [e] at h
    exact r.get h
theorem ZJ:IxR X (rM X ixM):=by
  refine IxR.imp Zs3 fun x y H Q q=>?_
  obtain ⟨σ,B,θ,d,e,G,rd,re,w⟩:=q
  unfold ixM at w
  split at w
  · rename_i i
    split at w
    · rename_i r e1
      have sq:(seqOf θ d).bind (L2.atI · i)=some r→rIx X.K x y H Q:=fun h=>by
        cases e2:seqOf θ d with
        | none=>rw [e2] at h; cases h
        | some xs=>
          rw [e2] at h
          obtain ⟨a,vs,rfl,h1,h2⟩:=ZcE G rd e2
          obtain ⟨v,h3,h4⟩:=h2.atI h
          have q:=ZR G h4 w
          rcases h1 with h1 | h1
          · exact .inl ⟨a,vs,i,v,rfl,re,h1,h3,q⟩
          · exact .inr (.inl ⟨a,vs,i,v,rfl,re,h1,h3,q⟩)
      cases d with
      | str z=>
        simp only [ixD] at e1
        split at e1
        · rename_i hz
          cases e2:L2.atI z.cps.toList i with
          | none=>rw [e2] at e1; cases e1
          | some c=>
            rw [e2] at e1
            cases e1
            exact .inr (.inr ⟨z,i,c,rd,re,zV hz,e2,ZR G (show RepV B H (.str _) (.str _) from rfl) w⟩)
        · cases e1
      | non=>exact sq e1
      | bl _=>exact sq e1
      | int _=>exact sq e1
      | ty _=>exact sq e1
      | scr _=>exact sq e1
      | tup _=>exact sq e1
      | lst _=>exact sq e1
      | ref _=>exact sq e1
    · exact w.elim
  · exact w.elim
abbrev PM:=List Sl→Sto→R (Option Int)
def EqO (_:Bx) (_:Hp) (a b:Option Int):Prop:=a=b
def tMO (X:Cx) (f:PM):TO:=fun σ H Q=>∃B θ ρ,Frm X.cl B θ ρ σ H∧wpR X σ EqO B H (f ρ θ) Q
def MO (X:Cx) (e:Option Expr) (f:PM):Prop:=PO X e (tMO X f)
theorem Zd4 {f:PM} {σ:St} {H:Hp} {Q Q':Option Int→Hp→Prop} (h:tMO X f σ H Q) (hQ:∀v H',Q v H'→Q' v H'):tMO X f σ H Q':=let ⟨B,θ,ρ,F,w⟩:=h; ⟨B,θ,ρ,F,w.mono hQ⟩
theorem ZjW {σ:St} {H:Hp} {γ δ:Type} {Rel':Bx→Hp→γ→δ→Prop} {B:Bx} {θ:Sto} {ρ:List Sl} {f:PM} {k:Option Int→Sto→R γ} {Q:δ→Hp→Prop} (F:Frm X.cl B θ ρ σ H) (h:wpR X σ Rel' B H ((f ρ θ).bind k) Q) :
    tMO X f σ H (fun c H1=>∃B1 θ1,ExtE B B1 H H1∧Frm X.cl B1 θ1 ρ σ H1∧wpR X σ Rel' B1 H1 (k c θ1) Q):=
  ⟨B,θ,ρ,F,(wpR.bind (Rel:=EqO) h).mono fun v H1 ⟨B1,θ1,d,E,G,r,w⟩=>by cases (show d=v from r); exact ⟨B1,θ1,E,F.ext E G,w⟩⟩
def Zcd:PM:=fun _ θ=>.ok none θ
def ZdV (f:EM):PM:=fun ρ θ=>(f ρ θ).bind fun x θ=>match x with
  | .int i=>.ok (some i) θ
  | _=>.bad
theorem PO.imp {e:Option Expr} {t t':TO} (h:PO X e t) (hi:∀σ H Q,t' σ H Q→t σ H Q):PO X e t':=fun pins s σ H Q I q=>h pins s σ H Q I (hi σ H Q q)
theorem ZcX:MO X none Zcd:=PO.imp Zqi fun σ H Q h=>by
  obtain ⟨B,θ,ρ,F,w⟩:=h
  exact ZR (Rel:=EqO) F.good rfl w
theorem Zcc {e:Expr} {f:EM} (h:ME X e f):MO X (some e) (ZdV f):=PO.imp (Zqh h) fun σ H Q h=>by
  obtain ⟨B,θ,ρ,F,w⟩:=h
  refine ZW (step F w) ?_
  rintro v H1 ⟨B1,θ1,x,E1,F1,rx,w1⟩
  cases x with
  | int i=>exact ⟨i,rx,ZR (Rel:=EqO) F1.good rfl w1⟩
  | _=>exact w1.elim
def Za7 {α:Type} (xs:List α) (lo hi:Option Int):List α:=(xs.drop (HT.sIx xs.length 0 lo)).take (HT.sIx xs.length xs.length hi-HT.sIx xs.length 0 lo)
theorem RepL.cut {B:Bx} {H:Hp} {xs:List D} {vs:List V} (r:RepL B H xs vs) (lo hi:Option Int):RepL B H (Za7 xs lo hi) (Zkx vs lo hi):=by
  unfold Za7 Zkx
  rw [r.len]
  exact (r.drop _).take _
def ZfL (θ:Sto) (x:D) (lo hi:Option Int):Option D:=match x with
  | .tup xs=>if HT.sIx xs.length 0 lo=0∧HT.sIx xs.length xs.length hi=xs.length then none else some (.tup (Za7 xs lo hi))
  | x=>(ZaC θ x).map fun xs=>.lst (Za7 xs lo hi)
def mSl (f:EM) (lo hi:PM):EM:=fun ρ θ=>(f ρ θ).bind fun x θ=>(lo ρ θ).bind fun l θ=>(hi ρ θ).bind fun h θ=>match ZfL θ x l h with
  | some d=>.ok d θ
  | none=>.bad
theorem Zdp {e:Expr} {lo hi:Option Expr} {f:EM} {fl fh:PM} {pos p2:Pos} (he:ME X e f) (hl:MO X lo fl) (hh:MO X hi fh):ME X (.Subscript e (.Slice lo hi none p2) pos) (mSl f fl fh):=by
  refine PE.imp (Zop (sl_list.or Zsc) he hl hh) fun σ H Q h=>?_
  obtain ⟨B,θ,ρ,F,w⟩:=h
  refine ZW (step F w) ?_
  rintro v H1 ⟨B1,θ1,x,E1,F1,rx,w1⟩
  refine Zd4 (ZjW F1 w1) ?_
  rintro l H2 ⟨B2,θ2,E2,F2,w2⟩
  refine Zd4 (ZjW F2 w2) ?_
  rintro u H3 ⟨B3,θ3,E3,F3,w3⟩
  have rx3:=rx.ext (E2.trans E3).toExtS
  have lst:∀d,(ZaC θ3 x).map (fun xs=>D.lst (Za7 xs l u))=some d→wpR X σ RepV B3 H3 (R.ok d θ3) Q→Zt6 X.K v l u H3 Q:=fun d h w=>by
    cases e2:ZaC θ3 x with
    | none=>rw [e2] at h; cases h
    | some xs=>
      rw [e2] at h
      cases h
      obtain ⟨a,vs,rfl,h1,h2⟩:=ZaB F3.good rx3 e2
      exact ⟨a,vs,rfl,SqL.of h1,ZeY F3.good (h2.cut l u) w⟩
  split at w3
  · rename_i d e1
    cases x with
    | tup xs=>
      simp only [ZfL] at e1
      split at e1
      · cases e1
      · rename_i hw
        cases e1
        obtain ⟨a,vs,rfl,h1,k1,l1⟩:=rx3
        exact .inr ⟨a,vs,rfl,SqT.of h1,by rw [l1.len]; exact hw,ZgI F3.good (l1.cut l u) w3⟩
    | non=>exact .inl (lst d e1 w3)
    | bl _=>exact .inl (lst d e1 w3)
    | int _=>exact .inl (lst d e1 w3)
    | str _=>exact .inl (lst d e1 w3)
    | ty _=>exact .inl (lst d e1 w3)
    | scr _=>exact .inl (lst d e1 w3)
    | lst _=>exact .inl (lst d e1 w3)
    | ref _=>exact .inl (lst d e1 w3)
  · exact w3.elim
def Zdl {α:Type} (xs:List α) (lo hi st:Option Int):List α:=(sliceRange (sliceBounds lo hi st xs.length).1 (sliceBounds lo hi st xs.length).2.1 (sliceBounds lo hi st xs.length).2.2).filterMap (xs[·]?)
theorem RepL.none_of:∀{B:Bx} {H:Hp} {xs:List D} {vs:List V} {i:Nat},RepL B H xs vs→xs[i]?=none→vs[i]?=none:=fun {B H xs vs i} r e=>by
  have h1:=r.len
  have h2:xs.length≤i:=List.getElem?_eq_none_iff.mp e
  exact List.getElem?_eq_none_iff.mpr (by omega)
theorem RepL.pick {B:Bx} {H:Hp} {xs:List D} {vs:List V} (r:RepL B H xs vs):∀ks:List Nat,RepL B H (ks.filterMap (xs[·]?)) (ks.filterMap (vs[·]?))
  | []=>rfl
  | k::ks=>by
    cases e:xs[k]? with
    | none=>rw [List.filterMap_cons_none e,List.filterMap_cons_none (r.none_of e)]; exact r.pick ks
    | some x=>
      obtain ⟨u,e',q⟩:=r.get e
      rw [List.filterMap_cons_some e,List.filterMap_cons_some e']
      exact ⟨_,_,rfl,q,r.pick ks⟩
def ZqA (f:EM) (lo hi st:PM):EM:=fun ρ θ=>(f ρ θ).bind fun x θ=>(lo ρ θ).bind fun l θ=>(hi ρ θ).bind fun h θ=>(st ρ θ).bind fun s θ=>match ZaC θ x with
  | some xs=>if s≠some 0∧(Zdl xs l h s).length≤BIG then .ok (.lst (Zdl xs l h s)) θ else .bad
  | none=>.bad
theorem ZhJ {e sp:Expr} {lo hi:Option Expr} {f:EM} {fl fh fs:PM} {pos p2:Pos} (he:ME X e f) (hl:MO X lo fl) (hh:MO X hi fh) (hs:MO X (some sp) fs):ME X (.Subscript e (.Slice lo hi (some sp) p2) pos) (ZqA f fl fh fs):=by
  refine PE.imp (Zmh he hl hh hs) fun σ H Q h=>?_
  obtain ⟨B,θ,ρ,F,w⟩:=h
  refine ZW (step F w) ?_
  rintro v H1 ⟨B1,θ1,x,E1,F1,rx,w1⟩
  refine Zd4 (ZjW F1 w1) ?_
  rintro l H2 ⟨B2,θ2,E2,F2,w2⟩
  refine Zd4 (ZjW F2 w2) ?_
  rintro u H3 ⟨B3,θ3,E3,F3,w3⟩
  refine Zd4 (ZjW F3 w3) ?_
  rintro s H4 ⟨B4,θ4,E4,F4,w4⟩
  split at w4
  · rename_i xs e1
    split at w4
    · rename_i hz
      obtain ⟨a,vs,rfl,h1,h2⟩:=ZaB F4.good (rx.ext ((E2.trans E3).trans E4).toExtS) e1
      have p:RepL B4 H4 (Zdl xs l u s) (Zd6 vs l u s):=by
        unfold Zdl Zd6
        rw [h2.len]
        exact h2.pick _
      exact ⟨a,vs,rfl,SqL.of h1,hz.1,by rw [p.len]; exact zV hz.2,ZeY F4.good p w4⟩
    · exact w4.elim
  · exact w4.elim
def Zeg:GM:=fun ds θ=>match ds with
  | [.str z]=>if z.length≤BIG then .ok (.int z.length) θ else .bad
  | [d]=>match seqOf θ d with
    | some xs=>.ok (.int xs.length) θ
    | none=>.bad
  | _=>.bad
theorem RepL.one {B:Bx} {H:Hp} {d:D} {vs:List V} (r:RepL B H [d] vs):∃v,vs=[v]∧RepV B H d v:=by
  obtain ⟨v,q,rfl,hv,hq⟩:=r
  cases (show q=[] from hq)
  exact ⟨v,rfl,hv⟩
theorem RepL.two {B:Bx} {H:Hp} {d e:D} {vs:List V} (r:RepL B H [d,e] vs):∃v u,vs=[v,u]∧RepV B H d v∧RepV B H e u:=by
  obtain ⟨v,q,rfl,hv,hq⟩:=r
  obtain ⟨u,rfl,hu⟩:=hq.one
  exact ⟨v,u,rfl,hv,hu⟩
theorem ZeV:CallR X (.builtin "len") (rC X Zeg):=by
  refine CallR.imp (call_len_str.or Zix) fun vs H Q q=>?_
  obtain ⟨σ,B,θ,ds,G,r,w⟩:=q
  unfold Zeg at w
  split at w
  · split at w
    · rename_i z hz
      obtain ⟨v,rfl,rv⟩:=r.one
      cases (show v=V.str z from rv)
      exact .inl ⟨z,rfl,zV hz,ZR G (show RepV B H (.int _) (.int _) from rfl) w⟩
    · exact w.elim
  · split at w
    · rename_i xs e1
      obtain ⟨v,rfl,rv⟩:=r.one
      obtain ⟨a,us,rfl,h1,h2⟩:=ZcE G rv e1
      exact .inr ⟨a,us,rfl,h1,by rw [h2.len]; exact ZR G (show RepV B H (.int _) (.int _) from rfl) w⟩
    · exact w.elim
  · exact w.elim
def Zfx:List D→Option (List Int)
  | []=>some []
  | .int i::r=>(Zfx r).map (i::·)
  | _=>none
@[simp] theorem ZoZ (ns:List Int):Zfx (ns.map D.int)=some ns:=by
  induction ns with
  | nil=>rfl
  | cons n r ih=>simp [Zfx,ih]
theorem ZlM:∀{ds:List D} {ns:List Int},Zfx ds=some ns→ds=ns.map D.int
  | [],_,h=>by cases h; rfl
  | d::r,ns,h=>by
    cases d with
    | int i=>
      simp only [Zfx] at h
      cases e:Zfx r with
      | none=>rw [e] at h; cases h
      | some ms=>rw [e] at h; cases h; rw [ZlM e]; rfl
    | _=>cases h
theorem Zko {B:Bx} {H:Hp}:∀{ns:List Int} {vs:List V},RepL B H (ns.map D.int) vs→vs=ns.map V.int
  | [],_,r=>r
  | n::ns,_,r=>by
    obtain ⟨v,q,rfl,hv,hq⟩:=r
    cases (show v=V.int n from hv)
    rw [Zko hq]; rfl
def Zma:GM:=fun ds θ=>match ds with
  | [d]=>match (ZaC θ d).bind Zfx with
    | some ns=>.ok (.int ns.sum) θ
    | none=>.bad
  | _=>.bad
theorem ZrH (hc:X.calm=true:=by rfl):CallR X (.builtin "sum") (rC X Zma):=by
  refine CallR.imp (Zpp hc) fun vs H Q q=>?_
  obtain ⟨σ,B,θ,ds,G,r,w⟩:=q
  unfold Zma at w
  split at w
  · rename_i d
    split at w
    · rename_i ns e1
      obtain ⟨v,rfl,rv⟩:=r.one
      cases e2:ZaC θ d with
      | none=>rw [e2] at e1; cases e1
      | some xs=>
        rw [e2] at e1
        obtain ⟨a,us,rfl,h1,h2⟩:=ZaB G rv e2
        rw [ZlM (show Zfx xs=some ns from e1)] at h2
        rw [Zko h2] at h1
        exact ⟨a,ns,rfl,SqL.of h1,ZR G (show RepV B H (.int _) (.int _) from rfl) w⟩
    · exact w.elim
  · exact w.elim
def Zkf:GM:=fun ds θ=>match ds with
  | [.int i,.int j]=>.ok (.int (if j<i then j else i)) θ
  | [.int i,.int j,.int k]=>.ok (.int (if j<i then (if k<j then k else j) else (if k<i then k else i))) θ
  | _=>.bad
def Zqz:GM:=fun ds θ=>match ds with
  | [.int i,.int j]=>.ok (.int (if j > i then j else i)) θ
  | _=>.bad
theorem RepL.three {B:Bx} {H:Hp} {d e f:D} {vs:List V} (r:RepL B H [d,e,f] vs):∃v u w,vs=[v,u,w]∧RepV B H d v∧RepV B H e u∧RepV B H f w:=by
  obtain ⟨v,q,rfl,hv,hq⟩:=r
  obtain ⟨u,w,rfl,hu,hw⟩:=hq.two
  exact ⟨v,u,w,rfl,hv,hu,hw⟩
theorem ZmD (hc:X.calm=true):CallR X (.builtin "min") (fun xs H Q=>∃i j k,xs=[.int i,.int j,.int k]∧Q (.int (if j<i then (if k<j then k else j) else (if k<i then k else i))) H):=by
  intro pins s σ H xs us Q I r h
  obtain ⟨i,j,k,rfl,q⟩:=h
  cases r with
  | cons r1 rr=>
    obtain ⟨u2,u3,e,r2,r3⟩:=ZnV rr
    subst e
    obtain ⟨t1,rfl⟩:=r1
    obtain ⟨t2,rfl⟩:=r2
    obtain ⟨t3,rfl⟩:=r3
    refine min_three_ints (I.ok.hd hc) fun h' tk kk=>⟨_,H,I.kept kk,?_,q⟩
    by_cases c1:j<i
    · by_cases c2:k<j
      · simp only [c1,c2,if_true]; exact ⟨_,rfl⟩
      · simp only [c1,c2,if_true,if_false]; exact ⟨_,rfl⟩
    · by_cases c2:k<i
      · simp only [c1,c2,if_true,if_false]; exact ⟨_,rfl⟩
      · simp only [c1,c2,if_false]; exact ⟨_,rfl⟩
theorem ZlW (hc:X.calm=true:=by rfl):CallR X (.builtin "min") (rC X Zkf):=by
  refine CallR.imp ((ZmE hc).or (ZmD hc)) fun vs H Q q=>?_
  obtain ⟨σ,B,θ,ds,G,r,w⟩:=q
  unfold Zkf at w
  split at w
  · rename_i i j
    obtain ⟨v,u,rfl,rv,ru⟩:=r.two
    cases (show v=V.int i from rv)
    cases (show u=V.int j from ru)
    exact .inl ⟨i,j,rfl,ZR G (show RepV B H (.int _) (.int _) from rfl) w⟩
  · rename_i i j k
    obtain ⟨v,u,z,rfl,rv,ru,rz⟩:=r.three
    cases (show v=V.int i from rv)
    cases (show u=V.int j from ru)
    cases (show z=V.int k from rz)
    exact .inr ⟨i,j,k,rfl,ZR G (show RepV B H (.int _) (.int _) from rfl) w⟩
  · exact w.elim
theorem ZuQ (hc:X.calm=true:=by rfl):CallR X (.builtin "max") (rC X Zqz):=by
  refine CallR.imp (ZmF hc) fun vs H Q q=>?_
  obtain ⟨σ,B,θ,ds,G,r,w⟩:=q
  unfold Zqz at w
  split at w
  · rename_i i j
    obtain ⟨v,u,rfl,rv,ru⟩:=r.two
    cases (show v=V.int i from rv)
    cases (show u=V.int j from ru)
    exact ⟨i,j,rfl,ZR G (show RepV B H (.int _) (.int _) from rfl) w⟩
  · exact w.elim
def ZlI:GM:=fun ds θ=>match ds with
  | [d]=>match seqOf θ d with
    | some xs=>.ok (.lst xs) θ
    | none=>.bad
  | _=>.bad
theorem Zs8:CallR X (.type "list") (rC X ZlI):=by
  refine CallR.imp Ziw fun vs H Q q=>?_
  obtain ⟨σ,B,θ,ds,G,r,w⟩:=q
  unfold ZlI at w
  split at w
  · split at w
    · rename_i xs e1
      obtain ⟨v,rfl,rv⟩:=r.one
      obtain ⟨a,us,rfl,h1,h2⟩:=ZcE G rv e1
      exact ⟨a,us,rfl,h1,ZeY G h2 w⟩
    · exact w.elim
  · exact w.elim
def ZgL:GM:=fun ds θ=>match ds with
  | [.tup xs]=>.ok (.tup xs) θ
  | [d]=>match ZaC θ d with
    | some xs=>.ok (.tup xs) θ
    | none=>.bad
  | _=>.bad
theorem ZlV:CallR X (.type "tuple") (rC X ZgL):=by
  refine CallR.imp Zhq fun vs H Q q=>?_
  obtain ⟨σ,B,θ,ds,G,r,w⟩:=q
  unfold ZgL at w
  split at w
  · rename_i xs
    obtain ⟨v,rfl,rv⟩:=r.one
    obtain ⟨a,us,rfl,h1,k1,l1⟩:=id rv
    exact ⟨a,us,rfl,.inr ⟨SqT.of h1,ZR G rv w⟩⟩
  · split at w
    · rename_i xs e1
      obtain ⟨v,rfl,rv⟩:=r.one
      obtain ⟨a,us,rfl,h1,h2⟩:=ZaB G rv e1
      exact ⟨a,us,rfl,.inl ⟨SqL.of h1,ZgI G h2 w⟩⟩
    · exact w.elim
  · exact w.elim
inductive Ty | non | bl | int | str | lst | tup
end
end
end L2.MM
namespace L2.MM
open PySem PySem.Spec PyProof.Rows PySem.SeqAt
noncomputable section
variable {X:Cx}
inductive Src where
  | seq (d:D) | rng (lo:Int) (n:Nat)
def Src.items (θ:Sto):Src→Option (List D)
  | .seq d=>seqOf θ d
  | .rng lo n=>some ((List.range n).map fun (i:Nat)=>D.int (lo+(i:Int)))
def SrcRep (K:PySem.W.Frag) (B:Bx) (H:Hp):Src→It→Prop
  | .seq d,J=>∃a,RepV B H d (.ref a)∧J=(match d with | .tup _=>Itt K a | _=>Itl K a)
  | .rng lo n,J=>J=Itr lo n
abbrev IM:=List Sl→Sto→R Src
section
def tMI (X:Cx) (f:IM):TI:=fun σ H Q=>∃B θ ρ,Frm X.cl B θ ρ σ H∧wpR X σ (SrcRep X.K) B H (f ρ θ) Q
def MI (X:Cx) (tg iter:Expr) (f:IM):Prop:=PI X tg iter (tMI X f)
theorem PI.imp {tg iter:Expr} {t t':TI} (h:PI X tg iter t) (hi:∀σ H Q,t' σ H Q→t σ H Q):PI X tg iter t':=fun pins s σ H Q I q=>h pins s σ H Q I (hi σ H Q q)
theorem SrcRep.ext {K:PySem.W.Frag} {B B':Bx} {H H':Hp} {S:Src} {J:It} (r:SrcRep K B H S J) (E:ExtS B B' H H'):SrcRep K B' H' S J:=by
  cases S with
  | seq d=>obtain ⟨a,h,e⟩:=r; exact ⟨a,h.ext E,e⟩
  | rng lo n=>exact r
theorem Zh6 {cl:Mo} {B:Bx} {θ:Sto} {H:Hp} {S:Src} {J:It} {xs:List D} (G:Good cl B θ H) (r:SrcRep cl.K B H S J) (h:S.items θ=some xs) :
    (∀i d,xs[i]?=some d→J.go i H∧∀x H',J.yld i H x H'→H'=H∧RepV B H d x)∧J.stop xs.length H:=by
  cases S with
  | rng lo n=>
    cases (show J=Itr lo n from r)
    cases h
    refine ⟨fun i d e=>?_,by show n≤_; simp⟩
    rw [List.getElem?_map] at e
    by_cases hi:i<n
    · rw [List.getElem?_range hi] at e
      cases e
      exact ⟨hi,fun x H' y=>⟨y.1,y.2⟩⟩
    · rw [List.getElem?_eq_none (by simpa using hi)] at e
      cases e
  | seq d=>
    obtain ⟨a,rv,e⟩:=r
    cases d with
    | tup ys=>
      obtain ⟨a',vs,e1,h1,_,h2⟩:=rv
      cases e1
      cases h
      simp only at e
      subst e
      refine ⟨fun i d e=>?_,⟨vs,SqT.of h1,by rw [h2.len]; exact Nat.le_refl _⟩⟩
      obtain ⟨v,q1,q2⟩:=h2.get e
      refine ⟨⟨vs,v,SqT.of h1,q1⟩,fun x H' y=>⟨y.1,?_⟩⟩
      have:=y.2 vs (SqT.of h1)
      rw [q1] at this
      cases this
      exact q2
    | scr ns=>
      cases h
      obtain ⟨a',vs',e1,h1,_⟩:=ZcE G rv (show seqOf θ (.scr ns)=some (ns.map D.int) from rfl)
      cases e1
      simp only at e
      subst e
      have hS:SqL cl.K H a (ns.map V.int):=by
        obtain ⟨a',e1,h1⟩:=rv
        cases e1
        rcases h1 with ⟨o,h1,_⟩ | h1
        · exact .inl (.inr ⟨o,h1⟩)
        · exact .inr (G.kc a ns h1)
      have h2:RepL B H (ns.map D.int) (ns.map V.int):=RepL.map (f:=D.int) (g:=V.int) (fun _=>rfl) ns
      refine ⟨fun i d e=>?_,⟨ns.map V.int,hS,by simp⟩⟩
      obtain ⟨v,q1,q2⟩:=h2.get e
      refine ⟨⟨_,v,hS,q1⟩,fun x H' y=>⟨y.1,?_⟩⟩
      have:=y.2 _ hS
      rw [q1] at this
      cases this
      exact q2
    | lst ys=>
      obtain ⟨a',vs,e1,h1,h2⟩:=ZaB G rv (show ZaC θ (.lst ys)=some xs from h)
      cases e1
      simp only at e
      subst e
      refine ⟨fun i d e=>?_,⟨vs,SqL.of h1,by rw [h2.len]; exact Nat.le_refl _⟩⟩
      obtain ⟨v,q1,q2⟩:=h2.get e
      refine ⟨⟨vs,v,SqL.of h1,q1⟩,fun x H' y=>⟨y.1,?_⟩⟩
      have:=y.2 vs (SqL.of h1)
      rw [q1] at this
      cases this
      exact q2
    | ref l=>
      obtain ⟨a',vs,e1,h1,h2⟩:=ZaB G rv (show ZaC θ (.ref l)=some xs from h)
      cases e1
      simp only at e
      subst e
      refine ⟨fun i d e=>?_,⟨vs,SqL.of h1,by rw [h2.len]; exact Nat.le_refl _⟩⟩
      obtain ⟨v,q1,q2⟩:=h2.get e
      refine ⟨⟨vs,v,SqL.of h1,q1⟩,fun x H' y=>⟨y.1,?_⟩⟩
      have:=y.2 vs (SqL.of h1)
      rw [q1] at this
      cases this
      exact q2
    | non=>cases h
    | bl _=>cases h
    | int _=>cases h
    | str _=>cases h
    | ty _=>cases h
def ZxL (K:PySem.W.Frag) (tl:TE):TI:=fun σ H R=>tl σ H fun x H1=>∃a,x=.ref a∧(((∃xs,SqL K H1 a xs)∧R (Itl K a) H1)∨((∃xs,SqT K H1 a xs)∧R (Itt K a) H1))
theorem Zsv {tg l:Expr} {tl:TE} (hl:PE X l tl):PI X tg l (ZxL X.K tl):=by
  intro pins s σ H R I h
  refine thn (hl pins s σ H _ I h) fun v s1 ⟨x,H1,I1,r1,q1⟩=>?_
  obtain ⟨a,e,q1⟩:=q1
  subst e
  cases r1
  rcases q1 with ⟨⟨xs,hq⟩,q⟩ | ⟨⟨xs,hq⟩,q⟩
  · obtain ⟨its,rv,p,hz⟩:=I1.list hq
    refine wpAny_pyIter_list p.isList ?_
    refine ⟨s1.heap.objs.size,[s1.heap.objs.size],_,_,H1,rfl,I1.kept (t':=s1.toks) fun b o e=>Heap.get?_push_of_some _ e,Zl6 a _,⟨_,Heap.get?_push_size _ rfl,rfl,rfl⟩,fun b hb=>?_,q⟩
    have e:b=s1.heap.objs.size:=by simpa using hb
    subst e
    exact I1.fpOk (Nat.le_refl _) (I1.hok.fresh (Nat.le_refl _))
  · obtain ⟨its,rv,p,hz⟩:=I1.tuple hq
    refine wpAny_pyIter_tuple (show s1.heap.IsTuple a its.toArray from p) ?_
    refine ⟨s1.heap.objs.size,[s1.heap.objs.size],_,_,H1,rfl,I1.kept (t':=s1.toks) fun b o e=>Heap.get?_push_of_some _ e,ZkF a _,⟨_,Heap.get?_push_size _ rfl,rfl,rfl⟩,fun b hb=>?_,q⟩
    have e:b=s1.heap.objs.size:=by simpa using hb
    subst e
    exact I1.fpOk (Nat.le_refl _) (I1.hok.fresh (Nat.le_refl _))
def mIn (f:EM):IM:=fun ρ θ=>(f ρ θ).bind fun d θ=>match seqOf θ d with
  | some _=>.ok (.seq d) θ
  | none=>.bad
theorem ZsT {tg l:Expr} {f:EM} (h:ME X l f):MI X tg l (mIn f):=by
  refine PI.imp (Zsv h) fun σ H R q=>?_
  obtain ⟨B,θ,ρ,F,w⟩:=q
  refine ZW (step F w) ?_
  rintro v H1 ⟨B1,θ1,d,E1,F1,rd,w1⟩
  split at w1
  · rename_i xs e
    obtain ⟨a,vs,rfl,h1,h2⟩:=ZcE F1.good rd e
    refine ⟨a,rfl,?_⟩
    have fin:=fun J (hJ:SrcRep X.K B1 H1 (.seq d) J)=>ZR (Rel:=SrcRep X.K) F1.good hJ w1
    cases d with
    | tup ys=>
      obtain ⟨a',us,e1,g1,_,_⟩:=id rd
      cases e1
      exact .inr ⟨⟨us,SqT.of g1⟩,fin _ ⟨a,rd,rfl⟩⟩
    | scr ns=>
      have hS:SqL X.K H1 a (ns.map V.int):=by
        obtain ⟨a',e1,g1⟩:=id rd
        cases e1
        rcases g1 with ⟨o,g1,_⟩ | g1
        · exact .inl (.inr ⟨o,g1⟩)
        · exact .inr (F1.good.kc a ns g1)
      exact .inl ⟨⟨_,hS⟩,fin _ ⟨a,rd,rfl⟩⟩
    | lst ys=>
      obtain ⟨a',us,e1,g1,_⟩:=ZaB F1.good rd (show ZaC θ1 (.lst ys)=some xs from e)
      cases e1
      exact .inl ⟨⟨us,SqL.of g1⟩,fin _ ⟨a,rd,rfl⟩⟩
    | ref l=>
      obtain ⟨a',us,e1,g1,_⟩:=ZaB F1.good rd (show ZaC θ1 (.ref l)=some xs from e)
      cases e1
      exact .inl ⟨⟨us,SqL.of g1⟩,fin _ ⟨a,rd,rfl⟩⟩
    | non=>cases e
    | bl _=>cases e
    | int _=>cases e
    | str _=>cases e
    | ty _=>cases e
  · exact w1.elim
def ZbY (f:AM):IM:=fun ρ θ=>(f ρ θ).bind fun ds θ=>match ds with
  | [.int j]=>if -1000000≤j∧j≤1000000 then .ok (.rng 0 j.toNat) θ else .bad
  | _=>.bad
theorem Zdo {tg a:Expr} {f:AM} {p pos:Pos} (hm:X.mg "range"=none) (ha:MA X [a] f) (hg:Gl X "range":=by rfl) (hs:starEach [a] X.env=[(false,eval a X.env)]:=by rfl):MI X tg (.Call (.Name "range" p) [a] [] pos) (ZbY f):=by
  refine PI.imp (Zmg hg hm ha hs) fun σ H R q=>?_
  obtain ⟨B,θ,ρ,F,w⟩:=q
  refine Zbi (Zf6 F w) ?_
  rintro vs H1 ⟨B1,θ1,ds,E1,F1,rd,w1⟩
  split at w1
  · rename_i j
    split at w1
    · rename_i hj
      obtain ⟨v,rfl,rv⟩:=rd.one
      cases (show v=V.int j from rv)
      exact ⟨j,rfl,by have:=hj.1; omega,by have:=hj.2; omega,ZR (Rel:=SrcRep X.K) F1.good (show SrcRep X.K B1 H1 (.rng 0 j.toNat) _ from rfl) w1⟩
    · exact w1.elim
  · exact w1.elim
def ZdW (src:List Nat) (ρ:List Sl) (x:D):List Sl:=Sl.val x::src.map fun (j:Nat)=>match ρ[j]? with
  | some (Sl.val d)=>Sl.val d
  | _=>Sl.no
theorem Frm.inner {B:Bx} {θ:Sto} {ρ:List Sl} {σ:St} {H:Hp} (F:Frm X.cl B θ ρ σ H) (src:List Nat) {x:D} {v:V} (r:RepV B H x v):Frm X.cl B θ (ZdW src ρ x) (L2.inner src σ (some v)) H:=by
  have key:∀(i:Nat) (s:Sl),(ZdW src ρ x)[i]?=some s→s=.no∨∃d,s=.val d∧∃v',(L2.inner src σ (some v))[i]?=some (some v')∧RepV B H d v':=fun i s e=>by
    cases i with
    | zero=>simp [ZdW] at e; subst e; exact .inr ⟨x,rfl,v,by simp [L2.inner],r⟩
    | succ i=>
      simp only [ZdW,List.getElem?_cons_succ,List.getElem?_map] at e
      simp only [L2.inner,List.getElem?_cons_succ,List.getElem?_map]
      cases q:src[i]? with
      | none=>rw [q] at e; cases e
      | some j=>
        rw [q] at e
        simp only [Option.map_some,Option.some.injEq] at e
        split at e
        · rename_i d ed
          subst e
          obtain ⟨v',h1,h2⟩:=F.val j d ed
          exact .inr ⟨d,rfl,v',by simp [h1],h2⟩
        · exact .inl e.symm
  refine ⟨F.good,by simp [ZdW,L2.inner],fun i d e=>?_,fun i xs e=>?_,fun i j xs ys a _ e _=>?_⟩
  · rcases key i _ e with z | ⟨d',z,v',h1,h2⟩
    · cases z
    · cases z; exact ⟨v',h1,h2⟩
  · rcases key i _ e with z | ⟨d',z,_⟩<;>cases z
  · rcases key i _ e with z | ⟨d',z,_⟩<;>cases z
open Classical in
def Zgf (S:Src) (all:List D) (elt:D→Sto→R D):List D→List D→Sto→R D
  | [],acc,θ=>if S.items θ=some all∧acc.length≤BIG then .ok (.lst acc) θ else .bad
  | x::r,acc,θ=>if S.items θ=some all then (elt x θ).bind fun y θ=>Zgf S all elt r (acc++[y]) θ else .bad
def Zef (fi:IM) (src:List Nat) (elt:EM):EM:=fun ρ θ=>(fi ρ θ).bind fun S θ=>match S.items θ with
  | some xs=>if xs.length≤BIG then Zgf S xs (fun x θ=>elt (ZdW src ρ x) θ) xs [] θ else .bad
  | none=>.bad
open Classical in
theorem Zlk {fi:IM} {src:List Nat} {elt:EM} (σ:St) (H:Hp) (Q:VK) (h:tM X (Zef fi src elt) σ H Q):tLc (tMI X fi) src (tM X elt) σ H Q:=by
  obtain ⟨B,θ,ρ,F,w⟩:=h
  refine ⟨B,θ,ρ,F,(wpR.bind (Rel:=SrcRep X.K) w).mono ?_⟩
  rintro J H1 ⟨B1,θ1,S,E1,G1,rJ,w1⟩
  split at w1
  · rename_i xs e1
    split at w1
    · rename_i hz
      refine ⟨xs.length,fun i ys H'=>∃B' θ' acc,ExtE B1 B' H1 H'∧Good X.cl B' θ' H'∧RepL B' H' acc ys∧wpR X σ RepV B' H' (Zgf S xs (fun x θ=>elt (ZdW src ρ x) θ) (xs.drop i) acc θ') Q,zV hz,?_,?_,?_⟩
      · exact ⟨B1,θ1,[],ExtE.refl _ _,G1,rfl,w1⟩
      · rintro i ys H' hi ⟨B2,θ2,acc,E2,G2,racc,w2⟩
        rw [List.drop_eq_getElem_cons hi] at w2
        unfold Zgf at w2
        split at w2
        · rename_i e2
          obtain ⟨g1,g2⟩:=(Zh6 G2 (rJ.ext E2.toExtS) e2).1 i xs[i] (List.getElem?_eq_getElem hi)
          refine ⟨g1,fun y H3 hy=>?_⟩
          obtain ⟨rfl,ry⟩:=g2 y H3 hy
          have F2:=(F.ext (E1.trans E2) G2).inner src ry
          refine ⟨B2,θ2,_,F2,(wpR.bind (Rel:=RepV) w2).mono ?_⟩
          rintro z H4 ⟨B4,θ4,d,E4,G4,rd,w4⟩
          exact ⟨B4,θ4,acc++[d],E2.trans E4,G4,(racc.ext E4.toExtS).app ⟨z,[],rfl,rd,rfl⟩,w4⟩
        · exact w2.elim
      · rintro ys H' ⟨B2,θ2,acc,E2,G2,racc,w2⟩
        rw [List.drop_length] at w2
        unfold Zgf at w2
        split at w2
        · rename_i e2
          exact ⟨(Zh6 G2 (rJ.ext E2.toExtS) e2.1).2,ZeY G2 racc w2⟩
        · exact w2.elim
    · exact w1.elim
  · exact w1.elim
theorem Zuw {x:Str} {px pos:Pos} {iter elt:Expr} {scope:Scope} {N':List Str} {src:List Nat} {sc:Scope} {N:List Str} {fi:IM} {fe:EM} (S:ZbI scope sc x N N' src) (hsc:X.env.scope=sc) (hN:X.N=N) (hi:MI X (.Name x px) iter fi)
    (helt:∀(cl:List (Str×Addr)) (C:Addr) (s₀:Shared) (H₀:Hp) (fp:List Addr),ME (X.comp scope N' cl C s₀ H₀ fp) elt fe) (hcm:X.calm=true:=by rfl) (hs:∀v,foldedSetIterable iter X.env v=pure v:=by intro _; rfl) :
    ME X (.ListComp elt [⟨.Name x px,iter,[],0⟩] scope pos) (Zef fi src fe):=
  PE.imp (Zui (te:=tM X fe) S hsc hN hi (fun cl C s₀ H₀ fp=>helt cl C s₀ H₀ fp) hcm hs) Zlk
inductive Fl where
  | nx | rt (d:D) | bk | ct
abbrev SM:=List Sl→Sto→R (Fl×List Sl)
def ZrF (Dn:ZeO) (B:Bx) (σ:St) (H:Hp):Fl→Prop
  | .nx=>Dn.nx σ H
  | .bk=>Dn.bk σ H
  | .ct=>Dn.ct σ H
  | .rt d=>∀v,RepV B H d v→Dn.rt v H
def wpS (X:Cx) (σ:St) (B:Bx) (H:Hp) (r:R (Fl×List Sl)) (Dn:ZeO):Prop:=match r with
  | .ok (fl,ρ') θ'=>∀B' H' σ',ExtS B B' H H'→Frm X.cl B' θ' ρ' σ' H'→ZrF Dn B' σ' H' fl
  | .ex c θ'=>XE X σ B H c θ'
  | .bad=>False
def tMS (X:Cx) (f:SM):TS:=fun Dn σ H=>∃B θ ρ,Frm X.cl B θ ρ σ H∧wpS X σ B H (f ρ θ) Dn
def MS (X:Cx) (st:Stmt) (f:SM):Prop:=PS X st (tMS X f)
def MSs (X:Cx) (sts:List Stmt) (f:SM):Prop:=PSs X sts (tMS X f)
theorem PS.imp {st:Stmt} {t t':TS} (h:PS X st t) (hi:∀D σ H,t' D σ H→t D σ H):PS X st t':=fun pins s σ H D I q=>h pins s σ H D I (hi D σ H q)
theorem PSs.imp {st:List Stmt} {t t':TS} (h:PSs X st t) (hi:∀D σ H,t' D σ H→t D σ H):PSs X st t':=fun pins s σ H D I q=>h pins s σ H D I (hi D σ H q)
theorem wpS.trans {σ σ':St} {B B':Bx} {H H':Hp} {r:R (Fl×List Sl)} {Dn:ZeO} (h:wpS X σ B H r Dn) (E:ExtS B B' H H'):wpS X σ' B' H' r Dn:=by
  cases r with
  | ok a θ'=>exact fun B2 H2 σ2 e g=>h B2 H2 σ2 (E.trans e) g
  | ex c θ'=>exact h
  | bad=>exact h
theorem wpS.bind {α β:Type} {Rel:Bx→Hp→α→β→Prop} {σ:St} {B:Bx} {H:Hp} {r:R α} {k:α→Sto→R (Fl×List Sl)} {Dn:ZeO} (h:wpS X σ B H (r.bind k) Dn) :
    wpR X σ Rel B H r (fun b H1=>∃B1 θ1 a,ExtE B B1 H H1∧Good X.cl B1 θ1 H1∧Rel B1 H1 a b∧wpS X σ B1 H1 (k a θ1) Dn):=by
  cases r with
  | ok a θ'=>exact fun B1 H1 b E g q=>⟨B1,θ',a,E,g,q,wpS.trans h E.toExtS⟩
  | ex c θ'=>exact h
  | bad=>exact h
theorem ZeP {σ:St} {H:Hp} {B:Bx} {θ:Sto} {ρ:List Sl} {f:EM} {k:D→Sto→R (Fl×List Sl)} {Dn:ZeO} (F:Frm X.cl B θ ρ σ H) (h:wpS X σ B H ((f ρ θ).bind k) Dn) :
    tM X f σ H (fun v H1=>∃B1 θ1 d,ExtE B B1 H H1∧Frm X.cl B1 θ1 ρ σ H1∧RepV B1 H1 d v∧wpS X σ B1 H1 (k d θ1) Dn):=
  ⟨B,θ,ρ,F,(wpS.bind (Rel:=RepV) h).mono fun v H1 ⟨B1,θ1,d,E,G,r,w⟩=>⟨B1,θ1,d,E,F.ext E G,r,w⟩⟩
theorem Zn8 {σ:St} {H:Hp} {B:Bx} {θ:Sto} {ρ:List Sl} {f:TMr} {k:Bool→Sto→R (Fl×List Sl)} {Dn:ZeO} (F:Frm X.cl B θ ρ σ H) (h:wpS X σ B H ((f ρ θ).bind k) Dn) :
    tMT X f σ H (fun c H1=>∃B1 θ1,ExtE B B1 H H1∧Frm X.cl B1 θ1 ρ σ H1∧wpS X σ B1 H1 (k c θ1) Dn):=
  ⟨B,θ,ρ,F,(wpS.bind (Rel:=EqB) h).mono fun v H1 ⟨B1,θ1,d,E,G,r,w⟩=>by cases (show d=v from r); exact ⟨B1,θ1,E,F.ext E G,w⟩⟩
theorem Zdz {σ:St} {B:Bx} {H:Hp} {θ:Sto} {ρ:List Sl} {fl:Fl} {Dn:ZeO} (F:Frm X.cl B θ ρ σ H) (h:wpS X σ B H (.ok (fl,ρ) θ) Dn):ZrF Dn B σ H fl:=h B H σ (ExtS.refl B H) F
def ZS:SM:=fun ρ θ=>.ok (.nx,ρ) θ
def ZgM (r:R (Fl×List Sl)) (k:SM):R (Fl×List Sl):=r.bind fun p θ=>match p with
  | (.nx,ρ)=>k ρ θ
  | p=>.ok p θ
def Zv (f g:SM):SM:=fun ρ θ=>ZgM (f ρ θ) g
theorem ZC:MSs X [] ZS:=PSs.imp Zqf fun D σ H h=>by
  obtain ⟨B,θ,ρ,F,w⟩:=h
  exact Zdz F w
theorem wpS.seq {σ:St} {B:Bx} {H:Hp} {r:R (Fl×List Sl)} {g:SM} {Dn:ZeO} (w:wpS X σ B H (ZgM r g) Dn):wpS X σ B H r { Dn with nx:=tMS X g Dn }:=by
  cases r with
  | ex c θ'=>exact w
  | bad=>exact w
  | ok p θ'=>
    obtain ⟨fl,ρ'⟩:=p
    intro B' H' σ' E F
    cases fl with
    | nx=>exact ⟨B',θ',ρ',F,wpS.trans w E⟩
    | bk=>exact w B' H' σ' E F
    | ct=>exact w B' H' σ' E F
    | rt d=>exact w B' H' σ' E F
theorem Zf {st:Stmt} {rest:List Stmt} {f g:SM} (h1:MS X st f) (h2:MSs X rest g):MSs X (st::rest) (Zv f g):=PSs.imp (Zoj h1 h2) fun D σ H h=>by
  obtain ⟨B,θ,ρ,F,w⟩:=h
  exact ⟨B,θ,ρ,F,wpS.seq w⟩
theorem Zi {st:Stmt} {f:SM} (h1:MS X st f):MSs X [st] f:=Zqe h1
def ZqB:SM:=fun _ _=>.bad
theorem ZoK {st:Stmt}:MS X st ZqB:=fun _ _ _ _ _ _ h=>by obtain ⟨_,_,_,_,w⟩:=h; exact w.elim
def zJ (f:EM):SM:=fun ρ θ=>(f ρ θ).bind fun _ θ=>.ok (.nx,ρ) θ
theorem ZX {e:Expr} {f:EM} {pos:Pos} (he:ME X e f) (hs:swapsWith e none pos.line X.env=pure false:=by rfl):MS X (.Expr e pos) (zJ f):=PS.imp (Zlq he hs) fun D σ H h=>by
  obtain ⟨B,θ,ρ,F,w⟩:=h
  refine ZW (ZeP F w) ?_
  rintro v H1 ⟨B1,θ1,d,E1,F1,rd,w1⟩
  exact Zdz F1 w1
def ZT (f:EM):SM:=fun ρ θ=>(f ρ θ).bind fun d θ=>.ok (.rt d,ρ) θ
theorem Zy {e:Expr} {f:EM} {pos:Pos} (he:ME X e f):MS X (.Return (some e) pos) (ZT f):=PS.imp (Zsq he) fun D σ H h=>by
  obtain ⟨B,θ,ρ,F,w⟩:=h
  refine ZW (ZeP F w) ?_
  rintro v H1 ⟨B1,θ1,d,E1,F1,rd,w1⟩
  exact Zdz F1 w1 v rd
def Zfq:SM:=fun ρ θ=>.ok (.rt .non,ρ) θ
theorem ZdH {pos:Pos}:MS X (.Return none pos) Zfq:=PS.imp Zqg fun D σ H h=>by
  obtain ⟨B,θ,ρ,F,w⟩:=h
  exact Zdz F w .non rfl
def mIf (t:TMr) (f g:SM):SM:=fun ρ θ=>(t ρ θ).bind fun k θ=>if k=true then f ρ θ else g ρ θ
theorem ZK {c:Expr} {a b:List Stmt} {t:TMr} {f g:SM} {pos:Pos} (hc:MT X c t) (ha:MSs X a f) (hb:MSs X b g):MS X (.If c a b pos) (mIf t f g):=PS.imp (Zue hc ha hb) fun D σ H h=>by
  obtain ⟨B,θ,ρ,F,w⟩:=h
  refine Zdh (Zn8 F w) ?_
  rintro k H1 ⟨B1,θ1,E1,F1,w1⟩
  cases k with
  | true=>rw [if_pos rfl] at w1 ⊢; exact ⟨B1,θ1,ρ,F1,w1⟩
  | false=>rw [if_neg Bool.false_ne_true] at w1 ⊢; exact ⟨B1,θ1,ρ,F1,w1⟩
theorem Frm.set {B:Bx} {θ:Sto} {ρ:List Sl} {σ:St} {H:Hp} (F:Frm X.cl B θ ρ σ H) (i:Nat) {d:D} {v:V} (r:RepV B H d v):Frm X.cl B θ (ρ.set i (.val d)) (σ.set i (some v)) H:=by
  have oth:∀(j:Nat) (s:Sl),(ρ.set i (Sl.val d))[j]?=some s→(j=i∧s=.val d∧j < σ.length)∨(j≠i∧ρ[j]?=some s):=fun j s e=>by
    by_cases q:j=i
    · subst q
      have hl:j < ρ.length:=by
        have:=(List.getElem?_eq_some_iff.mp e).1
        simpa using this
      rw [List.getElem?_set_self hl] at e
      cases e
      exact .inl ⟨rfl,rfl,by rw [←F.len]; exact hl⟩
    · rw [List.getElem?_set_ne (Ne.symm q)] at e
      exact .inr ⟨q,e⟩
  refine ⟨F.good,by simp [F.len],fun j e h=>?_,fun j xs h=>?_,fun j k xs ys a hne h1 h2 h3=>?_⟩
  · rcases oth j _ h with ⟨rfl,z,hl⟩ | ⟨q,z⟩
    · cases z; exact ⟨v,by rw [List.getElem?_set_self hl],r⟩
    · rw [List.getElem?_set_ne (Ne.symm q)]; exact F.val j e z
  · rcases oth j _ h with ⟨rfl,z,hl⟩ | ⟨q,z⟩
    · cases z
    · rw [List.getElem?_set_ne (Ne.symm q)]; exact F.own j xs z
  · rcases oth j _ h1 with ⟨_,z,_⟩ | ⟨q1,z1⟩
    · cases z
    · rcases oth k _ h2 with ⟨_,z,_⟩ | ⟨q2,z2⟩
      · cases z
      · rw [List.getElem?_set_ne (Ne.symm q1)] at h3
        rw [List.getElem?_set_ne (Ne.symm q2)]
        exact F.ne j k xs ys a hne z1 z2 h3
def zc (i:Nat) (f:EM):SM:=fun ρ θ=>(f ρ θ).bind fun d θ=>.ok (.nx,ρ.set i (.val d)) θ
theorem ZN (i:Nat) {x:Str} {e:Expr} {f:EM} {pos pos':Pos} (hN:X.N.Nodup) (he:ME X e f) (hi:X.N[i]?=some x:=by rfl) (hx:Loc X.env.scope x:=by first | exact Or.inl rfl | exact Or.inr rfl)
    (hs:swapsWith e (some (.Name x pos')) pos.line X.env=pure false:=by rfl) (hf:X.fn x=true∨X.env.scope.names.lookup x=some .local:=by first | exact .inl rfl | exact .inr rfl):MS X (.Assign [.Name x pos'] e pos) (zc i f):=
  PS.imp (Zol hN hi hx he hs hf) fun D σ H h=>by
  obtain ⟨B,θ,ρ,F,w⟩:=h
  refine ZW (ZeP F w) ?_
  rintro v H1 ⟨B1,θ1,d,E1,F1,rd,w1⟩
  exact w1 B1 H1 _ (ExtS.refl _ _) (F1.set i rd)
theorem ZoJ (i:Nat) {x y:Str} {px py pos spos:Pos} {iter elt:Expr} {scope:Scope} {N':List Str} {src:List Nat} {sc:Scope} {N:List Str} {fi:IM} {fe:EM} (hnd:X.N.Nodup) (S:ZbI scope sc x N N' src) (hsc:X.env.scope=sc) (hN:X.N=N) (hi:MI X (.Name x px) iter fi)
    (helt:∀(cl:List (Str×Addr)) (C:Addr) (s₀:Shared) (H₀:Hp) (fp:List Addr),ME (X.comp scope N' cl C s₀ H₀ fp) elt fe) (hi':X.N[i]?=some y:=by rfl)
    (hsw:swapsWith (.ListComp elt [⟨.Name x px,iter,[],0⟩] scope pos) (some (.Name y py)) spos.line X.env=pure true:=by rfl)
    (hy:X.env.scope.names.lookup y=some .local:=by rfl) (hcm:X.calm=true:=by rfl) (hs:∀v,foldedSetIterable iter X.env v=pure v:=by intro _; rfl) :
    MS X (.Assign [.Name y py] (.ListComp elt [⟨.Name x px,iter,[],0⟩] scope pos) spos) (zc i (Zef fi src fe)):=
  PS.imp (Zud (te:=tM X fe) hnd hi' S hsc hN hi (fun cl C s₀ H₀ fp=>helt cl C s₀ H₀ fp) hsw hy hcm hs) fun D σ H h=>by
  obtain ⟨B,θ,ρ,F,w⟩:=h
  refine Zlk σ H _ (ZW (ZeP F w) ?_)
  rintro v H1 ⟨B1,θ1,d,E1,F1,rd,w1⟩
  exact w1 B1 H1 _ (ExtS.refl _ _) (F1.set i rd)
end
end
end L2.MM
namespace L2.MM
open PySem PySem.Spec PyProof.Rows PySem.SeqAt
noncomputable section
variable {X:Cx}
def Zf9 (k:SM):Fl×List Sl→Sto→R (Fl×List Sl)
  | (.nx,ρ),θ=>k ρ θ
  | (.ct,ρ),θ=>k ρ θ
  | (.bk,ρ),θ=>.ok (.nx,ρ) θ
  | (.rt d,ρ),θ=>.ok (.rt d,ρ) θ
theorem wpS.loop {σ:St} {B:Bx} {H:Hp} {r:R (Fl×List Sl)} {k:SM} {Dn:ZeO} (w:wpS X σ B H (r.bind (Zf9 k)) Dn) :
    wpS X σ B H r { Dn with nx:=fun σ' H'=>∃B' θ' ρ',ExtS B B' H H'∧Frm X.cl B' θ' ρ' σ' H'∧wpS X σ' B' H' (k ρ' θ') Dn,ct:=fun σ' H'=>∃B' θ' ρ',ExtS B B' H H'∧Frm X.cl B' θ' ρ' σ' H'∧wpS X σ' B' H' (k ρ' θ') Dn,bk:=Dn.nx }:=by
  cases r with
  | ex c θ'=>exact w
  | bad=>exact w
  | ok p θ'=>
    obtain ⟨fl,ρ'⟩:=p
    intro B' H' σ' E F
    cases fl with
    | nx=>exact ⟨B',θ',ρ',E,F,wpS.trans w E⟩
    | ct=>exact ⟨B',θ',ρ',E,F,wpS.trans w E⟩
    | bk=>exact w B' H' σ' E F
    | rt d=>exact w B' H' σ' E F
abbrev TgM:=D→List Sl→Option (List Sl)
def tMG (X:Cx) (g:TgM):TG:=fun v σ H Q=>∃B θ ρ d ρ',Frm X.cl B θ ρ σ H∧RepV B H d v∧g d ρ=some ρ'∧∀σ',Frm X.cl B θ ρ' σ' H→Q σ' H
def MG (X:Cx) (tg:Expr) (g:TgM):Prop:=PG X tg (tMG X g)
theorem PG.imp {tg:Expr} {t t':TG} (h:PG X tg t) (hi:∀v σ H Q,t' v σ H Q→t v σ H Q):PG X tg t':=fun pins s σ H v u Q I r q=>h pins s σ H v u Q I r (hi v σ H Q q)
def gNm (i:Nat):TgM:=fun d ρ=>some (ρ.set i (.val d))
theorem ZgA (i:Nat) {x:Str} {pos:Pos} (hN:X.N.Nodup) (hi:X.N[i]?=some x:=by rfl) (hx:Loc X.env.scope x:=by first | exact Or.inl rfl | exact Or.inr rfl) (hf:X.fn x=true∨X.env.scope.names.lookup x=some .local:=by first | exact .inl rfl | exact .inr rfl):MG X (.Name x pos) (gNm i):=
  PG.imp (Zfi hN hi hx hf) fun v σ H Q h=>by
  obtain ⟨B,θ,ρ,d,ρ',F,r,e,q⟩:=h
  cases e
  exact q _ (F.set i r)
open Classical in
def forL (S:Src) (all:List D) (tg:TgM) (body:SM):List D→SM
  | []=>fun ρ θ=>if S.items θ=some all then .ok (.nx,ρ) θ else .bad
  | x::r=>fun ρ θ=>if S.items θ=some all then (match tg x ρ with
    | none=>.bad
    | some ρ1=>(body ρ1 θ).bind (Zf9 (forL S all tg body r))) else .bad
def Zhm (fi:IM) (tg:TgM) (body:SM):SM:=fun ρ θ=>(fi ρ θ).bind fun S θ=>match S.items θ with
  | some xs=>forL S xs tg body xs ρ θ
  | none=>.bad
open Classical in
theorem Zig {tg iter:Expr} {body:List Stmt} {fi:IM} {g:TgM} {fb:SM} {pos:Pos} (hp:PassesOwn (model X.prog X.w) X.A X.env X.xe) (hi:MI X tg iter fi) (hg:MG X tg g) (hb:MSs X body fb) (hc:X.calm=true:=by rfl)
    (hs:∀x,foldedSetIterable iter X.env x=pure x:=by intro _; rfl):MS X (.For tg iter body [] pos) (Zhm fi g fb):=
  PS.imp (Zom hp hc hi hg hb hs) fun Dn σ H h=>by
  obtain ⟨B,θ,ρ,F,w⟩:=h
  refine ⟨B,θ,ρ,F,(wpS.bind (Rel:=SrcRep X.K) w).mono ?_⟩
  rintro J H1 ⟨B1,θ1,S,E1,G1,rJ,w1⟩
  split at w1
  · rename_i xs e1
    refine ⟨fun i m σ H=>∃B θ ρ,Frm X.cl B θ ρ σ H∧SrcRep X.K B H S J∧m=xs.length-i∧i≤xs.length∧wpS X σ B H (forL S xs g fb (xs.drop i) ρ θ) Dn,⟨xs.length,B1,θ1,ρ,F.ext E1 G1,rJ,rfl,Nat.zero_le _,w1⟩,?_⟩
    rintro i m σ2 H2 ⟨B2,θ2,ρ2,F2,rJ2,rfl,hi2,w2⟩
    by_cases hlt:i<xs.length
    · rw [List.drop_eq_getElem_cons hlt] at w2
      unfold forL at w2
      split at w2
      · rename_i e2
        obtain ⟨g1,g2⟩:=(Zh6 F2.good rJ2 e2).1 i xs[i] (List.getElem?_eq_getElem hlt)
        split at w2
        · exact w2.elim
        · rename_i ρ3 e3
          refine .inr ⟨g1,fun σ' H'=>∃B' θ' ρ',ExtS B2 B' H2 H'∧Frm X.cl B' θ' ρ' σ' H'∧wpS X σ' B' H' (forL S xs g fb (xs.drop (i+1)) ρ' θ') Dn,?_,fun x H' hy=>?_⟩
          · rintro σ' H' ⟨B',θ',ρ',E',F',w'⟩
            exact ⟨xs.length-(i+1),by omega,B',θ',ρ',F',rJ2.ext E',rfl,hlt,w'⟩
          · obtain ⟨rfl,rx⟩:=g2 x H' hy
            refine ⟨B2,θ2,ρ2,xs[i],ρ3,F2,rx,e3,fun σ' F'=>⟨B2,θ2,ρ3,F',?_⟩⟩
            have w3:=wpS.loop w2
            exact wpS.trans w3 (ExtS.refl _ _)
      · exact w2.elim
    · have e:i=xs.length:=by omega
      subst e
      rw [List.drop_length] at w2
      unfold forL at w2
      split at w2
      · rename_i e2
        exact .inl ⟨(Zh6 F2.good rJ2 e2).2,Zdz F2 w2⟩
      · exact w2.elim
  · exact w1.elim
def whileL (t:TMr) (body:SM):Nat→SM
  | 0=>ZqB
  | n+1=>fun ρ θ=>(t ρ θ).bind fun k θ=>if k=true then (body ρ θ).bind (Zf9 (whileL t body n)) else .ok (.nx,ρ) θ
theorem ZgS (n:Nat) {c:Expr} {body:List Stmt} {t:TMr} {fb:SM} {pos:Pos} (hp:PassesOwn (model X.prog X.w) X.A X.env X.xe) (hc:MT X c t) (hb:MSs X body fb):MS X (.While c body [] pos) (whileL t fb n):=
  PS.imp (Zok hp hc hb) fun Dn σ H h=>by
  obtain ⟨B,θ,ρ,F,w⟩:=h
  refine ⟨fun m σ H=>∃B θ ρ,Frm X.cl B θ ρ σ H∧wpS X σ B H (whileL t fb m ρ θ) Dn,⟨n,B,θ,ρ,F,w⟩,?_⟩
  rintro m σ2 H2 ⟨B2,θ2,ρ2,F2,w2⟩
  cases m with
  | zero=>exact w2.elim
  | succ m=>
    refine Zdh (Zn8 F2 w2) ?_
    rintro k H3 ⟨B3,θ3,E3,F3,w3⟩
    cases k with
    | true=>
      rw [if_pos rfl] at w3 ⊢
      refine ⟨_,?_,⟨B3,θ3,ρ2,F3,wpS.loop w3⟩⟩
      rintro σ' H' ⟨B',θ',ρ',E',F',w'⟩
      exact ⟨m,Nat.lt_succ_self _,B',θ',ρ',F',w'⟩
    | false=>
      rw [if_neg Bool.false_ne_true] at w3 ⊢
      exact Zdz F3 w3
theorem Frm.setOwn {cl:Mo} {B:Bx} {θ:Sto} {ρ:List Sl} {σ:St} {H:Hp} (F:Frm cl B θ ρ σ H) (i:Nat) {p:Addr} (hp:H p=none) {xs:List D} {vs:List V} (r:RepL B H xs vs) :
    ExtS B { B with os:=p::B.os } H (upd H p (.lst vs))∧Frm cl { B with os:=p::B.os } θ (ρ.set i (.own xs)) (σ.set i (some (.ref p))) (upd H p (.lst vs)):=by
  have E0:=Zcw F.good hp (.lst vs)
  have G0:=Zej F.good hp (.lst vs)
  have ok:=F.good.okNone hp
  have E:ExtS B { B with os:=p::B.os } H (upd H p (.lst vs)):=⟨E0.n,E0.m,E0.fr,E0.keep,E0.sm,fun a h=>by
    rcases List.mem_cons.mp h with rfl | h
    · exact .inr hp
    · exact .inl h,rfl,rfl⟩
  refine ⟨E,?_⟩
  have E1:ExtS B { B with os:=p::B.os } H (upd H p (.lst vs)):=E
  have G:Good cl { B with os:=p::B.os } θ (upd H p (.lst vs)):=⟨G0.len,G0.inj,fun j c e=>(F.good.cel j c e).ext E fun u q=>by rw [ZO (zj q hp)]; exact q,fun j hj=>⟨(G0.cF j hj).1,fun z=>by
      rcases List.mem_cons.mp z with z | z
      · exact ok.1 j hj z
      · exact (G0.cF j hj).2 z⟩,G0.Fs,fun a z=>by
      rcases List.mem_cons.mp z with rfl | z
      · rw [zl]; simp
      · exact G0.oS a z,fun a z=>by
      rcases List.mem_cons.mp z with rfl | z
      · exact ok.2.1
      · exact G0.oF a z,G0.kc⟩
  have oth:∀(j:Nat) (s:Sl),(ρ.set i (Sl.own xs))[j]?=some s→(j=i∧s=.own xs∧j < σ.length)∨(j≠i∧ρ[j]?=some s):=fun j s e=>by
    by_cases q:j=i
    · subst q
      have hl:j < ρ.length:=by
        have:=(List.getElem?_eq_some_iff.mp e).1
        simpa using this
      rw [List.getElem?_set_self hl] at e
      cases e
      exact .inl ⟨rfl,rfl,by rw [←F.len]; exact hl⟩
    · rw [List.getElem?_set_ne (Ne.symm q)] at e
      exact .inr ⟨q,e⟩
  have old:∀j ys,ρ[j]?=some (Sl.own ys)→∀a,σ[j]?=some (some (V.ref a))→a≠p:=fun j ys h a e z=>by
    obtain ⟨a',us,q1,q2,q3,q4⟩:=F.own j ys h
    rw [e] at q1
    cases q1
    rw [z,hp] at q3
    cases q3
  refine ⟨G,by simp [F.len],fun j d h=>?_,fun j ys h=>?_,fun j k ys zs a hne h1 h2 h3=>?_⟩
  · rcases oth j _ h with ⟨_,z,_⟩ | ⟨q,z⟩
    · cases z
    · rw [List.getElem?_set_ne (Ne.symm q)]
      obtain ⟨v,q1,q2⟩:=F.val j d z
      exact ⟨v,q1,q2.ext E⟩
  · rcases oth j _ h with ⟨rfl,z,hl⟩ | ⟨q,z⟩
    · cases z
      exact ⟨p,vs,by rw [List.getElem?_set_self hl],List.mem_cons_self,zl,r.ext E⟩
    · rw [List.getElem?_set_ne (Ne.symm q)]
      obtain ⟨a,us,q1,q2,q3,q4⟩:=F.own j ys z
      exact ⟨a,us,q1,List.mem_cons_of_mem _ q2,by rw [ZO (zj q3 hp)]; exact q3,q4.ext E⟩
  · rcases oth j _ h1 with ⟨rfl,z1,hl⟩ | ⟨q1,z1⟩
    · rcases oth k _ h2 with ⟨rfl,z2,_⟩ | ⟨q2,z2⟩
      · exact absurd rfl hne
      · rw [List.getElem?_set_self hl] at h3
        cases h3
        rw [List.getElem?_set_ne (Ne.symm q2)]
        exact fun z=>old k zs z2 _ z rfl
    · rw [List.getElem?_set_ne (Ne.symm q1)] at h3
      rcases oth k _ h2 with ⟨rfl,z2,hl⟩ | ⟨q2,z2⟩
      · rw [List.getElem?_set_self hl]
        intro z
        cases z
        exact old j ys z1 _ h3 rfl
      · rw [List.getElem?_set_ne (Ne.symm q2)]
        exact F.ne j k ys zs a hne z1 z2 h3
def Zih (i:Nat) (f:AM):SM:=fun ρ θ=>(f ρ θ).bind fun xs θ=>if xs.length≤BIG then .ok (.nx,ρ.set i (.own xs)) θ else .bad
theorem Zn9 {σ:St} {H:Hp} {B:Bx} {θ:Sto} {ρ:List Sl} {f:AM} {k:List D→Sto→R (Fl×List Sl)} {Dn:ZeO} (F:Frm X.cl B θ ρ σ H) (h:wpS X σ B H ((f ρ θ).bind k) Dn) :
    tMA X f σ H (fun v H1=>∃B1 θ1 d,ExtE B B1 H H1∧Frm X.cl B1 θ1 ρ σ H1∧RepL B1 H1 d v∧wpS X σ B1 H1 (k d θ1) Dn):=
  ⟨B,θ,ρ,F,(wpS.bind (Rel:=RepL) h).mono fun v H1 ⟨B1,θ1,d,E,G,r,w⟩=>⟨B1,θ1,d,E,F.ext E G,r,w⟩⟩
theorem Zmn (i:Nat) {x:Str} {es:List Expr} {f:AM} {pos pos' lpos:Pos} (hN:X.N.Nodup) (he:MA X es f) (hi:X.N[i]?=some x:=by rfl) (hx:Loc X.env.scope x:=by first | exact Or.inl rfl | exact Or.inr rfl)
    (hs:swapsWith (.List es lpos) (some (.Name x pos')) pos.line X.env=pure false:=by rfl) (hf:X.fn x=true∨X.env.scope.names.lookup x=some .local:=by first | exact .inl rfl | exact .inr rfl):MS X (.Assign [.Name x pos'] (.List es lpos) pos) (Zih i f):=
  PS.imp (Zol hN hi hx (ZkP he) hs hf) fun D σ H h=>by
  obtain ⟨B,θ,ρ,F,w⟩:=h
  refine Zbi (Zn9 F w) ?_
  rintro vs H1 ⟨B1,θ1,xs,E1,F1,rd,w1⟩
  split at w1
  · rename_i hz
    refine ⟨by rw [rd.len]; exact zV hz,fun p hp=>?_⟩
    obtain ⟨E2,F2⟩:=F1.setOwn i hp rd
    exact w1 _ _ _ E2 F2
  · exact w1.elim
theorem Frm.updOwn {cl:Mo} {B:Bx} {θ:Sto} {ρ:List Sl} {σ:St} {H:Hp} (F:Frm cl B θ ρ σ H) {i:Nat} {xs ys:List D} {us:List V} {a:Addr} (h:ρ[i]?=some (Sl.own xs)) (ha:σ[i]?=some (some (.ref a))) (r:RepL B H ys us) :
    ExtS B B H (upd H a (.lst us))∧Frm cl B θ (ρ.set i (.own ys)) σ (upd H a (.lst us)):=by
  obtain ⟨a',vs,q1,q2,q3,q4⟩:=F.own i xs h
  rw [ha] at q1
  cases q1
  have hc:∀j,j<B.n→B.m j≠a:=fun j hj z=>(F.good.cF j hj).2 (by rw [z]; exact q2)
  have E:ExtS B B H (upd H a (.lst us)):=⟨Nat.le_refl _,fun _ _=>rfl,fun i h h'=>absurd h' (Nat.not_lt.mpr h),fun b o e _ hb=>by rw [ZO (fun z=>hb (by rw [z]; exact q2))]; exact e,fun b e=>by
    by_cases q:b=a
    · rw [q,zl]; simp
    · rw [ZO q]; exact e,fun _ h=>.inl h,rfl,rfl⟩
  have hl:i < ρ.length:=(List.getElem?_eq_some_iff.mp h).1
  have oth:∀(j:Nat) (s:Sl),(ρ.set i (Sl.own ys))[j]?=some s→(j=i∧s=.own ys)∨(j≠i∧ρ[j]?=some s):=fun j s e=>by
    by_cases q:j=i
    · subst q
      rw [List.getElem?_set_self hl] at e
      cases e
      exact .inl ⟨rfl,rfl⟩
    · rw [List.getElem?_set_ne (Ne.symm q)] at e
      exact .inr ⟨q,e⟩
  refine ⟨E,⟨⟨F.good.len,F.good.inj,fun j c e=>(F.good.cel j c e).ext E fun u q=>by
      have hj:j<B.n:=by rw [←F.good.len]; exact (List.getElem?_eq_some_iff.mp e).1
      rw [ZO (hc j hj)]; exact q,F.good.cF,fun b z=>E.sm b (F.good.Fs b z),fun b z=>E.sm b (F.good.oS b z),F.good.oF,F.good.kc⟩,by simp [F.len],fun j d e=>?_,fun j zs e=>?_,fun j k zs ws b hne h1 h2 h3=>?_⟩⟩
  · rcases oth j _ e with ⟨_,z⟩ | ⟨_,z⟩
    · cases z
    · obtain ⟨v,p1,p2⟩:=F.val j d z
      exact ⟨v,p1,p2.ext E⟩
  · rcases oth j _ e with ⟨rfl,z⟩ | ⟨q,z⟩
    · cases z
      exact ⟨a,us,ha,q2,zl,r.ext E⟩
    · obtain ⟨b,ws,p1,p2,p3,p4⟩:=F.own j zs z
      refine ⟨b,ws,p1,p2,?_,p4.ext E⟩
      rw [ZO (fun z'=>F.ne i j xs zs a (Ne.symm q) h z ha (by rw [←z']; exact p1))]
      exact p3
  · have o1:∃zs',ρ[j]?=some (Sl.own zs'):=by
      rcases oth j _ h1 with ⟨rfl,_⟩ | ⟨_,z⟩
      · exact ⟨xs,h⟩
      · exact ⟨_,z⟩
    have o2:∃ws',ρ[k]?=some (Sl.own ws'):=by
      rcases oth k _ h2 with ⟨rfl,_⟩ | ⟨_,z⟩
      · exact ⟨xs,h⟩
      · exact ⟨_,z⟩
    obtain ⟨zs',o1⟩:=o1
    obtain ⟨ws',o2⟩:=o2
    exact F.ne j k zs' ws' b hne o1 o2 h3
def Zft (i:Nat) (f:EM):SM:=fun ρ θ=>(f ρ θ).bind fun d θ=>match ρ[i]? with
  | some (Sl.own xs)=>if xs.length<BIG then .ok (.nx,ρ.set i (.own (xs++[d]))) θ else .bad
  | _=>.bad
theorem Zmp (i:Nat) {x:Str} {e:Expr} {f:EM} {p apos pos pos':Pos} (he:ME X e f) (hN:X.N[i]?=some x:=by rfl) (hv:Vis X.env.scope x:=by first | exact Or.inl rfl | exact Or.inr (Or.inl rfl) | exact Or.inr (Or.inr rfl))
    (hd:(x == ("__debug__":Str))=false:=by decide) (hcd:(x == ("__classdict__":Str))=false:=by decide)
    (hpe:∀{to:TE},PE X (.Name x p) to→PE X (.Call (.Attribute (.Name x p) "append" apos) [e] [] pos) (tBM X.K "list" Zh9 to (Zn6 (tM X f) Zp0)))
    (hs:swapsWith (.Call (.Attribute (.Name x p) "append" apos) [e] [] pos) none pos'.line X.env=pure false:=by rfl):MS X (.Expr (.Call (.Attribute (.Name x p) "append" apos) [e] [] pos) pos') (Zft i f):=
  PS.imp (Zlq (hpe (Zoo hN hv hd hcd)) hs) fun D σ H h=>by
  obtain ⟨B,θ,ρ,F,w⟩:=h
  have own:∃xs,ρ[i]?=some (Sl.own xs):=by
    unfold Zft at w
    cases q:f ρ θ with
    | bad=>rw [q] at w; exact w.elim
    | ex c θ'=>rw [q] at w; exact False.elim w
    | ok d θ'=>
      rw [q] at w
      simp only [R.bind_ok] at w
      split at w
      · rename_i xs e; exact ⟨xs,e⟩
      · exact w.elim
  obtain ⟨xs,hx⟩:=own
  obtain ⟨a,vs,q1,q2,q3,q4⟩:=F.own i xs hx
  refine ⟨.ref a,q1,.inl ⟨rfl,vs,SqL.of q3⟩,?_⟩
  refine ZW (ZeP F w) ?_
  rintro y H1 ⟨B1,θ1,d,E1,F1,rd,w1⟩
  rw [hx] at w1
  simp only at w1
  split at w1
  · rename_i hz
    obtain ⟨a',us,p1,p2,p3,p4⟩:=F1.own i xs hx
    rw [q1] at p1
    cases p1
    refine ⟨a,us,y,rfl,rfl,p3,by rw [p4.len]; exact Nat.lt_of_lt_of_le hz (zV (Nat.le_refl _)),?_⟩
    obtain ⟨E2,F2⟩:=F1.updOwn hx q1 (p4.app (show RepL B1 H1 [d] [y] from ⟨y,[],rfl,rd,rfl⟩))
    exact w1 _ _ _ E2 F2
  · exact w1.elim
def Zfs (i:Nat) (f:SM):SM:=fun ρ θ=>match ρ[i]? with
  | some (Sl.own xs)=>f (ρ.set i (.val (.lst xs))) θ
  | _=>f ρ θ
theorem ZkJ {i:Nat} {f:SM} {D:ZeO} {σ:St} {H:Hp} (h:tMS X (Zfs i f) D σ H):tMS X f D σ H:=by
  obtain ⟨B,θ,ρ,F,w⟩:=h
  unfold Zfs at w
  split at w
  · rename_i xs hx
    obtain ⟨a,vs,q1,q2,q3,q4⟩:=F.own i xs hx
    let B':Bx:={ B with os:=B.os.filter fun b=>decide (b≠a) }
    have sub:∀b,b∈B'.os→b∈B.os∧b≠a:=fun b hb=>by
      have:=List.mem_filter.mp hb
      exact ⟨this.1,of_decide_eq_true this.2⟩
    have E:ExtS B B' H H:=⟨Nat.le_refl _,fun _ _=>rfl,fun i h h'=>absurd h' (Nat.not_lt.mpr h),fun _ _ e _ _=>e,fun _ e=>e,fun b hb=>.inl (sub b hb).1,rfl,rfl⟩
    have hc:∀j,j<B.n→B.m j≠a:=fun j hj z=>(F.good.cF j hj).2 (by rw [z]; exact q2)
    have G:Good X.cl B' θ H:=⟨F.good.len,F.good.inj,fun j c e=>(F.good.cel j c e).ext E fun _ q=>q,fun j hj=>⟨(F.good.cF j hj).1,fun z=>(F.good.cF j hj).2 (sub _ z).1⟩,F.good.Fs,fun b z=>F.good.oS b (sub b z).1,fun b z=>F.good.oF b (sub b z).1,F.good.kc⟩
    have rv:RepV B' H (.lst xs) (.ref a):=⟨a,vs,rfl,q3,⟨hc,F.good.oF a q2,fun z=>(sub a z).2 rfl⟩,q4.ext E⟩
    have hl:i < ρ.length:=(List.getElem?_eq_some_iff.mp hx).1
    have oth:∀(j:Nat) (s:Sl),(ρ.set i (Sl.val (.lst xs)))[j]?=some s→(j=i∧s=.val (.lst xs))∨(j≠i∧ρ[j]?=some s):=fun j s e=>by
      by_cases q:j=i
      · subst q
        rw [List.getElem?_set_self hl] at e
        cases e
        exact .inl ⟨rfl,rfl⟩
      · rw [List.getElem?_set_ne (Ne.symm q)] at e
        exact .inr ⟨q,e⟩
    refine ⟨B',θ,_,⟨G,by simp [F.len],fun j d e=>?_,fun j ys e=>?_,fun j k ys zs b hne h1 h2 h3=>?_⟩,wpS.trans w E⟩
    · rcases oth j _ e with ⟨rfl,z⟩ | ⟨_,z⟩
      · cases z; exact ⟨_,q1,rv⟩
      · obtain ⟨v,p1,p2⟩:=F.val j d z
        exact ⟨v,p1,p2.ext E⟩
    · rcases oth j _ e with ⟨_,z⟩ | ⟨q,z⟩
      · cases z
      · obtain ⟨b,ws,p1,p2,p3,p4⟩:=F.own j ys z
        refine ⟨b,ws,p1,List.mem_filter.mpr ⟨p2,decide_eq_true fun z'=>?_⟩,p3,p4.ext E⟩
        subst z'
        exact F.ne i j xs ys b (Ne.symm q) hx z q1 p1
    · rcases oth j _ h1 with ⟨_,z⟩ | ⟨_,z1⟩
      · cases z
      · rcases oth k _ h2 with ⟨_,z⟩ | ⟨_,z2⟩
        · cases z
        · exact F.ne j k ys zs b hne z1 z2 h3
  · exact ⟨B,θ,ρ,F,w⟩
theorem Zmo (i:Nat) {st:Stmt} {f:SM} (h:MS X st f):MS X st (Zfs i f):=PS.imp h fun _ _ _ q=>ZkJ q
def ZdA (n:Nat) (ds:List D):List Sl:=ds.map Sl.val++List.replicate (n-ds.length) Sl.no
def ZU (np nn:Nat) (fb:SM):GM:=fun ds θ=>if ds.length=np then (fb (ZdA nn ds) θ).bind fun p θ=>match p.1 with
  | .nx=>.ok .non θ
  | .rt d=>.ok d θ
  | _=>.bad
  else .bad
def spM (X:Mo) (f:GM):Sp:=fun vs H Q E=>∃B θ ds,B.os=[]∧Good X B θ H∧RepL B H ds vs∧(match f ds θ with
  | .ok d θ'=>∀B' H' v,ExtE B B' H H'→Good X B' θ' H'→RepV B' H' d v→Q v H'
  | .ex c θ'=>False
  | .bad=>False)
def Zp (P:Program) (w:World) (K:PySem.W.Frag) (mg:Str→Option Value) (base:Heap) (k:Nat) (x:Str) (f:GM):Prop:=∃ps,Def P w K mg base k x ps (spM ⟨zX mg,K⟩ f)
theorem Zmc {cl:Mo} {B:Bx} {θ:Sto} {H:Hp} {ds:List D} {vs:List V} {N:List Str} {nn:Nat} (G:Good cl B θ H) (r:RepL B H ds vs) (hn:N.length=nn):Frm cl B θ (ZdA nn ds) (ZdU N vs) H:=by
  subst hn
  have hl:=r.len
  have key:∀(i:Nat) (s:Sl),(ZdA N.length ds)[i]?=some s→s=.no∨∃d,s=.val d∧∃v,(ZdU N vs)[i]?=some (some v)∧RepV B H d v:=fun i s e=>by
    unfold ZdA at e
    by_cases q:i<ds.length
    · rw [List.getElem?_append_left (by simpa using q),List.getElem?_map,List.getElem?_eq_getElem q] at e
      cases e
      obtain ⟨v,h1,h2⟩:=r.get (List.getElem?_eq_getElem q)
      refine .inr ⟨_,rfl,v,?_,h2⟩
      unfold ZdU
      rw [List.getElem?_append_left (by simpa [hl] using q),List.getElem?_map,h1]
      rfl
    · rw [List.getElem?_append_right (by simpa using q)] at e
      exact .inl (List.eq_of_mem_replicate (List.mem_of_getElem? e))
  refine ⟨G,by simp [ZdA,ZdU,hl],fun i d e=>?_,fun i xs e=>?_,fun i j xs ys a _ e _=>?_⟩
  · rcases key i _ e with z | ⟨d',z,v',h1,h2⟩
    · cases z
    · cases z; exact ⟨v',h1,h2⟩
  · rcases key i _ e with z | ⟨d',z,_⟩<;>cases z
  · rcases key i _ e with z | ⟨d',z,_⟩<;>cases z
theorem mfn {P:Program} {w:World} {K:PySem.W.Frag} {mg:Str→Option Value} {base:Heap} {x qual:Str} {st:Stmt} {N ps:List Str} {k:Nat} {fb:SM} {f:Addr} {fd:FuncData} (F:Fun K x qual st f fd) (S:Zr N ps (Ze st)) (np nn:Nat) (hp:ps.length=np) (hn:N.length=nn)
    (hbody:∀(cdv:Value) (A:Around) (outer:List Env) (s:Shared) (H:Hp) (E:XK),Room k (A.deeper (envOfC qual (Ze st) s.heap.objs.size f cdv))→MSs (Zg1 CX0 P w K mg base N qual (Ze st) f cdv A outer s H E).nox (Zo st) fb) :
    FnOk P w K mg base CX0 (k+1) f fd ps (spM ⟨zX mg,K⟩ (ZU np nn fb)):=by
  refine F.ok S ?_ ?_
  · rintro vs H Q E ⟨B,θ,ds,_,_,r,q⟩
    unfold ZU at q
    split at q
    · rename_i h
      split at h
      · rename_i hl; rw [r.len,hl,hp]
      · cases h
    · exact q.elim
    · exact q.elim
  · intro cdv A outer s H vs Q E hr h
    obtain ⟨B,θ,ds,hos,G,r,q⟩:=h
    refine ⟨tMS (Zg1 CX0 P w K mg base N qual (Ze st) f cdv A outer s H E).nox fb,hbody cdv A outer s H E hr,B,θ,ZdA nn ds,Zmc G r hn,?_⟩
    unfold ZU at q
    by_cases hl:ds.length=np
    · rw [if_pos hl] at q
      cases e:fb (ZdA nn ds) θ with
      | bad=>rw [e] at q; exact q.elim
      | ex c θ'=>rw [e] at q; exact q.elim
      | ok p θ'=>
        rw [e] at q
        obtain ⟨fl,ρ'⟩:=p
        intro B' H' σ' E' F'
        have hos':∀a,a∈B.os→False:=fun a ha=>by rw [hos] at ha; cases ha
        let B2:Bx:={ B' with os:=[] }
        have E2:ExtE B B2 H H':=⟨⟨E'.n,E'.m,E'.fr,E'.keep,E'.sm,fun a ha=>(nomatch ha),E'.F,E'.ks⟩,hos.symm,fun a o ha=>(hos' a ha).elim⟩
        have E3:ExtS B' B2 H' H':=⟨Nat.le_refl _,fun _ _=>rfl,fun i h h'=>absurd h' (Nat.not_lt.mpr h),fun _ _ e _ _=>e,fun _ e=>e,fun b hb=>(nomatch hb),rfl,rfl⟩
        have G2:Good ⟨zX mg,K⟩ B2 θ' H':=⟨F'.good.len,F'.good.inj,fun j c e=>(F'.good.cel j c e).ext E3 fun _ q=>q,fun j hj=>⟨(F'.good.cF j hj).1,fun z=>nomatch z⟩,F'.good.Fs,fun b z=>(nomatch z),fun b z=>(nomatch z),F'.good.kc⟩
        cases fl with
        | nx=>exact q B2 H' .non E2 G2 rfl
        | rt d=>exact fun v rv=>q B2 H' v E2 G2 (rv.ext E3)
        | bk=>exact q.elim
        | ct=>exact q.elim
    · rw [if_neg hl] at q
      exact q.elim
theorem Z3 {P:Program} {w:World} {K:PySem.W.Frag} {mg:Str→Option Value} {base:Heap} {x:Str} {st:Stmt} {N ps:List Str} {k:Nat} {fb:SM} (D0:Zn K mg x st ps) (S:Zr N ps (Ze st)) (np nn:Nat) (hp:ps.length=np) (hn:N.length=nn)
    (hbody:∀(f:Addr) (cdv:Value) (A:Around) (outer:List Env) (s:Shared) (H:Hp) (E:XK),Room k (A.deeper (envOfC x (Ze st) s.heap.objs.size f cdv))→MSs (Zg1 CX0 P w K mg base N x (Ze st) f cdv A outer s H E).nox (Zo st) fb):Zp P w K mg base (k+1) x (ZU np nn fb):=by
  obtain ⟨f,fd,F,b,m⟩:=D0
  exact ⟨ps,f,fd,mfn F S np nn hp hn (hbody f),b,F.kp,m⟩
def Bx.inC (B:Bx):Bx:={ B with F:=fun a=>B.F a∨a∈B.os,os:=[] }
theorem inC_ok {B:Bx} {a:Addr}:B.inC.ok a↔B.ok a:=by
  constructor
  · rintro ⟨h1,h2,h3⟩
    exact ⟨h1,fun z=>h2 (.inl z),fun z=>h2 (.inr z)⟩
  · rintro ⟨h1,h2,h3⟩
    exact ⟨h1,fun z=>z.elim h2 h3,fun z=>nomatch z⟩
mutual
theorem RepV.same {B B':Bx} {H:Hp} (hn:B'.n=B.n) (hm:B'.m=B.m) (hk:B'.ks=B.ks) (ho:∀a,B.ok a→B'.ok a):∀{d:D} {v:V},RepV B H d v→RepV B' H d v
  | .non,_,h=>h
  | .bl _,_,h=>h
  | .int _,_,h=>h
  | .str _,_,h=>h
  | .ty _,_,h=>h
  | .scr _,_,h=>by
    obtain ⟨a,e,h⟩:=h
    refine ⟨a,e,?_⟩
    rcases h with ⟨o,h,k⟩ | h
    · exact .inl ⟨o,h,ho a k⟩
    · exact .inr (by rw [hk]; exact h)
  | .tup _,_,h=>by obtain ⟨a,vs,e,h,k,l⟩:=h; exact ⟨a,vs,e,h,ho a k,RepL.same hn hm hk ho l⟩
  | .lst _,_,h=>by obtain ⟨a,vs,e,h,k,l⟩:=h; exact ⟨a,vs,e,h,ho a k,RepL.same hn hm hk ho l⟩
  | .ref l,_,h=>⟨by rw [hn]; exact h.1,by rw [hm]; exact h.2⟩
theorem RepL.same {B B':Bx} {H:Hp} (hn:B'.n=B.n) (hm:B'.m=B.m) (hk:B'.ks=B.ks) (ho:∀a,B.ok a→B'.ok a):∀{ds:List D} {vs:List V},RepL B H ds vs→RepL B' H ds vs
  | [],_,h=>h
  | _::_,_,h=>by obtain ⟨v,r,e,hv,hr⟩:=h; exact ⟨v,r,e,RepV.same hn hm hk ho hv,RepL.same hn hm hk ho hr⟩
end
theorem RepKV.same {κ:Type} {B B':Bx} {H:Hp} (hn:B'.n=B.n) (hm:B'.m=B.m) (hk:B'.ks=B.ks) (ho:∀a,B.ok a→B'.ok a):∀{ks:List (κ×D)} {vs:List (κ×V)},RepKV B H ks vs→RepKV B' H ks vs
  | _,_,.nil=>.nil
  | _,_,.cons h t=>.cons ⟨h.1,RepV.same hn hm hk ho h.2⟩ (RepKV.same hn hm hk ho t)
theorem CellOk.same {cl:Mo} {B B':Bx} {H:Hp} {a:Addr} {c:Cell} (hn:B'.n=B.n) (hm:B'.m=B.m) (hk:B'.ks=B.ks) (ho:∀a,B.ok a→B'.ok a) (k:CellOk cl B H a c):CellOk cl B' H a c:=by
  cases c with
  | lst xs=>obtain ⟨vs,e,r⟩:=k; exact ⟨vs,e,r.same hn hm hk ho⟩
  | dK kvs=>obtain ⟨vs,e,r⟩:=k; exact ⟨vs,e,r.same hn hm hk ho⟩
  | dT kvs=>obtain ⟨vs,e,r⟩:=k; exact ⟨vs,e,r.same hn hm hk ho⟩
  | ins C fs=>obtain ⟨dx,vs,e,r⟩:=k; exact ⟨dx,vs,e,r.same hn hm hk ho⟩
theorem Zo5 {cl:Mo} {B:Bx} {θ:Sto} {H:Hp} (G:Good cl B θ H):Good cl B.inC θ H:=
  ⟨G.len,G.inj,fun i c e=>CellOk.same (B:=B) (B':=B.inC) rfl rfl rfl (fun a=>inC_ok.mpr) (G.cel i c e),fun i hi=>⟨fun z=>z.elim (G.cF i hi).1 (G.cF i hi).2,fun z=>nomatch z⟩,fun a z=>z.elim (G.Fs a) (G.oS a),fun a z=>(nomatch z),fun a z=>(nomatch z),G.kc⟩
theorem Zum {cl:Mo} {B B':Bx} {θ θ':Sto} {H H':Hp} (G:Good cl B θ H) (E:ExtE B.inC B' H H') (G':Good cl B' θ' H') :
    ExtE B { B' with F:=B.F,os:=B.os } H H'∧Good cl { B' with F:=B.F,os:=B.os } θ' H'∧∀d v,RepV B' H' d v→RepV { B' with F:=B.F,os:=B.os } H' d v:=by
  have hF:B'.F=fun a=>B.F a∨a∈B.os:=E.F
  have ho:∀a,B'.ok a→Bx.ok { B' with F:=B.F,os:=B.os } a:=fun a ⟨h1,h2,h3⟩=>by
    rw [hF] at h2
    exact ⟨h1,fun z=>h2 (.inl z),fun z=>h2 (.inr z)⟩
  have keep:∀a o,H a=some o→(∀i,i<B.n→B.m i≠a)→H' a=some o:=fun a o h k=>E.keep a o h k (fun z=>nomatch z)
  refine ⟨⟨⟨E.n,E.m,E.fr,fun a o h k _=>keep a o h k,E.sm,fun a h=>.inl h,rfl,E.ks⟩,rfl,fun a o _ k h=>keep a o h k⟩,⟨G'.len,G'.inj,fun i c e=>CellOk.same (B:=B') (B':={ B' with F:=B.F,os:=B.os }) rfl rfl rfl ho (G'.cel i c e),fun i hi=>?_,fun a z=>E.sm a (G.Fs a z),fun a z=>E.sm a (G.oS a z),G.oF,G'.kc⟩,fun d v r=>RepV.same (B:=B') (B':={ B' with F:=B.F,os:=B.os }) rfl rfl rfl ho r⟩
  have:=(G'.cF i hi).1
  rw [hF] at this
  exact ⟨fun z=>this (.inl z),fun z=>this (.inr z)⟩
theorem ZlU {f:GM} {σ:St} {B:Bx} {θ:Sto} {H:Hp} {ds:List D} {vs:List V} {Q:VK} {E:XK} (G:Good X.cl B θ H) (r:RepL B H ds vs) (w:wpR X σ RepV B H (f ds θ) Q):spM X.cl f vs H Q E:=by
  refine ⟨B.inC,θ,ds,rfl,Zo5 G,RepL.same (B:=B) (B':=B.inC) rfl rfl rfl (fun a=>inC_ok.mpr) r,?_⟩
  cases e:f ds θ with
  | bad=>rw [e] at w; exact w
  | ex c θ'=>rw [e] at w; exact w
  | ok d θ'=>
    rw [e] at w
    intro B' H' v E' G' rv
    obtain ⟨h1,h2,h3⟩:=Zum G E' G'
    exact w _ H' v h1 h2 (h3 d v rv)
theorem Zh {k j:Nat} {x:Str} {f:GM} {p pos:Pos} {e:Expr} {es:List Expr} {fs:AM} (D0:Zp X.prog X.w X.K X.mg X.base k x f) (hr:Room j X.A) (hj:k≤j) (ha:MA X (e::es) fs) (hg:Gl X x:=by rfl) (hdb:(x == ("__debug__":Str))=false:=by decide)
    (he:starEach (e::es) X.env=(false,eval e X.env)::starEach es X.env:=by rfl) (hpl:(backTo pos (starEach es X.env)).any (·.1)=false:=by rfl):ME X (.Call (.Name x p) (e::es) [] pos) (mCB f fs):=by
  obtain ⟨ps,D0⟩:=D0
  refine PE.imp (Zow D0 hr hj ha hg hdb he hpl) fun σ H Q h=>?_
  obtain ⟨B,θ,ρ,F,w⟩:=h
  refine Zbi (Zf6 F w) ?_
  rintro vs H1 ⟨B1,θ1,ds,E1,F1,rd,w1⟩
  rw [List.append_nil]
  exact ZlU F1.good rd w1
end
end L2.MM
namespace L2.MM
open PySem PySem.Spec PyProof.Rows PySem.SeqAt
noncomputable section
def Zlm (K:PySem.W.Frag):Sp:=fun vs H Q _=>∃(a:Addr) (ns:List Int),vs=[.ref a]∧Zq9 H∧SqL K H a (ns.map V.int)∧ns.length≤63∧∀H',Q (.bl true) H'
theorem ZqC {P:Program} {w:World} {K:PySem.W.Frag} {mg:Str→Option Value} {base:Heap} {k:Nat} {f:Addr} {fd:FuncData} {ps:List Str} {g:GM} (h:∀ns:List Int,ns.length≤63→∃θ',g [.scr ns] []=.ok (.bl true) θ')
    (F:FnOk P w K mg base CX0 k f fd ps (spM ⟨zX mg,K⟩ g)):FnOk P w K mg base CX0 k f fd ps (Zlm K):=by
  refine F.imp ?_
  rintro vs H Q E ⟨a,ns,rfl,hO,hS,hl,q⟩
  obtain ⟨θ',e⟩:=h ns hl
  refine ⟨⟨0,fun _=>0,fun _=>False,[],KL K⟩,[],[.scr ns],rfl,⟨rfl,fun i j hi=>absurd hi (Nat.not_lt_zero _),fun i c h=>by simp at h,fun i hi=>absurd hi (Nat.not_lt_zero _),fun a h=>h.elim,fun a h=>(nomatch h),fun a h=>(nomatch h),fun a ns h=>h⟩,?_,?_⟩
  · refine ⟨.ref a,[],rfl,⟨a,rfl,?_⟩,rfl⟩
    rcases hS with (h1 | ⟨o,h1⟩) | h1
    · rcases hO a with z | ⟨o,xs,z⟩
      · rw [z] at h1; cases h1
      · rw [z] at h1; cases h1
    · exact .inl ⟨o,h1,fun i hi=>absurd hi (Nat.not_lt_zero _),fun z=>z,fun z=>(nomatch z)⟩
    · exact .inr h1
  · rw [e]
    intro B' H' v _ _ rv
    cases (show v=V.bl true from rv)
    exact q H'
end
end L2.MM
namespace L2.MM
open PySem PySem.Spec PyProof.Rows PySem.SeqAt
noncomputable section
section
variable {i j k:Nat} {ρ:List Sl} {θ:Sto} {f g h:EM} {fs:AM} {t u:TMr}
@[simp] theorem Zx5:Zd i ρ θ=match ρ[i]? with | some (Sl.val d)=>.ok d θ | _=>.bad:=nr rfl
@[simp] theorem x_c {d:D}:mC d ρ θ=.ok d θ:=nr rfl
@[simp] theorem ZyK {o:OM}:mOp o f g ρ θ=(f ρ θ).bind fun x θ=>(g ρ θ).bind fun y θ=>o x y θ:=nr rfl
@[simp] theorem ZwV:ZI f ρ θ=(f ρ θ).bind fun x θ=>match x with | .bl k=>.ok k θ | _=>.bad:=nr rfl
@[simp] theorem Zx7:z5 f ρ θ=(f ρ θ).bind fun x θ=>match Zgn θ x with | some k=>.ok k θ | none=>.bad:=nr rfl
@[simp] theorem Zyl:ZfT t u ρ θ=(t ρ θ).bind fun k θ=>if k=true then u ρ θ else .ok false θ:=nr rfl
@[simp] theorem ZyJ:mOr t u ρ θ=(t ρ θ).bind fun k θ=>if k=true then .ok true θ else u ρ θ:=nr rfl
@[simp] theorem Zyb:ZeM t ρ θ=(t ρ θ).bind fun k θ=>.ok (!k) θ:=nr rfl
def Zta (g:Sto→R D):D→Sto→R D
  | .bl true,θ=>g θ
  | .bl false,θ=>.ok (.bl false) θ
  | _,_=>.bad
def orK (g:Sto→R D):D→Sto→R D
  | .bl true,θ=>.ok (.bl true) θ
  | .bl false,θ=>g θ
  | _,_=>.bad
@[simp] theorem Zvn {g:Sto→R D} {k:Bool}:Zta g (.bl k) θ=if k=true then g θ else .ok (.bl false) θ:=by cases k<;>rfl
@[simp] theorem ZxA {g:Sto→R D} {k:Bool}:orK g (.bl k) θ=if k=true then .ok (.bl true) θ else g θ:=by cases k<;>rfl
@[simp] theorem Zw6:Zcu f g ρ θ=(f ρ θ).bind (Zta (g ρ)):=by
  show (f ρ θ).bind _=_
  congr 1
  funext x θ
  cases x<;>first | rfl | (rename_i b; cases b<;>rfl)
@[simp] theorem Zya:Zmr f g ρ θ=(f ρ θ).bind (orK (g ρ)):=by
  show (f ρ θ).bind _=_
  congr 1
  funext x θ
  cases x<;>first | rfl | (rename_i b; cases b<;>rfl)
@[simp] theorem Zuy {p:Prop} [Decidable p] {m:Bool}:(if p then R.ok (D.bl m) θ else R.ok (D.bl false) θ)=R.ok (D.bl (decide p && m)) θ:=by by_cases h:p<;>simp [h]
@[simp] theorem Zvf {p:Prop} [Decidable p] {m:Bool}:(if p then R.ok (D.bl true) θ else R.ok (D.bl m) θ)=R.ok (D.bl (decide p || m)) θ:=by by_cases h:p<;>simp [h]
@[simp] theorem Ztw {p:Prop} [Decidable p] {m:Bool}:(if p then R.ok m θ else R.ok false θ)=R.ok (decide p && m) θ:=by by_cases h:p<;>simp [h]
@[simp] theorem Zux {p:Prop} [Decidable p] {m:Bool}:(if p then R.ok true θ else R.ok m θ)=R.ok (decide p || m) θ:=by by_cases h:p<;>simp [h]
@[simp] theorem Zw1:ZoR f ρ θ=(f ρ θ).bind fun x θ=>match Zgn θ x with | some k=>.ok (.bl (!k)) θ | none=>.bad:=nr rfl
@[simp] theorem Zyc:ZxF f ρ θ=(f ρ θ).bind fun x θ=>match x with | .int i=>.ok (.int (-i)) θ | _=>.bad:=nr rfl
@[simp] theorem Zyg:Zfr t f g ρ θ=(t ρ θ).bind fun k θ=>if k=true then f ρ θ else g ρ θ:=nr rfl
@[simp] theorem Zu3 {o o':OM}:ZfS o o' f g h ρ θ=(f ρ θ).bind fun x θ=>(g ρ θ).bind fun y θ=>(o x y θ).bind (Zta fun θ=>(h ρ θ).bind fun w θ=>o' y w θ):=by
  show (f ρ θ).bind _=_
  congr 1
  funext x θ
  congr 1
  funext y θ
  congr 1
  funext z θ
  cases z<;>first | rfl | (rename_i b; cases b<;>rfl)
@[simp] theorem ZtG:Zk ρ θ=.ok [] θ:=nr rfl
@[simp] theorem Zw5:Zc f fs ρ θ=(f ρ θ).bind fun x θ=>(fs ρ θ).bind fun xs θ=>.ok (x::xs) θ:=nr rfl
@[simp] theorem Zx6:Zb8 fs ρ θ=(fs ρ θ).bind fun xs θ=>if xs.length≤BIG then .ok (.tup xs) θ else .bad:=nr rfl
@[simp] theorem Zyf:ZeN fs ρ θ=(fs ρ θ).bind fun xs θ=>if xs.length≤BIG then .ok (.lst xs) θ else .bad:=nr rfl
@[simp] theorem ZyM {o:GM}:mCB o fs ρ θ=(fs ρ θ).bind fun xs θ=>o xs θ:=nr rfl
@[simp] theorem ZtF:Zcd ρ θ=.ok none θ:=nr rfl
@[simp] theorem Zw0:ZdV f ρ θ=(f ρ θ).bind fun x θ=>match x with | .int i=>.ok (some i) θ | _=>.bad:=nr rfl
@[simp] theorem ZyI {lo hi:PM}:mSl f lo hi ρ θ=(f ρ θ).bind fun x θ=>(lo ρ θ).bind fun l θ=>(hi ρ θ).bind fun h θ=>match ZfL θ x l h with
  | some d=>.ok d θ
  | none=>.bad:=nr rfl
@[simp] theorem Zx8 {lo hi st:PM}:ZqA f lo hi st ρ θ=(f ρ θ).bind fun x θ=>(lo ρ θ).bind fun l θ=>(hi ρ θ).bind fun h θ=>(st ρ θ).bind fun s θ=>match ZaC θ x with
  | some xs=>if s≠some 0∧(Zdl xs l h s).length≤BIG then .ok (.lst (Zdl xs l h s)) θ else .bad
  | none=>.bad:=nr rfl
@[simp] theorem ZwY:ZbY fs ρ θ=(fs ρ θ).bind fun ds θ=>match ds with
  | [.int j]=>if -1000000≤j∧j≤1000000 then .ok (.rng 0 j.toNat) θ else .bad
  | _=>.bad:=by
  unfold ZbY; exact nr rfl
variable {a b:SM} {Fl':Fl×List Sl}
@[simp] theorem ZwW:ZS ρ θ=.ok (.nx,ρ) θ:=nr rfl
@[simp] theorem Zyk:ZqB ρ θ=.bad:=nr rfl
@[simp] theorem Zdf {ρ':List Sl}:ZgM (.ok (.nx,ρ') θ) a=a ρ' θ:=nr rfl
@[simp] theorem Ztf {ρ':List Sl} {d:D}:ZgM (.ok (.rt d,ρ') θ) a=.ok (.rt d,ρ') θ:=nr rfl
@[simp] theorem Zhs:Zv a b ρ θ=ZgM (a ρ θ) b:=nr rfl
@[simp] theorem ZrP:zJ f ρ θ=(f ρ θ).bind fun _ θ=>.ok (.nx,ρ) θ:=nr rfl
@[simp] theorem Zx9:ZT f ρ θ=(f ρ θ).bind fun d θ=>.ok (.rt d,ρ) θ:=nr rfl
@[simp] theorem ZwZ:Zfq ρ θ=.ok (.rt .non,ρ) θ:=nr rfl
@[simp] theorem ZpI:mIf t a b ρ θ=(t ρ θ).bind fun k θ=>if k=true then a ρ θ else b ρ θ:=nr rfl
@[simp] theorem Zra:zc i f ρ θ=(f ρ θ).bind fun d θ=>.ok (.nx,ρ.set i (.val d)) θ:=nr rfl
@[simp] theorem ZtE:Zih i fs ρ θ=(fs ρ θ).bind fun xs θ=>if xs.length≤BIG then .ok (.nx,ρ.set i (.own xs)) θ else .bad:=nr rfl
@[simp] theorem ZtK:Zft i f ρ θ=(f ρ θ).bind fun d θ=>match ρ[i]? with
  | some (Sl.own xs)=>if xs.length<BIG then .ok (.nx,ρ.set i (.own (xs++[d]))) θ else .bad
  | _=>.bad:=nr rfl
@[simp] theorem ZtJ:Zfs i a ρ θ=match ρ[i]? with | some (Sl.own xs)=>a (ρ.set i (.val (.lst xs))) θ | _=>a ρ θ:=nr rfl
@[simp] theorem Zb0 {ρ':List Sl}:Zf9 a (.nx,ρ') θ=a ρ' θ:=nr rfl
@[simp] theorem Zyj {np nn:Nat} {ds:List D}:ZU np nn a ds θ=if ds.length=np then (a (ZdA nn ds) θ).bind fun p θ=>match p.1 with | .nx=>.ok .non θ | .rt d=>.ok d θ | _=>.bad else .bad:=nr rfl
@[simp] theorem ZuZ {n:Nat} {ds:List D}:ZdA n ds=ds.map Sl.val++List.replicate (n-ds.length) Sl.no:=nr rfl
@[simp] theorem Zf4 {xs:List D}:seqOf θ (.tup xs)=some xs:=nr rfl
@[simp] theorem Zte {b:Bool}:Zgn θ (.bl b)=some b:=nr rfl
@[simp] theorem ZrL {ns:List Int}:Zgn θ (.scr ns)=some (!(ns.map D.int).isEmpty):=nr rfl
@[simp] theorem ZrN {xs:List D}:look θ (.lst xs)=.lst xs:=nr rfl
@[simp] theorem ZrO {n:Int}:look θ (.int n)=.int n:=nr rfl
@[simp] theorem ZrM {n:Str}:look θ (.str n)=.str n:=nr rfl
@[simp] theorem ZnT {xs:List D} {n:Int}:ixM (.lst xs) (.int n) θ=match atI xs n with | some d=>.ok d θ | none=>.bad:=nr rfl
@[simp] theorem ZjL {xs:List D} {n:Int}:ixM (.tup xs) (.int n) θ=match atI xs n with | some d=>.ok d θ | none=>.bad:=nr rfl
@[simp] theorem ZtI {xs:List Int} {n:Int}:ixM (.scr xs) (.int n) θ=match atI (xs.map D.int) n with | some d=>.ok d θ | none=>.bad:=nr rfl
@[simp] theorem ZtH {xs:List D}:Zeg [.lst xs] θ=.ok (.int xs.length) θ:=nr rfl
@[simp] theorem Zl5 {xs:List D}:Zeg [.tup xs] θ=.ok (.int xs.length) θ:=nr rfl
@[simp] theorem Ztg {xs:List Int}:Zeg [.scr xs] θ=.ok (.int (xs.map D.int).length) θ:=nr rfl
@[simp] theorem ZtD {xs:List D}:Zma [.lst xs] θ=match Zfx xs with | some ns=>.ok (.int ns.sum) θ | none=>.bad:=nr rfl
@[simp] theorem Zyd {m n:Int}:Zkf [.int m,.int n] θ=.ok (.int (if n<m then n else m)) θ:=nr rfl
@[simp] theorem Zw2 {m n k:Int}:Zkf [.int m,.int n,.int k] θ=.ok (.int (if n<m then (if k<n then k else n) else (if k<m then k else m))) θ:=nr rfl
@[simp] theorem Zye {m n:Int}:Zqz [.int m,.int n] θ=.ok (.int (if n > m then n else m)) θ:=nr rfl
@[simp] theorem ZnS {xs:List D} {lo hi:Option Int}:ZfL θ (.lst xs) lo hi=some (.lst (Za7 xs lo hi)):=nr rfl
@[simp] theorem ZyL {x:D}:isM x .non θ=.ok (.bl (Zck x)) θ:=nr rfl
@[simp] theorem Zu0 {x:D}:Zin x .non θ=.ok (.bl (!Zck x)) θ:=nr rfl
end
mutual
def pl:Nat→D→Bool
  | _,.non=>true
  | _,.bl _=>true
  | _,.int _=>true
  | _,.str x=>PyData.strOk x
  | k+1,.tup xs=>pls k xs
  | k+1,.lst xs=>pls k xs
  | _,_=>false
def pls:Nat→List D→Bool
  | _,[]=>true
  | k,d::r=>pl k d && pls k r
end
mutual
def noB:D→Bool
  | .bl _=>false
  | .tup xs=>ZgR xs
  | .lst xs=>ZgR xs
  | _=>true
def ZgR:List D→Bool
  | []=>true
  | d::r=>noB d && ZgR r
end
mutual
theorem Zlr:∀(k:Nat) (d:D),pl k d=true→plain d=true∧(dat d).canLay0=true∧(dat d).depth≤k
  | _,.non,_=>⟨rfl,rfl,Nat.zero_le _⟩
  | _,.bl _,_=>⟨rfl,rfl,Nat.zero_le _⟩
  | _,.int _,_=>⟨rfl,rfl,Nat.zero_le _⟩
  | k,.str x,h=>⟨rfl,by cases k<;>simpa [pl,dat,PyData.canLay0] using h,Nat.zero_le _⟩
  | k+1,.tup xs,h=>by
    obtain ⟨a,b,c⟩:=ZkN k xs (by simpa [pl] using h)
    exact ⟨a,b,by simp only [dat,PyData.depth]; omega⟩
  | k+1,.lst xs,h=>by
    obtain ⟨a,b,c⟩:=ZkN k xs (by simpa [pl] using h)
    exact ⟨a,b,by simp only [dat,PyData.depth]; omega⟩
  | 0,.tup xs,h=>by simp [pl] at h
  | 0,.lst xs,h=>by simp [pl] at h
  | 0,.ty _,h=>by simp [pl] at h
  | 0,.scr _,h=>by simp [pl] at h
  | 0,.ref _,h=>by simp [pl] at h
  | _+1,.ty _,h=>by simp [pl] at h
  | _+1,.scr _,h=>by simp [pl] at h
  | _+1,.ref _,h=>by simp [pl] at h
theorem ZkN:∀(k:Nat) (ds:List D),pls k ds=true→ZbJ ds=true∧PyData.canLayAll0 (Zel ds)=true∧PyData.depthAll (Zel ds)≤k
  | _,[],_=>⟨rfl,rfl,Nat.zero_le _⟩
  | k,d::r,h=>by
    have h':pl k d=true∧pls k r=true:=by simpa [pls] using h
    obtain ⟨a,b,c⟩:=Zlr k d h'.1
    obtain ⟨a',b',c'⟩:=ZkN k r h'.2
    exact ⟨by simp [ZbJ,a,a'],by simp [Zel,PyData.canLayAll0,b,b'],by simp only [Zel,PyData.depthAll]; omega⟩
end
mutual
theorem ZlC:∀(d e:D),noB d=true→noB e=true→noMix (dat d) (dat e)=true:=fun d e p q=>by
  cases d with
  | bl _=>simp [noB] at p
  | tup xs=>
    cases e with
    | bl _=>simp [noB] at q
    | tup ys=>simp only [dat,noMix]; exact ZgQ xs ys p q
    | _=>simp [dat,noMix]
  | lst xs=>
    cases e with
    | bl _=>simp [noB] at q
    | lst ys=>simp only [dat,noMix]; exact ZgQ xs ys p q
    | _=>simp [dat,noMix]
  | _=>cases e<;>simp_all [noB,dat,noMix]
theorem ZgQ:∀(ds es:List D),ZgR ds=true→ZgR es=true→noMixAll (Zel ds) (Zel es)=true
  | [],[],_,_=>rfl
  | [],_::_,_,_=>rfl
  | _::_,[],_,_=>rfl
  | d::ds,e::es,p,q=>by
    have p':noB d=true∧ZgR ds=true:=by simpa [ZgR] using p
    have q':noB e=true∧ZgR es=true:=by simpa [ZgR] using q
    simp only [Zel,noMixAll,Bool.and_eq_true]
    exact ⟨ZlC d e p'.1 q'.1,ZgQ ds es p'.2 q'.2⟩
end
theorem Zhy {k:Nat} {d:D} (h:pl k d=true) (hk:k≤64):shaped (dat d)=true:=by
  obtain ⟨_,b,c⟩:=Zlr k d h
  unfold shaped
  rw [b,decide_eq_true (by omega)]
  rfl
theorem Zen {x y:D} (h1:pl 9 x=true) (h2:pl 9 y=true) (h3:noB x=true) (h4:noB y=true):ZkE x y:=
  ⟨(Zlr _ _ h1).1,(Zlr _ _ h2).1,Zhy h1 (by decide),Zhy h2 (by decide),ZlC x y h3 h4⟩
section
open Classical
theorem Zir {x y:D} {θ:Sto} (h:ZkE (look θ x) (look θ y)):eqM x y θ=.ok (.bl (decide (look θ x=look θ y))) θ:=if_pos h
theorem Zif {x y:D} {θ:Sto} (h:ZkE (look θ x) (look θ y)):neM x y θ=.ok (.bl (!decide (look θ x=look θ y))) θ:=if_pos h
end
@[simp] theorem Zuf (k:Nat) (ns:List Int):pls k (ns.map D.int)=true:=by
  induction ns with
  | nil=>rfl
  | cons n r ih=>simp only [List.map_cons,pls,ih,Bool.and_true]; cases k<;>rfl
@[simp] theorem Ztu (ns:List Int):ZgR (ns.map D.int)=true:=by
  induction ns with
  | nil=>rfl
  | cons n r ih=>simp only [List.map_cons,ZgR,ih,Bool.and_true]; rfl
@[simp] theorem ZrA (ns ms:List Int):(ns.map D.int=ms.map D.int)↔ns=ms:=by
  constructor
  · intro h
    have:∀(ns ms:List Int),ns.map D.int=ms.map D.int→ns=ms:=fun ns=>by
      induction ns with
      | nil=>intro ms h; cases ms with
        | nil=>rfl
        | cons _ _=>cases h
      | cons n r ih=>intro ms h; cases ms with
        | nil=>cases h
        | cons m s=>simp at h; rw [h.1,ih s h.2]
    exact this ns ms h
  · intro h; rw [h]
@[simp] theorem ZxW (a b:Int) (θ:Sto):eqM (.int a) (.int b) θ=.ok (.bl (decide (a=b))) θ:=by
  rw [Zir (Zen rfl rfl rfl rfl)]
  simp
@[simp] theorem ZxD (a b:Int) (θ:Sto):neM (.int a) (.int b) θ=.ok (.bl (!decide (a=b))) θ:=by
  rw [Zif (Zen rfl rfl rfl rfl)]
  simp
@[simp] theorem ZqU (a b:List Int) (θ:Sto):eqM (.lst (a.map D.int)) (.lst (b.map D.int)) θ=.ok (.bl (decide (a=b))) θ:=by
  rw [Zir (Zen (by simp [pl]) (by simp [pl]) (by simp [noB]) (by simp [noB]))]
  simp
@[simp] theorem Zqu (a b:List Int) (θ:Sto):neM (.lst (a.map D.int)) (.lst (b.map D.int)) θ=.ok (.bl (!decide (a=b))) θ:=by
  rw [Zif (Zen (by simp [pl]) (by simp [pl]) (by simp [noB]) (by simp [noB]))]
  simp
end
end L2.MM
namespace My
open PySem L2 L2.MM
noncomputable section
def ZfF:SM:=(whileL (ZI (mOp gtM (Zd 1) (mC (.int 65535)))) (zc 1 (mOp zx (mOp Zbm (Zd 1) (mC (.int 65536))) (mOp Zgx (Zd 1) (mC (.int 65536))))) 200)
def Zhe:SM:=(Zv (zc 1 (mOp zx (mOp Zgu (mC (.int 256)) (mCB Zma (Zc (ZqA (Zd 0) Zcd Zcd (ZdV (mC (.int 2)))) Zk))) (mCB Zma (Zc (ZqA (Zd 0) (ZdV (mC (.int 1))) Zcd (ZdV (mC (.int 2)))) Zk))))
  (Zv ZfF
  (ZT (Zd 1))))
def ZcI:GM:=ZU 1 2 Zhe
def Zg6:SM:=(ZT (mOp ZeZ (mC (.int 65535)) (mCB ZcI (Zc (Zd 0) Zk))))
def Zd7:GM:=ZU 1 1 Zg6
def ZlZ:SM:=(ZT (Zfr (ZI (mOp neM (mOp ZuU (Zd 0) (Zd 1)) (mC (.int 0)))) (mC (.int 1)) (mC (.int 0))))
def ZeQ:GM:=ZU 2 2 ZlZ
def Zhb:SM:=(Zv (zc 1 (mOp ixM (Zd 0) (mC (.int 4))))
  (ZT (mOp zx (mOp zx (mCB Zeg (Zc (mOp ixM (Zd 0) (mC (.int 7))) Zk)) (mCB ZeQ (Zc (Zd 1) (Zc (mC (.int 2)) Zk)))) (mCB ZeQ (Zc (Zd 1) (Zc (mC (.int 1)) Zk))))))
def Zcj:GM:=ZU 1 2 Zhb
def Zdw:SM:=(ZT (mOp Zgu (mC (.int 16)) (mOp Zgx (Zd 0) (mC (.int 4)))))
def zO:GM:=ZU 1 1 Zdw
def ZeW:SM:=(ZT (ZeN (Zc (mOp Zbm (mOp Zgx (Zd 0) (mC (.int 256))) (mC (.int 256))) (Zc (mOp Zbm (Zd 0) (mC (.int 256))) Zk))))
def zk:GM:=ZU 1 1 ZeW
def Zey:SM:=(ZT (mOp zx (mCB zk (Zc (mOp Zgx (Zd 0) (mC (.int 65536))) Zk)) (mCB zk (Zc (Zd 0) Zk))))
def Zbb:GM:=ZU 1 1 Zey
def ZbT:SM:=(Zv (zc 1 (mOp zx (mCB zk (Zc (mOp ixM (Zd 0) (mC (.int 0))) Zk)) (mCB zk (Zc (mOp ixM (Zd 0) (mC (.int 1))) Zk))))
  (Zv (zc 2 (mOp zx (mCB Zbb (Zc (mOp ixM (Zd 0) (mC (.int 2))) Zk)) (mCB Zbb (Zc (mOp ixM (Zd 0) (mC (.int 3))) Zk))))
  (Zv (zc 3 (Zfr (ZI (mOp eqM (mOp ixM (Zd 0) (mC (.int 6))) (mC (.int 0)))) (mC (.int 20)) (mC (.int 24))))
  (ZT (mOp zx (mOp zx (mOp zx (Zd 1) (Zd 2)) (ZeN (Zc (mCB zO (Zc (Zd 3) Zk)) (Zc (mOp ixM (Zd 0) (mC (.int 4))) Zk)))) (mCB zk (Zc (mOp ixM (Zd 0) (mC (.int 5))) Zk)))))))
def zN:GM:=ZU 1 4 ZbT
def Zc6:SM:=(ZT (Zfr (ZI (mOp eqM (Zd 0) (mC (.int 0)))) (ZeN Zk) (mOp zx (ZeN (Zc (mC (.int 2)) (Zc (mC (.int 4)) Zk))) (mCB zk (Zc (Zd 0) Zk)))))
def ZaP:GM:=ZU 1 1 Zc6
def ZlY:SM:=(Zv (zc 1 (mCB zN (Zc (Zd 0) Zk)))
  (Zv (zc 2 (mOp zx (mOp zx (ZeN (Zc (mC (.int 0)) (Zc (mC (.int 0)) Zk))) (mCB ZaP (Zc (mOp ixM (Zd 0) (mC (.int 6))) Zk))) (mCB ZlI (Zc (mOp ixM (Zd 0) (mC (.int 7))) Zk))))
  (ZT (mOp zx (mOp zx (Zd 1) (mCB zk (Zc (mCB Zd7 (Zc (mOp zx (mOp zx (Zd 1) (ZeN (Zc (mC (.int 0)) (Zc (mC (.int 0)) Zk)))) (Zd 2)) Zk)) Zk))) (Zd 2)))))
def Zj4:GM:=ZU 1 3 ZlY
def Zgi:SM:=(ZT (mOp Zgu (mOp Zgx (mOp ixM (Zd 0) (mC (.int 12))) (mC (.int 16))) (mC (.int 4))))
def Zba:GM:=ZU 1 1 Zgi
def Zg5:SM:=(ZT (mOp zx (mOp Zgu (mC (.int 256)) (mOp ixM (Zd 0) (Zd 1))) (mOp ixM (Zd 0) (mOp zx (Zd 1) (mC (.int 1))))))
def z6:GM:=ZU 2 2 Zg5
def ZbQ:SM:=(ZT (Zcu (mOp eqM (mCB ZeQ (Zc (mOp ixM (Zd 0) (mC (.int 13))) (Zc (mC (.int 2)) Zk))) (mC (.int 1))) (Zcu (mOp eqM (mOp ixM (Zd 0) (mC (.int 20))) (mC (.int 2))) (Zcu (mOp eqM (mOp ixM (Zd 0) (mC (.int 21))) (mC (.int 4))) (mOp geM (mCB z6 (Zc (Zd 0) (Zc (mC (.int 22)) Zk))) (mC (.int 4)))))))
def zM:GM:=ZU 1 1 ZbQ
def Zbd:SM:=(ZT (Zcu (mOp geM (mCB Zeg (Zc (Zd 0) Zk)) (mC (.int 20))) (Zcu (mOp inM (mOp ixM (Zd 0) (mC (.int 12))) (Zb8 (Zc (mCB zO (Zc (mC (.int 20)) Zk)) (Zc (mCB zO (Zc (mC (.int 24)) Zk)) Zk)))) (Zcu (mOp leM (mOp ixM (Zd 0) (mC (.int 13))) (mC (.int 31))) (Zcu (ZfS leM leM (mC (.int 0)) (mOp ZeZ (mCB Zeg (Zc (Zd 0) Zk)) (mCB Zba (Zc (Zd 0) Zk))) (mC (.int 16))) (Zcu (mOp eqM (mCB z6 (Zc (Zd 0) (Zc (mC (.int 18)) Zk))) (mC (.int 0))) (Zcu (Zmr (mOp eqM (mCB Zba (Zc (Zd 0) Zk)) (mC (.int 20))) (mCB zM (Zc (Zd 0) Zk))) (mOp eqM (mCB ZcI (Zc (Zd 0) Zk)) (mC (.int 65535))))))))))
def z8:GM:=ZU 1 1 Zbd
def Zgj:SM:=(ZT (mOp zx (mOp Zgu (mC (.int 65536)) (mCB z6 (Zc (Zd 0) (Zc (Zd 1) Zk)))) (mCB z6 (Zc (Zd 0) (Zc (mOp zx (Zd 1) (mC (.int 2))) Zk)))))
def Zcz:GM:=ZU 2 2 Zgj
def Zf0:SM:=(mIf (ZeM (z5 (mCB z8 (Zc (Zd 0) Zk)))) ZqB ZS)
def Ziz:SM:=(Zv Zf0
  (Zv (zc 1 (mCB Zba (Zc (Zd 0) Zk)))
  (Zv (zc 2 (Zfr (ZI (mOp eqM (Zd 1) (mC (.int 24)))) (mCB z6 (Zc (Zd 0) (Zc (mC (.int 22)) Zk))) (mC (.int 0))))
  (Zv (zc 3 (Zb8 (Zc (mCB z6 (Zc (Zd 0) (Zc (mC (.int 0)) Zk))) (Zc (mCB z6 (Zc (Zd 0) (Zc (mC (.int 2)) Zk))) Zk))))
  (Zv (zc 4 (Zb8 (Zc (mCB Zcz (Zc (Zd 0) (Zc (mC (.int 4)) Zk))) (Zc (mCB Zcz (Zc (Zd 0) (Zc (mC (.int 8)) Zk))) Zk))))
  (ZT (mOp zx (mOp zx (Zd 3) (Zd 4)) (Zb8 (Zc (mOp ixM (Zd 0) (mC (.int 13))) (Zc (mCB z6 (Zc (Zd 0) (Zc (mC (.int 14)) Zk))) (Zc (Zd 2) (Zc (mCB ZgL (Zc (mSl (Zd 0) (ZdV (Zd 1)) Zcd) Zk)) Zk))))))))))))
def ZhE:GM:=ZU 1 5 Ziz
def Ze9:SM:=(mIf (z5 (Zd 0)) (ZT (mOp ixM (Zd 0) (mOp Zbm (Zd 1) (mCB Zeg (Zc (Zd 0) Zk))))) ZS)
def Zhg:SM:=(Zv Ze9
  (ZT (mC (.int 0))))
def ZfU:GM:=ZU 2 2 Zhg
def Zl0:SM:=(Zv (zc 2 (mOp Zbm (mOp zx (mCB ZfU (Zc (Zd 0) (Zc (Zd 1) Zk))) (mOp Zgu (mC (.int 104729)) (mOp zx (Zd 1) (mC (.int 1))))) (mC (.int 4294967291))))
  (Zv (zc 2 (mOp Zbm (mOp Zgu (Zd 2) (mC (.int 48271))) (mC (.int 4294967279))))
  (ZT (mOp Zbm (mOp zx (mOp Zgu (mOp Zgx (Zd 2) (mC (.int 64))) (mC (.int 69621))) (Zd 2)) (mC (.int 4294967231))))))
def Zbn:GM:=ZU 2 3 Zl0
end
end My
namespace My
open PySem L2
def Zbo (t:Int):Int:=if t=0 then 0 else (t-1) % 65535+1
theorem ZqS {t:Int} (h:0≤t):0≤Zbo t∧Zbo t≤65535∧(Zbo t-t) % 65535=0∧(Zbo t=0↔t=0):=by
  unfold Zbo; split<;>omega
theorem Ze5 {t:Int} (h:0≤t) (h1:t≤65535):Zbo t=t:=by
  unfold Zbo; split<;>omega
theorem ZhP {t:Int} (h:65535<t):Zbo (t % 65536+t/65536)=Zbo t∧0≤t % 65536+t/65536∧t % 65536+t/65536<t:=by
  unfold Zbo
  rw [if_neg (by omega),if_neg (by omega)]
  omega
def zS:List Int→Int
  | []=>0
  | [a]=>256*a
  | a::b::r=>256*a+b+zS r
def ZdY:List Int→List Int
  | []=>[]
  | [a]=>[a]
  | a::_::r=>a::ZdY r
def ZgO:List Int→List Int
  | []=>[]
  | [_]=>[]
  | _::b::r=>b::ZgO r
theorem Zlc:∀ns:List Int,256*(ZdY ns).sum+(ZgO ns).sum=zS ns
  | []=>rfl
  | [a]=>by simp [ZdY,ZgO,zS]
  | a::b::r=>by
    have:=Zlc r
    simp only [ZdY,ZgO,zS,List.sum_cons]
    omega
theorem Zla:∀{ns:List Int},(∀z∈ns,0≤z)→0≤zS ns
  | [],_=>by simp [zS]
  | [a],h=>by have:=h a (by simp); simp only [zS]; omega
  | a::b::r,h=>by
    have h1:=h a (by simp)
    have h2:=h b (by simp)
    have h3:=Zla (ns:=r) fun z hz=>h z (by simp [hz])
    simp only [zS]; omega
theorem ZgH:∀{ns ms:List Int},ns.length % 2=0→zS (ns++ms)=zS ns+zS ms
  | [],ms,_=>by simp [zS]
  | [a],ms,h=>by simp at h
  | a::b::r,ms,h=>by
    have:=ZgH (ns:=r) (ms:=ms) (by simp only [List.length_cons] at h; omega)
    show zS (a::b::(r++ms))=_
    simp only [zS,this]
    omega
theorem Zk2 {w:Int} (h:0≤w):Zbo (w+(256*((65535-Zbo w)/256)+(65535-Zbo w) % 256))=65535:=by
  have e:256*((65535-Zbo w)/256)+(65535-Zbo w) % 256=65535-Zbo w:=by omega
  rw [e]
  unfold Zbo
  split<;>split<;>omega
theorem ZcF:∀(m:Nat) (ns:List Int),ns.length≤2*m→((List.range m).map fun k=>2*k).filterMap (fun i=>(ns.map V.int)[i]?)=(ZdY ns).map V.int
  | 0,ns,h=>by
    have:ns=[]:=List.length_eq_zero_iff.mp (by omega)
    subst this; rfl
  | m+1,ns,h=>by
    rw [List.range_succ_eq_map,List.map_cons,List.map_map]
    have shift:∀(xs:List Int),(List.map ((fun k=>2*k)∘Nat.succ) (List.range m)).filterMap (fun i=>(xs.map V.int)[i]?)=((List.range m).map fun k=>2*k).filterMap (fun i=>((xs.drop 2).map V.int)[i]?):=fun xs=>by
      rw [List.filterMap_map,List.filterMap_map]
      congr 1
      funext k
      show (xs.map V.int)[2*(k+1)]?=((xs.drop 2).map V.int)[2*k]?
      rw [List.getElem?_map,List.getElem?_map,List.getElem?_drop]
      congr 2
      omega
    match ns,h with
    | [],_=>
      have:=shift []
      rw [List.filterMap_cons_none (by rfl),this,ZcF m _ (by simp)]
      rfl
    | [a],_=>
      have:=shift [a]
      rw [List.filterMap_cons_some (b:=V.int a) (by rfl),this,ZcF m _ (by simp)]
      rfl
    | a::b::r,h=>
      have:=shift (a::b::r)
      rw [List.filterMap_cons_some (b:=V.int a) (by rfl),this,ZcF m _ (by simp only [List.length_cons] at h; simp; omega)]
      rfl
theorem Zlt:∀ns:List Int,ZgO ns=ZdY (ns.drop 1)
  | []=>rfl
  | [_]=>rfl
  | [_,_]=>rfl
  | _::b::c::r=>by
    have:=Zlt (c::r)
    simp only [ZgO,List.drop,ZdY] at *
    rw [this]
theorem ZmB (ns:List Int):Zd6 (ns.map V.int) none none (some 2)=(ZdY ns).map V.int:=by
  unfold Zd6 sliceBounds sliceRange
  simp only [Option.getD_some,List.length_map,show ((2:Int) > 0)=True from eq_true (by decide),if_true]
  have e:(if (0:Int)<(ns.length:Int) then ((ns.length:Int)-0+2-1)/2 else 0).toNat=(ns.length+1)/2:=by split<;>omega
  rw [e]
  have e2:(fun k:Nat=>((0:Int)+2*(k:Int)).toNat)=fun k=>2*k:=by funext k; omega
  rw [e2]
  exact ZcF _ ns (by omega)
theorem Zpk (ns:List Int):Zd6 (ns.map V.int) (some 1) none (some 2)=(ZgO ns).map V.int:=by
  unfold Zd6 sliceBounds sliceRange
  simp only [Option.getD_some,List.length_map,show ((2:Int) > 0)=True from eq_true (by decide),show ((1:Int)<0)=False from eq_false (by decide),if_true,if_false]
  rw [Zlt]
  by_cases h:ns.length=0
  · have:ns=[]:=List.length_eq_zero_iff.mp h
    subst this; rfl
  · have e0:max (0:Int) (min 1 (ns.length:Int))=1:=by omega
    rw [e0]
    have e:(if (1:Int)<(ns.length:Int) then ((ns.length:Int)-1+2-1)/2 else 0).toNat=ns.length/2:=by split<;>omega
    rw [e,←ZcF (ns.length/2) (ns.drop 1) (by rw [List.length_drop]; omega),List.filterMap_map,List.filterMap_map]
    congr 1
    funext k
    show (ns.map V.int)[((1:Int)+2*(k:Int)).toNat]?=((ns.drop 1).map V.int)[2*k]?
    rw [List.getElem?_map,List.getElem?_map,List.getElem?_drop]
    congr 2
theorem ZhQ:∀ns:List Int,(ZdY ns).length≤ns.length
  | []=>Nat.le_refl _
  | [_]=>Nat.le_refl _
  | _::_::r=>by have:=ZhQ r; simp only [ZdY,List.length_cons]; omega
theorem Zj5:∀ns:List Int,(ZgO ns).length≤ns.length
  | []=>Nat.le_refl _
  | [_]=>Nat.zero_le _
  | _::_::r=>by have:=Zj5 r; simp only [ZgO,List.length_cons]; omega
end My
namespace L2.MM
open PySem PySem.Spec PyProof.Rows PySem.SeqAt My
noncomputable section
@[simp] theorem Zk9:BIG=100000:=nr rfl
def il (ns:List Int):D:=.lst (ns.map D.int)
def itp (ns:List Int):D:=.tup (ns.map D.int)
section
variable {θ:Sto} {a b ns ms:List Int} {i j:Int}
@[simp] theorem ZyB:D.lst (ns.map D.int)=il ns:=nr rfl
theorem ZdJ:D.lst []=il []:=rfl
@[simp] theorem ZyA (x y:Int):D.lst [.int x,.int y]=il [x,y]:=nr rfl
@[simp] theorem ZuC:ZaC θ (il a)=some (a.map D.int):=nr rfl
@[simp] theorem Zo2:zx (il a) (il b) θ=if a.length+b.length≤BIG then .ok (il (a++b)) θ else .bad:=by
  unfold il
  rw [Zpw]
  simp [il]
theorem ZqG (h:a.length+b.length≤100000):zx (il a) (il b) θ=.ok (il (a++b)) θ:=by
  rw [Zo2,if_pos h]
@[simp] theorem ZxK:Zeg [il a] θ=.ok (.int a.length) θ:=by
  unfold il; rw [ZtH]; simp
@[simp] theorem ZxI:Zeg [itp a] θ=.ok (.int a.length) θ:=by
  unfold itp; rw [Zl5]; simp
theorem Zq5 {α β:Type} (f:α→β) (xs:List α) (n:Int):atI (xs.map f) n=(atI xs n).map f:=by
  unfold L2.atI
  rw [List.length_map]
  cases ixN xs.length n with
  | none=>rfl
  | some k=>simp
theorem ZuD:ixM (il a) (.int i) θ=match atI a i with | some z=>.ok (.int z) θ | none=>.bad:=by
  unfold il
  rw [ZnT,Zq5]
  cases atI a i<;>rfl
theorem Zpt {xs:List Int} {i:Int} (h0:0≤i) (h:i<xs.length):atI xs i=some (xs.getD i.toNat 0):=by
  have c:i=((i.toNat:Nat):Int):=by omega
  rw [c]
  refine ZgF ?_
  have d:i.toNat<xs.length:=by omega
  rw [List.getD_eq_getElem?_getD,Int.toNat_natCast,List.getElem?_eq_getElem d]
  rfl
def gt (a:List Int) (i:Nat):Int:=a.getD i 0
theorem ZfX (h0:0≤i) (h:i<a.length):ixM (il a) (.int i) θ=.ok (.int (gt a i.toNat)) θ:=by rw [ZuD,Zpt h0 h]; rfl
@[simp high] theorem ZyO {x:D} {r:List D}:ixM (.tup (x::r)) (.int 0) θ=.ok x θ:=by
  rw [ZjL,show (0:Int)=((0:Nat):Int) from rfl,ZgF (j:=0) (v:=x) rfl]
@[simp high] theorem ZyN {x y:D} {r:List D}:ixM (.tup (x::y::r)) (.int 1) θ=.ok y θ:=by
  rw [ZjL,show (1:Int)=((1:Nat):Int) from rfl,ZgF (j:=1) (v:=y) rfl]
theorem Zpl {α β:Type} (f:α→β) (xs:List α) (lo hi:Option Int):Za7 (xs.map f) lo hi=(Za7 xs lo hi).map f:=by
  unfold Za7
  rw [List.length_map,List.map_take,List.map_drop]
@[simp] theorem Zo1 {lo hi:Option Int}:ZfL θ (il a) lo hi=some (il (Za7 a lo hi)):=by
  unfold il; rw [ZnS,Zpl]
@[simp] theorem Zvg:ZlI [itp a] θ=.ok (il a) θ:=nr rfl
@[simp] theorem ZuA:ZgL [il a] θ=.ok (itp a) θ:=nr rfl
@[simp] theorem ZxJ:Zma [il a] θ=.ok (.int a.sum) θ:=by unfold il; rw [ZtD,ZoZ]
@[simp] theorem Zyv:eqM (il a) (il b) θ=.ok (.bl (decide (a=b))) θ:=ZqU a b θ
@[simp] theorem ZuB:neM (il a) (il b) θ=.ok (.bl (!decide (a=b))) θ:=Zqu a b θ
theorem ZfO {α β:Type} (f:α→β) (xs:List α) (lo hi st:Option Int):Zdl (xs.map f) lo hi st=(Zdl xs lo hi st).map f:=by
  unfold Zdl
  rw [List.length_map,List.map_filterMap]
  congr
  funext k
  simp
theorem ZgU:∀{ns ms:List Int},ns.map V.int=ms.map V.int→ns=ms
  | [],[],_=>rfl
  | [],_::_,h=>by cases h
  | _::_,[],h=>by cases h
  | _::_,_::_,h=>by simp at h; rw [h.1,ZgU h.2]
@[simp] theorem Zrt (ns:List Int):Zdl ns none none (some 2)=ZdY ns:=ZgU (by
  have:=ZmB ns
  rw [show Zd6 (ns.map V.int) none none (some 2)=Zdl (ns.map V.int) none none (some 2) from rfl,ZfO] at this
  exact this)
@[simp] theorem Zsu (ns:List Int):Zdl ns (some 1) none (some 2)=ZgO ns:=ZgU (by
  have:=Zpk ns
  rw [show Zd6 (ns.map V.int) (some 1) none (some 2)=Zdl (ns.map V.int) (some 1) none (some 2) from rfl,ZfO] at this
  exact this)
end
theorem Zoe {n d:Nat} {k:Int} (h:0≤k):HT.sIx n d (some k)=min k.toNat n:=by
  have c:k=((k.toNat:Nat):Int):=by omega
  rw [c]
  exact HT.sIx_nat n d k.toNat
theorem Zem {α:Type} (xs:List α) {k:Int} (h:0≤k):Za7 xs none (some k)=xs.take k.toNat:=by
  unfold Za7
  rw [HT.sIx_none,Zoe h,List.drop_zero,Nat.sub_zero,←List.take_take,List.take_length]
theorem ZcL {α:Type} (xs:List α) {k:Int} (h:0≤k):Za7 xs (some k) none=xs.drop k.toNat:=by
  unfold Za7
  rw [HT.sIx_none,Zoe h]
  by_cases q:k.toNat≤xs.length
  · rw [Nat.min_eq_left q,List.take_of_length_le]
    rw [List.length_drop]
    exact Nat.le_refl _
  · rw [Nat.min_eq_right (by omega),List.drop_length,List.drop_eq_nil_of_le (by omega)]
    simp
section
variable {θ:Sto} {ρ:List Sl}
@[simp] theorem ZeB {lo:Int} {n:Nat}:(Src.rng lo n).items θ=some ((List.range n).map fun (i:Nat)=>D.int (lo+(i:Int))):=nr rfl
open Classical in
theorem ZhR {S:Src} {all:List D} {elt:D→Sto→R D} {θ:Sto} (f:D→D) (hS:S.items θ=some all):∀(xs acc:List D),(∀x∈xs,elt x θ=.ok (f x) θ)→(acc.length+xs.length≤BIG)→Zgf S all elt xs acc θ=.ok (.lst (acc++xs.map f)) θ
  | [],acc,_,hl=>by
    unfold Zgf
    rw [if_pos ⟨hS,by simpa using hl⟩]
    simp
  | x::r,acc,h,hl=>by
    unfold Zgf
    rw [if_pos hS,h x List.mem_cons_self]
    rw [R.bind_ok,ZhR f hS r (acc++[f x]) (fun y hy=>h y (List.mem_cons_of_mem _ hy)) (by simp at hl ⊢; omega)]
    simp
theorem ZhK {fi:IM} {src:List Nat} {elt:EM} {lo:Int} {n:Nat} {θ':Sto} (f:Int→D) (hi:fi ρ θ=.ok (.rng lo n) θ') (hn:n≤BIG) (he:∀i:Nat,i<n→elt (ZdW src ρ (.int (lo+i))) θ'=.ok (f (lo+i)) θ') :
    Zef fi src elt ρ θ=.ok (.lst ((List.range n).map fun (i:Nat)=>f (lo+i))) θ':=by
  unfold Zef
  rw [hi,R.bind_ok]
  simp only [ZeB]
  rw [if_pos (by simpa using hn),ZhR (fun d=>match d with | .int k=>f k | d=>d) rfl]
  · simp
  · intro x hx
    obtain ⟨i,hi,rfl⟩:=List.mem_map.mp hx
    exact he i (List.mem_range.mp hi)
  · simpa using hn
@[simp] theorem Zuz {src:List Nat} {x:D}:ZdW src ρ x=Sl.val x::src.map fun (j:Nat)=>match ρ[j]? with | some (Sl.val d)=>Sl.val d | _=>Sl.no:=nr rfl
open Classical in
theorem for_rng {lo:Int} {n:Nat} {all:List D} {tg:TgM} {body:SM} (st:Nat→List Sl) (hs:∀i ρ1,i<n→tg (.int (lo+i)) (st i)=some ρ1→body ρ1 θ=.ok (.nx,st (i+1)) θ) (ht:∀i,i<n→∃ρ1,tg (.int (lo+i)) (st i)=some ρ1) (hall:all=(List.range n).map fun (i:Nat)=>D.int (lo+(i:Int))) :
    forL (.rng lo n) all tg body all (st 0) θ=.ok (.nx,st n) θ:=by
  subst hall
  have key:∀m,m≤n→forL (.rng lo n) ((List.range n).map fun (i:Nat)=>D.int (lo+(i:Int))) tg body (((List.range n).map fun (i:Nat)=>D.int (lo+(i:Int))).drop (n-m)) (st (n-m)) θ=.ok (.nx,st n) θ:=fun m=>by
    induction m with
    | zero=>
      intro _
      rw [Nat.sub_zero,List.drop_eq_nil_of_le (by simp)]
      simp [forL]
    | succ m ih=>
      intro hm
      have hlt:n-(m+1)<n:=by omega
      rw [List.drop_eq_getElem_cons (by simpa using hlt)]
      obtain ⟨ρ1,h1⟩:=ht (n-(m+1)) hlt
      have h2:=hs (n-(m+1)) ρ1 hlt h1
      have e:n-(m+1)+1=n-m:=by omega
      simp only [List.getElem_map,List.getElem_range,forL,ZeB,if_true,h1]
      rw [h2,R.bind_ok,Zb0,e]
      exact ih (by omega)
  have:=key n (Nat.le_refl _)
  rw [Nat.sub_self,List.drop_zero] at this
  exact this
end
end
end L2.MM
namespace L2
open PySem PySem.Spec PyProof.Rows
section
variable {κ:Type} [DecidableEq κ]
def valV (kvs:List (κ×V)) (k:κ):Option V:=(kvs.find? fun kv=>decide (kv.1=k)).map (·.2)
def Zgs (kvs:List (κ×V)) (k:κ) (v:V):List (κ×V):=
  if (kvs.any fun kv=>decide (kv.1=k))=true then kvs.map (fun kv=>if kv.1=k then (kv.1,v) else kv) else kvs++[(k,v)]
def ZeU (kvs:List (κ×V)) (k:κ):List (κ×V):=kvs.filter fun kv=>decide (kv.1≠k)
theorem ZjM {p:κ×V} {r:List (κ×V)} {k:κ} (e:p.1=k):valV (p::r) k=some p.2:=by simp [valV,List.find?_cons,e]
theorem ZjN {p:κ×V} {r:List (κ×V)} {k:κ} (e:¬p.1=k):valV (p::r) k=valV r k:=by simp [valV,List.find?_cons,e]
theorem Zkj (kvs:List (κ×V)) (k:κ) (v:V):(Zgs kvs k v).length≤kvs.length+1:=by
  unfold Zgs
  split
  · rw [List.length_map]; omega
  · rw [List.length_append,List.length_cons,List.length_nil]; omega
theorem RelO.isSome_eq {o:Option V} {u:Option Value} (r:RelO o u):o.isSome=u.isSome:=by
  cases o with
  | none=>cases u with
    | none=>rfl
    | some _=>exact (show False from r).elim
  | some _=>cases u with
    | none=>exact (show False from r).elim
    | some _=>rfl
theorem KV.val {kvs:List (κ×V)} {vs:List (κ×Value)} (r:KV kvs vs) (k:κ):RelO (valV kvs k) (valueAt vs k):=by
  unfold KV at r
  induction r with
  | nil=>exact True.intro
  | @cons p q ps qs h t ih=>
    obtain ⟨h1,h2⟩:=h
    by_cases e:p.1=k
    · have e':q.1=k:=h1.symm.trans e
      have b:valueAt (q::qs) k=some q.2:=by simp [valueAt,List.find?_cons,e']
      rw [ZjM e,b]; exact h2
    · have e':¬q.1=k:=fun z=>e (h1.trans z)
      have b:valueAt (q::qs) k=valueAt qs k:=by simp [valueAt,List.find?_cons,e']
      rw [ZjN e,b]; exact ih
theorem KV.any {kvs:List (κ×V)} {vs:List (κ×Value)} (r:KV kvs vs) (k:κ):(kvs.any fun kv=>decide (kv.1=k))=vs.any fun kv=>decide (kv.1=k):=by
  unfold KV at r
  induction r with
  | nil=>rfl
  | cons h t ih=>rw [List.any_cons,List.any_cons,ih,h.1]
theorem KV.repl {kvs:List (κ×V)} {vs:List (κ×Value)} (r:KV kvs vs) (k:κ) {y:V} {u:Value} (ry:RelV y u) :
    KV (kvs.map fun kv=>if kv.1=k then (kv.1,y) else kv) (vs.map fun kv=>if kv.1=k then (kv.1,u) else kv):=by
  unfold KV at r ⊢
  induction r with
  | nil=>exact .nil
  | @cons p q ps qs h t ih=>
    rw [List.map_cons,List.map_cons]
    refine .cons ?_ ih
    obtain ⟨h1,h2⟩:=h
    by_cases e:p.1=k
    · rw [if_pos e,if_pos (h1.symm.trans e)]; exact ⟨h1,ry⟩
    · rw [if_neg e,if_neg (fun z=>e (h1.trans z))]; exact ⟨h1,h2⟩
theorem KV.put {kvs:List (κ×V)} {vs:List (κ×Value)} (r:KV kvs vs) (k:κ) {y:V} {u:Value} (ry:RelV y u):KV (Zgs kvs k y) (stored vs k u):=by
  unfold Zgs stored
  rw [r.any k]
  by_cases e:(vs.any fun kv=>decide (kv.1=k))=true
  · rw [if_pos e,if_pos e]; exact r.repl k ry
  · rw [if_neg e,if_neg e]; exact Paired.snoc r ⟨rfl,ry⟩
theorem KV.drop {kvs:List (κ×V)} {vs:List (κ×Value)} (r:KV kvs vs) (k:κ):KV (ZeU kvs k) (without vs k):=by
  unfold KV at r ⊢
  unfold ZeU without
  induction r with
  | nil=>exact .nil
  | @cons p q ps qs h t ih=>
    obtain ⟨h1,h2⟩:=h
    rw [List.filter_cons,List.filter_cons]
    by_cases e:p.1=k
    · have a:¬decide (p.1≠k)=true:=by simp [e]
      have b:¬decide (q.1≠k)=true:=by simp [h1.symm.trans e]
      rw [if_neg a,if_neg b]; exact ih
    · have e':¬q.1=k:=fun z=>e (h1.trans z)
      have a:decide (p.1≠k)=true:=by simp [e]
      have b:decide (q.1≠k)=true:=by simp [e']
      rw [if_pos a,if_pos b]; exact .cons ⟨h1,h2⟩ ih
theorem KV.length {kvs:List (κ×V)} {vs:List (κ×Value)} (r:KV kvs vs):kvs.length=vs.length:=Paired.length r
theorem Zku (kvs:List (κ×V)) (k:κ):(ZeU kvs k).length≤kvs.length:=List.length_filter_le _ _
end
theorem Zkl {P:Program} {w:World} {k:Key} {u:Value} (r:RelV (kV k) u):(Zax P w).is k u=true:=by
  cases k with
  | inl i=>obtain ⟨t,e⟩:=(show ∃t,u=Value.int i t from r); subst e; exact Zke P w i t
  | inr x=>obtain ⟨t,e⟩:=(show ∃t,u=Value.str x t from r); subst e; exact Zkd P w x t
theorem ZhN {P:Program} {w:World}:∀{ks:List Key} {us:List Value},Vals (ks.map kV) us→ItemsAre (Zax P w) ks us
  | [],_,r=>by rw [List.map_nil] at r; cases r; exact .nil
  | k::ks,_,r=>by
    rw [List.map_cons] at r
    cases r with
    | cons h t=>exact .cons (Zkl h) (ZhN t)
abbrev KT (H:Hp):List (List Key×V)→List (List Key×Addr×Value)→Prop:=Paired fun p q=>p.1=q.1∧H q.2.1=some (.tup (p.1.map kV))∧RelV p.2 q.2.2
theorem KT.val {H:Hp} {kvs:List (List Key×V)} {xs:List (List Key×Addr×Value)} (r:KT H kvs xs) (k:List Key):RelO (valV kvs k) ((atKey xs k).map (·.2)):=by
  induction r with
  | nil=>exact True.intro
  | @cons p q ps qs h t ih=>
    obtain ⟨h1,_,h2⟩:=h
    by_cases e:p.1=k
    · have e':q.1=k:=h1.symm.trans e
      have b:atKey (q::qs) k=some q.2:=by simp [atKey,List.find?_cons,e']
      rw [ZjM e,b]; exact h2
    · have e':¬q.1=k:=fun z=>e (h1.trans z)
      have b:atKey (q::qs) k=atKey qs k:=by simp [atKey,List.find?_cons,e']
      rw [ZjN e,b]; exact ih
section
variable {P:Program} {w:World} {H:Hp} {h:Heap} {a:Addr}
theorem Zrr {u:HO} (ok:HOk P w H h) (e:Rd H a u):ObjOk P w H h a u:=e.ok ok
theorem Zph {kvs:List (Key×V)} (ok:HOk P w H h) (e:Rd H a (.dK kvs)):kvs.length≤sizeLine∧(a == sysModules)=false∧∃vs,KV kvs vs∧h.DictOf (Zax P w) a vs:=
  show ObjOk P w H h a (.dK kvs) from Zrr ok e
theorem Zpi {kvs:List (Key×V)} (ok:HOk P w H h) (e:H a=some (.dK kvs)):kvs.length≤sizeLine∧(a == sysModules)=false∧∃vs,KV kvs vs∧h.DictOf (Zax P w) a vs:=Zph ok (.inl e)
theorem ZoW {ks:List Key} (ok:HOk P w H h) (e:H a=some (.tup (ks.map kV))):(tupleKind (Zax P w)).is h ks a:=by
  obtain ⟨_,its,r,o,h1,h2,n,h3⟩:=(show ObjOk P w H h a (.tup (ks.map kV)) from ok a _ e)
  exact ⟨o,its.toArray,n,h1,h2,h3,by simpa using ZhN r⟩
theorem ZrG {kvs:List (List Key×V)} (ok:HOk P w H h) (e:Rd H a (.dT kvs)):kvs.length≤sizeLine∧(a == sysModules)=false∧
    ∃xs,KT H kvs xs∧h.DictOfH (tupleKind (Zax P w)) a xs:=by
  obtain ⟨z,y,xs,r,o,es,ep,h1,h2,h3,h4,h5⟩:=(show ObjOk P w H h a (.dT kvs) from Zrr ok e)
  refine ⟨z,y,xs,r,o,es,ep,h1,h2,h3,h4,fun x hx=>?_,h5⟩
  have all:∀{l:List (List Key×V)} {m:List (List Key×Addr×Value)},KT H l m→∀x∈m,(tupleKind (Zax P w)).is h x.1 x.2.1:=by
    intro l m q
    induction q with
    | nil=>intro x hx; exact nomatch hx
    | @cons p q ps qs hq t ih=>
      intro x hx
      rcases List.mem_cons.mp hx with e | hx
      · subst e
        exact ZoW ok (by rw [←hq.1]; exact hq.2.1)
      · exact ih x hx
  exact all r x hx
end
def DGet (H:Hp) (a:Addr) (y:V) (r:Option V):Prop:=
  (∃kvs k,Rd H a (.dK kvs)∧y=kV k∧r=valV kvs k)∨∃kvs k b,Rd H a (.dT kvs)∧y=.ref b∧H b=some (.tup (k.map kV))∧r=valV kvs k
theorem DGet.k {H:Hp} {a:Addr} {kvs:List (Key×V)} {k:Key} (e:H a=some (.dK kvs)):DGet H a (kV k) (valV kvs k):=.inl ⟨kvs,k,.inl e,rfl,rfl⟩
section
variable {X:Cx} {pins:List (Addr×Obj)} {σ:St} {H:Hp} {s:Shared} {a:Addr} {y v:V} {u r:Value} {o:Option V} {A:Around} {E:Value→Shared→Prop}
theorem Inv.big (I:Inv X pins σ H s):sysModules<s.heap.objs.size:=by
  have h:mainGlobals<s.heap.objs.size:=(I.mod.glob.keeps I.bk).lt
  exact Nat.lt_trans (by decide) h
theorem ZxY {Q:Value→Shared→Prop} (hu:A.units+1<cLine) (I:Inv X pins σ H s) (g:DGet H a y o) (ry:RelV y u) (h:∀s',Inv X pins σ H s'→Q (.bool o.isSome) s') :
    wpAny (model X.prog X.w) A (compareOp .In u (.ref a)) Q E s:=by
  rcases g with ⟨kvs,k,e,ey,l⟩ | ⟨kvs,k,b,e,ey,eb,l⟩
  · subst ey
    obtain ⟨z,hd,vs,rel,dd⟩:=Zph I.hok e
    refine wpAny_in_of (Zkl ry) hd dd.mapOf ?_
    rw [←(rel.val k).isSome_eq,←l]
    exact h _ (I.tok _)
  · subst ey
    cases (show u=Value.ref b from ry)
    obtain ⟨z,hd,xs,rel,dd⟩:=ZrG I.hok e
    refine wpAny_in_heap (tupleKind_room_in1 hu) (ZoW I.hok eb) hd dd ?_
    have q:=(rel.val k).isSome_eq
    rw [Option.isSome_map] at q
    rw [←q,←l]
    exact h _ (I.tok _)
theorem Ziu {h':Heap} {t':Nat} {ob:HO} (I:Inv X pins σ H s) (mu:Mut (H a)) (hs:Heap.SameBut a s.heap h') (he:∃q,h'.get? a=some q) (new:ObjOk X.prog X.w (upd H a ob) h' a ob) :
    Inv X pins σ (upd H a ob) { s with heap:=h',toks:=t' }:=
  I.write (x:=a) (e:=a) mu (.inl rfl) (fun b q hb z=>(hs.2 b hb).trans z) he new
theorem Zk5 {P:Program} {w:World} {H':Hp} {h':Heap} {kvs:List (Key×V)} {vs:List (Key×Value)} (z:kvs.length≤sizeLine) (hd:(a == sysModules)=false) (rel:KV kvs vs) (dd:h'.DictOf (Zax P w) a vs) :
    ObjOk P w H' h' a (.dK kvs):=⟨z,hd,vs,rel,dd⟩
end
section
variable {X:Cx} {pins:List (Addr×Obj)} {σ:St} {H:Hp} {s:Shared} {a:Addr} {kvs:List (Key×V)} {k:Key} {u:Value} {A:Around} {E:Value→Shared→Prop}
theorem ZtB {Q:Unit→Shared→Prop} (I:Inv X pins σ H s) (e:H a=some (.dK kvs)) (ry:RelV (kV k) u) (l:(valV kvs k).isSome=true) (h:∀s',Inv X pins σ (upd H a (.dK (ZeU kvs k))) s'→Q () s') :
    wpAny (model X.prog X.w) A (delItem (.ref a) u) Q E s:=by
  obtain ⟨z,hd,vs,rel,dd⟩:=Zpi I.hok e
  refine wpAny_delItem_slot dd.typeIs (by decide) PySem.F.slot_dict_delitem
    (call_meetsIn PySem.F.slot_dict_delitem dd.typeIs PySem.F.entry_dict_delitem (PySem.F.args_dict_delitem_2 _ _) (meets_dict_delitem_pairs (Zax X.prog X.w) a (Zkl ry)) ⟨vs,dd,by rw [←rel.length]; exact z,by rw [←(rel.val k).isSome_eq]; exact l,fun h' dd' hs=>h _ ?_⟩)
  have he:∃q,h'.get? a=some q:=let ⟨q,_,_,hq,_⟩:=dd'; ⟨q,hq⟩
  exact Ziu I (by rw [e]; exact True.intro) hs he (Zk5 (Nat.le_trans (Zku kvs k) z) hd (rel.drop k) dd')
theorem ZuO {v:V} {more:List Value} {Q:Value→Shared→Prop} (I:Inv X pins σ H s) (e:H a=some (.dK kvs)) (ry:RelV (kV k) u) (l:valV kvs k=some v) (hm:more=[]∨∃x,more=[x])
    (h:∀w' s',Inv X pins σ (upd H a (.dK (ZeU kvs k))) s'→RelV v w'→Q w' s'):wpAny (model X.prog X.w) A (call (.builtin "dict.pop") (.ref a::u::more)) Q E s:=by
  obtain ⟨z,hd,vs,rel,dd⟩:=Zpi I.hok e
  obtain ⟨w',hw,rw'⟩:=RelO.some_of (v:=v) (o:=valueAt vs k) (by rw [←l]; exact rel.val k)
  have hp:(keyPart u).isSome=true:=by
    cases k with
    | inl i=>obtain ⟨t,q⟩:=(show ∃t,u=Value.int i t from ry); subst q; rfl
    | inr x=>obtain ⟨t,q⟩:=(show ∃t,u=Value.str x t from ry); subst q; rfl
  have ha:argsOk "dict.pop" ⟨.ref a::u::more,[]⟩:=by
    rcases hm with q | ⟨x,q⟩
    · subst q; exact PySem.F.args_dict_pop_2 _ _
    · subst q; exact PySem.F.args_dict_pop_3 _ _ _
  refine call_meetsIn PySem.F.slot_dict_pop dd.typeIs PySem.F.entry_dict_pop ha (meets_dict_pop_there (Zax X.prog X.w) a (Zkl ry) more hm hp)
    ⟨vs,w',dd,by rw [←rel.length]; exact z,hw,fun h' dd' hs=>h w' _ ?_ rw'⟩
  have he:∃q,h'.get? a=some q:=let ⟨q,_,_,hq,_⟩:=dd'; ⟨q,hq⟩
  exact Ziu I (by rw [e]; exact True.intro) hs he (Zk5 (Nat.le_trans (Zku kvs k) z) hd (rel.drop k) dd')
end
def ZtY (ty td:TE):TE:=fun σ H Q=>ty σ H fun y H1=>td σ H1 fun x H2=>∃a o,x=.ref a∧DGet H2 a y o∧Q (.bl o.isSome) H2
section
variable {X:Cx} {o i e value:Expr} {pos pos' tpos:Pos} {td ty tv:TE}
theorem ZsG (hu:X.A.units+1<cLine) (hi:PE X i ty) (ho:PE X o td):PC X .In i o (ZtY ty td):=by
  intro pins s σ H Q I h
  refine thn (hi pins s σ H _ I h) fun iv s1 ⟨y,H1,I1,ry,q1⟩=>thn (ho pins s1 σ H1 _ I1 q1) fun u s2 ⟨x,H2,I2,rx,a,ov,ex,g,q2⟩=>?_
  subst ex
  obtain rfl:u=Value.ref a:=rx
  exact ZxY hu I2 g ry fun s3 I3=>⟨.bl ov.isSome,H2,I3,rfl,q2⟩
end
theorem Zpj {P:Program} {w:World} {H:Hp} (h:Heap) (hb:sysModules<h.objs.size):ObjOk P w H (h.push { cls:=.type "dict",data:=.dict #[] }) h.objs.size (.dK []):=
  ⟨Nat.zero_le _,beq_eq_false_iff_ne.mpr (Ne.symm (Nat.ne_of_lt hb)),[],.nil,Heap.DictOf.new h⟩
def Zsa:TE:=fun _ H Q=>∀p,H p=none→Q (.ref p) (upd H p (.dK []))
section
variable {X:Cx} {pos:Pos}
theorem Zou:PE X (.Dict [] [] pos) Zsa:=fun pins s σ H Q I h=>
  wpAny_Dict_empty ⟨.ref s.heap.objs.size,_,I.laid (a:=s.heap.objs.size) (o:=.dK []) (t':=s.toks) (fun _ _ q=>Heap.get?_push_of_some _ q) (Nat.le_refl _) (Zpj s.heap I.big),rfl,h _ (I.hok.fresh (Nat.le_refl _))⟩
end
def Zn4:List (TE×TE)→St→Hp→(List (V×V)→Hp→Prop)→Prop
  | [],_,H,Q=>Q [] H
  | (tk,tv)::r,σ,H,Q=>tk σ H fun x H1=>tv σ H1 fun y H2=>Zn4 r σ H2 fun ps H3=>Q ((x,y)::ps) H3
abbrev VV:List (V×V)→List (Value×Value)→Prop:=Paired fun p q=>RelV p.1 q.1∧RelV p.2 q.2
def PPs (X:Cx) (pos:Pos) (keys:List (Option Expr)) (values:List Expr) (trs:List (TE×TE)):Prop:=
  ∀(pins:List (Addr×Obj)) (s:Shared) (σ:St) (H:Hp) (Q:List (V×V)→Hp→Prop),Inv X pins σ H s→Zn4 trs σ H Q→
    wpAny (model X.prog X.w) X.A (evalPairs (pairTrees keys values X.env pos)) (fun vs s'=>∃ps H',Inv X pins σ H' s'∧VV ps vs∧Q ps H') X.xe s
def ZsU (kvs more:List (Key×V)):List (Key×V):=more.foldl (fun acc kv=>Zgs acc kv.1 kv.2) kvs
structure M1 (X:Cx) (o:Expr) (m:Str) (apos:Pos) (e:Expr) (cpos:Pos):Prop where
  base:attributeBase o m X.env (eval o X.env)=eval o X.env
  few:((backTo cpos (starEach [e] X.env)).all (fun x=>!x.1) && (backToKw cpos (keywordEach [] X.env)).all (fun x=>x.1.isSome)
    && decide (([e]:List Expr).length+([]:List Keyword).length+(if ([]:List Keyword).isEmpty then 0 else 1)<30))=true
  line:(apos.endLine == cpos.line)=true
  trees:backTo cpos (starEach [e] X.env)=[(false,eval e X.env)]
structure M2 (X:Cx) (o:Expr) (m:Str) (apos:Pos) (e f:Expr) (cpos:Pos):Prop where
  base:attributeBase o m X.env (eval o X.env)=eval o X.env
  few:((backTo cpos (starEach [e,f] X.env)).all (fun x=>!x.1) && (backToKw cpos (keywordEach [] X.env)).all (fun x=>x.1.isSome)
    && decide (([e,f]:List Expr).length+([]:List Keyword).length+(if ([]:List Keyword).isEmpty then 0 else 1)<30))=true
  line:(apos.endLine == cpos.line)=true
  trees:backTo cpos (starEach [e,f] X.env)=[(false,eval e X.env),(false,eval f X.env)]
def IsD (H:Hp) (a:Addr):Prop:=(∃kvs,Rd H a (.dK kvs))∨∃kvs,Rd H a (.dT kvs)
theorem ZoY {X:Cx} {pins:List (Addr×Obj)} {σ:St} {H:Hp} {s:Shared} {a:Addr} (I:Inv X pins σ H s) (d:IsD H a) :
    s.TypeIs (.ref a) "dict"∧(∀b,Value.ref a=.ref b→∃ob,s.heap.get? b=some ob∧ob.dict=none)∧(a == sysModules)=false:=by
  rcases d with ⟨kvs,e⟩ | ⟨kvs,e⟩
  · obtain ⟨_,hd,vs,_,dd⟩:=Zph I.hok e
    refine ⟨dd.typeIs,fun b q=>?_,hd⟩
    cases q
    obtain ⟨ob,_,_,h1,h2,_⟩:=dd
    exact ⟨ob,h1,h2.2.1⟩
  · obtain ⟨_,hd,xs,_,dd⟩:=ZrG I.hok e
    refine ⟨dd.typeIs,fun b q=>?_,hd⟩
    cases q
    obtain ⟨ob,_,_,h1,h2,_⟩:=dd
    exact ⟨ob,h1,h2.2.1⟩
section
variable {X:Cx} {pins:List (Addr×Obj)} {σ:St} {H:Hp} {s:Shared} {a:Addr} {y d:V} {u r:Value} {o:Option V} {A:Around} {E:Value→Shared→Prop}
end
def Zr9 (td ty:TE):TE:=fun σ H Q=>td σ H fun x H1=>∃a,x=.ref a∧IsD H1 a∧ty σ H1 fun y H2=>∃kvs k v,H2 a=some (.dK kvs)∧y=kV k∧valV kvs k=some v∧Q v (upd H2 a (.dK (ZeU kvs k)))
section
variable {X:Cx} {o e f:Expr} {apos cpos:Pos} {td ty tx:TE}
theorem Zot (ho:PE X o td) (he:PE X e ty) (m:M1 X o "pop" apos e cpos):PE X (.Call (.Attribute o "pop" apos) [e] [] cpos) (Zr9 td ty):=by
  intro pins s σ H Q I h
  refine wpAny_Call_method m.base m.few m.line PySem.F.plainAttrs_dict PySem.F.slot_dict_pop PySem.F.type_dict_pop (thn (ho pins s σ H _ I h) fun u s1 ⟨x,H1,I1,rx,a,ex,d,q1⟩=>?_)
  subst ex
  obtain rfl:u=Value.ref a:=rx
  obtain ⟨t1,t2,_⟩:=ZoY I1 d
  refine ⟨t1,t2,?_⟩
  rw [m.trees]
  refine Calls.callWith_builtin rfl (Calls.evalArgs_plain (Calls.spliced_cons (thn (he pins s1 σ H1 _ I1 q1) fun iv s2 ⟨y,H2,I2,ry,kvs,k,v,ea,ey,l,q2⟩=>Calls.spliced_nil ?_)))
  subst ey
  exact ZuO I2 ea ry l (.inl rfl) fun w' s3 I3 rw'=>⟨v,_,I3,rw',q2⟩
end
section
variable {X:Cx} {pins:List (Addr×Obj)} {σ:St} {H:Hp} {s:Shared} {a:Addr} {kvs:List (Key×V)} {A:Around} {E:Value→Shared→Prop}
end
section
variable {X:Cx} {pins:List (Addr×Obj)} {σ:St} {H:Hp} {s:Shared} {a:Addr} {y:V} {u:Value} {A:Around} {E:Value→Shared→Prop}
end
end L2
namespace L2.MM
open PySem PySem.Spec PyProof.Rows PySem.SeqAt
noncomputable section
variable {X:Cx}
def Zaw (f:Str) (v:D):List (Str×D)→List (Str×D)
  | []=>[(f,v)]
  | (g,x)::r=>if g=f then (g,v)::r else (g,x)::Zaw f v r
theorem RepKV.put {B:Bx} {H:Hp} {f:Str} {d:D} {v:V} (q:RepV B H d v):∀{fs:List (Str×D)} {vs:List (Str×V)},RepKV B H fs vs→RepKV B H (Zaw f d fs) (Zdi f v vs)
  | _,_,.nil=>.cons ⟨rfl,q⟩ .nil
  | (g,x)::fs,(g',y)::vs,.cons h t=>by
    obtain ⟨h1,h2⟩:=h
    cases (show g=g' from h1)
    unfold Zaw Zdi
    by_cases e:g=f
    · rw [if_pos e,if_pos e]; exact .cons ⟨rfl,q⟩ t
    · rw [if_neg e,if_neg e]; exact .cons ⟨rfl,h2⟩ (RepKV.put q t)
theorem RepKV.len {κ:Type} {B:Bx} {H:Hp}:∀{fs:List (κ×D)} {vs:List (κ×V)},RepKV B H fs vs→vs.length=fs.length
  | _,_,.nil=>rfl
  | _,_,.cons _ t=>by rw [List.length_cons,List.length_cons,RepKV.len t]
theorem RepKV.get {B:Bx} {H:Hp} {f:Str} {d:D}:∀{fs:List (Str×D)} {vs:List (Str×V)},RepKV B H fs vs→fs.lookup f=some d→∃v,vs.lookup f=some v∧RepV B H d v
  | _,_,.nil,h=>by cases h
  | (g,x)::fs,(g',y)::vs,.cons h t,e=>by
    obtain ⟨h1,h2⟩:=h
    cases (show g=g' from h1)
    rw [List.lookup_cons] at e ⊢
    cases q:f == g with
    | true=>rw [q] at e; cases e; exact ⟨y,rfl,h2⟩
    | false=>rw [q] at e; exact RepKV.get t e
def Zeh (θ:Sto):D→Option (Nat×Str×List (Str×D))
  | .ref l=>match θ[l]? with
    | some (.ins C fs)=>some (l,C,fs)
    | _=>none
  | _=>none
theorem Zkp {cl:Mo} {B:Bx} {θ:Sto} {H:Hp} (G:Good cl B θ H) {d:D} {v:V} {l:Nat} {C:Str} {fs:List (Str×D)} (r:RepV B H d v) (h:Zeh θ d=some (l,C,fs)) :
    l<B.n∧v=.ref (B.m l)∧∃dx vs,H (B.m l)=some (.ins (cl.cl C) dx vs)∧RepKV B H fs vs:=by
  cases d with
  | ref k=>
    simp only [Zeh] at h
    split at h
    · rename_i C' fs' e
      cases h
      obtain ⟨hl,rfl⟩:=r
      obtain ⟨dx,vs,h1,h2⟩:=G.cel _ _ e
      exact ⟨hl,rfl,dx,vs,h1,h2⟩
    · cases h
  | _=>cases h
def zH (cs:List Str) (f:Str):D→Sto→R D:=fun d θ=>match Zeh θ d with
  | some (_,C,fs)=>if cs.contains C=true then (match fs.lookup f with
    | some v=>.ok v θ
    | none=>.bad) else .bad
  | none=>.bad
def ZE (cs:List Str) (f:Str) (fe:EM):EM:=fun ρ θ=>(fe ρ θ).bind (zH cs f)
def ZrK (X:Cx) (f:Str) (C:Str):Prop:=Cls X.K (X.cl.cl C)∧NoAttr X.K (X.cl.cl C) f
theorem Zs {P:Str→Prop} {a:Str} (h:P a):∀C,[a].contains C=true→P C:=fun C hc=>by
  have:C=a:=by simpa using hc
  rw [this]; exact h
theorem Zm {cs:List Str} {f:Str} {e:Expr} {fe:EM} {pos:Pos} (hc:∀C,cs.contains C=true→ZrK X f C) (he:ME X e fe) (hb:attributeBase e f X.env (eval e X.env)=eval e X.env:=by rfl):ME X (.Attribute e f pos) (ZE cs f fe):=by
  refine PE.imp (ZsE he hb) fun σ H Q h=>?_
  obtain ⟨B,θ,ρ,F,w⟩:=h
  refine ZW (step F w) ?_
  rintro v H1 ⟨B1,θ1,d,E1,F1,rd,w1⟩
  unfold zH at w1
  split at w1
  · rename_i l C fs e1
    split at w1
    · rename_i hC
      split at w1
      · rename_i y ey
        obtain ⟨hl,rfl,dx,vs,h1,h2⟩:=Zkp F1.good rd e1
        obtain ⟨u,h3,h4⟩:=h2.get ey
        exact ⟨_,_,dx,vs,u,rfl,h1,(hc C hC).1,(hc C hC).2,h3,ZR F1.good h4 w1⟩
      · exact w1.elim
    · exact w1.elim
  · exact w1.elim
def za (cs:List Str) (f:Str) (y d:D) (θ:Sto):Option Sto:=match Zeh θ d with
  | some (l,C,fs)=>if cs.contains C=true∧fs.length<1000 then some (θ.set l (.ins C (Zaw f y fs))) else none
  | none=>none
def ZB (cs:List Str) (f:Str) (fe fv:EM):SM:=fun ρ θ=>(fv ρ θ).bind fun y θ=>(fe ρ θ).bind fun d θ=>match za cs f y d θ with
  | some θ'=>.ok (.nx,ρ) θ'
  | none=>.bad
theorem Zx {cs:List Str} {f:Str} {o value:Expr} {fe fv:EM} {pos pos':Pos} (hc:∀C,cs.contains C=true→ZrK X f C) (he:ME X o fe) (hv:ME X value fv) (hs:swapsWith value (some (.Attribute o f pos')) pos.line X.env=pure false:=by rfl) :
    MS X (.Assign [.Attribute o f pos'] value pos) (ZB cs f fe fv):=
  PS.imp (Zsr he hv hs) fun D σ H h=>by
  obtain ⟨B,θ,ρ,F,w⟩:=h
  refine ZW (ZeP F w) ?_
  rintro y H1 ⟨B1,θ1,dy,E1,F1,ry,w1⟩
  refine ZW (ZeP F1 w1) ?_
  rintro v H2 ⟨B2,θ2,d,E2,F2,rd,w2⟩
  unfold za at w2
  cases e1:Zeh θ2 d with
  | none=>rw [e1] at w2; exact w2.elim
  | some q=>
    obtain ⟨l,C,fs⟩:=q
    rw [e1] at w2
    simp only at w2
    by_cases hC:cs.contains C=true∧fs.length<1000
    · rw [if_pos hC] at w2
      obtain ⟨hl,rfl,dx,vs,h1,h2⟩:=Zkp F2.good rd e1
      refine ⟨_,_,dx,vs,rfl,h1,(hc C hC.1).1,(hc C hC.1).2,by rw [h2.len]; exact hC.2,?_⟩
      have E3:=ZeF F2.good hl (.ins (X.cl.cl C) dx (Zdi f y vs))
      have G3:=Zei F2.good hl (o:=.ins (X.cl.cl C) dx (Zdi f y vs)) (c:=.ins C (Zaw f dy fs)) ⟨dx,_,zl,(h2.put (ry.ext E2.toExtS)).ext E3.toExtS⟩
      exact w2 _ _ _ E3.toExtS (F2.ext E3 G3)
    · rw [if_neg hC] at w2
      exact w2.elim
structure MMk (P:Program) (w:World) (K:PySem.W.Frag) (mg:Str→Option Value) (base:Heap) (k:Nat) (C:Str) (f:GM):Prop where
  ex:∃(fI:Addr) (fd:FuncData) (ps:List Str),Mk K (zX mg C) fI∧FnOk P w K mg base CX0 k fI fd ps (spM ⟨zX mg,K⟩ f)∧Binds K fd ps []
  mg:mg C=some (.ref (zX mg C))
def mkG (C:Str) (f:GM):GM:=fun vs θ=>(f (.ref θ.length::vs) (θ++[.ins C []])).bind fun v θ'=>match v with
  | .non=>.ok (.ref θ.length) θ'
  | _=>.bad
theorem wpR.made {σ:St} {B:Bx} {θ:Sto} {H:Hp} {C:Str} {f:GM} {ds:List D} {vs:List V} {Q:VK} {E:XK} (G:Good X.cl B θ H) (r:RepL B H ds vs) (w:wpR X σ RepV B H (mkG C f ds θ) Q) :
    ∀x dx,H x=none→H dx=none→dx≠x→spM X.cl f (.ref x::(vs++[])) (upd (upd H dx (.own x)) x (.ins (X.cl.cl C) dx [])) (fun v H2=>v=.non∧Q (.ref x) H2) E:=by
  intro x dx hx hdx ne
  have E1:=Zcw G hdx (.own x)
  have G1:=Zej G hdx (.own x)
  have hx1:upd H dx (.own x) x=none:=by rw [ZO (Ne.symm ne)]; exact hx
  have E2:=Zek G1 hx1 (.ins (X.cl.cl C) dx [])
  have G2:Good X.cl (B.push x) (θ++[.ins C []]) _:=ZfY G1 hx1 (o:=.ins (X.cl.cl C) dx []) (c:=.ins C []) ⟨dx,[],zl,.nil⟩
  have rx:RepV (B.push x) (upd (upd H dx (.own x)) x (.ins (X.cl.cl C) dx [])) (.ref θ.length) (.ref x):=⟨by rw [G.len]; exact Nat.lt_succ_self _,by rw [G.len]; show V.ref x=V.ref (if B.n=B.n then x else B.m B.n); rw [if_pos rfl]⟩
  rw [List.append_nil]
  refine ZlU (σ:=σ) G2 (show RepL _ _ (.ref θ.length::ds) (.ref x::vs) from ⟨_,_,rfl,rx,r.ext (E1.trans E2).toExtS⟩) ?_
  have w1:=wpR.trans w (E1.trans E2)
  refine (wpR.bind (Rel:=RepV) w1).mono ?_
  rintro v H3 ⟨B3,θ3,d,E3,G3,rd,w3⟩
  cases d with
  | non=>exact ⟨rd,ZR G3 (rx.ext E3.toExtS) w3⟩
  | _=>exact w3.elim
theorem Zqx {k j:Nat} {x:Str} {f:GM} {p pos:Pos} {e:Expr} {es:List Expr} {fs:AM} (M:MMk X.prog X.w X.K X.mg X.base k x f) (hr:Room j X.A) (hj:k+1≤j) (ha:MA X (e::es) fs) (hg:Gl X x:=by rfl) (hdb:(x == ("__debug__":Str))=false:=by decide)
    (he:starEach (e::es) X.env=(false,eval e X.env)::starEach es X.env:=by rfl) (hpl:(backTo pos (starEach es X.env)).any (·.1)=false:=by rfl):ME X (.Call (.Name x p) (e::es) [] pos) (mCB (mkG x f) fs):=by
  obtain ⟨fI,fd,ps,m,F0,b⟩:=M.ex
  refine PE.imp (Zqk m F0 (hr.mono hj) hg M.mg b .nil Zoy ha hdb he hpl) fun σ H Q h=>?_
  obtain ⟨B,θ,ρ,F,w⟩:=h
  refine Zbi (Zf6 F w) ?_
  rintro vs H1 ⟨B1,θ1,ds,E1,F1,rd,w1⟩
  exact wpR.made F1.good rd w1
theorem Zkh {k j:Nat} {x:Str} {f:GM} {p pos:Pos} (M:MMk X.prog X.w X.K X.mg X.base k x f) (hr:Room j X.A) (hj:k+1≤j) (hg:Gl X x:=by rfl) (hdb:(x == ("__debug__":Str))=false:=by decide):ME X (.Call (.Name x p) [] [] pos) (mCB (mkG x f) Zk):=by
  obtain ⟨fI,fd,ps,m,F0,b⟩:=M.ex
  refine PE.imp (Zoq m F0 (hr.mono hj) hg M.mg b .nil Zoy hdb) fun σ H Q h=>?_
  obtain ⟨B,θ,ρ,F,w⟩:=h
  exact wpR.made (ds:=[]) (vs:=[]) F.good (show RepL B H [] [] from rfl) w
structure ZyG (P:Program) (w:World) (K:PySem.W.Frag) (mg:Str→Option Value) (base:Heap) (k:Nat) (C m:Str) (f:GM):Prop where
  ex:∃(fa:Addr) (fd:FuncData) (ps:List Str),Zx2 K (zX mg C) m fa∧FnOk P w K mg base CX0 k fa fd ps (spM ⟨zX mg,K⟩ f)∧Binds K fd ps []
  cl:Cls K (zX mg C)
instance {C C':Str} {gs:List (Str×D)} {m:Str}:Decidable (C'=C∧gs.lookup m=none):=by
  cases h:gs.lookup m with
  | none=>exact if e:C'=C then isTrue ⟨e,rfl⟩ else isFalse fun z=>e z.1
  | some _=>exact isFalse fun z=>nomatch z.2
theorem mmk {P:Program} {w:World} {K:PySem.W.Frag} {mg:Str→Option Value} {base:Heap} {x qual:Str} {st:Stmt} {N ps:List Str} {k:Nat} {fb:SM} {f:Addr} {fd:FuncData} {C:Str} (F:Fun K x qual st f fd) (S:Zr N ps (Ze st)) (np nn:Nat) (hp:ps.length=np) (hn:N.length=nn) (b:Binds K fd ps []) (M:Mk K (zX mg C) f) (hm:mg C=some (.ref (zX mg C)))
    (hbody:∀(cdv:Value) (A:Around) (outer:List Env) (s:Shared) (H:Hp) (E:XK),Room k (A.deeper (envOfC qual (Ze st) s.heap.objs.size f cdv))→MSs (Zg1 CX0 P w K mg base N qual (Ze st) f cdv A outer s H E).nox (Zo st) fb):MMk P w K mg base (k+1) C (ZU np nn fb):=
  ⟨⟨f,fd,ps,M,mfn F S np nn hp hn hbody,b⟩,hm⟩
def ZkW:EM:=fun _ θ=>.ok (.ref θ.length) (θ++[.dK []])
theorem ZoP {pos:Pos}:ME X (.Dict [] [] pos) ZkW:=by
  refine PE.imp Zou fun σ H Q h=>?_
  obtain ⟨B,θ,ρ,F,w⟩:=h
  intro p hp
  have G:=F.good
  exact w (B.push p) _ _ (Zek G hp _) (ZfY G hp ⟨[],zl,.nil⟩) ⟨by rw [G.len]; exact Nat.lt_succ_self _,by rw [G.len]; show V.ref p=V.ref (if B.n=B.n then p else B.m B.n); rw [if_pos rfl]⟩
section
variable {ρ:List Sl} {θ:Sto} {fe fv fo:EM} {cs:List Str} {f:Str}
@[simp] theorem Zyh:ZE cs f fe ρ θ=(fe ρ θ).bind (zH cs f):=nr rfl
@[simp] theorem ZwX:ZB cs f fe fv ρ θ=(fv ρ θ).bind fun y θ=>(fe ρ θ).bind fun d θ=>match za cs f y d θ with
  | some θ'=>.ok (.nx,ρ) θ'
  | none=>.bad:=nr rfl
@[simp] theorem Zu2:ZkW ρ θ=.ok (.ref θ.length) (θ++[.dK []]):=nr rfl
end
end
end L2.MM
namespace L2.MM
open PySem PySem.Spec PyProof.Rows PySem.SeqAt
def Mk0 (K:PySem.W.Frag) (mg:Str→Option Value) (C qual:Str) (st:Stmt) (ps:List Str):Prop:=
  ∃(f:Addr) (fd:FuncData),Fun K "__init__" qual st f fd∧Binds K fd ps []∧Mk K (zX mg C) f∧mg C=some (.ref (zX mg C))
theorem ZlT {mg:Str→Option Value} {x:Str} {a:Addr} (h:mg x=some (.ref a)):zX mg x=a:=by unfold zX; rw [h]
theorem mk0 {P:Program} {w:World} {K:PySem.W.Frag} {mg:Str→Option Value} {base:Heap} {qual:Str} {st:Stmt} {N ps:List Str} {k:Nat} {fb:SM} {C:Str} (D:Mk0 K mg C qual st ps) (S:Zr N ps (Ze st)) (np nn:Nat) (hp:ps.length=np) (hn:N.length=nn)
    (hbody:∀(f:Addr) (cdv:Value) (A:Around) (outer:List Env) (s:Shared) (H:Hp) (E:XK),Room k (A.deeper (envOfC qual (Ze st) s.heap.objs.size f cdv))→MSs (Zg1 CX0 P w K mg base N qual (Ze st) f cdv A outer s H E).nox (Zo st) fb):MMk P w K mg base (k+1) C (ZU np nn fb):=by
  obtain ⟨f,fd,F,b,M,hm⟩:=D
  exact mmk F S np nn hp hn b M hm (hbody f)
end L2.MM
namespace My
open PySem L2 L2.MM
noncomputable section
def ZeX:SM:=(ZB ["Pile"] "row" (Zd 0) (ZeN Zk))
def ZbC:GM:=ZU 1 1 ZeX
def Zg8:SM:=(ZT (mOp ZeZ (mC (.int 64)) (mCB Zeg (Zc (ZE ["Pile"] "row" (Zd 0)) Zk))))
def ZdE:GM:=ZU 1 1 Zg8
def ZkB:SM:=(ZT (mOp Zbm (mOp zx (Zd 0) (Zd 1)) (mC (.int 4294967296))))
def zo:GM:=ZU 2 2 ZkB
def Zha:SM:=(ZT (mOp ZeZ (mOp Zbm (mOp zx (mOp ZeZ (Zd 0) (Zd 1)) (mC (.int 2147483648))) (mC (.int 4294967296))) (mC (.int 2147483648))))
def zB:GM:=ZU 2 2 Zha
def ZdS:SM:=(Zv (ZB ["End"] "ours" (Zd 0) (Zd 1))
  (Zv (ZB ["End"] "theirs" (Zd 0) (Zd 2))
  (Zv (ZB ["End"] "state" (Zd 0) (Zfr (z5 (Zd 4)) (mC (.str "syn sent")) (mC (.str "listen"))))
  (Zv (ZB ["End"] "error" (Zd 0) (mC (.str "")))
  (Zv (ZB ["End"] "first" (Zd 0) (Zd 3))
  (Zv (ZB ["End"] "una" (Zd 0) (Zd 3))
  (Zv (ZB ["End"] "nxt" (Zd 0) (Zd 3))
  (Zv (ZB ["End"] "rcv" (Zd 0) (mC (.int 0)))
  (Zv (ZB ["End"] "wnd" (Zd 0) (mC (.int 0)))
  (Zv (ZB ["End"] "told" (Zd 0) (mC (.int 0)))
  (Zv (ZB ["End"] "told_by" (Zd 0) (mC (.int 0)))
  (Zv (ZB ["End"] "most" (Zd 0) (mC (.int 12)))
  (Zv (ZB ["End"] "written" (Zd 0) (mCB (mkG "Pile" ZbC) Zk))
  (Zv (ZB ["End"] "come" (Zd 0) (mCB (mkG "Pile" ZbC) Zk))
  (Zv (ZB ["End"] "early" (Zd 0) ZkW)
  (Zv (ZB ["End"] "early_fin" (Zd 0) (mC .non))
  (Zv (ZB ["End"] "has_closed" (Zd 0) (mC (.bl false)))
  (Zv (ZB ["End"] "behind" (Zd 0) (mCB zo (Zc (Zd 3) (Zc (mC (.int 1)) Zk))))
  (Zv (ZB ["End"] "owed_reset" (Zd 0) (mC .non))
  (Zv (ZB ["End"] "owes_syn" (Zd 0) (mC (.bl false)))
  (Zv (ZB ["End"] "owes_answer" (Zd 0) (mC (.bl false)))
  (Zv (ZB ["End"] "probes" (Zd 0) (mC (.bl false)))
  (Zv (ZB ["End"] "since" (Zd 0) (mC (.int 0)))
  (Zv (ZB ["End"] "wait" (Zd 0) (mC (.int 1000)))
  (ZB ["End"] "tries" (Zd 0) (mC (.int 0)))))))))))))))))))))))))))
def Zb7:GM:=ZU 5 5 ZdS
def Zd1:SM:=(Zv (ZB ["End"] "since" (Zd 0) (Zd 1))
  (Zv (ZB ["End"] "wait" (Zd 0) (mC (.int 1000)))
  (ZB ["End"] "tries" (Zd 0) (mC (.int 0)))))
def Z6:GM:=ZU 2 2 Zd1
def ZhY:SM:=(ZT (ZE ["End"] "state" (Zd 0)))
def ZdD:GM:=ZU 1 1 ZhY
def Zes:SM:=(ZT (mCB ZdE (Zc (ZE ["End"] "come" (Zd 0)) Zk)))
def zK:GM:=ZU 1 1 Zes
def Zds:SM:=(ZT (mCB Zkf (Zc (ZE ["End"] "most" (Zd 0)) (Zc (mC (.int 16)) Zk))))
def z7:GM:=ZU 1 1 Zds
def Zeq:SM:=(mIf (ZI (mOp eqM (ZE ["End"] "state" (Zd 0)) (mC (.str "syn sent")))) (ZT (Zb8 (Zc (ZE ["End"] "ours" (Zd 0)) (Zc (ZE ["End"] "theirs" (Zd 0)) (Zc (ZE ["End"] "first" (Zd 0)) (Zc (mC (.int 0)) (Zc (mC (.int 2)) (Zc (mC (.int 64)) (Zc (mC (.int 16)) (Zc (Zb8 Zk) Zk)))))))))) ZS)
def ZfB:SM:=(Zv (ZB ["End"] "owes_syn" (Zd 0) (mC (.bl false)))
  (Zv Zeq
  (ZT (Zb8 (Zc (ZE ["End"] "ours" (Zd 0)) (Zc (ZE ["End"] "theirs" (Zd 0)) (Zc (ZE ["End"] "first" (Zd 0)) (Zc (ZE ["End"] "rcv" (Zd 0)) (Zc (mOp zx (mC (.int 2)) (mC (.int 16))) (Zc (mC (.int 64)) (Zc (mC (.int 16)) (Zc (Zb8 Zk) Zk))))))))))))
def Zbt:GM:=ZU 1 1 ZfB
def Zeo:SM:=(ZT (Zb8 (Zc (ZE ["End"] "ours" (Zd 0)) (Zc (ZE ["End"] "theirs" (Zd 0)) (Zc (Zd 1) (Zc (ZE ["End"] "rcv" (Zd 0)) (Zc (mOp zx (Zd 2) (mC (.int 16))) (Zc (mCB zK (Zc (Zd 0) Zk)) (Zc (mC (.int 0)) (Zc (mCB ZgL (Zc (Zd 3) Zk)) Zk))))))))))
def zA:GM:=ZU 4 4 Zeo
def Zcm:SM:=(mIf (ZI (mOp eqM (ZE ["End"] "tries" (Zd 0)) (mC (.int 6)))) (Zv (ZB ["End"] "state" (Zd 0) (mC (.str "closed")))
    (Zv (ZB ["End"] "error" (Zd 0) (mC (.str "time")))
    (ZT (mC .non)))) ZS)
def Zc7:SM:=(mIf (ZI (mOp inM (ZE ["End"] "state" (Zd 0)) (Zb8 (Zc (mC (.str "syn sent")) (Zc (mC (.str "syn come")) Zk))))) (ZT (mCB Zbt (Zc (Zd 0) Zk))) ZS)
def Zdx:SM:=(Zv Zcm
  (Zv (ZB ["End"] "tries" (Zd 0) (mOp zx (ZE ["End"] "tries" (Zd 0)) (mC (.int 1))))
  (Zv (ZB ["End"] "wait" (Zd 0) (mCB Zkf (Zc (mOp Zgu (mC (.int 2)) (ZE ["End"] "wait" (Zd 0))) (Zc (mC (.int 16000)) Zk))))
  (Zv (ZB ["End"] "since" (Zd 0) (Zd 1))
  (Zv Zc7
  (Zv (zc 2 (mSl (ZE ["Pile"] "row" (ZE ["End"] "written" (Zd 0))) Zcd (ZdV (mCB Zkf (Zc (mCB zB (Zc (ZE ["End"] "nxt" (Zd 0)) (Zc (ZE ["End"] "una" (Zd 0)) Zk))) (Zc (mCB z7 (Zc (Zd 0) Zk)) Zk))))))
  (ZT (mCB zA (Zc (Zd 0) (Zc (ZE ["End"] "una" (Zd 0)) (Zc (Zfr (ZI (mOp gtM (mCB Zeg (Zc (Zd 2) Zk)) (mC (.int 0)))) (mC (.int 0)) (mC (.int 1))) (Zc (Zd 2) Zk))))))))))))
def ZcV:GM:=ZU 2 3 Zdx
def ZaU:SM:=(mIf (ZeM (z5 (ZE ["End"] "owes_answer" (Zd 0)))) (ZT (mC .non)) ZS)
def Zbg:SM:=(Zv ZaU
  (Zv (ZB ["End"] "owes_answer" (Zd 0) (mC (.bl false)))
  (ZT (mCB zA (Zc (Zd 0) (Zc (ZE ["End"] "nxt" (Zd 0)) (Zc (mC (.int 0)) (Zc (ZeN Zk) Zk))))))))
def zT:GM:=ZU 1 1 Zbg
def Zg4:SM:=(ZT (mCB zB (Zc (ZE ["End"] "behind" (Zd 0)) (Zc (ZE ["End"] "nxt" (Zd 0)) Zk))))
def Zbj:GM:=ZU 1 1 Zg4
def Zdv:SM:=(ZT (Zcu (mOp inM (ZE ["End"] "state" (Zd 0)) (Zb8 (Zc (mC (.str "open")) (Zc (mC (.str "wait one")) (Zc (mC (.str "close wait")) (Zc (mC (.str "closing")) (Zc (mC (.str "last ack")) Zk))))))) (mOp gtM (mCB Zbj (Zc (Zd 0) Zk)) (mC (.int 0)))))
def z9:GM:=ZU 1 1 Zdv
def Zd2:SM:=(ZT (Zcu (mOp inM (ZE ["End"] "state" (Zd 0)) (Zb8 (Zc (mC (.str "wait one")) (Zc (mC (.str "closing")) (Zc (mC (.str "last ack")) Zk))))) (mOp eqM (mCB Zbj (Zc (Zd 0) Zk)) (mC (.int 0)))))
def Zbk:GM:=ZU 1 1 Zd2
def ZfE:SM:=(ZT (Zmr (mCB z9 (Zc (Zd 0) Zk)) (mCB Zbk (Zc (Zd 0) Zk))))
def Zbv:GM:=ZU 1 1 ZfE
def ZdO:SM:=(Zv (zc 2 (ZE ["End"] "nxt" (Zd 0)))
  (Zv (zc 3 (mCB Zkf (Zc (mCB z7 (Zc (Zd 0) Zk)) (Zc (mCB Zbj (Zc (Zd 0) Zk)) (Zc (Zd 1) Zk)))))
  (Zv (zc 4 (mCB zB (Zc (Zd 2) (Zc (ZE ["End"] "una" (Zd 0)) Zk))))
  (Zv (ZB ["End"] "nxt" (Zd 0) (mCB zo (Zc (Zd 2) (Zc (Zd 3) Zk))))
  (ZT (mCB zA (Zc (Zd 0) (Zc (Zd 2) (Zc (Zfr (ZI (mOp eqM (mCB Zbj (Zc (Zd 0) Zk)) (mC (.int 0)))) (mC (.int 8)) (mC (.int 0))) (Zc (mSl (ZE ["Pile"] "row" (ZE ["End"] "written" (Zd 0))) (ZdV (Zd 4)) (ZdV (mOp zx (Zd 4) (Zd 3)))) Zk))))))))))
def Zb4:GM:=ZU 2 5 ZdO
def Zgh:SM:=(Zv (zc 1 (ZE ["End"] "nxt" (Zd 0)))
  (Zv (ZB ["End"] "nxt" (Zd 0) (mCB zo (Zc (Zd 1) (Zc (mC (.int 1)) Zk))))
  (ZT (mCB zA (Zc (Zd 0) (Zc (Zd 1) (Zc (mC (.int 1)) (Zc (ZeN Zk) Zk))))))))
def Zdm:GM:=ZU 1 2 Zgh
def Zdd:SM:=(Zv (ZB ["End"] "probes" (Zd 0) (mC (.bl false)))
  (ZT (Zfr (z5 (mCB z9 (Zc (Zd 0) Zk))) (mCB Zb4 (Zc (Zd 0) (Zc (Zd 1) Zk))) (mCB Zdm (Zc (Zd 0) Zk)))))
def ZaK:GM:=ZU 2 2 Zdd
def Zdc:SM:=(mIf (ZI (mOp eqM (ZE ["End"] "nxt" (Zd 0)) (ZE ["End"] "una" (Zd 0)))) (zJ (mCB Z6 (Zc (Zd 0) (Zc (Zd 1) Zk)))) ZS)
def Zet:SM:=(Zv Zdc
  (Zv (ZB ["End"] "nxt" (Zd 0) (mCB zo (Zc (ZE ["End"] "first" (Zd 0)) (Zc (mC (.int 1)) Zk))))
  (ZT (mCB Zbt (Zc (Zd 0) Zk)))))
def Zcy:GM:=ZU 2 2 Zet
def zr:SM:=(mIf (ZI (mOp inM (ZE ["End"] "state" (Zd 0)) (Zb8 (Zc (mC (.str "syn sent")) (Zc (mC (.str "syn come")) Zk))))) (ZT (Zfr (mOr (ZI (mOp eqM (ZE ["End"] "nxt" (Zd 0)) (ZE ["End"] "first" (Zd 0)))) (z5 (ZE ["End"] "owes_syn" (Zd 0)))) (mCB Zcy (Zc (Zd 0) (Zc (Zd 1) Zk))) (mC .non))) ZS)
def Zab:SM:=(mIf (mOr (ZI (mOp leM (Zd 2) (mC (.int 0)))) (ZeM (z5 (mCB Zbv (Zc (Zd 0) Zk))))) (ZT (mC .non)) ZS)
def Zby:SM:=(mIf (ZI (mOp eqM (ZE ["End"] "nxt" (Zd 0)) (ZE ["End"] "una" (Zd 0)))) (zJ (mCB Z6 (Zc (Zd 0) (Zc (Zd 1) Zk)))) ZS)
def zI:SM:=(Zv zr
  (Zv (zc 2 (mOp ZeZ (ZE ["End"] "wnd" (Zd 0)) (mCB zB (Zc (ZE ["End"] "nxt" (Zd 0)) (Zc (ZE ["End"] "una" (Zd 0)) Zk)))))
  (Zv Zab
  (Zv Zby
  (Zv (ZB ["End"] "owes_answer" (Zd 0) (mC (.bl false)))
  (ZT (mCB ZaK (Zc (Zd 0) (Zc (Zd 2) Zk)))))))))
def Z5:GM:=ZU 2 3 zI
def Zhd:SM:=(ZT (mOp geM (mOp ZeZ (Zd 1) (ZE ["End"] "since" (Zd 0))) (ZE ["End"] "wait" (Zd 0))))
def ZcH:GM:=ZU 2 2 Zhd
def ze:SM:=(mIf (mOr (ZI (mOp neM (ZE ["End"] "nxt" (Zd 0)) (ZE ["End"] "una" (Zd 0)))) (mOr (ZI (mOp neM (ZE ["End"] "wnd" (Zd 0)) (mC (.int 0)))) (ZeM (z5 (mCB Zbv (Zc (Zd 0) Zk)))))) (Zv (ZB ["End"] "probes" (Zd 0) (mC (.bl false)))
    (ZT (mC .non))) ZS)
def Zam:SM:=(mIf (ZeM (z5 (ZE ["End"] "probes" (Zd 0)))) (Zv (ZB ["End"] "probes" (Zd 0) (mC (.bl true)))
    (zJ (mCB Z6 (Zc (Zd 0) (Zc (Zd 1) Zk))))) ZS)
def Zal:SM:=(mIf (ZeM (z5 (mCB ZcH (Zc (Zd 0) (Zc (Zd 1) Zk))))) (ZT (mC .non)) ZS)
def zq:SM:=(Zv ze
  (Zv Zam
  (Zv Zal
  (Zv (ZB ["End"] "since" (Zd 0) (Zd 1))
  (ZT (mCB ZaK (Zc (Zd 0) (Zc (mC (.int 1)) Zk))))))))
def Z7:GM:=ZU 2 2 zq
def Zer:SM:=(Zv (zc 1 (ZE ["End"] "owed_reset" (Zd 0)))
  (Zv (ZB ["End"] "owed_reset" (Zd 0) (mC .non))
  (ZT (Zd 1))))
def Zcv:GM:=ZU 1 2 Zer
def Zc4:SM:=(mIf (ZI (mOp Zin (ZE ["End"] "owed_reset" (Zd 0)) (mC .non))) (ZT (mCB Zcv (Zc (Zd 0) Zk))) ZS)
def Zex:SM:=(mIf (ZfT (ZI (mOp eqM (ZE ["End"] "state" (Zd 0)) (mC (.str "time wait")))) (ZI (mOp geM (mOp ZeZ (Zd 1) (ZE ["End"] "since" (Zd 0))) (mC (.int 120000))))) (ZB ["End"] "state" (Zd 0) (mC (.str "closed"))) ZS)
def ZbG:SM:=(mIf (ZI (mOp inM (ZE ["End"] "state" (Zd 0)) (Zb8 (Zc (mC (.str "closed")) (Zc (mC (.str "listen")) Zk))))) (ZT (mC .non)) ZS)
def Zcl:SM:=(mIf (ZfT (ZI (mOp neM (ZE ["End"] "nxt" (Zd 0)) (ZE ["End"] "una" (Zd 0)))) (z5 (mCB ZcH (Zc (Zd 0) (Zc (Zd 1) Zk))))) (ZT (mCB ZcV (Zc (Zd 0) (Zc (Zd 1) Zk)))) ZS)
def ZbF:SM:=(mIf (ZI (mOp isM (Zd 2) (mC .non))) (zc 2 (mCB Z7 (Zc (Zd 0) (Zc (Zd 1) Zk)))) ZS)
def ZbE:SM:=(mIf (ZI (mOp isM (Zd 2) (mC .non))) (zc 2 (mCB zT (Zc (Zd 0) Zk))) ZS)
def ZeI:SM:=(Zv Zc4
  (Zv Zex
  (Zv ZbG
  (Zv Zcl
  (Zv (zc 2 (mCB Z5 (Zc (Zd 0) (Zc (Zd 1) Zk))))
  (Zv ZbF
  (Zv ZbE
  (ZT (Zd 2)))))))))
def ZdF:GM:=ZU 2 3 ZeI
def Zg7:SM:=(Zv (zc 2 (mCB ZdF (Zc (Zd 0) (Zc (Zd 1) Zk))))
  (ZT (Zfr (ZI (mOp isM (Zd 2) (mC .non))) (ZeN Zk) (mCB Zj4 (Zc (Zd 2) Zk)))))
def Zbs:GM:=ZU 2 3 Zg7
def Zg9:SM:=(ZT (mCB (mkG "End" Zb7) (Zc (Zd 0) (Zc (Zd 1) (Zc (Zd 2) (Zc (Zd 3) Zk))))))
def Zci:GM:=ZU 4 4 Zg9
end
end My
namespace My
open PySem L2 L2.MM
noncomputable section
def cell (ns:List Int) (k:Int):Int:=if ns.length=0 then 0 else ns.getD (k % (ns.length:Int)).toNat 0
def mix (ns:List Int) (k:Int):Int:=
  ((cell ns k+104729*(k+1)) % 4294967291*48271 % 4294967279/64*69621+(cell ns k+104729*(k+1)) % 4294967291*48271 % 4294967279) % 4294967231
theorem ZoL (ns:List Int) (k:Int):0≤mix ns k∧mix ns k<4294967231:=by
  unfold mix; omega
theorem Zq4 {ns:List Int} {k:Int} (h:0<ns.length):atI (ns.map D.int) (k % (ns.length:Int))=some (.int (cell ns k)):=by
  have a:=Int.emod_nonneg k (show (ns.length:Int)≠0 by omega)
  have b:=Int.emod_lt_of_pos k (show (0:Int)<ns.length by omega)
  have c:(k % (ns.length:Int))=(((k % (ns.length:Int)).toNat:Nat):Int):=by omega
  rw [c]
  refine ZgF ?_
  have d:(k % (ns.length:Int)).toNat<ns.length:=by omega
  rw [List.getElem?_map,List.getElem?_eq_getElem d]
  unfold cell
  rw [if_neg (by omega),List.getD_eq_getElem?_getD,List.getElem?_eq_getElem d]
  rfl
@[simp] theorem Zxe (ns:List Int) (k:Int) (θ:Sto):ZfU [.scr ns,.int k] θ=.ok (.int (cell ns k)) θ:=by
  by_cases h:ns.length=0
  · have:ns=[]:=List.eq_nil_of_length_eq_zero h
    subst this
    simp [ZfU,Zhg,Ze9,cell]
  · have h1:ns.isEmpty=false:=by cases ns with
      | nil=>exact absurd rfl h
      | cons _ _=>rfl
    have h2:0<ns.length:=by omega
    simp [ZfU,Zhg,Ze9,h1,h2,Zq4 (k:=k) h2]
@[simp] theorem Zym (ns:List Int) (k:Int) (θ:Sto):Zbn [.scr ns,.int k] θ=.ok (.int (mix ns k)) θ:=by
  simp [Zbn,Zl0,Zf3,mix]
theorem Zgy {t:TMr} {body:SM} {n:Nat} {ρ:List Sl} {θ:Sto}:whileL t body (n+1) ρ θ=(t ρ θ).bind fun k θ=>if k=true then (body ρ θ).bind (Zf9 (whileL t body n)) else .ok (.nx,ρ) θ:=rfl
abbrev ZrD:TMr:=ZI (mOp gtM (Zd 1) (mC (.int 65535)))
abbrev ZrE:SM:=zc 1 (mOp zx (mOp Zbm (Zd 1) (mC (.int 65536))) (mOp Zgx (Zd 1) (mC (.int 65536))))
theorem Zk3 (t:Int) (x:Sl) (r:List Sl) (θ:Sto):ZrD (x::.val (.int t)::r) θ=.ok (decide (65535<t)) θ:=by simp
theorem Zo8 (t:Int) (x:Sl) (r:List Sl) (θ:Sto):ZrE (x::.val (.int t)::r) θ=.ok (.nx,x::.val (.int (t % 65536+t/65536))::r) θ:=by simp
theorem ZpV {t:Int} (n:Nat) (h0:0≤t) (h1:t<4294967296) (x:Sl) (r:List Sl) (θ:Sto):whileL ZrD ZrE (n+3) (x::.val (.int t)::r) θ=.ok (.nx,x::.val (.int (Zbo t))::r) θ:=by
  rw [Zgy,Zk3,R.bind_ok]
  by_cases c1:65535<t
  · have s1:=ZhP c1
    rw [if_pos (by simpa using c1),Zo8,R.bind_ok,Zb0]
    have hu:t % 65536+t/65536≤131070:=by omega
    generalize t % 65536+t/65536=u at s1 hu
    rw [Zgy,Zk3,R.bind_ok]
    by_cases c2:65535<u
    · have s2:=ZhP c2
      rw [if_pos (by simpa using c2),Zo8,R.bind_ok,Zb0]
      have hv:u % 65536+u/65536≤65535:=by omega
      generalize u % 65536+u/65536=v at s2 hv
      rw [Zgy,Zk3,R.bind_ok,if_neg (by simp; omega),←s1.1,←s2.1,Ze5 s2.2.1 hv]
    · rw [if_neg (by simpa using c2),←s1.1,Ze5 s1.2.1 (by omega)]
  · rw [if_neg (by simpa using c1),Ze5 h0 (by omega)]
theorem Zl7 {t:Int} (h0:0≤t) (h1:t<4294967296) (x:Sl) (r:List Sl) (θ:Sto):whileL (ZI (mOp gtM (Zd 1) (mC (.int 65535)))) (zc 1 (mOp zx (mOp Zbm (Zd 1) (mC (.int 65536))) (mOp Zgx (Zd 1) (mC (.int 65536))))) 200 (x::.val (.int t)::r) θ=.ok (.nx,x::.val (.int (Zbo t))::r) θ:=ZpV 197 h0 h1 x r θ
def Byt (ns:List Int):Prop:=(∀z∈ns,0≤z∧z≤255)∧ns.length≤1000
theorem Zlb:∀{ns:List Int} {m:Nat},(∀z∈ns,0≤z∧z≤255)→ns.length≤2*m→zS ns≤65535*m
  | [],m,_,_=>by simp [zS]; omega
  | [a],m,h,hl=>by
    have:=h a (by simp)
    simp [zS] at hl ⊢
    omega
  | a::b::r,m,h,hl=>by
    have h1:=h a (by simp)
    have h2:=h b (by simp)
    obtain ⟨m,rfl⟩:∃k,m=k+1:=⟨m-1,by simp at hl; omega⟩
    have:=Zlb (ns:=r) (m:=m) (fun z hz=>h z (by simp [hz])) (by simp at hl; omega)
    simp [zS]
    omega
theorem Byt.sum {ns:List Int} (h:Byt ns):0≤zS ns∧zS ns<4294967296:=by
  refine ⟨Zla fun z hz=>(h.1 z hz).1,?_⟩
  have:=Zlb (m:=500) h.1 (by have:=h.2; omega)
  omega
theorem ZjR {ns:List Int} (h:Byt ns) (θ:Sto):ZcI [il ns] θ=.ok (.int (Zbo (zS ns))) θ:=by
  have l1:=ZhQ ns
  have l2:=Zj5 ns
  have l3:=h.2
  have hs:=h.sum
  have e:=Zlc ns
  simp [ZcI,Zhe,ZfF,ZfO,Zf3,show (ZdY ns).length≤100000 by omega,show (ZgO ns).length≤100000 by omega,e]
  rw [Zl7 hs.1 hs.2]
  simp
theorem ZnY {ns:List Int} (h:Byt ns) (θ:Sto):Zd7 [il ns] θ=.ok (.int (65535-Zbo (zS ns))) θ:=by
  simp [Zd7,Zg6,ZjR h]
end
end My
namespace My
open PySem L2 L2.MM
noncomputable section
structure Seg where
  src:Int
  goal:Int
  num:Int
  ans:Int
  flags:Int
  win:Int
  most:Int
  data:List Int
def Seg.d (s:Seg):D:=.tup [.int s.src,.int s.goal,.int s.num,.int s.ans,.int s.flags,.int s.win,.int s.most,itp s.data]
structure Seg.Ok (s:Seg):Prop where
  src:0≤s.src∧s.src≤65535
  goal:0≤s.goal∧s.goal≤65535
  num:0≤s.num∧s.num≤4294967295
  ans:0≤s.ans∧s.ans≤4294967295
  flags:0≤s.flags∧s.flags≤31
  win:0≤s.win∧s.win≤65535
  most:s.most=0∨(4≤s.most∧s.most≤65535∧s.flags/2 % 2=1)
  data:(∀z∈s.data,0≤z∧z≤255)∧s.data.length≤16
section
variable {s:Seg} {θ:Sto}
@[simp] theorem d0:ixM s.d (.int 0) θ=.ok (.int s.src) θ:=nr rfl
@[simp] theorem d1:ixM s.d (.int 1) θ=.ok (.int s.goal) θ:=nr rfl
@[simp] theorem d2:ixM s.d (.int 2) θ=.ok (.int s.num) θ:=nr rfl
@[simp] theorem d3:ixM s.d (.int 3) θ=.ok (.int s.ans) θ:=nr rfl
@[simp] theorem d4:ixM s.d (.int 4) θ=.ok (.int s.flags) θ:=nr rfl
@[simp] theorem d5:ixM s.d (.int 5) θ=.ok (.int s.win) θ:=nr rfl
@[simp] theorem d6:ixM s.d (.int 6) θ=.ok (.int s.most) θ:=nr rfl
@[simp] theorem d7:ixM s.d (.int 7) θ=.ok (itp s.data) θ:=nr rfl
end
def two (k:Int):List Int:=[k/256 % 256,k % 256]
def Zmz (k:Int):List Int:=two (k/65536)++two k
def hd (s:Seg):Int:=if s.most=0 then 80 else 96
def ZbH (s:Seg):List Int:=two s.src++two s.goal++(Zmz s.num++Zmz s.ans)++[hd s,s.flags]++two s.win
def ZcW (m:Int):List Int:=if m=0 then [] else [2,4]++two m
def behind (s:Seg):List Int:=[0,0]++ZcW s.most++s.data
def putL (s:Seg):List Int:=ZbH s++two (65535-Zbo (zS (ZbH s++[0,0]++behind s)))++behind s
@[simp] theorem Zrc (k:Int) (θ:Sto):zk [.int k] θ=.ok (il (two k)) θ:=by
  simp [zk,ZeW,two]
@[simp] theorem two_len (k:Int):(two k).length=2:=rfl
@[simp] theorem ZuK (k:Int):(Zmz k).length=4:=rfl
@[simp] theorem ZtC (s:Seg):(ZbH s).length=16:=rfl
@[simp] theorem ZpU (k:Int) (θ:Sto):Zbb [.int k] θ=.ok (il (Zmz k)) θ:=by
  simp [Zbb,Zey,Zmz]
@[simp] theorem Zn2 (k:Int) (θ:Sto):zO [.int k] θ=.ok (.int (16*(k/4))) θ:=by
  simp [zO,Zdw,Zf3]
@[simp] theorem ZmH (k:Int) (θ:Sto):ZaP [.int k] θ=.ok (il (ZcW k)) θ:=by
  by_cases h:k=0<;>simp [ZaP,Zc6,ZcW,h,ZdJ]
@[simp] theorem Zu8 (s:Seg) (θ:Sto):zN [s.d] θ=.ok (il (ZbH s)) θ:=by
  by_cases h:s.most=0<;>simp [zN,ZbT,ZbH,hd,h]
theorem ZhI (m:Int):(ZcW m).length≤4:=by unfold ZcW; split<;>simp
theorem ZdM (k:Int):∀z∈two k,0≤z∧z≤255:=by
  intro z hz
  simp [two] at hz
  rcases hz with rfl | rfl<;>omega
theorem ZkA (k:Int):∀z∈Zmz k,0≤z∧z≤255:=by
  intro z hz
  rcases List.mem_append.mp hz with h | h
  · exact ZdM _ z h
  · exact ZdM _ z h
theorem Zbp {a b:List Int} (h1:∀z∈a,0≤z∧z≤255) (h2:∀z∈b,0≤z∧z≤255):∀z∈a++b,0≤z∧z≤255:=fun z hz=>(List.mem_append.mp hz).elim (h1 z) (h2 z)
theorem ZhT {s:Seg} (h:0≤s.flags∧s.flags≤255):∀z∈ZbH s,0≤z∧z≤255:=by
  refine Zbp (Zbp (Zbp (Zbp (ZdM _) (ZdM _)) (Zbp (ZkA _) (ZkA _))) ?_) (ZdM _)
  intro z hz
  simp at hz
  rcases hz with rfl | rfl
  · unfold hd; split<;>omega
  · exact h
theorem Zpr (m:Int):∀z∈ZcW m,0≤z∧z≤255:=by
  unfold ZcW
  split
  · intro z hz; simp at hz
  · refine Zbp ?_ (ZdM _)
    intro z hz
    simp at hz
    omega
theorem Zg3 {s:Seg} (h:∀z∈s.data,0≤z∧z≤255):∀z∈behind s,0≤z∧z≤255:=by
  refine Zbp (Zbp ?_ (Zpr _)) h
  intro z hz
  simp at hz
  omega
theorem Ze6 (s:Seg):(behind s).length≤6+s.data.length:=by
  have:=ZhI s.most
  simp [behind]
  omega
structure Seg.Put (s:Seg):Prop where
  flags:0≤s.flags∧s.flags≤255
  data:(∀z∈s.data,0≤z∧z≤255)∧s.data.length≤100
theorem Seg.Ok.put {s:Seg} (h:s.Ok):s.Put:=⟨⟨h.flags.1,by have:=h.flags.2; omega⟩,h.data.1,by have:=h.data.2; omega⟩
theorem Seg.Put.byt {s:Seg} (h:s.Put):Byt (ZbH s++[0,0]++behind s):=by
  refine ⟨Zbp (Zbp (ZhT h.flags) ?_) (Zg3 h.data.1),?_⟩
  · intro z hz
    simp at hz
    omega
  · have:=Ze6 s
    have:=h.data.2
    simp
    omega
theorem ZtO {s:Seg} (h:s.Put) (θ:Sto):Zj4 [s.d] θ=.ok (il (putL s)) θ:=by
  have b:=h.byt
  have l1:=ZhI s.most
  have l2:=h.data.2
  have l3:=Ze6 s
  have e1:0::0::(ZcW s.most++s.data)=behind s:=rfl
  have e2:=ZnY b θ
  simp only [List.append_assoc,List.cons_append,List.nil_append] at e2
  simp (disch:=first | done | (simp; done) | omega | (simp; omega)) [Zj4,ZlY,ZqG,-Zo2,e1,e2]
  simp [putL,show 18+(behind s).length≤100000 by omega]
theorem ZgG {a b c:List Int} (ha:a.length % 2=0) (hb:b.length % 2=0):zS (a++b++c)=zS a+zS b+zS c:=by
  rw [ZgH (by rw [List.length_append]; omega),ZgH ha]
theorem Zoh {s:Seg} (h:s.Put):Zbo (zS (putL s))=65535:=by
  have b:=h.byt
  have w0:=b.sum
  have e1:zS (putL s)=zS (ZbH s)+zS (two (65535-Zbo (zS (ZbH s++[0,0]++behind s))))+zS (behind s):=ZgG (by simp) (by simp)
  have e2:zS (ZbH s++[0,0]++behind s)=zS (ZbH s)+zS [0,0]+zS (behind s):=ZgG (by simp) (by simp)
  have e3:zS [0,0]=0:=by simp [zS]
  have f:=ZqS w0.1
  have e4:zS (two (65535-Zbo (zS (ZbH s++[0,0]++behind s))))=256*((65535-Zbo (zS (ZbH s++[0,0]++behind s)))/256)+(65535-Zbo (zS (ZbH s++[0,0]++behind s))) % 256:=by
    have:=f.2.1
    have:=f.1
    simp only [zS,two]
    omega
  have c:=Zk2 w0.1
  rw [e1,e4]
  rw [e3] at e2
  have:zS (ZbH s)+(256*((65535-Zbo (zS (ZbH s++[0,0]++behind s)))/256)+(65535-Zbo (zS (ZbH s++[0,0]++behind s))) % 256)+zS (behind s)=zS (ZbH s++[0,0]++behind s)+(256*((65535-Zbo (zS (ZbH s++[0,0]++behind s)))/256)+(65535-Zbo (zS (ZbH s++[0,0]++behind s))) % 256):=by omega
  rw [this]
  exact c
theorem Zqb {s:Seg} (h:s.Put):Byt (putL s):=by
  refine ⟨Zbp (Zbp (ZhT h.flags) (ZdM _)) (Zg3 h.data.1),?_⟩
  have:=Ze6 s
  have:=h.data.2
  simp [putL]
  omega
theorem Zlp {s:Seg}:(putL s).length=(if s.most=0 then 20 else 24)+s.data.length:=by
  unfold putL behind ZcW
  by_cases h:s.most=0<;>simp [h]<;>omega
theorem ZkM (s:Seg):∃x y,putL s=[s.src/256 % 256,s.src % 256,s.goal/256 % 256,s.goal % 256,s.num/65536/256 % 256,s.num/65536 % 256,s.num/256 % 256,s.num % 256,
    s.ans/65536/256 % 256,s.ans/65536 % 256,s.ans/256 % 256,s.ans % 256,hd s,s.flags,s.win/256 % 256,s.win % 256,x,y,0,0]++(ZcW s.most++s.data):=⟨_,_,rfl⟩
@[simp] theorem Zch {a:List Int} {i:Int} (h0:0≤i) (h:i+1<a.length) (θ:Sto):z6 [il a,.int i] θ=.ok (.int (256*gt a i.toNat+gt a (i+1).toNat)) θ:=by
  simp [z6,Zg5,ZfX (θ:=θ) h0 (show i<a.length by omega),ZfX (θ:=θ) (show 0≤i+1 by omega) h,Zf3]
@[simp] theorem Zhx {a:List Int} {i:Int} (h0:0≤i) (h:i+3<a.length) (θ:Sto):Zcz [il a,.int i] θ=.ok (.int (65536*(256*gt a i.toNat+gt a (i+1).toNat)+(256*gt a (i+2).toNat+gt a (i+2+1).toNat))) θ:=by
  simp [Zcz,Zgj,Zch (θ:=θ) h0 (show i+1<a.length by omega),Zch (θ:=θ) (show 0≤i+2 by omega) (show i+2+1<a.length by omega),Zf3]
@[simp] theorem Zhv {a:List Int} (h:12<a.length) (θ:Sto):Zba [il a] θ=.ok (.int (gt a 12/16*4)) θ:=by
  have:=ZfX (a:=a) (θ:=θ) (i:=12) (by decide) (by omega)
  simp [Zba,Zgi,this,Zf3]
def bit (f k:Int):Int:=if Builtin.bitAnd f k=0 then 0 else 1
@[simp] theorem Zyn (f k:Int) (θ:Sto):ZeQ [.int f,.int k] θ=.ok (.int (bit f k)) θ:=by
  by_cases h:Builtin.bitAnd f k=0<;>simp [ZeQ,ZlZ,bit,h]
theorem Zq2:∀n:Fin 32,bit (n.val:Int) 1=(n.val:Int) % 2∧bit (n.val:Int) 2=(n.val:Int)/2 % 2∧bit (n.val:Int) 4=(n.val:Int)/4 % 2∧bit (n.val:Int) 8=(n.val:Int)/8 % 2∧bit (n.val:Int) 16=(n.val:Int)/16 % 2:=by decide
theorem Zps {f:Int} (h:0≤f∧f≤31):bit f 1=f % 2∧bit f 2=f/2 % 2∧bit f 4=f/4 % 2∧bit f 8=f/8 % 2∧bit f 16=f/16 % 2:=by
  have:=Zq2 ⟨f.toNat,by omega⟩
  simp only at this
  rw [show ((f.toNat:Nat):Int)=f by omega] at this
  exact this
theorem Zn0 (s:Seg) (θ:Sto):Zcj [s.d] θ=.ok (.int (s.data.length+bit s.flags 2+bit s.flags 1)) θ:=by
  simp [Zcj,Zhb]
def at2 (a:List Int) (i:Nat):Int:=256*gt a i+gt a (i+1)
def at4 (a:List Int) (i:Nat):Int:=65536*at2 a i+at2 a (i+2)
def longOk (a:List Int):Bool:=decide (bit (gt a 13) 2=1) && (decide (gt a 20=2) && (decide (gt a 21=4) && decide (4≤at2 a 22)))
def ZbZ (a:List Int):Int:=gt a 12/16*4
def ZaM (a:List Int):Bool:=decide (20≤a.length) && (decide (gt a 12=80∨gt a 12=96) && (decide (gt a 13≤31) && (decide (0≤(a.length:Int)-ZbZ a∧(a.length:Int)-ZbZ a≤16) &&
  (decide (at2 a 18=0) && ((decide (ZbZ a=20) || longOk a) && decide (Zbo (zS a)=65535))))))
theorem ZrZ {a:List Int} (h:24≤a.length) (θ:Sto):zM [il a] θ=.ok (.bl (longOk a)) θ:=by
  have g:=fun (i:Int) (h0:0≤i) (h1:i<a.length)=>ZfX (a:=a) (θ:=θ) (i:=i) h0 h1
  have g13:=g 13 (by decide) (by omega)
  have g20:=g 20 (by decide) (by omega)
  have g21:=g 21 (by decide) (by omega)
  have g22:=Zch (a:=a) (i:=22) (by decide) (by omega) θ
  simp only [show (13:Int).toNat=13 from rfl,show (20:Int).toNat=20 from rfl,show (21:Int).toNat=21 from rfl,show (22:Int).toNat=22 from rfl,show (22+1:Int).toNat=23 from rfl] at g13 g20 g21 g22
  unfold longOk at2
  simp [zM,ZbQ,g13,g20,g21,g22]
theorem ZqF (x y z:Int) (θ:Sto):inM (.int x) (.tup [.int y,.int z]) θ=.ok (.bl (decide (x=y∨x=z))) θ:=by
  have e:inD θ (.int x) (.tup [.int y,.int z])=some (decide (y=x) || (decide (z=x) || false)):=rfl
  have e2:(decide (y=x) || (decide (z=x) || false))=decide (x=y∨x=z):=by
    rw [Bool.eq_iff_iff]
    simp only [Bool.or_eq_true,decide_eq_true_eq,Bool.false_eq_true,or_false]
    constructor
    · rintro (h | h)
      · exact .inl h.symm
      · exact .inr h.symm
    · rintro (h | h)
      · exact .inl h.symm
      · exact .inr h.symm
  unfold inM
  rw [e,e2]
theorem ZcC {a:List Int} (h:Byt a) (θ:Sto):z8 [il a] θ=.ok (.bl (ZaM a)) θ:=by
  by_cases c1:20≤a.length
  · have g:=fun (i:Int) (h0:0≤i) (h1:i<a.length)=>ZfX (a:=a) (θ:=θ) (i:=i) h0 h1
    have g12:=g 12 (by decide) (by omega)
    have g13:=g 13 (by decide) (by omega)
    have g18:=Zch (a:=a) (i:=18) (by decide) (by omega) θ
    have gh:=Zhv (a:=a) (by omega) θ
    have gf:=ZjR h θ
    have c1':(20:Int)≤a.length:=by omega
    simp only [show (12:Int).toNat=12 from rfl,show (13:Int).toNat=13 from rfl,show (18:Int).toNat=18 from rfl,show (18+1:Int).toNat=19 from rfl] at g12 g13 g18
    by_cases c2:gt a 12=80
    · rw [c2] at g12 gh
      simp [z8,Zbd,ZaM,ZbZ,at2,c1,c1',g12,g13,g18,gh,gf,ZqF,c2]<;>rfl
    · by_cases c3:gt a 12=96
      · rw [c3] at g12 gh
        by_cases c4:24≤a.length
        · have gl:=ZrZ c4 θ
          simp [z8,Zbd,ZaM,ZbZ,at2,c1,c1',g12,g13,g18,gh,gf,ZqF,c3,gl]<;>rfl
        · have c5:¬(24:Int)≤(a.length:Int):=by omega
          simp [z8,Zbd,ZaM,ZbZ,at2,c1,c1',g12,g13,g18,gh,gf,ZqF,c3,c5]<;>rfl
      · simp [z8,Zbd,ZaM,ZbZ,at2,c1,c1',g12,g13,g18,gh,gf,ZqF,c2,c3]
  · have c1':¬(20:Int)≤a.length:=by omega
    simp [z8,Zbd,ZaM,c1,c1']
def ZbM (a:List Int):Seg:=⟨at2 a 0,at2 a 2,at4 a 4,at4 a 8,gt a 13,at2 a 14,if ZbZ a=24 then at2 a 22 else 0,a.drop (ZbZ a).toNat⟩
theorem Zkm {a:List Int} (h:ZaM a=true):20≤a.length∧((ZbZ a=20)∨(ZbZ a=24∧24≤a.length∧longOk a=true))∧(a.length:Int)-ZbZ a≤16∧gt a 13≤31:=by
  unfold ZaM at h
  simp only [Bool.and_eq_true,decide_eq_true_eq,Bool.or_eq_true] at h
  obtain ⟨h1,h2,h3,h4,h5,h6,h7⟩:=h
  refine ⟨h1,?_,h4.2,h3⟩
  rcases h2 with h2 | h2
  · left; unfold ZbZ; rw [h2]; rfl
  · right
    have e:ZbZ a=24:=by unfold ZbZ; rw [h2]; rfl
    refine ⟨e,by have:=h4.1; rw [e] at this; omega,?_⟩
    rcases h6 with h6 | h6
    · rw [e] at h6; cases h6
    · exact h6
theorem Zlh {a:List Int} (h:Byt a) (hr:ZaM a=true) (θ:Sto):ZhE [il a] θ=.ok (ZbM a).d θ:=by
  obtain ⟨l1,l2,l3,l4⟩:=Zkm hr
  have ir:=ZcC h θ
  rw [hr] at ir
  have gh:=Zhv (a:=a) (by omega) θ
  have g13:=ZfX (a:=a) (θ:=θ) (i:=13) (by decide) (by omega)
  have q0:=Zch (a:=a) (i:=0) (by decide) (by omega) θ
  have q2:=Zch (a:=a) (i:=2) (by decide) (by omega) θ
  have q14:=Zch (a:=a) (i:=14) (by decide) (by omega) θ
  have q4:=Zhx (a:=a) (i:=4) (by decide) (by omega) θ
  have q8:=Zhx (a:=a) (i:=8) (by decide) (by omega) θ
  simp only [show (13:Int).toNat=13 from rfl,show (0:Int).toNat=0 from rfl,show (0+1:Int).toNat=1 from rfl,show (2:Int).toNat=2 from rfl,show (2+1:Int).toNat=3 from rfl,show (14:Int).toNat=14 from rfl,show (14+1:Int).toNat=15 from rfl,
    show (4:Int).toNat=4 from rfl,show (4+1:Int).toNat=5 from rfl,show (4+2:Int).toNat=6 from rfl,show (4+2+1:Int).toNat=7 from rfl,show (8:Int).toNat=8 from rfl,show (8+1:Int).toNat=9 from rfl,show (8+2:Int).toNat=10 from rfl,show (8+2+1:Int).toNat=11 from rfl] at g13 q0 q2 q14 q4 q8
  have gh':Zba [il a] θ=.ok (.int (ZbZ a)) θ:=gh
  have ps:∀x:Int,0≤x→Za7 a (some x) none=a.drop x.toNat:=fun x hx=>ZcL a hx
  rcases l2 with e | ⟨e,l5,_⟩
  · simp [ZhE,Ziz,Zf0,ir,gh',e,g13,q0,q2,q4,q8,q14,ps,ZbM,Seg.d,at2,at4]
  · have q22:=Zch (a:=a) (i:=22) (by decide) (by omega) θ
    simp only [show (22:Int).toNat=22 from rfl,show (22+1:Int).toNat=23 from rfl] at q22
    simp [ZhE,Ziz,Zf0,ir,gh',e,g13,q0,q2,q4,q8,q14,q22,ps,ZbM,Seg.d,at2,at4]
end
end My
namespace My
open PySem L2 L2.MM
noncomputable section
theorem Zog (s:Seg):gt (putL s) 12=hd s∧gt (putL s) 13=s.flags∧at2 (putL s) 18=0∧at2 (putL s) 0=256*(s.src/256 % 256)+s.src % 256∧at2 (putL s) 2=256*(s.goal/256 % 256)+s.goal % 256∧
    at4 (putL s) 4=65536*(256*(s.num/65536/256 % 256)+s.num/65536 % 256)+(256*(s.num/256 % 256)+s.num % 256)∧at4 (putL s) 8=65536*(256*(s.ans/65536/256 % 256)+s.ans/65536 % 256)+(256*(s.ans/256 % 256)+s.ans % 256)∧
    at2 (putL s) 14=256*(s.win/256 % 256)+s.win % 256:=by
  obtain ⟨x,y,e⟩:=ZkM s
  rw [e]
  unfold at4 at2
  refine ⟨rfl,rfl,?_,rfl,rfl,rfl,rfl,rfl⟩
  show 256*(0:Int)+0=0
  rfl
theorem Zj2 (s:Seg) (h:s.most≠0):gt (putL s) 20=2∧gt (putL s) 21=4∧at2 (putL s) 22=256*(s.most/256 % 256)+s.most % 256:=by
  obtain ⟨x,y,e⟩:=ZkM s
  have e2:ZcW s.most=[2,4,s.most/256 % 256,s.most % 256]:=by unfold ZcW; rw [if_neg h]; rfl
  rw [e,e2]
  unfold at2
  exact ⟨rfl,rfl,rfl⟩
theorem Zme {s:Seg} (h:s.Ok):ZaM (putL s)=true:=by
  obtain ⟨g12,g13,g18,_⟩:=Zog s
  have hl:=Zlp (s:=s)
  have hd':=h.data.2
  have hf:=Zoh h.put
  have hw:=h.flags
  unfold ZaM longOk ZbZ
  simp only [Bool.and_eq_true,decide_eq_true_eq,Bool.or_eq_true]
  rw [g12,g13,g18,hf,hl]
  by_cases m:s.most=0
  · have e:hd s=80:=if_pos m
    rw [e,if_pos m]
    simp
    omega
  · have e:hd s=96:=if_neg m
    obtain ⟨p1,p2,p3⟩:=Zj2 s m
    have hm:4≤s.most∧s.most≤65535∧s.flags/2 % 2=1:=h.most.resolve_left m
    have hb:=(Zps h.flags).2.1
    rw [e,if_neg m,p1,p2,p3,hb]
    simp
    omega
theorem Zpd (s:Seg):(putL s).drop (if s.most=0 then 20 else 24)=s.data:=by
  obtain ⟨x,y,e⟩:=ZkM s
  rw [e]
  by_cases m:s.most=0
  · rw [if_pos m]
    simp [ZcW,m]
  · rw [if_neg m]
    simp [ZcW,m,two]
theorem ZqO {s:Seg} (h:s.Ok):ZbM (putL s)=s:=by
  obtain ⟨g12,g13,g18,g0,g2,g4,g8,g14⟩:=Zog s
  have e0:=Zpd s
  obtain ⟨⟨a1,a2⟩,⟨b1,b2⟩,⟨c1,c2⟩,⟨d1,d2⟩,_,⟨f1,f2⟩,hm,_⟩:=h
  unfold ZbM ZbZ
  rw [g12,g13,g0,g2,g4,g8,g14]
  obtain ⟨src,goal,num,ans,flags,win,most,data⟩:=s
  simp only at *
  by_cases m:most=0
  · subst m
    have e:hd ⟨src,goal,num,ans,flags,win,0,data⟩=80:=rfl
    rw [e]
    simp only [if_true] at e0
    simp [e0]
    omega
  · have e:hd ⟨src,goal,num,ans,flags,win,most,data⟩=96:=if_neg m
    obtain ⟨_,_,p3⟩:=Zj2 ⟨src,goal,num,ans,flags,win,most,data⟩ m
    simp only at p3
    rw [e,p3]
    rw [if_neg m] at e0
    simp [e0]
    have:=hm.resolve_left m
    omega
end
end My
namespace My
open PySem L2 L2.MM
noncomputable section
inductive State where
  | closed | listen | synSent | synCome | opn | waitOne | waitTwo | closeWait | closing | lastAck | timeWait
  deriving DecidableEq
def State.s:State→Str
  | .closed=>"closed" | .listen=>"listen" | .synSent=>"syn sent" | .synCome=>"syn come" | .opn=>"open" | .waitOne=>"wait one" | .waitTwo=>"wait two" | .closeWait=>"close wait" | .closing=>"closing" | .lastAck=>"last ack" | .timeWait=>"time wait"
inductive Err where
  | none | refused | reset | time
  deriving DecidableEq
def Err.s:Err→Str
  | .none=>"" | .refused=>"refused" | .reset=>"reset" | .time=>"time"
structure Zu where
  ours:Int
  theirs:Int
  state:State
  error:Err
  first:Int
  una:Int
  nxt:Int
  rcv:Int
  wnd:Int
  told:Int
  told_by:Int
  most:Int
  written:List Int
  come:List Int
  early:List (Int×Int)
  early_fin:Option Int
  has_closed:Bool
  behind:Int
  owed_reset:Option Seg
  owes_syn:Bool
  owes_answer:Bool
  probes:Bool
  since:Int
  wait:Int
  tries:Int
def Zgw:Option Int→D
  | none=>.non
  | some i=>.int i
def Zbe:Option Seg→D
  | none=>.non
  | some s=>s.d
def fields (l:Nat) (e:Zu):List (Str×D):=[("ours",.int e.ours),("theirs",.int e.theirs),("state",.str e.state.s),("error",.str e.error.s),("first",.int e.first),("una",.int e.una),("nxt",.int e.nxt),("rcv",.int e.rcv),("wnd",.int e.wnd),("told",.int e.told),("told_by",.int e.told_by),("most",.int e.most),("written",.ref (l+1)),("come",.ref (l+2)),("early",.ref (l+3)),("early_fin",Zgw e.early_fin),("has_closed",.bl e.has_closed),("behind",.int e.behind),("owed_reset",Zbe e.owed_reset),("owes_syn",.bl e.owes_syn),("owes_answer",.bl e.owes_answer),("probes",.bl e.probes),("since",.int e.since),("wait",.int e.wait),("tries",.int e.tries)]
def c0 (l:Nat) (e:Zu):Cell:=.ins "End" (fields l e)
def c1 (e:Zu):Cell:=.ins "Pile" [("row",il e.written)]
def c2 (e:Zu):Cell:=.ins "Pile" [("row",il e.come)]
def c3 (e:Zu):Cell:=.dK (e.early.map fun p=>(Sum.inl p.1,D.int p.2))
def upE (θ:Sto) (l:Nat) (e:Zu):Sto:=(((θ.set l (c0 l e)).set (l+1) (c1 e)).set (l+2) (c2 e)).set (l+3) (c3 e)
theorem at0 {θ:Sto} {l:Nat} (h:l+3 < θ.length) (e:Zu):(upE θ l e)[l]?=some (c0 l e):=by
  unfold upE
  rw [List.getElem?_set_ne (by omega),List.getElem?_set_ne (by omega),List.getElem?_set_ne (by omega),List.getElem?_set_self (by omega)]
theorem at1 {θ:Sto} {l:Nat} (h:l+3 < θ.length) (e:Zu):(upE θ l e)[l+1]?=some (c1 e):=by
  unfold upE
  rw [List.getElem?_set_ne (by omega),List.getElem?_set_ne (by omega),List.getElem?_set_self (by simp; omega)]
theorem ZuT {θ:Sto} {l:Nat} (h:l+3 < θ.length) (e:Zu):(upE θ l e)[l+2]?=some (c2 e):=by
  unfold upE
  rw [List.getElem?_set_ne (by omega),List.getElem?_set_self (by simp; omega)]
theorem ZdB {θ:Sto} {l:Nat} (h:l+3 < θ.length) (e e':Zu) (h1:e'.written=e.written) (h2:e'.come=e.come) (h3:e'.early=e.early):(upE θ l e).set l (c0 l e')=upE θ l e':=by
  unfold upE
  rw [show c1 e'=c1 e by unfold c1; rw [h1],show c2 e'=c2 e by unfold c2; rw [h2],show c3 e'=c3 e by unfold c3; rw [h3]]
  apply List.ext_getElem?
  intro i
  simp only [List.getElem?_set,List.length_set]
  by_cases h3:l=i
  · subst h3; simp
  · simp [h3]
theorem Zat {θ:Sto} {l:Nat} (h:l+3 < θ.length) (e:Zu):Zeh (upE θ l e) (.ref l)=some (l,("End":Str),fields l e):=by
  show (match (upE θ l e)[l]? with | some (Cell.ins C fs)=>some (l,C,fs) | _=>none)=_
  rw [at0 h]
  rfl
theorem ce:(["End"]:List Str).contains "End"=true:=by decide +kernel
theorem cp:(["Pile"]:List Str).contains "Pile"=true:=by decide +kernel
@[simp] theorem ZxR {θ:Sto} {l:Nat} (h:l+3 < θ.length) (e:Zu):zH ["End"] "ours" (.ref l) (upE θ l e)=.ok (.int e.ours) (upE θ l e):=by
  unfold zH
  rw [Zat h]
  simp only [ce,if_true]
  rw [show (fields l e).lookup ("ours":Str)=some (.int e.ours) by with_unfolding_all rfl]
@[simp] theorem ZuF {θ:Sto} {l:Nat} (h:l+3 < θ.length) (e:Zu):zH ["End"] "theirs" (.ref l) (upE θ l e)=.ok (.int e.theirs) (upE θ l e):=by
  unfold zH
  rw [Zat h]
  simp only [ce,if_true]
  rw [show (fields l e).lookup ("theirs":Str)=some (.int e.theirs) by with_unfolding_all rfl]
@[simp] theorem Zvj {θ:Sto} {l:Nat} (h:l+3 < θ.length) (e:Zu):zH ["End"] "state" (.ref l) (upE θ l e)=.ok (.str e.state.s) (upE θ l e):=by
  unfold zH
  rw [Zat h]
  simp only [ce,if_true]
  rw [show (fields l e).lookup ("state":Str)=some (.str e.state.s) by with_unfolding_all rfl]
@[simp] theorem Zvl {θ:Sto} {l:Nat} (h:l+3 < θ.length) (e:Zu):zH ["End"] "first" (.ref l) (upE θ l e)=.ok (.int e.first) (upE θ l e):=by
  unfold zH
  rw [Zat h]
  simp only [ce,if_true]
  rw [show (fields l e).lookup ("first":Str)=some (.int e.first) by with_unfolding_all rfl]
@[simp] theorem Zyx {θ:Sto} {l:Nat} (h:l+3 < θ.length) (e:Zu):zH ["End"] "una" (.ref l) (upE θ l e)=.ok (.int e.una) (upE θ l e):=by
  unfold zH
  rw [Zat h]
  simp only [ce,if_true]
  rw [show (fields l e).lookup ("una":Str)=some (.int e.una) by with_unfolding_all rfl]
@[simp] theorem Zyz {θ:Sto} {l:Nat} (h:l+3 < θ.length) (e:Zu):zH ["End"] "nxt" (.ref l) (upE θ l e)=.ok (.int e.nxt) (upE θ l e):=by
  unfold zH
  rw [Zat h]
  simp only [ce,if_true]
  rw [show (fields l e).lookup ("nxt":Str)=some (.int e.nxt) by with_unfolding_all rfl]
@[simp] theorem Zyy {θ:Sto} {l:Nat} (h:l+3 < θ.length) (e:Zu):zH ["End"] "rcv" (.ref l) (upE θ l e)=.ok (.int e.rcv) (upE θ l e):=by
  unfold zH
  rw [Zat h]
  simp only [ce,if_true]
  rw [show (fields l e).lookup ("rcv":Str)=some (.int e.rcv) by with_unfolding_all rfl]
@[simp] theorem Zyw {θ:Sto} {l:Nat} (h:l+3 < θ.length) (e:Zu):zH ["End"] "wnd" (.ref l) (upE θ l e)=.ok (.int e.wnd) (upE θ l e):=by
  unfold zH
  rw [Zat h]
  simp only [ce,if_true]
  rw [show (fields l e).lookup ("wnd":Str)=some (.int e.wnd) by with_unfolding_all rfl]
@[simp] theorem ZxO {θ:Sto} {l:Nat} (h:l+3 < θ.length) (e:Zu):zH ["End"] "told" (.ref l) (upE θ l e)=.ok (.int e.told) (upE θ l e):=by
  unfold zH
  rw [Zat h]
  simp only [ce,if_true]
  rw [show (fields l e).lookup ("told":Str)=some (.int e.told) by with_unfolding_all rfl]
@[simp] theorem ZtA {θ:Sto} {l:Nat} (h:l+3 < θ.length) (e:Zu):zH ["End"] "told_by" (.ref l) (upE θ l e)=.ok (.int e.told_by) (upE θ l e):=by
  unfold zH
  rw [Zat h]
  simp only [ce,if_true]
  rw [show (fields l e).lookup ("told_by":Str)=some (.int e.told_by) by with_unfolding_all rfl]
@[simp] theorem ZxS {θ:Sto} {l:Nat} (h:l+3 < θ.length) (e:Zu):zH ["End"] "most" (.ref l) (upE θ l e)=.ok (.int e.most) (upE θ l e):=by
  unfold zH
  rw [Zat h]
  simp only [ce,if_true]
  rw [show (fields l e).lookup ("most":Str)=some (.int e.most) by with_unfolding_all rfl]
@[simp] theorem Ztz {θ:Sto} {l:Nat} (h:l+3 < θ.length) (e:Zu):zH ["End"] "written" (.ref l) (upE θ l e)=.ok (.ref (l+1)) (upE θ l e):=by
  unfold zH
  rw [Zat h]
  simp only [ce,if_true]
  rw [show (fields l e).lookup ("written":Str)=some (.ref (l+1)) by with_unfolding_all rfl]
@[simp] theorem ZxT {θ:Sto} {l:Nat} (h:l+3 < θ.length) (e:Zu):zH ["End"] "come" (.ref l) (upE θ l e)=.ok (.ref (l+2)) (upE θ l e):=by
  unfold zH
  rw [Zat h]
  simp only [ce,if_true]
  rw [show (fields l e).lookup ("come":Str)=some (.ref (l+2)) by with_unfolding_all rfl]
@[simp] theorem Zvm {θ:Sto} {l:Nat} (h:l+3 < θ.length) (e:Zu):zH ["End"] "early" (.ref l) (upE θ l e)=.ok (.ref (l+3)) (upE θ l e):=by
  unfold zH
  rw [Zat h]
  simp only [ce,if_true]
  rw [show (fields l e).lookup ("early":Str)=some (.ref (l+3)) by with_unfolding_all rfl]
@[simp] theorem ZrC {θ:Sto} {l:Nat} (h:l+3 < θ.length) (e:Zu):zH ["End"] "early_fin" (.ref l) (upE θ l e)=.ok (Zgw e.early_fin) (upE θ l e):=by
  unfold zH
  rw [Zat h]
  simp only [ce,if_true]
  rw [show (fields l e).lookup ("early_fin":Str)=some (Zgw e.early_fin) by with_unfolding_all rfl]
@[simp] theorem ZqR {θ:Sto} {l:Nat} (h:l+3 < θ.length) (e:Zu):zH ["End"] "has_closed" (.ref l) (upE θ l e)=.ok (.bl e.has_closed) (upE θ l e):=by
  unfold zH
  rw [Zat h]
  simp only [ce,if_true]
  rw [show (fields l e).lookup ("has_closed":Str)=some (.bl e.has_closed) by with_unfolding_all rfl]
@[simp] theorem ZuH {θ:Sto} {l:Nat} (h:l+3 < θ.length) (e:Zu):zH ["End"] "behind" (.ref l) (upE θ l e)=.ok (.int e.behind) (upE θ l e):=by
  unfold zH
  rw [Zat h]
  simp only [ce,if_true]
  rw [show (fields l e).lookup ("behind":Str)=some (.int e.behind) by with_unfolding_all rfl]
@[simp] theorem ZqQ {θ:Sto} {l:Nat} (h:l+3 < θ.length) (e:Zu):zH ["End"] "owed_reset" (.ref l) (upE θ l e)=.ok (Zbe e.owed_reset) (upE θ l e):=by
  unfold zH
  rw [Zat h]
  simp only [ce,if_true]
  rw [show (fields l e).lookup ("owed_reset":Str)=some (Zbe e.owed_reset) by with_unfolding_all rfl]
@[simp] theorem Zs5 {θ:Sto} {l:Nat} (h:l+3 < θ.length) (e:Zu):zH ["End"] "owes_syn" (.ref l) (upE θ l e)=.ok (.bl e.owes_syn) (upE θ l e):=by
  unfold zH
  rw [Zat h]
  simp only [ce,if_true]
  rw [show (fields l e).lookup ("owes_syn":Str)=some (.bl e.owes_syn) by with_unfolding_all rfl]
@[simp] theorem ZpH {θ:Sto} {l:Nat} (h:l+3 < θ.length) (e:Zu):zH ["End"] "owes_answer" (.ref l) (upE θ l e)=.ok (.bl e.owes_answer) (upE θ l e):=by
  unfold zH
  rw [Zat h]
  simp only [ce,if_true]
  rw [show (fields l e).lookup ("owes_answer":Str)=some (.bl e.owes_answer) by with_unfolding_all rfl]
@[simp] theorem ZuG {θ:Sto} {l:Nat} (h:l+3 < θ.length) (e:Zu):zH ["End"] "probes" (.ref l) (upE θ l e)=.ok (.bl e.probes) (upE θ l e):=by
  unfold zH
  rw [Zat h]
  simp only [ce,if_true]
  rw [show (fields l e).lookup ("probes":Str)=some (.bl e.probes) by with_unfolding_all rfl]
@[simp] theorem Zvk {θ:Sto} {l:Nat} (h:l+3 < θ.length) (e:Zu):zH ["End"] "since" (.ref l) (upE θ l e)=.ok (.int e.since) (upE θ l e):=by
  unfold zH
  rw [Zat h]
  simp only [ce,if_true]
  rw [show (fields l e).lookup ("since":Str)=some (.int e.since) by with_unfolding_all rfl]
@[simp] theorem ZxN {θ:Sto} {l:Nat} (h:l+3 < θ.length) (e:Zu):zH ["End"] "wait" (.ref l) (upE θ l e)=.ok (.int e.wait) (upE θ l e):=by
  unfold zH
  rw [Zat h]
  simp only [ce,if_true]
  rw [show (fields l e).lookup ("wait":Str)=some (.int e.wait) by with_unfolding_all rfl]
@[simp] theorem Zvi {θ:Sto} {l:Nat} (h:l+3 < θ.length) (e:Zu):zH ["End"] "tries" (.ref l) (upE θ l e)=.ok (.int e.tries) (upE θ l e):=by
  unfold zH
  rw [Zat h]
  simp only [ce,if_true]
  rw [show (fields l e).lookup ("tries":Str)=some (.int e.tries) by with_unfolding_all rfl]
@[simp] theorem Zt2 {θ:Sto} {l:Nat} (h:l+3 < θ.length) (e:Zu) (v:Int):za ["End"] "theirs" (.int v) (.ref l) (upE θ l e)=some (upE θ l { e with theirs:=v }):=by
  unfold za
  rw [Zat h]
  simp only [ce]
  rw [if_pos ⟨trivial,show 25<1000 by decide⟩,show Zaw ("theirs":Str) (.int v) (fields l e)=fields l { e with theirs:=v } by with_unfolding_all rfl]
  exact congrArg some (ZdB h e { e with theirs:=v } rfl rfl rfl)
@[simp] theorem Zva {θ:Sto} {l:Nat} (h:l+3 < θ.length) (e:Zu) (v:State):za ["End"] "state" (.str v.s) (.ref l) (upE θ l e)=some (upE θ l { e with state:=v }):=by
  unfold za
  rw [Zat h]
  simp only [ce]
  rw [if_pos ⟨trivial,show 25<1000 by decide⟩,show Zaw ("state":Str) (.str v.s) (fields l e)=fields l { e with state:=v } by with_unfolding_all rfl]
  exact congrArg some (ZdB h e { e with state:=v } rfl rfl rfl)
@[simp] theorem Zvc {θ:Sto} {l:Nat} (h:l+3 < θ.length) (e:Zu) (v:Err):za ["End"] "error" (.str v.s) (.ref l) (upE θ l e)=some (upE θ l { e with error:=v }):=by
  unfold za
  rw [Zat h]
  simp only [ce]
  rw [if_pos ⟨trivial,show 25<1000 by decide⟩,show Zaw ("error":Str) (.str v.s) (fields l e)=fields l { e with error:=v } by with_unfolding_all rfl]
  exact congrArg some (ZdB h e { e with error:=v } rfl rfl rfl)
@[simp] theorem Zyp {θ:Sto} {l:Nat} (h:l+3 < θ.length) (e:Zu) (v:Int):za ["End"] "una" (.int v) (.ref l) (upE θ l e)=some (upE θ l { e with una:=v }):=by
  unfold za
  rw [Zat h]
  simp only [ce]
  rw [if_pos ⟨trivial,show 25<1000 by decide⟩,show Zaw ("una":Str) (.int v) (fields l e)=fields l { e with una:=v } by with_unfolding_all rfl]
  exact congrArg some (ZdB h e { e with una:=v } rfl rfl rfl)
@[simp] theorem Zyr {θ:Sto} {l:Nat} (h:l+3 < θ.length) (e:Zu) (v:Int):za ["End"] "nxt" (.int v) (.ref l) (upE θ l e)=some (upE θ l { e with nxt:=v }):=by
  unfold za
  rw [Zat h]
  simp only [ce]
  rw [if_pos ⟨trivial,show 25<1000 by decide⟩,show Zaw ("nxt":Str) (.int v) (fields l e)=fields l { e with nxt:=v } by with_unfolding_all rfl]
  exact congrArg some (ZdB h e { e with nxt:=v } rfl rfl rfl)
@[simp] theorem Zyq {θ:Sto} {l:Nat} (h:l+3 < θ.length) (e:Zu) (v:Int):za ["End"] "rcv" (.int v) (.ref l) (upE θ l e)=some (upE θ l { e with rcv:=v }):=by
  unfold za
  rw [Zat h]
  simp only [ce]
  rw [if_pos ⟨trivial,show 25<1000 by decide⟩,show Zaw ("rcv":Str) (.int v) (fields l e)=fields l { e with rcv:=v } by with_unfolding_all rfl]
  exact congrArg some (ZdB h e { e with rcv:=v } rfl rfl rfl)
@[simp] theorem Zyo {θ:Sto} {l:Nat} (h:l+3 < θ.length) (e:Zu) (v:Int):za ["End"] "wnd" (.int v) (.ref l) (upE θ l e)=some (upE θ l { e with wnd:=v }):=by
  unfold za
  rw [Zat h]
  simp only [ce]
  rw [if_pos ⟨trivial,show 25<1000 by decide⟩,show Zaw ("wnd":Str) (.int v) (fields l e)=fields l { e with wnd:=v } by with_unfolding_all rfl]
  exact congrArg some (ZdB h e { e with wnd:=v } rfl rfl rfl)
@[simp] theorem Zxs {θ:Sto} {l:Nat} (h:l+3 < θ.length) (e:Zu) (v:Int):za ["End"] "told" (.int v) (.ref l) (upE θ l e)=some (upE θ l { e with told:=v }):=by
  unfold za
  rw [Zat h]
  simp only [ce]
  rw [if_pos ⟨trivial,show 25<1000 by decide⟩,show Zaw ("told":Str) (.int v) (fields l e)=fields l { e with told:=v } by with_unfolding_all rfl]
  exact congrArg some (ZdB h e { e with told:=v } rfl rfl rfl)
@[simp] theorem Ztr {θ:Sto} {l:Nat} (h:l+3 < θ.length) (e:Zu) (v:Int):za ["End"] "told_by" (.int v) (.ref l) (upE θ l e)=some (upE θ l { e with told_by:=v }):=by
  unfold za
  rw [Zat h]
  simp only [ce]
  rw [if_pos ⟨trivial,show 25<1000 by decide⟩,show Zaw ("told_by":Str) (.int v) (fields l e)=fields l { e with told_by:=v } by with_unfolding_all rfl]
  exact congrArg some (ZdB h e { e with told_by:=v } rfl rfl rfl)
@[simp] theorem Zxv {θ:Sto} {l:Nat} (h:l+3 < θ.length) (e:Zu) (v:Int):za ["End"] "most" (.int v) (.ref l) (upE θ l e)=some (upE θ l { e with most:=v }):=by
  unfold za
  rw [Zat h]
  simp only [ce]
  rw [if_pos ⟨trivial,show 25<1000 by decide⟩,show Zaw ("most":Str) (.int v) (fields l e)=fields l { e with most:=v } by with_unfolding_all rfl]
  exact congrArg some (ZdB h e { e with most:=v } rfl rfl rfl)
@[simp] theorem Zj0 {θ:Sto} {l:Nat} (h:l+3 < θ.length) (e:Zu) (v:Option Int):za ["End"] "early_fin" (Zgw v) (.ref l) (upE θ l e)=some (upE θ l { e with early_fin:=v }):=by
  unfold za
  rw [Zat h]
  simp only [ce]
  rw [if_pos ⟨trivial,show 25<1000 by decide⟩,show Zaw ("early_fin":Str) (Zgw v) (fields l e)=fields l { e with early_fin:=v } by with_unfolding_all rfl]
  exact congrArg some (ZdB h e { e with early_fin:=v } rfl rfl rfl)
@[simp] theorem Zt4 {θ:Sto} {l:Nat} (h:l+3 < θ.length) (e:Zu) (v:Int):za ["End"] "behind" (.int v) (.ref l) (upE θ l e)=some (upE θ l { e with behind:=v }):=by
  unfold za
  rw [Zat h]
  simp only [ce]
  rw [if_pos ⟨trivial,show 25<1000 by decide⟩,show Zaw ("behind":Str) (.int v) (fields l e)=fields l { e with behind:=v } by with_unfolding_all rfl]
  exact congrArg some (ZdB h e { e with behind:=v } rfl rfl rfl)
@[simp] theorem Zfe {θ:Sto} {l:Nat} (h:l+3 < θ.length) (e:Zu) (v:Option Seg):za ["End"] "owed_reset" (Zbe v) (.ref l) (upE θ l e)=some (upE θ l { e with owed_reset:=v }):=by
  unfold za
  rw [Zat h]
  simp only [ce]
  rw [if_pos ⟨trivial,show 25<1000 by decide⟩,show Zaw ("owed_reset":Str) (Zbe v) (fields l e)=fields l { e with owed_reset:=v } by with_unfolding_all rfl]
  exact congrArg some (ZdB h e { e with owed_reset:=v } rfl rfl rfl)
@[simp] theorem Zse {θ:Sto} {l:Nat} (h:l+3 < θ.length) (e:Zu) (v:Bool):za ["End"] "owes_syn" (.bl v) (.ref l) (upE θ l e)=some (upE θ l { e with owes_syn:=v }):=by
  unfold za
  rw [Zat h]
  simp only [ce]
  rw [if_pos ⟨trivial,show 25<1000 by decide⟩,show Zaw ("owes_syn":Str) (.bl v) (fields l e)=fields l { e with owes_syn:=v } by with_unfolding_all rfl]
  exact congrArg some (ZdB h e { e with owes_syn:=v } rfl rfl rfl)
@[simp] theorem ZpG {θ:Sto} {l:Nat} (h:l+3 < θ.length) (e:Zu) (v:Bool):za ["End"] "owes_answer" (.bl v) (.ref l) (upE θ l e)=some (upE θ l { e with owes_answer:=v }):=by
  unfold za
  rw [Zat h]
  simp only [ce]
  rw [if_pos ⟨trivial,show 25<1000 by decide⟩,show Zaw ("owes_answer":Str) (.bl v) (fields l e)=fields l { e with owes_answer:=v } by with_unfolding_all rfl]
  exact congrArg some (ZdB h e { e with owes_answer:=v } rfl rfl rfl)
@[simp] theorem Zt3 {θ:Sto} {l:Nat} (h:l+3 < θ.length) (e:Zu) (v:Bool):za ["End"] "probes" (.bl v) (.ref l) (upE θ l e)=some (upE θ l { e with probes:=v }):=by
  unfold za
  rw [Zat h]
  simp only [ce]
  rw [if_pos ⟨trivial,show 25<1000 by decide⟩,show Zaw ("probes":Str) (.bl v) (fields l e)=fields l { e with probes:=v } by with_unfolding_all rfl]
  exact congrArg some (ZdB h e { e with probes:=v } rfl rfl rfl)
@[simp] theorem Zvb {θ:Sto} {l:Nat} (h:l+3 < θ.length) (e:Zu) (v:Int):za ["End"] "since" (.int v) (.ref l) (upE θ l e)=some (upE θ l { e with since:=v }):=by
  unfold za
  rw [Zat h]
  simp only [ce]
  rw [if_pos ⟨trivial,show 25<1000 by decide⟩,show Zaw ("since":Str) (.int v) (fields l e)=fields l { e with since:=v } by with_unfolding_all rfl]
  exact congrArg some (ZdB h e { e with since:=v } rfl rfl rfl)
@[simp] theorem Zxr {θ:Sto} {l:Nat} (h:l+3 < θ.length) (e:Zu) (v:Int):za ["End"] "wait" (.int v) (.ref l) (upE θ l e)=some (upE θ l { e with wait:=v }):=by
  unfold za
  rw [Zat h]
  simp only [ce]
  rw [if_pos ⟨trivial,show 25<1000 by decide⟩,show Zaw ("wait":Str) (.int v) (fields l e)=fields l { e with wait:=v } by with_unfolding_all rfl]
  exact congrArg some (ZdB h e { e with wait:=v } rfl rfl rfl)
@[simp] theorem Zu9 {θ:Sto} {l:Nat} (h:l+3 < θ.length) (e:Zu) (v:Int):za ["End"] "tries" (.int v) (.ref l) (upE θ l e)=some (upE θ l { e with tries:=v }):=by
  unfold za
  rw [Zat h]
  simp only [ce]
  rw [if_pos ⟨trivial,show 25<1000 by decide⟩,show Zaw ("tries":Str) (.int v) (fields l e)=fields l { e with tries:=v } by with_unfolding_all rfl]
  exact congrArg some (ZdB h e { e with tries:=v } rfl rfl rfl)
section
variable {θ:Sto} {l:Nat}
@[simp] theorem ZxP (h:l+3 < θ.length) (e:Zu):zH ["Pile"] "row" (.ref (l+1)) (upE θ l e)=.ok (il e.written) (upE θ l e):=by
  have:Zeh (upE θ l e) (.ref (l+1))=some (l+1,("Pile":Str),[(("row":Str),il e.written)]):=by
    show (match (upE θ l e)[l+1]? with | some (Cell.ins C fs)=>some (l+1,C,fs) | _=>none)=_
    rw [at1 h]
    rfl
  unfold zH
  rw [this]
  simp only [cp,if_true]
  rw [show ([("row",il e.written)]:List (Str×D)).lookup ("row":Str)=some (il e.written) by with_unfolding_all rfl]
@[simp] theorem ZxQ (h:l+3 < θ.length) (e:Zu):zH ["Pile"] "row" (.ref (l+2)) (upE θ l e)=.ok (il e.come) (upE θ l e):=by
  have:Zeh (upE θ l e) (.ref (l+2))=some (l+2,("Pile":Str),[(("row":Str),il e.come)]):=by
    show (match (upE θ l e)[l+2]? with | some (Cell.ins C fs)=>some (l+2,C,fs) | _=>none)=_
    rw [ZuT h]
    rfl
  unfold zH
  rw [this]
  simp only [cp,if_true]
  rw [show ([("row",il e.come)]:List (Str×D)).lookup ("row":Str)=some (il e.come) by with_unfolding_all rfl]
@[simp] theorem Zxt (h:l+3 < θ.length) (e:Zu) (r:List Int):za ["Pile"] "row" (il r) (.ref (l+1)) (upE θ l e)=some (upE θ l { e with written:=r }):=by
  have:Zeh (upE θ l e) (.ref (l+1))=some (l+1,("Pile":Str),[(("row":Str),il e.written)]):=by
    show (match (upE θ l e)[l+1]? with | some (Cell.ins C fs)=>some (l+1,C,fs) | _=>none)=_
    rw [at1 h]
    rfl
  unfold za
  rw [this]
  simp only [cp]
  rw [if_pos ⟨trivial,show 1<1000 by decide⟩,show Zaw ("row":Str) (il r) [("row",il e.written)]=[(("row":Str),il r)] by with_unfolding_all rfl]
  congr 1
  unfold upE
  apply List.ext_getElem?
  intro i
  simp only [List.getElem?_set,List.length_set]
  by_cases q:l+1=i
  · subst q; simp [c1]
  · simp [q,c0,c2,c3,fields]
@[simp] theorem Zxu (h:l+3 < θ.length) (e:Zu) (r:List Int):za ["Pile"] "row" (il r) (.ref (l+2)) (upE θ l e)=some (upE θ l { e with come:=r }):=by
  have:Zeh (upE θ l e) (.ref (l+2))=some (l+2,("Pile":Str),[(("row":Str),il e.come)]):=by
    show (match (upE θ l e)[l+2]? with | some (Cell.ins C fs)=>some (l+2,C,fs) | _=>none)=_
    rw [ZuT h]
    rfl
  unfold za
  rw [this]
  simp only [cp]
  rw [if_pos ⟨trivial,show 1<1000 by decide⟩,show Zaw ("row":Str) (il r) [("row",il e.come)]=[(("row":Str),il r)] by with_unfolding_all rfl]
  congr 1
  unfold upE
  apply List.ext_getElem?
  intro i
  simp only [List.getElem?_set,List.length_set]
  by_cases q:l+2=i
  · subst q; simp [c2]
  · simp [q,c0,c1,c3,fields]
end
@[simp] theorem ZtM:("closed":Str)=State.closed.s:=nr rfl
@[simp] theorem ZtL:("listen":Str)=State.listen.s:=nr rfl
@[simp] theorem Ztj:("syn sent":Str)=State.synSent.s:=nr rfl
@[simp] theorem Ztk:("syn come":Str)=State.synCome.s:=nr rfl
@[simp] theorem Zw9:("open":Str)=State.opn.s:=nr rfl
@[simp] theorem Zti:("wait one":Str)=State.waitOne.s:=nr rfl
@[simp] theorem Zth:("wait two":Str)=State.waitTwo.s:=nr rfl
@[simp] theorem Zrb:("close wait":Str)=State.closeWait.s:=nr rfl
@[simp] theorem Ztn:("closing":Str)=State.closing.s:=nr rfl
@[simp] theorem Ztm:("last ack":Str)=State.lastAck.s:=nr rfl
@[simp] theorem ZrQ:("time wait":Str)=State.timeWait.s:=nr rfl
@[simp] theorem Zxa:("":Str)=Err.none.s:=nr rfl
@[simp] theorem Ztl:("refused":Str)=Err.refused.s:=nr rfl
@[simp] theorem Zu4:("reset":Str)=Err.reset.s:=nr rfl
@[simp] theorem Zw8:("time":Str)=Err.time.s:=nr rfl
theorem State.inj:∀a b:State,a.s=b.s↔a=b:=by
  intro a b
  constructor
  · intro h
    cases a<;>cases b<;>first | rfl | (exact absurd h (by decide +kernel))
  · intro h; rw [h]
theorem Zst (k:Nat) (x:Str):pl k (.str x)=PyData.strOk x:=by cases k<;>simp [pl]
theorem State.ok (a:State) (k:Nat):pl k (.str a.s)=true:=by
  rw [Zst]
  cases a<;>decide +kernel
section
variable {θ:Sto}
@[simp] theorem ZuM (a b:State):eqM (.str a.s) (.str b.s) θ=.ok (.bl (decide (a=b))) θ:=by
  rw [Zir (x:=.str a.s) (y:=.str b.s) (Zen (State.ok a 9) (State.ok b 9) rfl rfl)]
  simp [State.inj]
@[simp] theorem Zuu (a b:State):neM (.str a.s) (.str b.s) θ=.ok (.bl (!decide (a=b))) θ:=by
  rw [Zif (x:=.str a.s) (y:=.str b.s) (Zen (State.ok a 9) (State.ok b 9) rfl rfl)]
  simp [State.inj]
theorem Ze2 (a:State):∀bs:List State,Zhh (bs.map fun b=>D.str b.s)=true∧memS a.s (bs.map fun b=>D.str b.s)=decide (a∈bs)
  | []=>⟨rfl,by simp [memS]⟩
  | b::bs=>by
    obtain ⟨h1,h2⟩:=Ze2 a bs
    refine ⟨h1,?_⟩
    rw [List.map_cons]
    show (decide (b.s=a.s) || memS a.s (bs.map fun b=>D.str b.s))=_
    rw [h2,Bool.eq_iff_iff]
    simp only [Bool.or_eq_true,decide_eq_true_eq,List.mem_cons,State.inj]
    constructor
    · rintro (h | h)
      · exact .inl h.symm
      · exact .inr h
    · rintro (h | h)
      · exact .inl h.symm
      · exact .inr h
theorem ZfW (a:State) (bs:List State):inM (.str a.s) (.tup (bs.map fun b=>.str b.s)) θ=.ok (.bl (decide (a∈bs))) θ:=by
  obtain ⟨h1,h2⟩:=Ze2 a bs
  have e:inD θ (.str a.s) (.tup (bs.map fun b=>D.str b.s))=some (decide (a∈bs)):=by
    unfold inD
    simp only [Zf4]
    rw [if_pos h1,h2]
  unfold inM
  rw [e]
theorem Zfo (a:State) (bs:List State):Zec (.str a.s) (.tup (bs.map fun b=>.str b.s)) θ=.ok (.bl (!decide (a∈bs))) θ:=by
  obtain ⟨h1,h2⟩:=Ze2 a bs
  have e:inD θ (.str a.s) (.tup (bs.map fun b=>D.str b.s))=some (decide (a∈bs)):=by
    unfold inD
    simp only [Zf4]
    rw [if_pos h1,h2]
  unfold Zec
  rw [e]
@[simp] theorem Zyu (a b c:State):inM (.str a.s) (.tup [.str b.s,.str c.s]) θ=.ok (.bl (decide (a∈[b,c]))) θ:=ZfW a [b,c]
@[simp] theorem Zyt (a b c d:State):inM (.str a.s) (.tup [.str b.s,.str c.s,.str d.s]) θ=.ok (.bl (decide (a∈[b,c,d]))) θ:=ZfW a [b,c,d]
@[simp] theorem Zys (a b c d e f:State):inM (.str a.s) (.tup [.str b.s,.str c.s,.str d.s,.str e.s,.str f.s]) θ=.ok (.bl (decide (a∈[b,c,d,e,f]))) θ:=ZfW a [b,c,d,e,f]
@[simp] theorem Zut (a b c d:State):Zec (.str a.s) (.tup [.str b.s,.str c.s,.str d.s]) θ=.ok (.bl (!decide (a∈[b,c,d]))) θ:=Zfo a [b,c,d]
@[simp] theorem Zus (a b c d e:State):Zec (.str a.s) (.tup [.str b.s,.str c.s,.str d.s,.str e.s]) θ=.ok (.bl (!decide (a∈[b,c,d,e]))) θ:=Zfo a [b,c,d,e]
end
end
end My
namespace My
open PySem L2 L2.MM
noncomputable section
def Zw (n k:Int):Int:=(n+k) % 4294967296
def ZL (n b:Int):Int:=(n-b+2147483648) % 4294967296-2147483648
def zi (e:Zu) (now:Int):Zu:={ e with since:=now,wait:=1000,tries:=0 }
def ZM (e:Zu):Int:=64-(e.come.length:Int)
def zC (e:Zu):Int:=if 16<e.most then 16 else e.most
def ZcK (e:Zu) (now:Int):Bool:=decide (e.wait≤now-e.since)
def Zbz (e:Zu) (n f:Int) (data:List Int):Seg:=⟨e.ours,e.theirs,n,e.rcv,f+16,ZM e,0,data⟩
def Za8 (e:Zu):Seg:=if e.state=.synSent then ⟨e.ours,e.theirs,e.first,0,2,64,16,[]⟩ else ⟨e.ours,e.theirs,e.first,e.rcv,18,64,16,[]⟩
def mn (i j:Int):Int:=if j<i then j else i
def ZaJ (e:Zu):List Int:=Za7 e.written none (some (mn (ZL e.nxt e.una) (zC e)))
def again (e:Zu) (now:Int):Option Seg×Zu:=
  if e.tries=6 then (none,{ e with state:=.closed,error:=.time })
  else
    let e1:={ e with tries:=e.tries+1,wait:=mn (2*e.wait) 16000,since:=now }
    if e.state=.synSent∨e.state=.synCome then (some (Za8 e1),{ e1 with owes_syn:=false })
    else (some (Zbz e1 e.una (if 0<(ZaJ e).length then 0 else 1) (ZaJ e)),e1)
def Zb1 (e:Zu):Int:=ZL e.behind e.nxt
def Zau (e:Zu):Bool:=decide (e.state∈[State.opn,.waitOne,.closeWait,.closing,.lastAck]) && decide (0<Zb1 e)
def hasNewFin (e:Zu):Bool:=decide (e.state∈[State.waitOne,.closing,.lastAck]) && decide (Zb1 e=0)
def ZcZ (e:Zu):Bool:=Zau e || hasNewFin e
section
variable {θ:Sto} {l:Nat} {e:Zu} {now n k:Int}
@[simp] theorem Zxb:zo [.int n,.int k] θ=.ok (.int (Zw n k)) θ:=by simp [zo,ZkB,Zw]
@[simp] theorem ZtP:zB [.int n,.int k] θ=.ok (.int (ZL n k)) θ:=by simp [zB,Zha,ZL]
@[simp] theorem ZpB (h:l+3 < θ.length):Z6 [.ref l,.int now] (upE θ l e)=.ok .non (upE θ l (zi e now)):=by
  simp [Z6,Zd1,h,zi]
@[simp] theorem ZpP (h:l+3 < θ.length):ZdD [.ref l] (upE θ l e)=.ok (.str e.state.s) (upE θ l e):=by
  simp [ZdD,ZhY,h]
@[simp] theorem Zu6 (h:l+3 < θ.length):ZdE [.ref (l+2)] (upE θ l e)=.ok (.int (ZM e)) (upE θ l e):=by
  simp [ZdE,Zg8,h,ZM]
@[simp] theorem ZpR (h:l+3 < θ.length):zK [.ref l] (upE θ l e)=.ok (.int (ZM e)) (upE θ l e):=by
  simp [zK,Zes,h]
@[simp] theorem ZnZ (h:l+3 < θ.length):z7 [.ref l] (upE θ l e)=.ok (.int (zC e)) (upE θ l e):=by
  simp [z7,Zds,h,zC]
@[simp] theorem ZtS (h:l+3 < θ.length):ZcH [.ref l,.int now] (upE θ l e)=.ok (.bl (ZcK e now)) (upE θ l e):=by
  simp [ZcH,Zhd,h,ZcK]
theorem Zt1 (a b c d f g i:Int) (x:List Int):D.tup [.int a,.int b,.int c,.int d,.int f,.int g,.int i,itp x]=(Seg.mk a b c d f g i x).d:=rfl
theorem ZkL (a b c d f g i:Int):D.tup [.int a,.int b,.int c,.int d,.int f,.int g,.int i,.tup []]=(Seg.mk a b c d f g i []).d:=rfl
@[simp] theorem ZrX (h:l+3 < θ.length):Zbt [.ref l] (upE θ l e)=.ok (Za8 e).d (upE θ l { e with owes_syn:=false }):=by
  by_cases c:e.state=.synSent<;>simp [Zbt,ZfB,Zeq,h,Za8,c,ZkL]
@[simp] theorem ZpQ {f:Int} {data:List Int} (h:l+3 < θ.length):zA [.ref l,.int n,.int f,il data] (upE θ l e)=.ok (Zbz e n f data).d (upE θ l e):=by
  simp [zA,Zeo,h,Zbz,Zt1]
theorem ZpY (h:l+3 < θ.length):ZcV [.ref l,.int now] (upE θ l e)=.ok (Zbe (again e now).1) (upE θ l (again e now).2):=by
  by_cases c:e.tries=6
  · simp [ZcV,Zdx,Zcm,h,again,c,Zbe]
  · by_cases c2:e.state=.synSent∨e.state=.synCome
    · simp [ZcV,Zdx,Zcm,Zc7,h,again,c,c2,Zbe,Zf3,mn]
    · have am:∀e':Zu,e'.most=e.most→zC e'=zC e:=fun e' h=>by unfold zC; rw [h]
      have ad:ZaJ e=Za7 e.written none (some (mn (ZL e.nxt e.una) (zC e))):=rfl
      have sl:∀e':Zu,e'.written=e.written→ZfL (upE θ l e') (il e'.written) none (some (if zC e<ZL e.nxt e.una then zC e else ZL e.nxt e.una))=some (il (ZaJ e)):=fun e' h'=>by
        rw [Zo1,h']; rfl
      unfold again
      rw [if_neg c,if_neg c2]
      have c2':¬(e.state=State.synSent∨e.state=State.synCome):=c2
      by_cases c3:0<(ZaJ e).length
      · rw [if_pos c3]
        have c3':(0:Int)<(ZaJ e).length:=by omega
        simp [ZcV,Zdx,Zcm,Zc7,h,c,c2',Zf3,mn,am,sl,c3,c3',Zbe,-Zo1,Zbz,ZM]
      · rw [if_neg c3]
        have c3':¬(0:Int)<(ZaJ e).length:=by omega
        simp [ZcV,Zdx,Zcm,Zc7,h,c,c2',Zf3,mn,am,sl,c3,c3',Zbe,-Zo1,Zbz,ZM]
@[simp] theorem ZtN (h:l+3 < θ.length):Zbj [.ref l] (upE θ l e)=.ok (.int (Zb1 e)) (upE θ l e):=by
  simp [Zbj,Zg4,h,Zb1]
@[simp] theorem Zn1 (h:l+3 < θ.length):z9 [.ref l] (upE θ l e)=.ok (.bl (Zau e)) (upE θ l e):=by
  simp [z9,Zdv,h,Zau]
@[simp] theorem ZpD (h:l+3 < θ.length):Zbk [.ref l] (upE θ l e)=.ok (.bl (hasNewFin e)) (upE θ l e):=by
  simp [Zbk,Zd2,h,hasNewFin]
@[simp] theorem Zr6 (h:l+3 < θ.length):Zbv [.ref l] (upE θ l e)=.ok (.bl (ZcZ e)) (upE θ l e):=by
  simp [Zbv,ZfE,h,ZcZ]
end
def mn3 (i j k:Int):Int:=if j<i then (if k<j then k else j) else (if k<i then k else i)
def ZeC (e:Zu) (room:Int):Int:=mn3 (zC e) (Zb1 e) room
def ZdG (e:Zu) (room:Int):Seg×Zu:=
  let e1:={ e with nxt:=Zw e.nxt (ZeC e room) }
  (Zbz e1 e.nxt (if Zb1 e1=0 then 8 else 0) (Za7 e.written (some (ZL e.nxt e.una)) (some (ZL e.nxt e.una+ZeC e room))),e1)
def Zie (e:Zu):Seg×Zu:=(Zbz e e.nxt 1 [],{ e with nxt:=Zw e.nxt 1 })
def Za5 (e:Zu) (room:Int):Seg×Zu:=if Zau e=true then ZdG { e with probes:=false } room else Zie { e with probes:=false }
def Zc9 (e:Zu) (now:Int):Seg×Zu:=
  let e1:=if e.nxt=e.una then zi e now else e
  (Za8 { e1 with nxt:=Zw e.first 1 },{ e1 with nxt:=Zw e.first 1,owes_syn:=false })
def zb (e:Zu) (now:Int):Option Seg×Zu:=
  if e.state=.synSent∨e.state=.synCome then
    if e.nxt=e.first∨e.owes_syn=true then (some (Zc9 e now).1,(Zc9 e now).2) else (none,e)
  else
    if e.wnd-ZL e.nxt e.una≤0∨ZcZ e=false then (none,e)
    else
      let e1:=if e.nxt=e.una then zi e now else e
      (some (Za5 { e1 with owes_answer:=false } (e.wnd-ZL e.nxt e.una)).1,(Za5 { e1 with owes_answer:=false } (e.wnd-ZL e.nxt e.una)).2)
def zd (e:Zu) (now:Int):Option Seg×Zu:=
  if ¬e.nxt=e.una∨¬e.wnd=0∨ZcZ e=false then (none,{ e with probes:=false })
  else
    let e1:=if e.probes=true then e else zi { e with probes:=true } now
    if ZcK e1 now=true then (some (Za5 { e1 with since:=now } 1).1,(Za5 { e1 with since:=now } 1).2) else (none,e1)
def zz (e:Zu):Option Seg×Zu:=if e.owes_answer=true then (some (Zbz e e.nxt 0 []),{ e with owes_answer:=false }) else (none,e)
def Zah (e:Zu) (now:Int):Option Seg×Zu:=
  match zb e now with
  | (some s,e1)=>(some s,e1)
  | (none,e1)=>match zd e1 now with
    | (some s,e2)=>(some s,e2)
    | (none,e2)=>zz e2
def going (e:Zu) (now:Int):Option Seg×Zu:=
  match e.owed_reset with
  | some s=>(some s,{ e with owed_reset:=none })
  | none=>
    let e1:=if e.state=.timeWait∧120000≤now-e.since then { e with state:=.closed } else e
    if e1.state=.closed∨e1.state=.listen then (none,e1)
    else if ¬e1.nxt=e1.una∧ZcK e1 now=true then again e1 now
    else Zah e1 now
section
variable {θ:Sto} {l:Nat} {e:Zu} {now n k:Int}
@[simp] theorem ZrY {r:Int} (h:l+3 < θ.length):Zb4 [.ref l,.int r] (upE θ l e)=.ok (ZdG e r).1.d (upE θ l (ZdG e r).2):=by
  have em:(if Zb1 e<zC e then (if r<Zb1 e then r else Zb1 e) else (if r<zC e then r else zC e))=ZeC e r:=rfl
  by_cases c:Zb1 { e with nxt:=Zw e.nxt (ZeC e r) }=0
  · simp [Zb4,ZdO,h,em]
    simp [ZdG,c,Zbz,ZM,h]
  · simp [Zb4,ZdO,h,em]
    simp [ZdG,c,Zbz,ZM,h]
@[simp] theorem Ztp (h:l+3 < θ.length):Zdm [.ref l] (upE θ l e)=.ok (Zie e).1.d (upE θ l (Zie e).2):=by
  simp [Zdm,Zgh,h,Zie,Zbz,ZM,ZdJ]
@[simp] theorem Zrg {r:Int} (h:l+3 < θ.length):ZaK [.ref l,.int r] (upE θ l e)=.ok (Za5 e r).1.d (upE θ l (Za5 e r).2):=by
  have hp:Zau { e with probes:=false }=Zau e:=rfl
  by_cases c:Zau e=true
  · simp [ZaK,Zdd,h,Za5,c,hp]
  · simp [ZaK,Zdd,h,Za5,c,hp]
@[simp] theorem Zto (h:l+3 < θ.length):Zcy [.ref l,.int now] (upE θ l e)=.ok (Zc9 e now).1.d (upE θ l (Zc9 e now).2):=by
  by_cases c:e.nxt=e.una
  · simp [Zcy,Zet,Zdc,h,Zc9,c,zi]
  · simp [Zcy,Zet,Zdc,h,Zc9,c]
theorem ZcD (h:l+3 < θ.length):Z5 [.ref l,.int now] (upE θ l e)=.ok (Zbe (zb e now).1) (upE θ l (zb e now).2):=by
  by_cases c1:e.state=.synSent∨e.state=.synCome
  · by_cases c2:e.nxt=e.first∨e.owes_syn=true
    · simp [Z5,zI,zr,h,zb,c1,c2,Zbe]
    · simp [Z5,zI,zr,h,zb,c1,c2,Zbe]
  · by_cases c3:e.wnd-ZL e.nxt e.una≤0
    · simp [Z5,zI,zr,Zab,h,zb,c1,c3,Zbe]
    · by_cases c4:ZcZ e=true
      · by_cases c5:e.nxt=e.una
        · have c3':=c3
          rw [c5] at c3'
          simp [Z5,zI,zr,Zab,Zby,h,zb,c1,c3',c4,c5,Zbe,zi]
        · simp [Z5,zI,zr,Zab,Zby,h,zb,c1,c3,c4,c5,Zbe]
      · simp [Z5,zI,zr,Zab,h,zb,c1,c3,c4,Zbe]
theorem Zdg (h:l+3 < θ.length):Z7 [.ref l,.int now] (upE θ l e)=.ok (Zbe (zd e now).1) (upE θ l (zd e now).2):=by
  by_cases c1:e.nxt=e.una
  · by_cases c2:e.wnd=0
    · by_cases c3:ZcZ e=true
      · by_cases c4:e.probes=true
        · by_cases c5:ZcK e now=true
          · simp [Z7,zq,ze,Zam,Zal,h,zd,c1,c2,c3,c4,c5,Zbe]
          · simp [Z7,zq,ze,Zam,Zal,h,zd,c1,c2,c3,c4,c5,Zbe]
        · have c5:ZcK (zi { e with probes:=true } now) now=false:=by simp [ZcK,zi]
          simp [Z7,zq,ze,Zam,Zal,h,zd,c1,c2,c3,c4,Zbe] at c5 ⊢
          simp [c5,ZcK,zi]
      · simp [Z7,zq,ze,h,zd,c1,c2,c3,Zbe]
    · simp [Z7,zq,ze,h,zd,c1,c2,Zbe]
  · simp [Z7,zq,ze,h,zd,c1,Zbe]
theorem Zfc (h:l+3 < θ.length):zT [.ref l] (upE θ l e)=.ok (Zbe (zz e).1) (upE θ l (zz e).2):=by
  by_cases c:e.owes_answer=true
  · simp [zT,Zbg,ZaU,h,zz,c,Zbe,ZdJ,Zbz,ZM]
  · simp [zT,Zbg,ZaU,h,zz,c,Zbe]
@[simp] theorem Ztt:Zbe none=.non:=rfl
@[simp] theorem Zts (s:Seg):Zbe (some s)=s.d:=rfl
@[simp] theorem Zvh (s:Seg):Zck s.d=false:=rfl
@[simp] theorem Ztx:Zck .non=true:=nr rfl
@[simp] theorem Zro (h:l+3 < θ.length) (e:Zu):za ["End"] "owed_reset" .non (.ref l) (upE θ l e)=some (upE θ l { e with owed_reset:=none }):=Zfe h e none
@[simp] theorem Zrn (h:l+3 < θ.length) (e:Zu) (s:Seg):za ["End"] "owed_reset" s.d (.ref l) (upE θ l e)=some (upE θ l { e with owed_reset:=some s }):=Zfe h e (some s)
theorem Zhw (h:l+3 < θ.length) (x:Sl):ZgM (zc 2 (mCB Z5 (Zc (Zd 0) (Zc (Zd 1) Zk))) [.val (.ref l),.val (.int now),x] (upE θ l e)) (Zv ZbF (Zv ZbE (ZT (Zd 2)))) =
    .ok (.rt (Zbe (Zah e now).1),[.val (.ref l),.val (.int now),.val (Zbe (Zah e now).1)]) (upE θ l (Zah e now).2):=by
  unfold Zah
  cases c1:zb e now with
  | mk r1 e1=>
    cases r1 with
    | some s=>simp [h,ZcD,c1,ZbF,ZbE]
    | none=>
      cases c2:zd e1 now with
      | mk r2 e2=>
        cases r2 with
        | some s=>simp [h,ZcD,c1,ZbF,ZbE,Zdg,c2]
        | none=>simp [h,ZcD,c1,ZbF,ZbE,Zdg,c2,Zfc]
theorem Zlg (h:l+3 < θ.length):ZdF [.ref l,.int now] (upE θ l e)=.ok (Zbe (going e now).1) (upE θ l (going e now).2):=by
  cases c0:e.owed_reset with
  | some s=>simp [ZdF,ZeI,Zc4,h,going,c0,Zcv,Zer]
  | none=>
    have key:∀e1:Zu,(ZgM (ZbG [.val (.ref l),.val (.int now),.no] (upE θ l e1)) (Zv Zcl (Zv (zc 2 (mCB Z5 (Zc (Zd 0) (Zc (Zd 1) Zk)))) (Zv ZbF (Zv ZbE (ZT (Zd 2))))))).bind (fun p θ=>match p.1 with | .nx=>.ok .non θ | .rt d=>.ok d θ | _=>.bad) =
        .ok (Zbe (if e1.state=.closed∨e1.state=.listen then (none,e1) else if ¬e1.nxt=e1.una∧ZcK e1 now=true then again e1 now else Zah e1 now).1) (upE θ l (if e1.state=.closed∨e1.state=.listen then (none,e1) else if ¬e1.nxt=e1.una∧ZcK e1 now=true then again e1 now else Zah e1 now).2):=fun e1=>by
      by_cases c1:e1.state=.closed∨e1.state=.listen
      · simp [ZbG,h,c1]
      · by_cases c2:e1.nxt=e1.una
        · have g:=Zhw (e:=e1) (now:=now) h .no
          simp at g
          simp [ZbG,Zcl,h,c1,c2]
          rw [g]
          simp
        · by_cases c3:ZcK e1 now=true
          · simp [ZbG,Zcl,h,c1,c2,c3,ZpY]
          · have g:=Zhw (e:=e1) (now:=now) h .no
            simp at g
            simp [ZbG,Zcl,h,c1,c2,c3]
            rw [g]
            simp
    by_cases c1:e.state=.timeWait∧120000≤now-e.since
    · have:=key { e with state:=.closed }
      simp [ZdF,ZeI,Zc4,Zex,h,going,c0,c1] at this ⊢
      exact this
    · have:=key e
      simp [ZdF,ZeI,Zc4,Zex,h,going,c0,c1] at this ⊢
      exact this
def ZaV (e:Zu) (now:Int):List Int:=match (going e now).1 with
  | none=>[]
  | some s=>putL s
theorem ZrV (h:l+3 < θ.length) (hp:∀s,(going e now).1=some s→s.Put):Zbs [.ref l,.int now] (upE θ l e)=.ok (il (ZaV e now)) (upE θ l (going e now).2):=by
  unfold ZaV
  cases c:(going e now).1 with
  | none=>simp [Zbs,Zg7,Zlg,h,c,ZdJ]
  | some s=>simp [Zbs,Zg7,Zlg,h,c,ZtO (hp s c)]
def Ze1 (ours theirs first:Int) (active:Bool):Zu:=⟨ours,theirs,if active then .synSent else .listen,.none,first,first,first,0,0,0,0,12,[],[],[],none,false,Zw first 1,none,false,false,false,0,1000,0⟩
def cells (l:Nat) (e:Zu):Sto:=[c0 l e,c1 e,c2 e,c3 e]
theorem Zmw (θ r:Sto) (C:Str) (fs:List (Str×D)):Zeh (θ++.ins C fs::r) (.ref θ.length)=some (θ.length,C,fs):=by
  show (match (θ++.ins C fs::r)[θ.length]? with | some (Cell.ins C fs)=>some (θ.length,C,fs) | _=>none)=_
  rw [List.getElem?_append_right (Nat.le_refl _),Nat.sub_self]
  rfl
theorem ZhC {f:Str} {y:D}:∀{fs:List (Str×D)},(fs.map Prod.fst).contains f=false→Zaw f y fs=fs++[(f,y)]
  | [],_=>rfl
  | (g,x)::r,h=>by
    rw [List.map_cons,List.contains_cons,Bool.or_eq_false_iff] at h
    have hn:¬g=f:=fun e=>by rw [e,beq_self_eq_true] at h; cases h.1
    unfold Zaw
    rw [if_neg hn,ZhC h.2]
    rfl
theorem Z0 {C f:Str} {y:D} (θ r:Sto) {fs:List (Str×D)} (h0:[C].contains C=true) (h1:(fs.map Prod.fst).contains f=false) (h2:fs.length<1000):za [C] f y (.ref θ.length) (θ++.ins C fs::r)=some (θ++.ins C (fs++[(f,y)])::r):=by
  unfold za
  rw [Zmw]
  simp only [h0]
  rw [if_pos ⟨trivial,h2⟩,ZhC h1]
  congr 1
  rw [List.set_append,if_neg (Nat.lt_irrefl _),Nat.sub_self]
  rfl
theorem ZlD (S:Sto):mkG "Pile" ZbC [] S=.ok (.ref S.length) (S++[.ins "Pile" [("row",il [])]]):=by
  have:=Z0 (C:="Pile") (f:="row") (y:=il []) S [] (fs:=[]) (by decide +kernel) rfl (by decide)
  simp [mkG,ZbC,ZeX,ZdJ,this]
theorem ZoD (θ r:Sto) (y:D):za ["End"] "ours" y (.ref θ.length) (θ++.ins "End" []::r)=some (θ++.ins "End" [("ours",y)]::r):=Z0 θ r ce (by simp only [List.map_cons,List.map_nil]; decide +kernel) (by simp only [List.length_cons,List.length_nil]; decide)
theorem Zj6 (θ r:Sto) (x0 y:D):za ["End"] "theirs" y (.ref θ.length) (θ++.ins "End" [("ours",x0)]::r)=some (θ++.ins "End" [("ours",x0),("theirs",y)]::r):=Z0 θ r ce (by simp only [List.map_cons,List.map_nil]; decide +kernel) (by simp only [List.length_cons,List.length_nil]; decide)
theorem Zlv (θ r:Sto) (x0 x1 y:D):za ["End"] "state" y (.ref θ.length) (θ++.ins "End" [("ours",x0),("theirs",x1)]::r)=some (θ++.ins "End" [("ours",x0),("theirs",x1),("state",y)]::r):=Z0 θ r ce (by simp only [List.map_cons,List.map_nil]; decide +kernel) (by simp only [List.length_cons,List.length_nil]; decide)
theorem Zlz (θ r:Sto) (x0 x1 x2 y:D):za ["End"] "error" y (.ref θ.length) (θ++.ins "End" [("ours",x0),("theirs",x1),("state",x2)]::r)=some (θ++.ins "End" [("ours",x0),("theirs",x1),("state",x2),("error",y)]::r):=Z0 θ r ce (by simp only [List.map_cons,List.map_nil]; decide +kernel) (by simp only [List.length_cons,List.length_nil]; decide)
theorem Zly (θ r:Sto) (x0 x1 x2 x3 y:D):za ["End"] "first" y (.ref θ.length) (θ++.ins "End" [("ours",x0),("theirs",x1),("state",x2),("error",x3)]::r)=some (θ++.ins "End" [("ours",x0),("theirs",x1),("state",x2),("error",x3),("first",y)]::r):=Z0 θ r ce (by simp only [List.map_cons,List.map_nil]; decide +kernel) (by simp only [List.length_cons,List.length_nil]; decide)
theorem Zrw (θ r:Sto) (x0 x1 x2 x3 x4 y:D):za ["End"] "una" y (.ref θ.length) (θ++.ins "End" [("ours",x0),("theirs",x1),("state",x2),("error",x3),("first",x4)]::r)=some (θ++.ins "End" [("ours",x0),("theirs",x1),("state",x2),("error",x3),("first",x4),("una",y)]::r):=Z0 θ r ce (by simp only [List.map_cons,List.map_nil]; decide +kernel) (by simp only [List.length_cons,List.length_nil]; decide)
theorem Zry (θ r:Sto) (x0 x1 x2 x3 x4 x5 y:D):za ["End"] "nxt" y (.ref θ.length) (θ++.ins "End" [("ours",x0),("theirs",x1),("state",x2),("error",x3),("first",x4),("una",x5)]::r)=some (θ++.ins "End" [("ours",x0),("theirs",x1),("state",x2),("error",x3),("first",x4),("una",x5),("nxt",y)]::r):=Z0 θ r ce (by simp only [List.map_cons,List.map_nil]; decide +kernel) (by simp only [List.length_cons,List.length_nil]; decide)
theorem Zrx (θ r:Sto) (x0 x1 x2 x3 x4 x5 x6 y:D):za ["End"] "rcv" y (.ref θ.length) (θ++.ins "End" [("ours",x0),("theirs",x1),("state",x2),("error",x3),("first",x4),("una",x5),("nxt",x6)]::r)=some (θ++.ins "End" [("ours",x0),("theirs",x1),("state",x2),("error",x3),("first",x4),("una",x5),("nxt",x6),("rcv",y)]::r):=Z0 θ r ce (by simp only [List.map_cons,List.map_nil]; decide +kernel) (by simp only [List.length_cons,List.length_nil]; decide)
theorem Zrv (θ r:Sto) (x0 x1 x2 x3 x4 x5 x6 x7 y:D):za ["End"] "wnd" y (.ref θ.length) (θ++.ins "End" [("ours",x0),("theirs",x1),("state",x2),("error",x3),("first",x4),("una",x5),("nxt",x6),("rcv",x7)]::r)=some (θ++.ins "End" [("ours",x0),("theirs",x1),("state",x2),("error",x3),("first",x4),("una",x5),("nxt",x6),("rcv",x7),("wnd",y)]::r):=Z0 θ r ce (by simp only [List.map_cons,List.map_nil]; decide +kernel) (by simp only [List.length_cons,List.length_nil]; decide)
theorem ZoC (θ r:Sto) (x0 x1 x2 x3 x4 x5 x6 x7 x8 y:D):za ["End"] "told" y (.ref θ.length) (θ++.ins "End" [("ours",x0),("theirs",x1),("state",x2),("error",x3),("first",x4),("una",x5),("nxt",x6),("rcv",x7),("wnd",x8)]::r)=some (θ++.ins "End" [("ours",x0),("theirs",x1),("state",x2),("error",x3),("first",x4),("una",x5),("nxt",x6),("rcv",x7),("wnd",x8),("told",y)]::r):=Z0 θ r ce (by simp only [List.map_cons,List.map_nil]; decide +kernel) (by simp only [List.length_cons,List.length_nil]; decide)
theorem ZhG (θ r:Sto) (x0 x1 x2 x3 x4 x5 x6 x7 x8 x9 y:D):za ["End"] "told_by" y (.ref θ.length) (θ++.ins "End" [("ours",x0),("theirs",x1),("state",x2),("error",x3),("first",x4),("una",x5),("nxt",x6),("rcv",x7),("wnd",x8),("told",x9)]::r)=some (θ++.ins "End" [("ours",x0),("theirs",x1),("state",x2),("error",x3),("first",x4),("una",x5),("nxt",x6),("rcv",x7),("wnd",x8),("told",x9),("told_by",y)]::r):=Z0 θ r ce (by simp only [List.map_cons,List.map_nil]; decide +kernel) (by simp only [List.length_cons,List.length_nil]; decide)
theorem ZoE (θ r:Sto) (x0 x1 x2 x3 x4 x5 x6 x7 x8 x9 x10 y:D):za ["End"] "most" y (.ref θ.length) (θ++.ins "End" [("ours",x0),("theirs",x1),("state",x2),("error",x3),("first",x4),("una",x5),("nxt",x6),("rcv",x7),("wnd",x8),("told",x9),("told_by",x10)]::r)=some (θ++.ins "End" [("ours",x0),("theirs",x1),("state",x2),("error",x3),("first",x4),("una",x5),("nxt",x6),("rcv",x7),("wnd",x8),("told",x9),("told_by",x10),("most",y)]::r):=Z0 θ r ce (by simp only [List.map_cons,List.map_nil]; decide +kernel) (by simp only [List.length_cons,List.length_nil]; decide)
theorem ZhF (θ r:Sto) (x0 x1 x2 x3 x4 x5 x6 x7 x8 x9 x10 x11 y:D):za ["End"] "written" y (.ref θ.length) (θ++.ins "End" [("ours",x0),("theirs",x1),("state",x2),("error",x3),("first",x4),("una",x5),("nxt",x6),("rcv",x7),("wnd",x8),("told",x9),("told_by",x10),("most",x11)]::r)=some (θ++.ins "End" [("ours",x0),("theirs",x1),("state",x2),("error",x3),("first",x4),("una",x5),("nxt",x6),("rcv",x7),("wnd",x8),("told",x9),("told_by",x10),("most",x11),("written",y)]::r):=Z0 θ r ce (by simp only [List.map_cons,List.map_nil]; decide +kernel) (by simp only [List.length_cons,List.length_nil]; decide)
theorem ZoF (θ r:Sto) (x0 x1 x2 x3 x4 x5 x6 x7 x8 x9 x10 x11 x12 y:D):za ["End"] "come" y (.ref θ.length) (θ++.ins "End" [("ours",x0),("theirs",x1),("state",x2),("error",x3),("first",x4),("una",x5),("nxt",x6),("rcv",x7),("wnd",x8),("told",x9),("told_by",x10),("most",x11),("written",x12)]::r)=some (θ++.ins "End" [("ours",x0),("theirs",x1),("state",x2),("error",x3),("first",x4),("una",x5),("nxt",x6),("rcv",x7),("wnd",x8),("told",x9),("told_by",x10),("most",x11),("written",x12),("come",y)]::r):=Z0 θ r ce (by simp only [List.map_cons,List.map_nil]; decide +kernel) (by simp only [List.length_cons,List.length_nil]; decide)
theorem ZlA (θ r:Sto) (x0 x1 x2 x3 x4 x5 x6 x7 x8 x9 x10 x11 x12 x13 y:D):za ["End"] "early" y (.ref θ.length) (θ++.ins "End" [("ours",x0),("theirs",x1),("state",x2),("error",x3),("first",x4),("una",x5),("nxt",x6),("rcv",x7),("wnd",x8),("told",x9),("told_by",x10),("most",x11),("written",x12),("come",x13)]::r)=some (θ++.ins "End" [("ours",x0),("theirs",x1),("state",x2),("error",x3),("first",x4),("una",x5),("nxt",x6),("rcv",x7),("wnd",x8),("told",x9),("told_by",x10),("most",x11),("written",x12),("come",x13),("early",y)]::r):=Z0 θ r ce (by simp only [List.map_cons,List.map_nil]; decide +kernel) (by simp only [List.length_cons,List.length_nil]; decide)
theorem Zf7 (θ r:Sto) (x0 x1 x2 x3 x4 x5 x6 x7 x8 x9 x10 x11 x12 x13 x14 y:D):za ["End"] "early_fin" y (.ref θ.length) (θ++.ins "End" [("ours",x0),("theirs",x1),("state",x2),("error",x3),("first",x4),("una",x5),("nxt",x6),("rcv",x7),("wnd",x8),("told",x9),("told_by",x10),("most",x11),("written",x12),("come",x13),("early",x14)]::r)=some (θ++.ins "End" [("ours",x0),("theirs",x1),("state",x2),("error",x3),("first",x4),("una",x5),("nxt",x6),("rcv",x7),("wnd",x8),("told",x9),("told_by",x10),("most",x11),("written",x12),("come",x13),("early",x14),("early_fin",y)]::r):=Z0 θ r ce (by simp only [List.map_cons,List.map_nil]; decide +kernel) (by simp only [List.length_cons,List.length_nil]; decide)
theorem Zfm (θ r:Sto) (x0 x1 x2 x3 x4 x5 x6 x7 x8 x9 x10 x11 x12 x13 x14 x15 y:D):za ["End"] "has_closed" y (.ref θ.length) (θ++.ins "End" [("ours",x0),("theirs",x1),("state",x2),("error",x3),("first",x4),("una",x5),("nxt",x6),("rcv",x7),("wnd",x8),("told",x9),("told_by",x10),("most",x11),("written",x12),("come",x13),("early",x14),("early_fin",x15)]::r)=some (θ++.ins "End" [("ours",x0),("theirs",x1),("state",x2),("error",x3),("first",x4),("una",x5),("nxt",x6),("rcv",x7),("wnd",x8),("told",x9),("told_by",x10),("most",x11),("written",x12),("come",x13),("early",x14),("early_fin",x15),("has_closed",y)]::r):=Z0 θ r ce (by simp only [List.map_cons,List.map_nil]; decide +kernel) (by simp only [List.length_cons,List.length_nil]; decide)
theorem Zka (θ r:Sto) (x0 x1 x2 x3 x4 x5 x6 x7 x8 x9 x10 x11 x12 x13 x14 x15 x16 y:D):za ["End"] "behind" y (.ref θ.length) (θ++.ins "End" [("ours",x0),("theirs",x1),("state",x2),("error",x3),("first",x4),("una",x5),("nxt",x6),("rcv",x7),("wnd",x8),("told",x9),("told_by",x10),("most",x11),("written",x12),("come",x13),("early",x14),("early_fin",x15),("has_closed",x16)]::r)=some (θ++.ins "End" [("ours",x0),("theirs",x1),("state",x2),("error",x3),("first",x4),("una",x5),("nxt",x6),("rcv",x7),("wnd",x8),("told",x9),("told_by",x10),("most",x11),("written",x12),("come",x13),("early",x14),("early_fin",x15),("has_closed",x16),("behind",y)]::r):=Z0 θ r ce (by simp only [List.map_cons,List.map_nil]; decide +kernel) (by simp only [List.length_cons,List.length_nil]; decide)
theorem Zfk (θ r:Sto) (x0 x1 x2 x3 x4 x5 x6 x7 x8 x9 x10 x11 x12 x13 x14 x15 x16 x17 y:D):za ["End"] "owed_reset" y (.ref θ.length) (θ++.ins "End" [("ours",x0),("theirs",x1),("state",x2),("error",x3),("first",x4),("una",x5),("nxt",x6),("rcv",x7),("wnd",x8),("told",x9),("told_by",x10),("most",x11),("written",x12),("come",x13),("early",x14),("early_fin",x15),("has_closed",x16),("behind",x17)]::r)=some (θ++.ins "End" [("ours",x0),("theirs",x1),("state",x2),("error",x3),("first",x4),("una",x5),("nxt",x6),("rcv",x7),("wnd",x8),("told",x9),("told_by",x10),("most",x11),("written",x12),("come",x13),("early",x14),("early_fin",x15),("has_closed",x16),("behind",x17),("owed_reset",y)]::r):=Z0 θ r ce (by simp only [List.map_cons,List.map_nil]; decide +kernel) (by simp only [List.length_cons,List.length_nil]; decide)
theorem ZgP (θ r:Sto) (x0 x1 x2 x3 x4 x5 x6 x7 x8 x9 x10 x11 x12 x13 x14 x15 x16 x17 x18 y:D):za ["End"] "owes_syn" y (.ref θ.length) (θ++.ins "End" [("ours",x0),("theirs",x1),("state",x2),("error",x3),("first",x4),("una",x5),("nxt",x6),("rcv",x7),("wnd",x8),("told",x9),("told_by",x10),("most",x11),("written",x12),("come",x13),("early",x14),("early_fin",x15),("has_closed",x16),("behind",x17),("owed_reset",x18)]::r)=some (θ++.ins "End" [("ours",x0),("theirs",x1),("state",x2),("error",x3),("first",x4),("una",x5),("nxt",x6),("rcv",x7),("wnd",x8),("told",x9),("told_by",x10),("most",x11),("written",x12),("come",x13),("early",x14),("early_fin",x15),("has_closed",x16),("behind",x17),("owed_reset",x18),("owes_syn",y)]::r):=Z0 θ r ce (by simp only [List.map_cons,List.map_nil]; decide +kernel) (by simp only [List.length_cons,List.length_nil]; decide)
theorem ZeR (θ r:Sto) (x0 x1 x2 x3 x4 x5 x6 x7 x8 x9 x10 x11 x12 x13 x14 x15 x16 x17 x18 x19 y:D):za ["End"] "owes_answer" y (.ref θ.length) (θ++.ins "End" [("ours",x0),("theirs",x1),("state",x2),("error",x3),("first",x4),("una",x5),("nxt",x6),("rcv",x7),("wnd",x8),("told",x9),("told_by",x10),("most",x11),("written",x12),("come",x13),("early",x14),("early_fin",x15),("has_closed",x16),("behind",x17),("owed_reset",x18),("owes_syn",x19)]::r)=some (θ++.ins "End" [("ours",x0),("theirs",x1),("state",x2),("error",x3),("first",x4),("una",x5),("nxt",x6),("rcv",x7),("wnd",x8),("told",x9),("told_by",x10),("most",x11),("written",x12),("come",x13),("early",x14),("early_fin",x15),("has_closed",x16),("behind",x17),("owed_reset",x18),("owes_syn",x19),("owes_answer",y)]::r):=Z0 θ r ce (by simp only [List.map_cons,List.map_nil]; decide +kernel) (by simp only [List.length_cons,List.length_nil]; decide)
theorem Zj7 (θ r:Sto) (x0 x1 x2 x3 x4 x5 x6 x7 x8 x9 x10 x11 x12 x13 x14 x15 x16 x17 x18 x19 x20 y:D):za ["End"] "probes" y (.ref θ.length) (θ++.ins "End" [("ours",x0),("theirs",x1),("state",x2),("error",x3),("first",x4),("una",x5),("nxt",x6),("rcv",x7),("wnd",x8),("told",x9),("told_by",x10),("most",x11),("written",x12),("come",x13),("early",x14),("early_fin",x15),("has_closed",x16),("behind",x17),("owed_reset",x18),("owes_syn",x19),("owes_answer",x20)]::r)=some (θ++.ins "End" [("ours",x0),("theirs",x1),("state",x2),("error",x3),("first",x4),("una",x5),("nxt",x6),("rcv",x7),("wnd",x8),("told",x9),("told_by",x10),("most",x11),("written",x12),("come",x13),("early",x14),("early_fin",x15),("has_closed",x16),("behind",x17),("owed_reset",x18),("owes_syn",x19),("owes_answer",x20),("probes",y)]::r):=Z0 θ r ce (by simp only [List.map_cons,List.map_nil]; decide +kernel) (by simp only [List.length_cons,List.length_nil]; decide)
theorem Zlw (θ r:Sto) (x0 x1 x2 x3 x4 x5 x6 x7 x8 x9 x10 x11 x12 x13 x14 x15 x16 x17 x18 x19 x20 x21 y:D):za ["End"] "since" y (.ref θ.length) (θ++.ins "End" [("ours",x0),("theirs",x1),("state",x2),("error",x3),("first",x4),("una",x5),("nxt",x6),("rcv",x7),("wnd",x8),("told",x9),("told_by",x10),("most",x11),("written",x12),("come",x13),("early",x14),("early_fin",x15),("has_closed",x16),("behind",x17),("owed_reset",x18),("owes_syn",x19),("owes_answer",x20),("probes",x21)]::r)=some (θ++.ins "End" [("ours",x0),("theirs",x1),("state",x2),("error",x3),("first",x4),("una",x5),("nxt",x6),("rcv",x7),("wnd",x8),("told",x9),("told_by",x10),("most",x11),("written",x12),("come",x13),("early",x14),("early_fin",x15),("has_closed",x16),("behind",x17),("owed_reset",x18),("owes_syn",x19),("owes_answer",x20),("probes",x21),("since",y)]::r):=Z0 θ r ce (by simp only [List.map_cons,List.map_nil]; decide +kernel) (by simp only [List.length_cons,List.length_nil]; decide)
theorem ZoB (θ r:Sto) (x0 x1 x2 x3 x4 x5 x6 x7 x8 x9 x10 x11 x12 x13 x14 x15 x16 x17 x18 x19 x20 x21 x22 y:D):za ["End"] "wait" y (.ref θ.length) (θ++.ins "End" [("ours",x0),("theirs",x1),("state",x2),("error",x3),("first",x4),("una",x5),("nxt",x6),("rcv",x7),("wnd",x8),("told",x9),("told_by",x10),("most",x11),("written",x12),("come",x13),("early",x14),("early_fin",x15),("has_closed",x16),("behind",x17),("owed_reset",x18),("owes_syn",x19),("owes_answer",x20),("probes",x21),("since",x22)]::r)=some (θ++.ins "End" [("ours",x0),("theirs",x1),("state",x2),("error",x3),("first",x4),("una",x5),("nxt",x6),("rcv",x7),("wnd",x8),("told",x9),("told_by",x10),("most",x11),("written",x12),("come",x13),("early",x14),("early_fin",x15),("has_closed",x16),("behind",x17),("owed_reset",x18),("owes_syn",x19),("owes_answer",x20),("probes",x21),("since",x22),("wait",y)]::r):=Z0 θ r ce (by simp only [List.map_cons,List.map_nil]; decide +kernel) (by simp only [List.length_cons,List.length_nil]; decide)
theorem Zlu (θ r:Sto) (x0 x1 x2 x3 x4 x5 x6 x7 x8 x9 x10 x11 x12 x13 x14 x15 x16 x17 x18 x19 x20 x21 x22 x23 y:D):za ["End"] "tries" y (.ref θ.length) (θ++.ins "End" [("ours",x0),("theirs",x1),("state",x2),("error",x3),("first",x4),("una",x5),("nxt",x6),("rcv",x7),("wnd",x8),("told",x9),("told_by",x10),("most",x11),("written",x12),("come",x13),("early",x14),("early_fin",x15),("has_closed",x16),("behind",x17),("owed_reset",x18),("owes_syn",x19),("owes_answer",x20),("probes",x21),("since",x22),("wait",x23)]::r)=some (θ++.ins "End" [("ours",x0),("theirs",x1),("state",x2),("error",x3),("first",x4),("una",x5),("nxt",x6),("rcv",x7),("wnd",x8),("told",x9),("told_by",x10),("most",x11),("written",x12),("come",x13),("early",x14),("early_fin",x15),("has_closed",x16),("behind",x17),("owed_reset",x18),("owes_syn",x19),("owes_answer",x20),("probes",x21),("since",x22),("wait",x23),("tries",y)]::r):=Z0 θ r ce (by simp only [List.map_cons,List.map_nil]; decide +kernel) (by simp only [List.length_cons,List.length_nil]; decide)
theorem Zr3 {a b c:Int} {act:Bool} (θ:Sto):Zb7 [.ref θ.length,.int a,.int b,.int c,.bl act] (θ++[.ins "End" []])=.ok .non (θ++cells θ.length (Ze1 a b c act)):=by
  cases act with
  | true=>
    simp [Zb7,ZdS,ZlD,ZoD,Zj6,Zlv,Zlz,Zly,Zrw,Zry,Zrx,Zrv,ZoC,ZhG,ZoE,ZhF,ZoF,ZlA,Zf7,Zfm,Zka,Zfk,ZgP,ZeR,Zj7,Zlw,ZoB,Zlu]
    rfl
  | false=>
    simp [Zb7,ZdS,ZlD,ZoD,Zj6,Zlv,Zlz,Zly,Zrw,Zry,Zrx,Zrv,ZoC,ZhG,ZoE,ZhF,ZoF,ZlA,Zf7,Zfm,Zka,Zfk,ZgP,ZeR,Zj7,Zlw,ZoB,Zlu]
    rfl
theorem ZjO {a b c:Int} {act:Bool} (θ:Sto):Zci [.int a,.int b,.int c,.bl act] θ=.ok (.ref θ.length) (θ++cells θ.length (Ze1 a b c act)):=by
  simp [Zci,Zg9,mkG,Zr3]
end
end
end My
namespace L2
open PySem PySem.Spec PyProof.Rows
open AutoSeq1 (wpAny_loadPart')
theorem ZqV (tp:Addr) (its:Array Value) (k:Nat) (dct:Option Addr) (sl:Array (Option Value)) :
    Meets (Builtin.«enumerate.__new__» ⟨[.type "enumerate",.ref tp],[]⟩) (fun _ R s=>s.heap.get? tp=some { cls:=.type "tuple",dict:=dct,data:=.seq its k,slots:=sl }∧
      R (.ok (.ret (.ref (s.heap.push { cls:=.type "tuple_iterator",data:=.fields #[.ref tp,.int 0 0] }).objs.size)))
        { s with heap:=(s.heap.push { cls:=.type "tuple_iterator",data:=.fields #[.ref tp,.int 0 0] }).push { cls:=.type "enumerate",data:=.fields #[.none,.bool false,.ref s.heap.objs.size,rawInt 0,.none,.none] } }):=by
  refine .of_wp fun prog w A R s h=>?_
  obtain ⟨hp,g,d,tk,os⟩:=s
  obtain ⟨ht,h⟩:=h
  have hsub:=sub_enumerate
  have hT:Heap.IsTuple (Shared.heap ⟨hp,g,d,tk,os⟩) tp its:=⟨_,ht,rfl,k,rfl⟩
  wp_walk using wpAny_loadPart' ht
  refine wpAny_stack_any fun st=>?_
  refine wpAny_pure ?_
  split
  · rename_i c _ _ _ _ _
    cases (c == Value.type "enumerate")<;>(wp_walk using wpAny_loadPart' ht,wpAny_pyIter_tuple hT; exact ⟨_,rfl,h⟩)
  · wp_walk using wpAny_loadPart' ht,wpAny_pyIter_tuple hT; exact ⟨_,rfl,h⟩
section
variable {prog:Program} {w:World} {A:Around} {E:Value→Shared→Prop} {s:Shared}
theorem Zpq {tp:Addr} {its:Array Value} {Q:Value→Shared→Prop} (hT:s.heap.IsTuple tp its)
    (h:∀h',IsEnum h' (s.heap.objs.size+1) s.heap.objs.size 0 .none→h'.IsTupleIter s.heap.objs.size tp 0→h'.objs.size=s.heap.objs.size+2→(∀b o,s.heap.get? b=some o→h'.get? b=some o)→Q (.ref (s.heap.objs.size+1)) { s with heap:=h' }) :
    wpAny (model prog w) A (call (.type "enumerate") [.ref tp]) Q E s:=by
  obtain ⟨⟨c,dct,dt,sl⟩,ht,hc,k,hd⟩:=hT
  cases (show c=.type "tuple" from hc)
  cases (show dt=.seq its k from hd)
  refine callType_new F.called_enumerate (by decide) (F.typeCall_enumerate_1 _) (F.newCall_enumerate_1 _) (fun obj=>F.args_object_init_2 obj _) F.entry_enumerate_new (ZqV tp its k dct sl) ⟨ht,?_⟩
  have hz:(s.heap.push { cls:=.type "tuple_iterator",data:=.fields #[.ref tp,.int 0 0] }).objs.size=s.heap.objs.size+1:=Heap.size_push ..
  show _∧_
  rw [hz]
  have he:IsEnum ((s.heap.push { cls:=.type "tuple_iterator",data:=.fields #[.ref tp,.int 0 0] }).push { cls:=.type "enumerate",data:=.fields #[.none,.bool false,.ref s.heap.objs.size,rawInt 0,.none,.none] }) (s.heap.objs.size+1) s.heap.objs.size 0 .none:=by
    have q:=Heap.get?_push_size (s.heap.push { cls:=.type "tuple_iterator",data:=.fields #[.ref tp,.int 0 0] }) (o:={ cls:=.type "enumerate",data:=.fields #[.none,.bool false,.ref s.heap.objs.size,rawInt 0,.none,.none] }) rfl
    rw [hz] at q
    exact q
  exact ⟨⟨_,he,rfl⟩,h _ he ⟨_,Heap.get?_push_of_some _ (Heap.get?_push_size _ rfl),rfl,rfl⟩ (by rw [Heap.size_push,hz]) fun b o x=>Heap.get?_push_of_some _ (Heap.get?_push_of_some _ x)⟩
theorem ZkS {it tp:Addr} {i:Nat} {its} {x:Value} {Q:Value→Shared→Prop} (hit:s.heap.IsTupleIter it tp i) (ht:s.heap.IsTuple tp its) (hx:its[i]?=some x)
    (hQ:∀h',h'.IsTupleIter it tp (i+1)→Heap.SameBut it s.heap h'→Q x { s with heap:=h' }):wpAny (model prog w) A (Builtin.SmallTypes.nextOf (.ref it)) Q E s:=by
  obtain ⟨o,ho,hc,hd⟩:=id hit
  obtain ⟨ol,hol,_,nl,hdl⟩:=ht
  unfold Builtin.SmallTypes.nextOf
  refine wpAny_bind (wpAny_callSpecial?_slot (name:=Str.ofString "__next__") hit.typeIs F.slot_tuple_iterator_next (wpAny_call_entry F.slot_tuple_iterator_next hit.typeIs F.entry_tuple_iterator_next ?_ (F.args_tuple_iterator_next_1 _)))
  show wpAny _ _ (field (.ref it) 0 >>= _) _ _ s
  refine wpAny_bind (wpAny_field ho hd (x:=.ref tp) rfl ?_)
  rw [if_neg (show ¬((Value.ref tp == Value.none)=true) from Bool.false_ne_true)]
  refine wpAny_bind (wpAny_field ho hd (x:=.int i 0) rfl (wpAny_bind (wpAny_seqItems hol hdl ?_)))
  simp only [Int.toNat_natCast,hx]
  refine wpAny_bind (wpAny_setField ho hd (by simp) (wpAny_pure ⟨x,rfl,wpAny_pure (hQ _ ⟨_,Heap.get?_update_self _ ho (Obj.isFreed_of_fields (Obj.data_mapFields hd _)),(Obj.cls_mapFields ..).trans hc,?_⟩ (Heap.SameBut.update ..))⟩))
  rw [Obj.data_mapFields hd]
  simp [rawInt]
theorem Zmm {it tp:Addr} {i:Nat} {its} {Q:Value→Shared→Prop} (hh:A.handled=none) (hit:s.heap.IsTupleIter it tp i) (ht:s.heap.IsTuple tp its) (hx:its[i]?=none)
    (hE:∀h' e,Heap.ExtBut it s.heap h'→(∃o,h'.get? e=some o∧o.cls=.type "StopIteration")→E (.ref e) { s with heap:=h' }):wpAny (model prog w) A (Builtin.SmallTypes.nextOf (.ref it)) Q E s:=by
  obtain ⟨o,ho,hc,hd⟩:=id hit
  obtain ⟨ol,hol,_,nl,hdl⟩:=ht
  unfold Builtin.SmallTypes.nextOf
  refine wpAny_bind (wpAny_callSpecial?_slot (name:=Str.ofString "__next__") hit.typeIs F.slot_tuple_iterator_next (wpAny_call_entry F.slot_tuple_iterator_next hit.typeIs F.entry_tuple_iterator_next ?_ (F.args_tuple_iterator_next_1 _)))
  show wpAny _ _ (field (.ref it) 0 >>= _) _ _ s
  refine wpAny_bind (wpAny_field ho hd (x:=.ref tp) rfl ?_)
  rw [if_neg (show ¬((Value.ref tp == Value.none)=true) from Bool.false_ne_true)]
  refine wpAny_bind (wpAny_field ho hd (x:=.int i 0) rfl (wpAny_bind (wpAny_seqItems hol hdl ?_)))
  simp only [Int.toNat_natCast,hx]
  refine wpAny_bind (wpAny_rule (wpAny_bind (wpAny_setField ho hd (by simp) ?_)))
  refine wpAny_bind (m:=newExc (.type "StopIteration") []) ?_
  simp only [newExc,newTuple]
  refine wpAny_bind (wpAny_newObj_type (wpAny_bind (m:=firstArgMember _ _) (wpAny_of_eq (a:=Value.none) (by first | rfl | (simp only [firstArgMember]; rfl)) (wpAny_newObj_type ?_ (by size_fits)))) (by size_fits))
  simp only [raiseNew]
  refine wpAny_bind (wpAny_handled ?_)
  rw [show A.in1.handled=none from hh]
  exact wpAny_bind (wpAny_pure (wpAny_throw (hE _ _ (((Heap.SameBut.update ..).extBut.push _).push _) ⟨_,Heap.get?_push_size _ rfl,rfl⟩)))
theorem Zpb {e it tp:Addr} {i:Nat} {its:Array Value} {x old:Value} {Q:Value→Shared→Prop} (he:IsEnum s.heap e it i old) (hit:s.heap.IsTupleIter it tp i) (ht:s.heap.IsTuple tp its) (hx:its[i]?=some x) (hne:e≠it)
    (hQ:∀h',IsEnumOut h' e it ((i:Int)+1) x s.heap.objs.size→h'.IsTupleIter it tp (i+1)→h'.get? s.heap.objs.size=some { cls:=.type "tuple",data:=.seq #[.int i s.toks,x] }→h'.objs.size=s.heap.objs.size+1→(∀b o,b≠e→b≠it→s.heap.get? b=some o→h'.get? b=some o)→Q (.ref s.heap.objs.size) { s with heap:=h',toks:=s.toks+1 }) :
    wpAny (model prog w) A (Builtin.«enumerate.__next__» ⟨[.ref e],[]⟩) (fun fin s'=>∃v,fin=.done (.ret v)∧Q v s') E s:=by
  obtain ⟨hp,g,d,tk,os⟩:=s
  show wpAny _ _ (field (.ref e) 2 >>= _) _ _ _
  refine wpAny_bind (wpAny_field he rfl (x:=.ref it) rfl (wpAny_bind (ZkS hit ht hx fun h1 hit1 hs1=>?_)))
  replace hs1:Heap.SameBut it hp h1:=hs1
  have he1:IsEnum h1 e it i old:=(hs1.2 e hne).trans he
  refine wpAny_bind (wpAny_field (s:=⟨h1,g,d,tk,os⟩) he1 rfl (x:=rawInt i) rfl ?_)
  refine wpAny_bind (wpAny_field (s:=⟨h1,g,d,tk,os⟩) he1 rfl (x:=.none) rfl ?_)
  show wpAny _ _ (mkInt i >>= _) _ _ ⟨h1,g,d,tk,os⟩
  refine wpAny_bind (wpAny_mkInt ?_)
  show wpAny _ _ (setField (.ref e) 3 (rawInt ((i:Int)+1)) >>= _) _ _ ⟨h1,g,d,tk+1,os⟩
  refine wpAny_bind (wpAny_setField_rec he1 (by simp) fun h2 he2 hs2=>?_)
  replace hs2:Heap.SameBut e h1 h2:=hs2
  replace he2:IsEnum h2 e it ((i:Int)+1) old:=he2
  show wpAny _ _ (setField (.ref e) 4 .none >>= _) _ _ ⟨h2,g,d,tk+1,os⟩
  refine wpAny_bind (wpAny_setField_rec he2 (by simp) fun h3 he3 hs3=>?_)
  replace hs3:Heap.SameBut e h2 h3:=hs3
  replace he3:IsEnum h3 e it ((i:Int)+1) old:=he3
  show wpAny _ _ (newTuple [.int i tk,x] >>= _) _ _ ⟨h3,g,d,tk+1,os⟩
  refine wpAny_bind (wpAny_newTuple ?_)
  have he4:IsEnum (h3.push { cls:=.type "tuple",data:=.seq #[.int i tk,x] }) e it ((i:Int)+1) old:=Heap.get?_push_of_some _ he3
  obtain ⟨h4,hh4⟩:∃z,z=h3.push { cls:=.type "tuple",data:=.seq #[.int i tk,x] }:=⟨_,rfl⟩
  rw [←hh4] at he4
  have hsz:h3.objs.size=hp.objs.size:=by rw [hs3.1,hs2.1,hs1.1]
  have hel:hp.objs.size≠e:=Nat.ne_of_gt (Heap.lt_size he)
  have ht4:h4.get? hp.objs.size=some { cls:=.type "tuple",data:=.seq #[.int i tk,x] }:=by rw [hh4,←hsz]; exact Heap.get?_push_size _ rfl
  have hz4:h4.objs.size=hp.objs.size+1:=by rw [hh4,Heap.size_push,hsz]
  have hk4:∀b o,b≠e→b≠it→hp.get? b=some o→h4.get? b=some o:=fun b o q1 q2 q3=>by
    rw [hh4]
    exact Heap.get?_push_of_some _ (hs3.extBut b o q1 (hs2.extBut b o q1 (hs1.extBut b o q2 q3)))
  have hit4:h4.IsTupleIter it tp (i+1):=by
    obtain ⟨o,ho,r⟩:=(hit1.extBut hs2.extBut (Ne.symm hne)).extBut hs3.extBut (Ne.symm hne)
    exact ⟨o,by rw [hh4]; exact Heap.get?_push_of_some _ ho,r⟩
  show wpAny _ _ (Builtin.SmallTypes.ownedTupleIsFree (.ref e) >>= _) _ _ ⟨h3.push { cls:=.type "tuple",data:=.seq #[.int i tk,x] },g,d,tk+1,os⟩
  rw [←hh4,hsz]
  refine wpAny_bind ?_
  unfold Builtin.SmallTypes.ownedTupleIsFree
  refine wpAny_bind (wpAny_field he4 rfl (x:=.none) rfl (wpAny_pure ?_))
  simp only [if_true]
  refine wpAny_bind (wpAny_rule (wpAny_bind (wpAny_field he4 rfl (x:=old) rfl (wpAny_bind (wpAny_setField_rec he4 (by simp) fun h5 he5 hs5=>?_)))))
  replace hs5:Heap.SameBut e h4 h5:=hs5
  replace he5:IsEnum h5 e it ((i:Int)+1) x:=he5
  refine wpAny_bind (m:=Builtin.SmallTypes.ownedTupleHandOut (.ref e) (.ref hp.objs.size)) ?_
  unfold Builtin.SmallTypes.ownedTupleHandOut
  refine wpAny_bind (wpAny_setField_rec he5 (by simp) fun h6 he6 hs6=>?_)
  replace hs6:Heap.SameBut e h5 h6:=hs6
  replace he6:IsEnumOut h6 e it ((i:Int)+1) x hp.objs.size:=he6
  refine wpAny_setField_rec he6 (by simp) fun h7 he7 hs7=>?_
  replace hs7:Heap.SameBut e h6 h7:=hs7
  replace he7:IsEnumOut h7 e it ((i:Int)+1) x hp.objs.size:=he7
  have up:∀b o,b≠e→h4.get? b=some o→h7.get? b=some o:=fun b o q1 q2=>hs7.extBut b o q1 (hs6.extBut b o q1 (hs5.extBut b o q1 q2))
  refine wpAny_bind (wpAny_letGo (wpAny_pure ⟨_,rfl,hQ h7 he7 ?_ (up _ _ hel ht4) (by rw [hs7.1,hs6.1,hs5.1,hz4]) fun b o q1 q2 q3=>up b o q1 (hk4 b o q1 q2 q3)⟩))
  obtain ⟨o,ho,r⟩:=hit4
  exact ⟨o,up _ _ (Ne.symm hne) ho,r⟩
theorem Zpc {e it tp:Addr} {i:Nat} {its:Array Value} {x old:Value} {Q:Option Value→Shared→Prop} (he:IsEnum s.heap e it i old) (hit:s.heap.IsTupleIter it tp i) (ht:s.heap.IsTuple tp its) (hx:its[i]?=some x) (hne:e≠it)
    (hQ:∀h',IsEnumOut h' e it ((i:Int)+1) x s.heap.objs.size→h'.IsTupleIter it tp (i+1)→h'.get? s.heap.objs.size=some { cls:=.type "tuple",data:=.seq #[.int i s.toks,x] }→h'.objs.size=s.heap.objs.size+1→(∀b o,b≠e→b≠it→s.heap.get? b=some o→h'.get? b=some o)→Q (some (.ref s.heap.objs.size)) { s with heap:=h',toks:=s.toks+1 }) :
    wpAny (model prog w) A (pyNext (.ref e)) Q E s:=by
  have hT:s.TypeIs (.ref e) "enumerate":=⟨_,he,rfl⟩
  unfold pyNext
  exact wpAny_bind (wpAny_attempt (wpAny_callSpecial?_slot (name:=Str.ofString "__next__") hT F.slot_enumerate_next (wpAny_call_entry F.slot_enumerate_next hT F.entry_enumerate_next (Zpb he hit ht hx hne fun h' a b c d k=>wpAny_pure (hQ h' a b c d k)) (F.args_enumerate_next_1 _))))
theorem ZqW {e it tp:Addr} {i:Nat} {its:Array Value} {old:Value} {Q:Option Value→Shared→Prop} (hh:A.handled=none) (he:IsEnum s.heap e it i old) (hit:s.heap.IsTupleIter it tp i) (ht:s.heap.IsTuple tp its) (hx:its[i]?=none)
    (hQ:∀h',Heap.ExtBut it s.heap h'→Q none { s with heap:=h' }):wpAny (model prog w) A (pyNext (.ref e)) Q E s:=by
  have hT:s.TypeIs (.ref e) "enumerate":=⟨_,he,rfl⟩
  unfold pyNext
  refine wpAny_bind (wpAny_attempt (wpAny_callSpecial?_slot (name:=Str.ofString "__next__") hT F.slot_enumerate_next (wpAny_call_entry F.slot_enumerate_next hT F.entry_enumerate_next ?_ (F.args_enumerate_next_1 _))))
  show wpAny _ _ (field (.ref e) 2 >>= _) _ _ _
  refine wpAny_bind (wpAny_field he rfl (x:=.ref it) rfl (wpAny_bind (Zmm hh hit ht hx fun h' x he' hx'=>?_)))
  obtain ⟨o,ho,hc⟩:=hx'
  exact wpAny_bind (wpAny_isInstance (T:="StopIteration") (b:=true) ⟨o,ho,hc⟩ isSubtype_stop (wpAny_pure (hQ _ he')))
def Ite (K:PySem.W.Frag) (a:Addr):It:=
  ⟨fun i H=>∃xs x,SqT K H a xs∧xs[i]?=some x,fun i H x H'=>∃p v,x=.ref p∧H p=none∧H'=upd H p (.tup [.int i,v])∧∀xs,SqT K H a xs→xs[i]?=some v,fun i H=>∃xs,SqT K H a xs∧xs.length≤i⟩
theorem ZnW {P:Program} {w:World} {K:PySem.W.Frag} {es:List Expr} {x1} {pos:Pos} (a e it:Addr) (hne:e≠it) (ha:a≠e) (hb:a≠it):ZmG P w K (.Tuple es x1 pos) (Ite K a) [e,it] e (fun i h=>(∃old,IsEnum h e it i old)∧h.IsTupleIter it a i) where
  mem:=by simp
  obj:=fun i h st b hb=>by
    obtain ⟨⟨old,st1⟩,o,e1,c,d⟩:=st
    have q:b=e∨b=it:=by simpa using hb
    rcases q with rfl | rfl
    · exact ⟨_,st1,fun v z=>by
        have z':Data.fields _=Data.cell v:=z
        cases z'⟩
    · exact ⟨o,e1,fun v z=>by rw [d] at z; cases z⟩
  keep:=fun i h h' st k=>by
    obtain ⟨⟨old,st1⟩,o,e1,r⟩:=st
    exact ⟨⟨old,k e (by simp) _ st1⟩,o,k it (by simp) o e1,r⟩
  item:=by
    intro X hP hw hK hc i pins s σ H E I hf st hg
    subst hP hw hK
    obtain ⟨⟨old,st1⟩,st2⟩:=st
    obtain ⟨xs,x,hq,hx⟩:=hg
    obtain ⟨its,rv,p,hz⟩:=I.tuple hq
    obtain ⟨u,hu,ru⟩:=rv.get hx
    obtain ⟨f0,f1,f2,f3,f4,f5⟩:=hf e (by simp)
    obtain ⟨g0,g1,g2,g3,g4,g5⟩:=hf it (by simp)
    refine Zpc st1 st2 (show s.heap.IsTuple a its.toArray from p) (x:=u) (by simpa using hu) hne fun h' out it' tp' sz' kk=>?_
    have hes:e<s.heap.objs.size:=Heap.lt_size st1
    have his:it<s.heap.objs.size:=by obtain ⟨o,q,_⟩:=st2; exact Heap.lt_size q
    refine ⟨_,rfl,wpAny_letOwnedTupleGo_enum out fun h2 e2 s2=>?_⟩
    replace s2:Heap.SameBut e h' h2:=s2
    have tp2:h2.get? s.heap.objs.size=some { cls:=.type "tuple",data:=.seq #[.int i s.toks,u] }:=s2.extBut _ _ (Nat.ne_of_gt hes) tp'
    have k2:∀b o,b≠e→b≠it→s.heap.get? b=some o→h2.get? b=some o:=fun b o q1 q2 q3=>s2.extBut b o q1 (kk b o q1 q2 q3)
    have hn:H s.heap.objs.size=none:=I.hok.fresh (Nat.le_refl _)
    have nn:∀{b:Addr} {o:HO},H b=some o→b≠s.heap.objs.size:=fun q=>zj q hn
    have nch:∀{b:Addr},b∉[e,it]→b≠e∧b≠it:=fun hb=>⟨fun z=>hb (by simp [z]),fun z=>hb (by simp [z])⟩
    have new:ObjOk X.prog X.w (upd H s.heap.objs.size (.tup [.int i,x])) h2 s.heap.objs.size (.tup [.int i,x]):=⟨by show 2≤sizeLine; decide,[.int i s.toks,u],.cons ⟨_,rfl⟩ (.cons ru .nil),⟨_,tp2,rfl,_,rfl⟩⟩
    have I1:Inv X pins σ (upd H s.heap.objs.size (.tup [.int i,x])) { s with heap:=h2,toks:=s.toks+1 }:=by
      refine I.step (g':=s.gens) (d':=s.drawn) (ch:=[e,it]) (fun b hb=>?_) (fun b o _ _ hc e' _=>k2 b o (nch hc).1 (nch hc).2 e') (fun b o _ _ hc e' _=>⟨o.slots,k2 b o (nch hc).1 (nch hc).2 e'⟩) (fun b o _ e' n=>by rw [ZO (Nat.ne_of_lt (Heap.lt_size e'))]; exact n)
        (fun b o hc e'=>⟨o,k2 b o (nch hc).1 (nch hc).2 e'⟩) (fun b _ q=>by rw [ZO (nn q)]; exact q) (fun b _ _ q=>by rw [ZO (nn q)]; exact q) (fun b ps q=>⟨#[],by rw [ZO (nn q),q]; simp⟩) (fun m hm=>?_) (fun b v q=>?_) I.bare
      · have z:b=e∨b=it:=by simpa using hb
        rcases z with rfl | rfl
        · exact ⟨f3,f1,f4,f5⟩
        · exact ⟨g3,g1,g4,g5⟩
      · obtain ⟨o,es,ep,ho,r⟩:=hm
        exact ⟨o,es,ep,k2 _ o (Ne.symm f1) (Ne.symm g1) ho,r⟩
      · by_cases hb:b=s.heap.objs.size
        · subst hb; rw [zl] at q; cases q; exact new
        · rw [ZO hb] at q
          refine (I.hok b v q).stay (fun c o hc z=>k2 c o ?_ ?_ z) (fun c z=>by rw [ZO (nn z)]; exact z) fun c _ z=>by rw [ZO (nn z)]; exact z
          · rcases hc with z | z
            · rw [z]; exact fun y=>by rw [y,f0] at q; cases q
            · exact fun y=>by rw [y,f0] at z; cases z
          · rcases hc with z | z
            · rw [z]; exact fun y=>by rw [y,g0] at q; cases q
            · exact fun y=>by rw [y,g0] at z; cases z
    refine ⟨.ref s.heap.objs.size,_,I1,rfl,⟨_,x,rfl,hn,rfl,fun ys hy=>by rw [I.tuple_inj hy hq]; exact hx⟩,⟨⟨_,by simpa using e2⟩,?_⟩,fun b hb=>?_⟩
    · obtain ⟨o,q,r⟩:=it'
      exact ⟨o,s2.extBut _ _ (Ne.symm hne) q,r⟩
    · have z:b=e∨b=it:=by simpa using hb
      rcases z with rfl | rfl
      · rw [ZO (Nat.ne_of_lt hes)]; exact f0
      · rw [ZO (Nat.ne_of_lt his)]; exact g0
  done:=by
    intro X hP hw hK hc i pins s σ H E I hf st hg
    subst hP hw hK
    obtain ⟨⟨old,st1⟩,st2⟩:=st
    obtain ⟨xs,hq,hx⟩:=hg
    obtain ⟨its,rv,p,hz⟩:=I.tuple hq
    obtain ⟨f0,f1,f2,f3,f4,f5⟩:=hf it (by simp)
    have hl:=rv.length
    exact ZqW (I.ok.hd hc) st1 st2 (show s.heap.IsTuple a its.toArray from p) (by simp; omega) fun h' eb=>⟨rfl,I.turned (t':=s.toks) (fun b o hb e=>eb b o hb e) f0 f1 f3 f4 f5⟩
  self:=fun _ _ _ _ _ st h=>by
    obtain ⟨⟨old,st1⟩,_⟩:=st
    exact wpAny_pyIter_enum st1 h
end
end L2
namespace L2
open PySem PySem.Spec PyProof.Rows
section
variable {X:Cx}
def ZxM (K:PySem.W.Frag) (ta:TA):TI:=fun σ H R=>ta σ H fun vs H1=>∃a,vs=[.ref a]∧(∃xs,SqT K H1 a xs)∧R (Ite K a) H1
theorem Zsw {l:Expr} {ta:TA} {es:List Expr} {x1} {p pos tp:Pos} (hg:Gl X "enumerate") (hm:X.mg "enumerate"=none) (ha:PA X [l] ta) (hs:starEach [l] X.env=[(false,eval l X.env)]:=by rfl):PI X (.Tuple es x1 tp) (.Call (.Name "enumerate" p) [l] [] pos) (ZxM X.K ta):=by
  intro pins s σ H R I h
  refine Call_ (Zij I hg hm boot_enumerate (PyProof.Rows.callWith_type1 (thn (ha pos pins s σ H _ I h) fun us s1 ⟨vs,H1,I1,r1,q1⟩=>?_) hs rfl))
  obtain ⟨a,e,⟨xs,hq⟩,q⟩:=q1
  subst e
  obtain ⟨u,rfl,ru⟩:=Zhu r1
  cases ru
  obtain ⟨its,rv,t1,hz⟩:=I1.tuple hq
  have T1:s1.heap.IsTuple a its.toArray:=t1
  have al:a<s1.heap.objs.size:=by obtain ⟨o,z,_⟩:=T1; exact Heap.lt_size z
  refine Zpq T1 fun h' e' i' z' k'=>wpAny_pyIter_enum (s:={ s1 with heap:=h' }) e' ?_
  have I2:Inv X pins σ H1 { s1 with heap:=h' }:=I1.kept (t':=s1.toks) k'
  refine ⟨s1.heap.objs.size+1,[s1.heap.objs.size+1,s1.heap.objs.size],_,_,H1,rfl,I2,ZnW a _ _ (Nat.succ_ne_self _) (Nat.ne_of_lt (Nat.lt_succ_of_lt al)) (Nat.ne_of_lt al),⟨⟨_,e'⟩,i'⟩,fun b hb=>?_,q⟩
  have z:b=s1.heap.objs.size+1∨b=s1.heap.objs.size:=by simpa using hb
  have hb':s1.heap.objs.size≤b:=z.elim (fun y=>by rw [y]; exact Nat.le_succ _) fun y=>by rw [y]; exact Nat.le_refl _
  exact I1.fpOk hb' (I1.hok.fresh hb')
end
end L2
namespace L2.MM
open PySem PySem.Spec PyProof.Rows
section
variable {X:Cx}
def forE (i j:Nat) (body:SM):Nat→List D→SM
  | _,[]=>fun ρ θ=>.ok (.nx,ρ) θ
  | k,x::r=>fun ρ θ=>(body ((ρ.set i (.val (.int (k:Nat)))).set j (.val x)) θ).bind (Zf9 (forE i j body (k+1) r))
def ZoS (fa:AM) (i j:Nat) (body:SM):SM:=fun ρ θ=>(fa ρ θ).bind fun ds θ=>match ds with
  | [.tup xs]=>forE i j body 0 xs ρ θ
  | _=>.bad
theorem Zqw {l:Expr} {body:List Stmt} {fa:AM} {fb:SM} {x y:Str} {x1} {p p1 p2 tp cp pos:Pos} (i j:Nat) (hN:X.N.Nodup) (hp:PassesOwn (model X.prog X.w) X.A X.env X.xe) (hm:X.mg "enumerate"=none) (ha:MA X [l] fa) (hb:MSs X body fb) (hc:X.calm=true:=by rfl)
    (hg:Gl X "enumerate":=by rfl) (hs:starEach [l] X.env=[(false,eval l X.env)]:=by rfl)
    (hi:X.N[i]?=some x:=by rfl) (hx:Loc X.env.scope x:=by first | exact Or.inl rfl | exact Or.inr rfl) (hf:X.fn x=true∨X.env.scope.names.lookup x=some .local:=by first | exact .inl rfl | exact .inr rfl)
    (hj:X.N[j]?=some y:=by rfl) (hy:Loc X.env.scope y:=by first | exact Or.inl rfl | exact Or.inr rfl) (hf':X.fn y=true∨X.env.scope.names.lookup y=some .local:=by first | exact .inl rfl | exact .inr rfl)
    (hse:∀z,foldedSetIterable (.Call (.Name "enumerate" p) [l] [] cp) X.env z=pure z:=by intro _; rfl)
    (ha1:(assignEach [.Name x p1,.Name y p2] X.env).map (·.2)=assign (.Name x p1) X.env::(assignEach [.Name y p2] X.env).map (·.2):=by rfl) (ha2:(assignEach [.Name y p2] X.env).map (·.2)=assign (.Name y p2) X.env::(assignEach [] X.env).map (·.2):=by rfl)
    (hn:(assignEach [.Name x p1,.Name y p2] X.env).length=2:=by rfl) (hst:(assignEach [.Name x p1,.Name y p2] X.env).findIdx? (·.1)=none:=by rfl) :
    MS X (.For (.Tuple [.Name x p1,.Name y p2] x1 tp) (.Call (.Name "enumerate" p) [l] [] cp) body [] pos) (ZoS fa i j fb):=
  PS.imp (Zom hp hc (Zsw hg hm ha hs) (Zsx hc (Zj3 (Zfi hN hi hx hf) (Zj3 (Zfi hN hj hy hf') Zqj ha2) ha1) hn hst) hb hse) fun Dn σ H h=>by
  obtain ⟨B,θ,ρ,F,w⟩:=h
  refine Zbi (Zn9 F w) ?_
  rintro vs H1 ⟨B1,θ1,ds,E1,F1,rd,w1⟩
  split at w1
  · rename_i xs
    obtain ⟨v,rfl,rv⟩:=rd.one
    obtain ⟨a,us,rfl,g1,okA,ru⟩:=rv
    refine ⟨a,rfl,⟨us,SqT.of g1⟩,fun k m σ H=>∃B θ ρ,Frm X.cl B θ ρ σ H∧RepV B H (.tup xs) (.ref a)∧m=xs.length-k∧k≤xs.length∧wpS X σ B H (forE i j fb k (xs.drop k) ρ θ) Dn,⟨xs.length,B1,θ1,ρ,F1,⟨a,us,rfl,g1,okA,ru⟩,rfl,Nat.zero_le _,w1⟩,?_⟩
    rintro k m σ2 H2 ⟨B2,θ2,ρ2,F2,rv2,rfl,hk,w2⟩
    obtain ⟨a',us2,e2,g2,ok2,ru2⟩:=id rv2
    cases e2
    by_cases hlt:k<xs.length
    · rw [List.drop_eq_getElem_cons hlt] at w2
      unfold forE at w2
      obtain ⟨v,q1,q2⟩:=ru2.get (List.getElem?_eq_getElem hlt)
      refine .inr ⟨⟨us2,v,SqT.of g2,q1⟩,fun σ' H'=>∃B' θ' ρ',ExtS B2 B' H2 H'∧Frm X.cl B' θ' ρ' σ' H'∧wpS X σ' B' H' (forE i j fb (k+1) (xs.drop (k+1)) ρ' θ') Dn,?_,fun z H' hz=>?_⟩
      · rintro σ' H' ⟨B',θ',ρ',E',F',w'⟩
        exact ⟨xs.length-(k+1),by omega,B',θ',ρ',F',rv2.ext E',rfl,hlt,w'⟩
      · obtain ⟨t,v',rfl,ht,rfl,hv⟩:=hz
        have:=hv us2 (SqT.of g2)
        rw [q1] at this
        cases this
        have E3:=Zcw F2.good ht (.tup [.int k,v])
        have F3:=F2.ext E3 (Zej F2.good ht (.tup [.int k,v]))
        refine ⟨t,[.int k,v],rfl,SqT.of zl,rfl,.int k,[v],rfl,v,[],rfl,rfl,?_⟩
        have F4:=(F3.set i (d:=.int (k:Nat)) (v:=.int k) rfl).set j (q2.ext E3.toExtS)
        refine ⟨B2,θ2,_,F4,?_⟩
        exact wpS.trans (wpS.loop w2) E3.toExtS
    · have e:k=xs.length:=by omega
      subst e
      rw [List.drop_length] at w2
      unfold forE at w2
      exact .inl ⟨⟨us2,SqT.of g2,by rw [ru2.len]; exact Nat.le_refl _⟩,Zdz F2 w2⟩
  · exact w1.elim
end
end L2.MM
namespace L2
open PySem PySem.Spec PyProof.Rows
section
variable {X:Cx} {pins:List (Addr×Obj)} {σ:St} {H:Hp} {s:Shared} {a:Addr} {kvs:List (Key×V)} {k:Key} {z:V} {u r:Value} {A:Around} {E:Value→Shared→Prop}
theorem Zs7 {Q:Value→Shared→Prop} (I:Inv X pins σ H s) (e:H a=some (.dK kvs)) (ry:RelV (kV k) u) (rz:RelV z r) (hl:kvs.length<sizeLine)
    (h1:∀v w' s',valV kvs k=some v→Inv X pins σ H s'→RelV v w'→Q w' s') (h2:valV kvs k=none→∀s',Inv X pins σ (upd H a (.dK (Zgs kvs k z))) s'→Q r s'):wpAny (model X.prog X.w) A (call (.builtin "dict.setdefault") [.ref a,u,r]) Q E s:=by
  obtain ⟨z1,hd,vs,rel,dd⟩:=Zpi I.hok e
  have hv:vs.length≤sizeLine:=by rw [←rel.length]; exact z1
  refine call_meetsIn PySem.F.slot_dict_setdefault dd.typeIs PySem.F.entry_dict_setdefault (PySem.F.args_dict_setdefault_3 _ _ _) (kt_meets_setdefault (Zax X.prog X.w) a (Zkl ry) hd r) ⟨vs,dd,hv,fun v q=>?_,fun q h' dd' hs=>?_⟩
  · cases l:valV kvs k with
    | none=>
      have:valueAt vs k=none:=RelO.none_of (by rw [←l]; exact rel.val k)
      rw [this] at q
      cases q
    | some v0=>
      obtain ⟨w1,hw,r1⟩:=RelO.some_of (v:=v0) (o:=valueAt vs k) (by rw [←l]; exact rel.val k)
      have z2:w1=v:=by rw [hw] at q; injection q
      subst z2
      exact h1 v0 w1 _ l (I.tok _) r1
  · have l:valV kvs k=none:=by
      cases l:valV kvs k with
      | none=>rfl
      | some v0=>
        obtain ⟨w',hw,rw'⟩:=RelO.some_of (v:=v0) (o:=valueAt vs k) (by rw [←l]; exact rel.val k)
        rw [hw] at q
        cases q
    have hl2:(Zgs kvs k z).length≤sizeLine:=by have:=Zkj kvs k z; omega
    have he:∃q,h'.get? a=some q:=let ⟨q,_,_,hq,_⟩:=dd'; ⟨q,hq⟩
    exact h2 l _ (Ziu I (by rw [e]; exact True.intro) hs he (Zk5 hl2 hd (rel.put k rz) dd'))
end
def Zr8 (td ty tx:TE):TE:=fun σ H Q=>td σ H fun x H1=>∃a,x=.ref a∧IsD H1 a∧ty σ H1 fun y H2=>tx σ H2 fun z H3=>∃kvs k,H3 a=some (.dK kvs)∧y=kV k∧kvs.length<sizeLine∧
  (∀v,valV kvs k=some v→Q v H3)∧(valV kvs k=none→Q z (upd H3 a (.dK (Zgs kvs k z))))
theorem Zos {X:Cx} {o e f:Expr} {apos cpos:Pos} {td ty tx:TE} (ho:PE X o td) (he:PE X e ty) (hf:PE X f tx) (m:M2 X o "setdefault" apos e f cpos):PE X (.Call (.Attribute o "setdefault" apos) [e,f] [] cpos) (Zr8 td ty tx):=by
  intro pins s σ H Q I h
  refine wpAny_Call_method m.base m.few m.line PySem.F.plainAttrs_dict PySem.F.slot_dict_setdefault PySem.F.type_dict_setdefault (thn (ho pins s σ H _ I h) fun u s1 ⟨x,H1,I1,rx,a,ex,d,q1⟩=>?_)
  subst ex
  cases (show u=Value.ref a from rx)
  obtain ⟨t1,t2,_⟩:=ZoY I1 d
  refine ⟨t1,t2,?_⟩
  rw [m.trees]
  refine Calls.callWith_builtin rfl (Calls.evalArgs_plain (Calls.spliced_cons (thn (he pins s1 σ H1 _ I1 q1) fun iv s2 ⟨y,H2,I2,ry,q2⟩=>Calls.spliced_cons (thn (hf pins s2 σ H2 _ I2 q2) fun fv s3 ⟨z,H3,I3,rz,kvs,k,ea,ey,hl,q3,q4⟩=>Calls.spliced_nil ?_))))
  subst ey
  exact Zs7 I3 ea ry rz hl (fun v w' s4 l I4 rw'=>⟨v,H3,I4,rw',q3 v l⟩) fun l s4 I4=>⟨z,_,I4,rz,q4 l⟩
end L2
namespace L2.MM
open PySem PySem.Spec PyProof.Rows
def valD (kvs:List (Key×D)) (k:Key):Option D:=(kvs.find? fun kv=>decide (kv.1=k)).map (·.2)
def putD (kvs:List (Key×D)) (k:Key) (v:D):List (Key×D):=
  if (kvs.any fun kv=>decide (kv.1=k))=true then kvs.map (fun kv=>if kv.1=k then (kv.1,v) else kv) else kvs++[(k,v)]
def dropD (kvs:List (Key×D)) (k:Key):List (Key×D):=kvs.filter fun kv=>decide (kv.1≠k)
def Zkk:D→Option Key
  | .int n=>some (.inl n)
  | .str x=>some (.inr x)
  | _=>none
def ZfZ (θ:Sto):D→Option (Nat×List (Key×D))
  | .ref l=>match θ[l]? with
    | some (.dK kvs)=>some (l,kvs)
    | _=>none
  | _=>none
section
variable {B:Bx} {H:Hp}
theorem RepKV.valD (k:Key):∀{ks:List (Key×D)} {vs:List (Key×V)},RepKV B H ks vs→(L2.MM.valD ks k=Option.none∧valV vs k=Option.none)∨∃d v,L2.MM.valD ks k=some d∧valV vs k=some v∧RepV B H d v
  | _,_,.nil=>.inl ⟨rfl,rfl⟩
  | (k1,d1)::ks,(k2,v2)::vs,.cons ⟨h1,h2⟩ t=>by
    cases (show k1=k2 from h1)
    by_cases e:k1=k
    · refine .inr ⟨d1,v2,?_,?_,h2⟩<;>simp [L2.MM.valD,valV,List.find?_cons,e]
    · have:=RepKV.valD k t
      simpa [L2.MM.valD,valV,List.find?_cons,e] using this
theorem RepKV.any (k:Key):∀{ks:List (Key×D)} {vs:List (Key×V)},RepKV B H ks vs→(ks.any fun kv=>decide (kv.1=k))=(vs.any fun kv=>decide (kv.1=k))
  | _,_,.nil=>rfl
  | (k1,d1)::ks,(k2,v2)::vs,.cons ⟨h1,h2⟩ t=>by
    cases (show k1=k2 from h1)
    rw [List.any_cons,List.any_cons,RepKV.any k t]
theorem RepKV.snoc {k:Key} {d:D} {v:V} (r:RepV B H d v):∀{ks:List (Key×D)} {vs:List (Key×V)},RepKV B H ks vs→RepKV B H (ks++[(k,d)]) (vs++[(k,v)])
  | _,_,.nil=>.cons ⟨rfl,r⟩ .nil
  | _,_,.cons h t=>.cons h (RepKV.snoc r t)
theorem RepKV.over {k:Key} {d:D} {v:V} (r:RepV B H d v):∀{ks:List (Key×D)} {vs:List (Key×V)},RepKV B H ks vs→RepKV B H (ks.map fun kv=>if kv.1=k then (kv.1,d) else kv) (vs.map fun kv=>if kv.1=k then (kv.1,v) else kv)
  | _,_,.nil=>.nil
  | (k1,d1)::ks,(k2,v2)::vs,.cons ⟨h1,h2⟩ t=>by
    cases (show k1=k2 from h1)
    rw [List.map_cons,List.map_cons]
    refine .cons ?_ (RepKV.over r t)
    by_cases e:k1=k
    · rw [if_pos (show (k1,d1).1=k from e),if_pos (show (k1,v2).1=k from e)]; exact ⟨rfl,r⟩
    · rw [if_neg (show ¬(k1,d1).1=k from e),if_neg (show ¬(k1,v2).1=k from e)]; exact ⟨rfl,h2⟩
theorem RepKV.putD {k:Key} {d:D} {v:V} (r:RepV B H d v) {ks:List (Key×D)} {vs:List (Key×V)} (h:RepKV B H ks vs):RepKV B H (L2.MM.putD ks k d) (Zgs vs k v):=by
  unfold L2.MM.putD Zgs
  rw [h.any k]
  split
  · exact h.over r
  · exact h.snoc r
theorem RepKV.dropD (k:Key):∀{ks:List (Key×D)} {vs:List (Key×V)},RepKV B H ks vs→RepKV B H (L2.MM.dropD ks k) (ZeU vs k)
  | _,_,.nil=>.nil
  | (k1,d1)::ks,(k2,v2)::vs,.cons ⟨h1,h2⟩ t=>by
    cases (show k1=k2 from h1)
    have ih:=RepKV.dropD k t
    unfold L2.MM.dropD ZeU at ih ⊢
    by_cases e:k1=k
    · rw [List.filter_cons_of_neg (by simpa using e),List.filter_cons_of_neg (by simpa using e)]; exact ih
    · rw [List.filter_cons_of_pos (by simpa using e),List.filter_cons_of_pos (by simpa using e)]; exact .cons ⟨rfl,h2⟩ ih
theorem keyD_rep {d:D} {v:V} {k:Key} (r:RepV B H d v) (h:Zkk d=some k):v=kV k:=by
  cases d with
  | int n=>cases h; exact r
  | str x=>cases h; exact r
  | _=>cases h
theorem Zfy {cl:Mo} {θ:Sto} (G:Good cl B θ H) {d:D} {v:V} {l:Nat} {kvs:List (Key×D)} (r:RepV B H d v) (h:ZfZ θ d=some (l,kvs)):l<B.n∧v=.ref (B.m l)∧∃vs,H (B.m l)=some (.dK vs)∧RepKV B H kvs vs:=by
  cases d with
  | ref k=>
    simp only [ZfZ] at h
    split at h
    · rename_i kvs' e
      cases h
      obtain ⟨hl,rfl⟩:=r
      obtain ⟨vs,h1,h2⟩:=G.cel _ _ e
      exact ⟨hl,rfl,vs,h1,h2⟩
    · cases h
  | _=>cases h
end
section
variable {X:Cx}
theorem ZrR {k:Nat} {A:Around} (hr:Room k A):A.units+1<cLine:=by have:=hr.un; omega
def ZoT (fi fo:EM):EM:=fun ρ θ=>(fi ρ θ).bind fun y θ=>(fo ρ θ).bind fun d θ=>match Zkk y,ZfZ θ d with
  | some k,some (_,kvs)=>.ok (.bl (valD kvs k).isSome) θ
  | _,_=>.bad
theorem ZqY {fi fo:EM} (σ:St) (H:Hp) (Q:VK) (h:tM X (ZoT fi fo) σ H Q):ZtY (tM X fi) (tM X fo) σ H Q:=by
  obtain ⟨B,θ,ρ,F,w⟩:=h
  refine ZW (step F w) ?_
  rintro y H1 ⟨B1,θ1,dy,E1,F1,ry,w1⟩
  refine ZW (step F1 w1) ?_
  rintro v H2 ⟨B2,θ2,d,E2,F2,rd,w2⟩
  split at w2
  · rename_i k l kvs ek ed
    obtain ⟨hl,rfl,vs,h1,h2⟩:=Zfy F2.good rd ed
    cases keyD_rep ry ek
    refine ⟨_,valV vs k,rfl,DGet.k h1,?_⟩
    have e:(valD kvs k).isSome=(valV vs k).isSome:=by
      rcases h2.valD k with ⟨q1,q2⟩ | ⟨d,v,q1,q2,_⟩<;>(rw [q1,q2]; rfl)
    rw [←e]
    exact ZR (Rel:=RepV) F2.good (show RepV B2 H2 (.bl (valD kvs k).isSome) (.bl (valD kvs k).isSome) from rfl) w2
  · exact w2.elim
theorem ZsS {i o:Expr} {fi fo:EM} {pos:Pos} {k:Nat} (hr:Room k X.A) (hi:ME X i fi) (ho:ME X o fo) (hm:behindInMarks .In o=false:=by rfl):MT X (.Compare i [.In] [o] pos) (ZI (ZoT fi fo)):=by
  refine PT.imp (Zsp (ZsG (ZrR hr) hi ho) hm) fun σ H Q h=>?_
  exact ZqY σ H _ (ZjS σ H Q h)
def ZlH (fo fe:EM):EM:=fun ρ θ=>(fo ρ θ).bind fun d θ=>match ZfZ θ d with
  | none=>.bad
  | some _=>(fe ρ θ).bind fun y θ=>match Zkk y,ZfZ θ d with
    | some k,some (l,kvs)=>match valD kvs k with
      | some v=>.ok v (θ.set l (.dK (dropD kvs k)))
      | none=>.bad
    | _,_=>.bad
theorem ZlG {o e:Expr} {fo fe:EM} {apos cpos:Pos} (ho:ME X o fo) (he:ME X e fe) (m:M1 X o "pop" apos e cpos):ME X (.Call (.Attribute o "pop" apos) [e] [] cpos) (ZlH fo fe):=by
  refine PE.imp (Zot ho he m) fun σ H Q h=>?_
  obtain ⟨B,θ,ρ,F,w⟩:=h
  refine ZW (step F w) ?_
  rintro v H1 ⟨B1,θ1,d,E1,F1,rd,w1⟩
  split at w1
  · exact w1.elim
  · rename_i q ed
    obtain ⟨l,kvs⟩:=q
    obtain ⟨hl,rfl,vs,h1,h2⟩:=Zfy F1.good rd ed
    refine ⟨_,rfl,.inl ⟨vs,.inl h1⟩,?_⟩
    refine ZW (step F1 w1) ?_
    rintro y H2 ⟨B2,θ2,dy,E2,F2,ry,w2⟩
    split at w2
    · rename_i k l2 kvs2 ek ed2
      obtain ⟨hl2,e2,vs2,h3,h4⟩:=Zfy F2.good (rd.ext E2.toExtS) ed2
      cases keyD_rep ry ek
      have e3:B1.m l=B2.m l2:=by injection e2
      rw [e3]
      rcases h4.valD k with ⟨q1,q2⟩ | ⟨dv,v,q1,q2,rv⟩
      · rw [q1] at w2; exact w2.elim
      · rw [q1] at w2
        refine ⟨vs2,k,v,h3,rfl,q2,?_⟩
        have E3:=ZeF F2.good hl2 (.dK (ZeU vs2 k))
        have G3:=Zei F2.good hl2 (o:=.dK (ZeU vs2 k)) (c:=.dK (dropD kvs2 k)) ⟨_,zl,(h4.dropD k).ext E3.toExtS⟩
        exact w2 _ _ _ E3 G3 (rv.ext E3.toExtS)
    · exact w2.elim
def ZkX (fo fe ff:EM):EM:=fun ρ θ=>(fo ρ θ).bind fun d θ=>match ZfZ θ d with
  | none=>.bad
  | some _=>(fe ρ θ).bind fun y θ=>(ff ρ θ).bind fun z θ=>match Zkk y,ZfZ θ d with
    | some k,some (l,kvs)=>if kvs.length<BIG then (match valD kvs k with
      | some v=>.ok v θ
      | none=>.ok z (θ.set l (.dK (putD kvs k z)))) else .bad
    | _,_=>.bad
theorem ZoO {o e f:Expr} {fo fe ff:EM} {apos cpos:Pos} (ho:ME X o fo) (he:ME X e fe) (hf:ME X f ff) (m:M2 X o "setdefault" apos e f cpos):ME X (.Call (.Attribute o "setdefault" apos) [e,f] [] cpos) (ZkX fo fe ff):=by
  refine PE.imp (Zos ho he hf m) fun σ H Q h=>?_
  obtain ⟨B,θ,ρ,F,w⟩:=h
  refine ZW (step F w) ?_
  rintro v H1 ⟨B1,θ1,d,E1,F1,rd,w1⟩
  split at w1
  · exact w1.elim
  · rename_i q ed
    obtain ⟨l,kvs⟩:=q
    obtain ⟨hl,rfl,vs,h1,h2⟩:=Zfy F1.good rd ed
    refine ⟨_,rfl,.inl ⟨vs,.inl h1⟩,?_⟩
    refine ZW (step F1 w1) ?_
    rintro y H2 ⟨B2,θ2,dy,E2,F2,ry,w2⟩
    refine ZW (step F2 w2) ?_
    rintro z H3 ⟨B3,θ3,dz,E3,F3,rz,w3⟩
    split at w3
    · rename_i k l2 kvs2 ek ed2
      obtain ⟨hl2,e2,vs2,h3,h4⟩:=Zfy F3.good ((rd.ext E2.toExtS).ext E3.toExtS) ed2
      cases keyD_rep ry ek
      have e3:B1.m l=B3.m l2:=by injection e2
      rw [e3]
      split at w3
      · rename_i hb
        refine ⟨vs2,k,h3,rfl,?_,fun v hv=>?_,fun hn=>?_⟩
        · have:=zV (n:=kvs2.length+1) hb
          rw [RepKV.len h4]; omega
        · rcases h4.valD k with ⟨q1,q2⟩ | ⟨dv,v',q1,q2,rv⟩
          · rw [q2] at hv; cases hv
          · rw [q2] at hv; cases hv
            rw [q1] at w3
            exact ZR (Rel:=RepV) F3.good rv w3
        · rcases h4.valD k with ⟨q1,q2⟩ | ⟨dv,v',q1,q2,rv⟩
          · rw [q1] at w3
            have E4:=ZeF F3.good hl2 (.dK (Zgs vs2 k z))
            have G4:=Zei F3.good hl2 (o:=.dK (Zgs vs2 k z)) (c:=.dK (putD kvs2 k dz)) ⟨_,zl,(h4.putD rz).ext E4.toExtS⟩
            exact w3 _ _ _ E4 G4 (rz.ext E4.toExtS)
          · rw [q2] at hn; cases hn
      · exact w3.elim
    · exact w3.elim
end
end L2.MM
namespace My
open PySem L2 L2.MM
noncomputable section
def Ziy:SM:=(Zv (zc 2 (mSl (Zd 1) Zcd (ZdV (mCB ZdE (Zc (Zd 0) Zk)))))
  (Zv (ZB ["Pile"] "row" (Zd 0) (mOp zx (ZE ["Pile"] "row" (Zd 0)) (Zd 2)))
  (ZT (mCB Zeg (Zc (Zd 2) Zk)))))
def Zfj:GM:=ZU 2 3 Ziy
def ZcN:SM:=(Zv (zc 2 (mCB Zqz (Zc (Zd 1) (Zc (mC (.int 0)) Zk))))
  (Zv (zc 3 (mSl (ZE ["Pile"] "row" (Zd 0)) Zcd (ZdV (Zd 2))))
  (Zv (ZB ["Pile"] "row" (Zd 0) (mSl (ZE ["Pile"] "row" (Zd 0)) (ZdV (Zd 2)) Zcd))
  (ZT (Zd 3)))))
def Zb2:GM:=ZU 2 4 ZcN
def ZkC:SM:=(ZT (mOp gtM (mCB zB (Zc (Zd 0) (Zc (Zd 1) Zk))) (mC (.int 0))))
def Zb3:GM:=ZU 2 2 ZkC
def Zdu:SM:=(ZT (mCB Zb3 (Zc (ZE ["End"] "nxt" (Zd 0)) (Zc (ZE ["End"] "behind" (Zd 0)) Zk))))
def Za3:GM:=ZU 1 1 Zdu
def ZhZ:SM:=(ZT (mOp eqM (mCB ZeQ (Zc (mOp ixM (Zd 0) (mC (.int 4))) (Zc (Zd 1) Zk))) (mC (.int 1))))
def Z2:GM:=ZU 2 2 ZhZ
def Zcr:SM:=(mIf (z5 (mCB Z2 (Zc (Zd 0) (Zc (mC (.int 16)) Zk)))) (ZT (mOp zx (Zd 1) (Zb8 (Zc (mOp ixM (Zd 0) (mC (.int 3))) (Zc (mC (.int 0)) (Zc (mC (.int 4)) (Zc (mC (.int 0)) (Zc (mC (.int 0)) (Zc (Zb8 Zk) Zk))))))))) ZS)
def Zdb:SM:=(Zv (zc 1 (Zb8 (Zc (mOp ixM (Zd 0) (mC (.int 1))) (Zc (mOp ixM (Zd 0) (mC (.int 0))) Zk))))
  (Zv Zcr
  (ZT (mOp zx (Zd 1) (Zb8 (Zc (mC (.int 0)) (Zc (mCB zo (Zc (mOp ixM (Zd 0) (mC (.int 2))) (Zc (mCB Zcj (Zc (Zd 0) Zk)) Zk))) (Zc (mOp zx (mC (.int 4)) (mC (.int 16))) (Zc (mC (.int 0)) (Zc (mC (.int 0)) (Zc (Zb8 Zk) Zk)))))))))))
def ZbA:GM:=ZU 1 2 Zdb
def Zbf:SM:=(mIf (ZeM (z5 (mCB Z2 (Zc (Zd 1) (Zc (mC (.int 4)) Zk))))) (ZB ["End"] "owed_reset" (Zd 0) (mCB ZbA (Zc (Zd 1) Zk))) ZS)
def ZbP:SM:=Zbf
def ZY:GM:=ZU 2 2 ZbP
def ZcS:SM:=(zJ (mCB ZY (Zc (Zd 0) (Zc (Zd 1) Zk))))
def Zaz:GM:=ZU 2 2 ZcS
def Zev:SM:=(mIf (ZI (mOp neM (mOp ixM (Zd 1) (mC (.int 6))) (mC (.int 0)))) (ZB ["End"] "most" (Zd 0) (mOp ixM (Zd 1) (mC (.int 6)))) ZS)
def ZfD:SM:=(Zv (ZB ["End"] "rcv" (Zd 0) (mCB zo (Zc (mOp ixM (Zd 1) (mC (.int 2))) (Zc (mC (.int 1)) Zk))))
  (Zv (ZB ["End"] "wnd" (Zd 0) (mOp ixM (Zd 1) (mC (.int 5))))
  (Zv (ZB ["End"] "told" (Zd 0) (mOp ixM (Zd 1) (mC (.int 2))))
  (Zv (ZB ["End"] "told_by" (Zd 0) (Zfr (z5 (mCB Z2 (Zc (Zd 1) (Zc (mC (.int 16)) Zk)))) (mOp ixM (Zd 1) (mC (.int 3))) (mC (.int 0))))
  Zev))))
def Zbu:GM:=ZU 2 2 ZfD
def zR:SM:=(mIf (z5 (mCB Z2 (Zc (Zd 1) (Zc (mC (.int 4)) Zk)))) Zfq ZS)
def Zap:SM:=(mIf (z5 (mCB Z2 (Zc (Zd 1) (Zc (mC (.int 2)) Zk)))) (Zv (ZB ["End"] "theirs" (Zd 0) (mOp ixM (Zd 1) (mC (.int 0))))
      (Zv (zJ (mCB Zbu (Zc (Zd 0) (Zc (Zd 1) Zk))))
      (ZB ["End"] "state" (Zd 0) (mC (.str "syn come"))))) ZS)
def Zao:SM:=(mIf (z5 (mCB Z2 (Zc (Zd 1) (Zc (mC (.int 16)) Zk)))) (zJ (mCB ZY (Zc (Zd 0) (Zc (Zd 1) Zk)))) Zap)
def Zac:SM:=(Zv zR
  Zao)
def zu:GM:=ZU 2 2 Zac
def Zd3:SM:=(ZT (Zcu (mOp neM (ZE ["End"] "nxt" (Zd 0)) (ZE ["End"] "first" (Zd 0))) (mOp eqM (mOp ixM (Zd 1) (mC (.int 3))) (mCB zo (Zc (ZE ["End"] "first" (Zd 0)) (Zc (mC (.int 1)) Zk))))))
def Zbl:GM:=ZU 2 2 Zd3
def Zaf:SM:=(mIf (z5 (mCB Z2 (Zc (Zd 1) (Zc (mC (.int 16)) Zk)))) (Zv (ZB ["End"] "una" (Zd 0) (mOp ixM (Zd 1) (mC (.int 3))))
    (Zv (ZB ["End"] "state" (Zd 0) (mC (.str "open")))
    (ZB ["End"] "owes_answer" (Zd 0) (mC (.bl true))))) (Zv (ZB ["End"] "state" (Zd 0) (mC (.str "syn come")))
    (Zv (zJ (mCB Z6 (Zc (Zd 0) (Zc (Zd 2) Zk))))
    (ZB ["End"] "owes_syn" (Zd 0) (mC (.bl true))))))
def ZaF:SM:=Zaf
def zF:GM:=ZU 3 3 ZaF
def ZdN:SM:=(mIf (z5 (mCB Z2 (Zc (Zd 1) (Zc (mC (.int 16)) Zk)))) (Zv (ZB ["End"] "state" (Zd 0) (mC (.str "closed")))
    (ZB ["End"] "error" (Zd 0) (mC (.str "refused")))) ZS)
def Ze7:SM:=ZdN
def Zd8:GM:=ZU 2 2 Ze7
def zD:SM:=(mIf (z5 (mCB Z2 (Zc (Zd 1) (Zc (mC (.int 2)) Zk)))) (Zv (zJ (mCB Zbu (Zc (Zd 0) (Zc (Zd 1) Zk))))
        (zJ (mCB zF (Zc (Zd 0) (Zc (Zd 1) (Zc (Zd 2) Zk)))))) ZS)
def Z4:SM:=(mIf (z5 (mCB Z2 (Zc (Zd 1) (Zc (mC (.int 4)) Zk)))) (zJ (mCB Zd8 (Zc (Zd 0) (Zc (Zd 1) Zk)))) zD)
def ZV:SM:=(mIf (ZfT (z5 (mCB Z2 (Zc (Zd 1) (Zc (mC (.int 16)) Zk)))) (ZeM (z5 (mCB Zbl (Zc (Zd 0) (Zc (Zd 1) Zk)))))) (zJ (mCB ZY (Zc (Zd 0) (Zc (Zd 1) Zk)))) Z4)
def Z1:SM:=ZV
def ZQ:GM:=ZU 3 3 Z1
def Zdt:SM:=(ZT (ZfS leM ltM (mC (.int 0)) (mCB zB (Zc (Zd 1) (Zc (ZE ["End"] "rcv" (Zd 0)) Zk))) (mCB zK (Zc (Zd 0) Zk))))
def zm:GM:=ZU 2 2 Zdt
def Ze8:SM:=(mIf (ZI (mOp eqM (Zd 2) (mC (.int 0)))) (ZT (ZfS leM leM (mC (.int 0)) (mCB zB (Zc (mOp ixM (Zd 1) (mC (.int 2))) (Zc (ZE ["End"] "rcv" (Zd 0)) Zk))) (mC (.int 64)))) ZS)
def Zhf:SM:=(Zv (zc 2 (mCB Zcj (Zc (Zd 1) Zk)))
  (Zv Ze8
  (Zv (zc 3 (mCB zo (Zc (mOp ixM (Zd 1) (mC (.int 2))) (Zc (mOp ZeZ (Zd 2) (mC (.int 1))) Zk))))
  (ZT (Zmr (mCB zm (Zc (Zd 0) (Zc (mOp ixM (Zd 1) (mC (.int 2))) Zk))) (mCB zm (Zc (Zd 0) (Zc (Zd 3) Zk))))))))
def ZfP:GM:=ZU 2 4 Zhf
def zh:SM:=(mIf (mOr (ZeM (z5 (mCB Za3 (Zc (Zd 0) Zk)))) (ZI (mOp neM (ZE ["End"] "una" (Zd 0)) (ZE ["End"] "nxt" (Zd 0))))) Zfq ZS)
def ZaI:SM:=(mIf (ZI (mOp eqM (ZE ["End"] "state" (Zd 0)) (mC (.str "last ack")))) (ZB ["End"] "state" (Zd 0) (mC (.str "closed"))) ZS)
def ZaH:SM:=(mIf (ZI (mOp eqM (ZE ["End"] "state" (Zd 0)) (mC (.str "closing")))) (Zv (ZB ["End"] "state" (Zd 0) (mC (.str "time wait")))
      (ZB ["End"] "since" (Zd 0) (Zd 1))) ZaI)
def ZaG:SM:=(mIf (ZI (mOp eqM (ZE ["End"] "state" (Zd 0)) (mC (.str "wait one")))) (ZB ["End"] "state" (Zd 0) (mC (.str "wait two"))) ZaH)
def zn:SM:=(Zv zh
  ZaG)
def ZP:GM:=ZU 2 2 zn
def Zd0:SM:=(Zv (ZB ["End"] "wnd" (Zd 0) (mOp ixM (Zd 1) (mC (.int 5))))
  (Zv (ZB ["End"] "told" (Zd 0) (mOp ixM (Zd 1) (mC (.int 2))))
  (ZB ["End"] "told_by" (Zd 0) (mOp ixM (Zd 1) (mC (.int 3))))))
def Zar:GM:=ZU 2 2 Zd0
def zY:SM:=(mIf (mOr (ZI (mOp eqM (ZE ["End"] "nxt" (Zd 0)) (ZE ["End"] "first" (Zd 0)))) (ZI (mOp neM (mOp ixM (Zd 1) (mC (.int 3))) (ZE ["End"] "nxt" (Zd 0))))) (Zv (zJ (mCB ZY (Zc (Zd 0) (Zc (Zd 1) Zk))))
    (ZT (mC (.bl false)))) ZS)
def Zak:SM:=(Zv zY
  (Zv (ZB ["End"] "una" (Zd 0) (mOp ixM (Zd 1) (mC (.int 3))))
  (Zv (ZB ["End"] "state" (Zd 0) (Zfr (z5 (ZE ["End"] "has_closed" (Zd 0))) (mC (.str "wait one")) (mC (.str "open"))))
  (Zv (zJ (mCB Zar (Zc (Zd 0) (Zc (Zd 1) Zk))))
  (ZT (mC (.bl true)))))))
def zp:GM:=ZU 2 2 Zak
def Zeu:SM:=(mIf (ZI (mOp eqM (mOp ixM (Zd 1) (mC (.int 2))) (ZE ["End"] "told" (Zd 0)))) (ZT (ZoR (mCB Zb3 (Zc (ZE ["End"] "told_by" (Zd 0)) (Zc (mOp ixM (Zd 1) (mC (.int 3))) Zk))))) ZS)
def ZfC:SM:=(Zv Zeu
  (ZT (mCB Zb3 (Zc (mOp ixM (Zd 1) (mC (.int 2))) (Zc (ZE ["End"] "told" (Zd 0)) Zk)))))
def ZcG:GM:=ZU 2 2 ZfC
def ZbS:SM:=(mIf (ZI (mOp neM (ZE ["End"] "una" (Zd 0)) (ZE ["End"] "nxt" (Zd 0)))) (zJ (mCB Z6 (Zc (Zd 0) (Zc (Zd 2) Zk)))) ZS)
def Zaj:SM:=(mIf (z5 (Zd 4)) (Zv (zJ (mCB Zb2 (Zc (ZE ["End"] "written" (Zd 0)) (Zc (mCB zB (Zc (Zd 3) (Zc (ZE ["End"] "una" (Zd 0)) Zk))) Zk))))
    (Zv (ZB ["End"] "una" (Zd 0) (Zd 3))
    ZbS)) ZS)
def Zai:SM:=(mIf (z5 (mCB Zb3 (Zc (ZE ["End"] "una" (Zd 0)) (Zc (Zd 3) Zk)))) Zfq ZS)
def ZaZ:SM:=(mIf (mOr (z5 (Zd 4)) (z5 (mCB ZcG (Zc (Zd 0) (Zc (Zd 1) Zk))))) (zJ (mCB Zar (Zc (Zd 0) (Zc (Zd 1) Zk)))) ZS)
def ZaY:SM:=(mIf (mOr (z5 (Zd 5)) (ZI (mOp eqM (ZE ["End"] "wnd" (Zd 0)) (mC (.int 0))))) (ZB ["End"] "tries" (Zd 0) (mC (.int 0))) ZS)
def ZaS:SM:=(Zv (zc 3 (mOp ixM (Zd 1) (mC (.int 3))))
  (Zv (zc 4 (mCB Zb3 (Zc (Zd 3) (Zc (ZE ["End"] "una" (Zd 0)) Zk))))
  (Zv Zaj
  (Zv Zai
  (Zv (zc 5 (mOp eqM (ZE ["End"] "wnd" (Zd 0)) (mC (.int 0))))
  (Zv ZaZ
  ZaY))))))
def zL:GM:=ZU 3 6 ZaS
def zy:SM:=(mIf (ZI (mOp eqM (ZE ["End"] "state" (Zd 0)) (mC (.str "syn come")))) (ZT (mCB zp (Zc (Zd 0) (Zc (Zd 1) Zk)))) ZS)
def zZ:SM:=(mIf (z5 (mCB Zb3 (Zc (mOp ixM (Zd 1) (mC (.int 3))) (Zc (ZE ["End"] "nxt" (Zd 0)) Zk)))) (Zv (ZB ["End"] "owes_answer" (Zd 0) (mC (.bl true)))
    (ZT (mC (.bl false)))) ZS)
def zE:SM:=(Zv zy
  (Zv zZ
  (Zv (zJ (mCB zL (Zc (Zd 0) (Zc (Zd 1) (Zc (Zd 2) Zk)))))
  (Zv (zJ (mCB ZP (Zc (Zd 0) (Zc (Zd 2) Zk))))
  (ZT (mOp neM (ZE ["End"] "state" (Zd 0)) (mC (.str "closed"))))))))
def ZZ:GM:=ZU 3 3 zE
def Zca:SM:=(mIf (ZI (mOp eqM (ZE ["End"] "state" (Zd 0)) (mC (.str "time wait")))) Zfq ZS)
def Zb9:SM:=(mIf (ZI (mOp eqM (mOp ixM (Zd 1) (mC (.int 2))) (ZE ["End"] "rcv" (Zd 0)))) (Zv (ZB ["End"] "state" (Zd 0) (mC (.str "closed")))
    (ZB ["End"] "error" (Zd 0) (mC (.str "reset")))) (ZB ["End"] "owes_answer" (Zd 0) (mC (.bl true))))
def ZcQ:SM:=(Zv Zca
  Zb9)
def Za9:GM:=ZU 2 2 ZcQ
def Zbh:SM:=(whileL (ZfT (ZI (mOp neM (ZE ["End"] "rcv" (Zd 0)) (ZE ["End"] "early_fin" (Zd 0)))) (ZI (ZoT (ZE ["End"] "rcv" (Zd 0)) (ZE ["End"] "early" (Zd 0))))) (Zv (Zft 1 (ZlH (ZE ["End"] "early" (Zd 0)) (ZE ["End"] "rcv" (Zd 0))))
    (ZB ["End"] "rcv" (Zd 0) (mCB zo (Zc (ZE ["End"] "rcv" (Zd 0)) (Zc (mC (.int 1)) Zk))))) 200)
def Zc5:SM:=(Zv (Zih 1 Zk)
  (Zv Zbh
  (Zfs 1 (zJ (mCB Zfj (Zc (ZE ["End"] "come" (Zd 0)) (Zc (Zd 1) Zk)))))))
def ZaO:GM:=ZU 1 2 Zc5
def Zew:SM:=(mIf (ZI (mOp eqM (ZE ["End"] "state" (Zd 0)) (mC (.str "wait one")))) (ZB ["End"] "state" (Zd 0) (mC (.str "closing"))) (Zv (ZB ["End"] "state" (Zd 0) (mC (.str "time wait")))
      (ZB ["End"] "since" (Zd 0) (Zd 1))))
def ZcR:SM:=(mIf (ZI (mOp eqM (ZE ["End"] "state" (Zd 0)) (mC (.str "open")))) (ZB ["End"] "state" (Zd 0) (mC (.str "close wait"))) Zew)
def ZdQ:SM:=(Zv (ZB ["End"] "rcv" (Zd 0) (mCB zo (Zc (ZE ["End"] "rcv" (Zd 0)) (Zc (mC (.int 1)) Zk))))
  ZcR)
def Zb6:GM:=ZU 2 2 ZdQ
def ZaR:SM:=(mIf (z5 (mCB zm (Zc (Zd 0) (Zc (Zd 4) Zk)))) (zJ (ZkX (ZE ["End"] "early" (Zd 0)) (Zd 4) (Zd 3))) ZS)
def Zct:SM:=(ZoS (Zc (mOp ixM (Zd 1) (mC (.int 7))) Zk) 2 3 (Zv (zc 4 (mCB zo (Zc (mOp ixM (Zd 1) (mC (.int 2))) (Zc (Zd 2) Zk))))
    ZaR))
def Zcs:SM:=(mIf (ZI (mOp gtM (mCB Zeg (Zc (mOp ixM (Zd 1) (mC (.int 7))) Zk)) (mC (.int 0)))) (ZB ["End"] "owes_answer" (Zd 0) (mC (.bl true))) ZS)
def Zde:SM:=(Zv Zct
  Zcs)
def ZbB:GM:=ZU 2 5 Zde
def ZcP:SM:=(mIf (ZeM (z5 (mCB Z2 (Zc (Zd 1) (Zc (mC (.int 1)) Zk))))) Zfq ZS)
def ZaE:SM:=(mIf (ZfT (ZI (mOp isM (ZE ["End"] "early_fin" (Zd 0)) (mC .non))) (z5 (mCB zm (Zc (Zd 0) (Zc (Zd 2) Zk))))) (ZB ["End"] "early_fin" (Zd 0) (Zd 2)) ZS)
def ZdP:SM:=(Zv ZcP
  (Zv (ZB ["End"] "owes_answer" (Zd 0) (mC (.bl true)))
  (Zv (zc 2 (mCB zo (Zc (mOp ixM (Zd 1) (mC (.int 2))) (Zc (mCB Zeg (Zc (mOp ixM (Zd 1) (mC (.int 7))) Zk)) Zk))))
  ZaE)))
def Zb5:GM:=ZU 2 3 ZdP
def ZaX:SM:=(mIf (ZI (mOp Zec (ZE ["End"] "state" (Zd 0)) (Zb8 (Zc (mC (.str "open")) (Zc (mC (.str "wait one")) (Zc (mC (.str "wait two")) Zk)))))) Zfq ZS)
def ZbR:SM:=(mIf (ZI (mOp eqM (ZE ["End"] "rcv" (Zd 0)) (ZE ["End"] "early_fin" (Zd 0)))) (zJ (mCB Zb6 (Zc (Zd 0) (Zc (Zd 2) Zk)))) ZS)
def Zbr:SM:=(Zv ZaX
  (Zv (zJ (mCB ZbB (Zc (Zd 0) (Zc (Zd 1) Zk))))
  (Zv (zJ (mCB Zb5 (Zc (Zd 0) (Zc (Zd 1) Zk))))
  (Zv (zJ (mCB ZaO (Zc (Zd 0) Zk)))
  ZbR))))
def Zas:GM:=ZU 3 3 Zbr
def Zbq:SM:=(mIf (z5 (mCB Z2 (Zc (Zd 1) (Zc (mC (.int 4)) Zk)))) Zfq ZS)
def Zcq:SM:=(mIf (ZfT (ZI (mOp eqM (ZE ["End"] "state" (Zd 0)) (mC (.str "syn come")))) (ZfT (z5 (mCB Z2 (Zc (Zd 1) (Zc (mC (.int 2)) Zk)))) (ZeM (z5 (mCB Z2 (Zc (Zd 1) (Zc (mC (.int 16)) Zk))))))) (ZB ["End"] "owes_syn" (Zd 0) (mC (.bl true))) (ZB ["End"] "owes_answer" (Zd 0) (mC (.bl true))))
def Zcp:SM:=(mIf (ZI (mOp eqM (ZE ["End"] "state" (Zd 0)) (mC (.str "time wait")))) (ZB ["End"] "since" (Zd 0) (Zd 2)) ZS)
def Zcf:SM:=(Zv Zbq
  (Zv Zcq
  Zcp))
def Za2:GM:=ZU 3 3 Zcf
def Zan:SM:=(mIf (ZfT (z5 (mCB Z2 (Zc (Zd 1) (Zc (mC (.int 16)) Zk)))) (z5 (mCB ZZ (Zc (Zd 0) (Zc (Zd 1) (Zc (Zd 2) Zk)))))) (zJ (mCB Zas (Zc (Zd 0) (Zc (Zd 1) (Zc (Zd 2) Zk))))) ZS)
def zQ:SM:=(mIf (z5 (mCB Z2 (Zc (Zd 1) (Zc (mC (.int 2)) Zk)))) (ZB ["End"] "owes_answer" (Zd 0) (mC (.bl true))) Zan)
def zw:SM:=(mIf (z5 (mCB Z2 (Zc (Zd 1) (Zc (mC (.int 4)) Zk)))) (zJ (mCB Za9 (Zc (Zd 0) (Zc (Zd 1) Zk)))) zQ)
def zg:SM:=(mIf (ZeM (z5 (mCB ZfP (Zc (Zd 0) (Zc (Zd 1) Zk))))) (zJ (mCB Za2 (Zc (Zd 0) (Zc (Zd 1) (Zc (Zd 2) Zk))))) zw)
def zt:SM:=zg
def Z8:GM:=ZU 3 3 zt
def Zhc:SM:=(ZT (Zcu (mOp eqM (mOp ixM (Zd 1) (mC (.int 1))) (ZE ["End"] "ours" (Zd 0))) (Zmr (mOp inM (ZE ["End"] "state" (Zd 0)) (Zb8 (Zc (mC (.str "closed")) (Zc (mC (.str "listen")) Zk)))) (mOp eqM (mOp ixM (Zd 1) (mC (.int 0))) (ZE ["End"] "theirs" (Zd 0))))))
def Zd9:GM:=ZU 2 2 Zhc
def ZbW:SM:=(mIf (ZeM (z5 (mCB z8 (Zc (Zd 1) Zk)))) (ZT (mC (.bl false))) ZS)
def ZbV:SM:=(mIf (ZeM (z5 (mCB Zd9 (Zc (Zd 0) (Zc (Zd 3) Zk))))) (ZT (mC (.bl false))) ZS)
def ZdR:SM:=(mIf (ZI (mOp eqM (ZE ["End"] "state" (Zd 0)) (mC (.str "syn sent")))) (zJ (mCB ZQ (Zc (Zd 0) (Zc (Zd 3) (Zc (Zd 2) Zk))))) (zJ (mCB Z8 (Zc (Zd 0) (Zc (Zd 3) (Zc (Zd 2) Zk))))))
def Zcx:SM:=(mIf (ZI (mOp eqM (ZE ["End"] "state" (Zd 0)) (mC (.str "listen")))) (zJ (mCB zu (Zc (Zd 0) (Zc (Zd 3) Zk)))) ZdR)
def ZbU:SM:=(mIf (ZI (mOp eqM (ZE ["End"] "state" (Zd 0)) (mC (.str "closed")))) (zJ (mCB Zaz (Zc (Zd 0) (Zc (Zd 3) Zk)))) Zcx)
def ZcT:SM:=(Zv ZbW
  (Zv (zc 3 (mCB ZhE (Zc (Zd 1) Zk)))
  (Zv ZbV
  (Zv ZbU
  (ZT (mC (.bl true)))))))
def ZaA:GM:=ZU 3 4 ZcT
def Zc3:SM:=(mIf (mOr (z5 (ZE ["End"] "has_closed" (Zd 0))) (ZI (mOp Zec (ZE ["End"] "state" (Zd 0)) (Zb8 (Zc (mC (.str "syn sent")) (Zc (mC (.str "syn come")) (Zc (mC (.str "open")) (Zc (mC (.str "close wait")) Zk)))))))) (ZT (mC (.int 0))) ZS)
def ZeH:SM:=(Zv Zc3
  (Zv (zc 2 (mCB Zfj (Zc (ZE ["End"] "written" (Zd 0)) (Zc (Zd 1) Zk))))
  (Zv (ZB ["End"] "behind" (Zd 0) (mCB zo (Zc (ZE ["End"] "behind" (Zd 0)) (Zc (Zd 2) Zk))))
  (ZT (Zd 2)))))
def ZcU:GM:=ZU 2 3 ZeH
def ZcO:SM:=(mIf (ZfT (z5 (Zd 2)) (ZfT (ZI (mOp gtM (mCB zK (Zc (Zd 0) Zk)) (mC (.int 0)))) (ZI (mOp inM (ZE ["End"] "state" (Zd 0)) (Zb8 (Zc (mC (.str "open")) (Zc (mC (.str "wait one")) (Zc (mC (.str "wait two")) Zk)))))))) (ZB ["End"] "owes_answer" (Zd 0) (mC (.bl true))) ZS)
def Zep:SM:=(Zv (zc 2 (mOp eqM (mCB zK (Zc (Zd 0) Zk)) (mC (.int 0))))
  (Zv (zc 3 (mCB Zb2 (Zc (ZE ["End"] "come" (Zd 0)) (Zc (Zd 1) Zk))))
  (Zv ZcO
  (ZT (Zd 3)))))
def Zc8:GM:=ZU 2 4 Zep
def Zgk:SM:=(mIf (ZI (mOp eqM (mOp Zbm (Zd 0) (mC (.int 2))) (mC (.int 0)))) (ZT (mOp Zbm (mOp ZeZ (mC (.int 4294967296)) (mOp Zbm (mOp Zgx (Zd 0) (mC (.int 2))) (mC (.int 90)))) (mC (.int 4294967296)))) ZS)
def Zh3:SM:=(Zv Zgk
  (ZT (Zd 0)))
def ZcY:GM:=ZU 1 1 Zh3
end
end My
namespace My
open PySem L2 L2.MM
noncomputable section
def bears (s:Seg) (f:Int):Bool:=decide (bit s.flags f=1)
def ZgW (s:Seg):Int:=s.data.length+bit s.flags 2+bit s.flags 1
def Zff (s:Seg):Seg:=if bears s 16=true then ⟨s.goal,s.src,s.ans,0,4,0,0,[]⟩ else ⟨s.goal,s.src,0,Zw s.num (ZgW s),20,0,0,[]⟩
def Za4 (e:Zu) (s:Seg):Zu:=if bears s 4=true then e else { e with owed_reset:=some (Zff s) }
def hearSyn (e:Zu) (s:Seg):Zu:={ e with rcv:=Zw s.num 1,wnd:=s.win,told:=s.num,told_by:=if bears s 16=true then s.ans else 0,most:=if s.most=0 then e.most else s.most }
def Zbx (e:Zu) (s:Seg):Zu:=
  if bears s 4=true then e
  else if bears s 16=true then Za4 e s
  else if bears s 2=true then { hearSyn { e with theirs:=s.src } s with state:=.synCome }
  else e
def Zcb (e:Zu) (s:Seg):Bool:=!decide (e.nxt=e.first) && decide (s.ans=Zw e.first 1)
def Z9 (e:Zu) (s:Seg) (now:Int):Zu:=
  if bears s 16=true∧Zcb e s=false then Za4 e s
  else if bears s 4=true then (if bears s 16=true then { e with state:=.closed,error:=.refused } else e)
  else if bears s 2=true then
    (if bears s 16=true then { hearSyn e s with una:=s.ans,state:=.opn,owes_answer:=true }
     else { zi { hearSyn e s with state:=.synCome } now with owes_syn:=true })
  else e
def ZeS (e:Zu) (s:Seg):Bool:=decide (s.goal=e.ours) && (decide (e.state∈[State.closed,.listen]) || decide (s.src=e.theirs))
section
variable {θ:Sto} {l:Nat} {e:Zu} {s:Seg} {now f:Int}
@[simp] theorem Zu7:Z2 [s.d,.int f] θ=.ok (.bl (bears s f)) θ:=by
  simp [Z2,ZhZ,bears]
theorem ZfI:Zcj [s.d] θ=.ok (.int (ZgW s)) θ:=Zn0 s θ
@[simp] theorem Zre:ZbA [s.d] θ=.ok (Zff s).d θ:=by
  by_cases c:bears s 16=true
  · simp [ZbA,Zdb,Zcr,c,Zff,ZkL]
  · simp [ZbA,Zdb,Zcr,c,Zff,ZkL,ZfI]
@[simp] theorem Zrf (h:l+3 < θ.length):ZY [.ref l,s.d] (upE θ l e)=.ok .non (upE θ l (Za4 e s)):=by
  by_cases c:bears s 4=true
  · simp [ZY,ZbP,Zbf,h,c,Za4]
  · simp [ZY,ZbP,Zbf,h,c,Za4]
@[simp] theorem Zl9 (h:l+3 < θ.length):Zaz [.ref l,s.d] (upE θ l e)=.ok .non (upE θ l (Za4 e s)):=by
  simp [Zaz,ZcS,h]
@[simp] theorem Zr4 (h:l+3 < θ.length):Zbu [.ref l,s.d] (upE θ l e)=.ok .non (upE θ l (hearSyn e s)):=by
  by_cases c:bears s 16=true<;>by_cases c2:s.most=0<;>simp [Zbu,ZfD,Zev,h,c,c2,hearSyn]
@[simp] theorem Zl8 (h:l+3 < θ.length):zu [.ref l,s.d] (upE θ l e)=.ok .non (upE θ l (Zbx e s)):=by
  by_cases c:bears s 4=true
  · simp [zu,Zac,zR,h,c,Zbx]
  · by_cases c1:bears s 16=true
    · simp [zu,Zac,zR,Zap,Zao,h,c,c1,Zbx]
    · by_cases c2:bears s 2=true
      · simp [zu,Zac,zR,Zap,Zao,h,c,c1,c2,Zbx]
      · simp [zu,Zac,zR,Zap,Zao,h,c,c1,c2,Zbx]
@[simp] theorem ZpE (h:l+3 < θ.length):Zbl [.ref l,s.d] (upE θ l e)=.ok (.bl (Zcb e s)) (upE θ l e):=by
  by_cases c:e.nxt=e.first<;>simp [Zbl,Zd3,h,Zcb,c]
@[simp] theorem ZkI (h:l+3 < θ.length):ZQ [.ref l,s.d,.int now] (upE θ l e)=.ok .non (upE θ l (Z9 e s now)):=by
  by_cases c:bears s 16=true
  · by_cases c1:Zcb e s=true
    · by_cases c2:bears s 4=true
      · simp [ZQ,Z1,ZV,Z4,Zd8,Ze7,ZdN,h,c,c1,c2,Z9]
      · by_cases c3:bears s 2=true
        · simp [ZQ,Z1,ZV,Z4,zD,zF,ZaF,Zaf,h,c,c1,c2,c3,Z9]
        · simp [ZQ,Z1,ZV,Z4,zD,h,c,c1,c2,c3,Z9]
    · simp [ZQ,Z1,ZV,h,c,c1,Z9]
  · by_cases c2:bears s 4=true
    · simp [ZQ,Z1,ZV,Z4,Zd8,Ze7,ZdN,h,c,c2,Z9]
    · by_cases c3:bears s 2=true
      · simp [ZQ,Z1,ZV,Z4,zD,zF,ZaF,Zaf,h,c,c2,c3,Z9]
      · simp [ZQ,Z1,ZV,Z4,zD,h,c,c2,c3,Z9]
@[simp] theorem ZtR (h:l+3 < θ.length):Zd9 [.ref l,s.d] (upE θ l e)=.ok (.bl (ZeS e s)) (upE θ l e):=by
  simp [Zd9,Zhc,h,ZeS]
theorem Zgr (h:l+3 < θ.length) {r:List Int} (hb:Byt r) (hr:ZaM r=true) (hf:ZeS e (ZbM r)=true) (hs:e.state=.closed):ZaA [.ref l,il r,.int now] (upE θ l e)=.ok (.bl true) (upE θ l (Za4 e (ZbM r))):=by
  simp [ZaA,ZcT,ZbW,ZbV,ZbU,ZcC hb,hr,Zlh hb hr,h,hf,hs]
theorem Zgq (h:l+3 < θ.length) {r:List Int} (hb:Byt r) (hr:ZaM r=true) (hf:ZeS e (ZbM r)=true) (hs:e.state=.listen):ZaA [.ref l,il r,.int now] (upE θ l e)=.ok (.bl true) (upE θ l (Zbx e (ZbM r))):=by
  simp [ZaA,ZcT,ZbW,ZbV,ZbU,Zcx,ZcC hb,hr,Zlh hb hr,h,hf,hs]
theorem ZfK (h:l+3 < θ.length) {r:List Int} (hb:Byt r) (hr:ZaM r=true) (hf:ZeS e (ZbM r)=true) (hs:e.state=.synSent):ZaA [.ref l,il r,.int now] (upE θ l e)=.ok (.bl true) (upE θ l (Z9 e (ZbM r) now)):=by
  simp [ZaA,ZcT,ZbW,ZbV,ZbU,Zcx,ZdR,ZcC hb,hr,Zlh hb hr,h,hf,hs]
def ZdL (n:Int):Int:=if n % 2=0 then (4294967296-n/2 % 90) % 4294967296 else n
@[simp] theorem ZtQ {n:Int}:ZcY [.int n] θ=.ok (.int (ZdL n)) θ:=by
  by_cases c:n % 2=0<;>simp [ZcY,Zh3,Zgk,ZdL,c]
end
end
end My
namespace My
open PySem L2 L2.MM
noncomputable section
section
variable {θ:Sto} {ρ:List Sl} {fi fo fe ff:EM} {fa:AM} {i j k:Nat} {b:SM} {x:D} {r:List D}
theorem nr' {p:Prop} (h:p):p:=h
@[simp] theorem Zyi:ZoT fi fo ρ θ=(fi ρ θ).bind fun y θ=>(fo ρ θ).bind fun d θ=>match Zkk y,ZfZ θ d with
  | some k,some (_,kvs)=>.ok (.bl (valD kvs k).isSome) θ
  | _,_=>.bad:=nr' rfl
@[simp] theorem Zw4:ZlH fo fe ρ θ=(fo ρ θ).bind fun d θ=>match ZfZ θ d with
  | none=>.bad
  | some _=>(fe ρ θ).bind fun y θ=>match Zkk y,ZfZ θ d with
    | some k,some (l,kvs)=>match valD kvs k with
      | some v=>.ok v (θ.set l (.dK (dropD kvs k)))
      | none=>.bad
    | _,_=>.bad:=nr' rfl
@[simp] theorem Zu1:ZkX fo fe ff ρ θ=(fo ρ θ).bind fun d θ=>match ZfZ θ d with
  | none=>.bad
  | some _=>(fe ρ θ).bind fun y θ=>(ff ρ θ).bind fun z θ=>match Zkk y,ZfZ θ d with
    | some k,some (l,kvs)=>if kvs.length<BIG then (match valD kvs k with
      | some v=>.ok v θ
      | none=>.ok z (θ.set l (.dK (putD kvs k z)))) else .bad
    | _,_=>.bad:=nr' rfl
@[simp] theorem Zw3 {n:Int}:Zkk (.int n)=some (.inl n):=nr' rfl
end
abbrev EL:=List (Int×Int)
def atE (m:EL) (n:Int):Option Int:=(m.find? fun p=>decide (p.1=n)).map (·.2)
def Zc2 (m:EL) (n:Int):EL:=m.filter fun p=>decide (p.1≠n)
def Zgc (m:EL) (n b:Int):EL:=match atE m n with | some _=>m | none=>m++[(n,b)]
abbrev ed (p:Int×Int):Key×D:=(Sum.inl p.1,D.int p.2)
theorem Zfb (n:Int):∀m:EL,valD (m.map ed) (.inl n)=(atE m n).map D.int
  | []=>rfl
  | p::r=>by
    have ih:=Zfb n r
    unfold valD atE at ih ⊢
    by_cases e:p.1=n
    · simp [ed,e]
    · simpa [ed,e] using ih
theorem Zkv (n:Int):∀m:EL,dropD (m.map ed) (.inl n)=(Zc2 m n).map ed
  | []=>rfl
  | p::r=>by
    have ih:=Zkv n r
    unfold dropD Zc2 at ih ⊢
    by_cases e:p.1=n
    · simpa [ed,e] using ih
    · simpa [ed,e] using ih
theorem Zpv (n:Int):∀m:EL,((m.map ed).any fun kv=>decide (kv.1=Sum.inl n))=(atE m n).isSome
  | []=>rfl
  | p::r=>by
    have ih:=Zpv n r
    unfold atE at ih ⊢
    by_cases e:p.1=n
    · simp [ed,e]
    · simpa [ed,e] using ih
theorem Zqc (n b:Int) (m:EL) (h:atE m n=none):putD (m.map ed) (.inl n) (.int b)=(m++[(n,b)]).map ed:=by
  unfold putD
  rw [Zpv,h]
  simp [ed]
section
variable {θ:Sto} {l:Nat} {e:Zu} {s:Seg} {now:Int}
theorem dk3 (h:l+3 < θ.length):ZfZ (upE θ l e) (.ref (l+3))=some (l+3,e.early.map ed):=by
  have:(upE θ l e)[l+3]?=some (c3 e):=by
    unfold upE
    rw [List.getElem?_set_self (by simpa using h)]
  show (match (upE θ l e)[l+3]? with | some (Cell.dK kvs)=>some (l+3,kvs) | _=>none)=_
  rw [this]
  rfl
theorem Zt0 (h:l+3 < θ.length) (m:EL):(upE θ l e).set (l+3) (.dK (m.map ed))=upE θ l { e with early:=m }:=by
  unfold upE
  rw [List.set_set]
  rfl
end
def inWin (e:Zu) (n:Int):Bool:=decide (0≤ZL n e.rcv) && decide (ZL n e.rcv<ZM e)
def ZdX (e:Zu) (s:Seg):Bool:=if ZgW s=0 then decide (0≤ZL s.num e.rcv) && decide (ZL s.num e.rcv≤64) else inWin e s.num || inWin e (Zw s.num (ZgW s-1))
def Zcg (e:Zu) (s:Seg) (now:Int):Zu:=
  if bears s 4=true then e
  else if e.state=.timeWait then { e with owes_answer:=true,since:=now }
  else if e.state=.synCome∧bears s 2=true∧bears s 16=false then { e with owes_syn:=true }
  else { e with owes_answer:=true }
def ZeD (e:Zu) (s:Seg):Zu:=if e.state=.timeWait then e else if s.num=e.rcv then { e with state:=.closed,error:=.reset } else { e with owes_answer:=true }
def ZaN (a b:Int):Bool:=decide (0<ZL a b)
def ZeA (e:Zu) (s:Seg):Zu:={ e with wnd:=s.win,told:=s.num,told_by:=s.ans }
def Zaq (e:Zu) (s:Seg):Bool×Zu:=
  if e.nxt=e.first∨¬s.ans=e.nxt then (false,Za4 e s)
  else (true,ZeA { e with una:=s.ans,state:=if e.has_closed=true then .waitOne else .opn } s)
def isNewer (e:Zu) (s:Seg):Bool:=if s.num=e.told then !ZaN e.told_by s.ans else ZaN s.num e.told
def Zce (e:Zu) (s:Seg) (now:Int):Zu:=
  if ZaN s.ans e.una=true then
    (if s.ans=e.nxt then { e with written:=e.written.drop (ZL s.ans e.una).toNat,una:=s.ans } else zi { e with written:=e.written.drop (ZL s.ans e.una).toNat,una:=s.ans } now)
  else e
def zU (e:Zu) (s:Seg) (now:Int):Zu:=
  let e1:=Zce e s now
  if ZaN e1.una s.ans=true then e1
  else
    let e2:=if (ZaN s.ans e.una || isNewer e1 s)=true then ZeA e1 s else e1
    if e1.wnd=0∨e2.wnd=0 then { e2 with tries:=0 } else e2
def Zfd (e:Zu):Bool:=ZaN e.nxt e.behind
def ZaQ (e:Zu) (now:Int):Zu:=
  if Zfd e=false∨¬e.una=e.nxt then e
  else if e.state=.waitOne then { e with state:=.waitTwo }
  else if e.state=.closing then { e with state:=.timeWait,since:=now }
  else if e.state=.lastAck then { e with state:=.closed }
  else e
def Zav (e:Zu) (s:Seg) (now:Int):Bool×Zu:=
  if e.state=.synCome then Zaq e s
  else if ZaN s.ans e.nxt=true then (false,{ e with owes_answer:=true })
  else (!decide ((ZaQ (zU e s now) now).state=.closed),ZaQ (zU e s now) now)
def ZaW (e:Zu) (num:Int):Nat→List Int→Zu
  | _,[]=>e
  | k,b::r=>ZaW (if inWin e (Zw num k)=true then { e with early:=Zgc e.early (Zw num k) b } else e) num (k+1) r
def Zaa (e:Zu) (s:Seg):Zu:=if 0<s.data.length then { ZaW e s.num 0 s.data with owes_answer:=true } else ZaW e s.num 0 s.data
def Zbc (e:Zu) (s:Seg):Zu:=
  if bears s 1=false then e
  else if e.early_fin=none∧inWin e (Zw s.num s.data.length)=true then { e with owes_answer:=true,early_fin:=some (Zw s.num s.data.length) }
  else { e with owes_answer:=true }
def drawn:Nat→Zu→List Int×Zu
  | 0,e=>([],e)
  | n+1,e=>if e.early_fin=some e.rcv then ([],e) else match atE e.early e.rcv with
    | none=>([],e)
    | some b=>(b::(drawn n { e with early:=Zc2 e.early e.rcv,rcv:=Zw e.rcv 1 }).1,(drawn n { e with early:=Zc2 e.early e.rcv,rcv:=Zw e.rcv 1 }).2)
def Zfv (e:Zu) (r:List Int):Zu:={ e with come:=e.come++Za7 r none (some (ZM e)) }
def ZgD (e:Zu) (now:Int):Zu:=
  if e.state=.opn then { e with rcv:=Zw e.rcv 1,state:=.closeWait }
  else if e.state=.waitOne then { e with rcv:=Zw e.rcv 1,state:=.closing }
  else { e with rcv:=Zw e.rcv 1,state:=.timeWait,since:=now }
section
variable {θ:Sto} {l:Nat} {e:Zu} {s:Seg} {now n a b:Int}
@[simp] theorem Zxc:Zb3 [.int a,.int b] θ=.ok (.bl (ZaN a b)) θ:=by simp [Zb3,ZkC,ZaN]
@[simp] theorem ZrU (h:l+3 < θ.length):Za3 [.ref l] (upE θ l e)=.ok (.bl (Zfd e)) (upE θ l e):=by
  simp [Za3,Zdu,h,Zfd]
@[simp] theorem Zrh (h:l+3 < θ.length):zm [.ref l,.int n] (upE θ l e)=.ok (.bl (inWin e n)) (upE θ l e):=by
  by_cases c:0≤ZL n e.rcv<;>simp [zm,Zdt,h,inWin,ZM,c]<;>exact decide_eq_decide.mpr Iff.rfl
@[simp] theorem Zxd (h:l+3 < θ.length):ZfP [.ref l,s.d] (upE θ l e)=.ok (.bl (ZdX e s)) (upE θ l e):=by
  by_cases c:ZgW s=0
  · by_cases c1:0≤ZL s.num e.rcv<;>simp [ZfP,Zhf,Ze8,h,ZfI,c,c1,ZdX]
  · by_cases c1:inWin e s.num=true<;>simp [ZfP,Zhf,Ze8,h,ZfI,c,c1,ZdX]
@[simp] theorem Zrd (h:l+3 < θ.length):Za2 [.ref l,s.d,.int now] (upE θ l e)=.ok .non (upE θ l (Zcg e s now)):=by
  by_cases c4:bears s 4=true
  · simp [Za2,Zcf,Zbq,h,c4,Zcg]
  · by_cases ct:e.state=.timeWait
    · simp [Za2,Zcf,Zbq,Zcq,Zcp,h,c4,ct,Zcg]
    · by_cases cs:e.state=.synCome<;>by_cases c2:bears s 2=true<;>by_cases c16:bears s 16=true<;>simp [Za2,Zcf,Zbq,Zcq,Zcp,h,c4,ct,cs,c2,c16,Zcg]
@[simp] theorem ZpT (h:l+3 < θ.length):Za9 [.ref l,s.d] (upE θ l e)=.ok .non (upE θ l (ZeD e s)):=by
  by_cases ct:e.state=.timeWait
  · simp [Za9,ZcQ,Zca,Zb9,h,ct,ZeD]
  · by_cases c:s.num=e.rcv<;>simp [Za9,ZcQ,Zca,Zb9,h,ct,c,ZeD]
@[simp] theorem ZpA (h:l+3 < θ.length):Zar [.ref l,s.d] (upE θ l e)=.ok .non (upE θ l (ZeA e s)):=by
  simp [Zar,Zd0,h,ZeA]
@[simp] theorem Zn3 (h:l+3 < θ.length):zp [.ref l,s.d] (upE θ l e)=.ok (.bl (Zaq e s).1) (upE θ l (Zaq e s).2):=by
  by_cases c1:e.nxt=e.first
  · simp [zp,Zak,zY,h,c1,Zaq]
  · by_cases c2:s.ans=e.nxt
    · by_cases c3:e.has_closed=true<;>simp [zp,Zak,zY,h,c1,c2,c3,Zaq]
    · simp [zp,Zak,zY,h,c1,c2,Zaq]
@[simp] theorem Zr2 (h:l+3 < θ.length):ZcG [.ref l,s.d] (upE θ l e)=.ok (.bl (isNewer e s)) (upE θ l e):=by
  by_cases c:s.num=e.told<;>simp [ZcG,ZfC,Zeu,h,c,isNewer]
theorem ZpO (h:l+3 < θ.length):Zb2 [.ref (l+1),.int n] (upE θ l e)=.ok (il (e.written.take n.toNat)) (upE θ l { e with written:=e.written.drop n.toNat }):=by
  by_cases c:0<n
  · simp [Zb2,ZcN,h,Zem,ZcL,c,show 0≤n by omega,show ¬n<0 by omega]
  · have z:n.toNat=0:=by omega
    by_cases c0:n<0
    · simp [Zb2,ZcN,h,Zem,ZcL,z,c0,ZdJ]
    · have n0:n=0:=by omega
      simp [Zb2,ZcN,h,Zem,ZcL,n0,ZdJ]
theorem ZpN (h:l+3 < θ.length):Zb2 [.ref (l+2),.int n] (upE θ l e)=.ok (il (e.come.take n.toNat)) (upE θ l { e with come:=e.come.drop n.toNat }):=by
  by_cases c:0<n
  · simp [Zb2,ZcN,h,Zem,ZcL,c,show 0≤n by omega,show ¬n<0 by omega]
  · have z:n.toNat=0:=by omega
    by_cases c0:n<0
    · simp [Zb2,ZcN,h,Zem,ZcL,z,c0,ZdJ]
    · have n0:n=0:=by omega
      simp [Zb2,ZcN,h,Zem,ZcL,n0,ZdJ]
@[simp] theorem ZpC (h:l+3 < θ.length):zL [.ref l,s.d,.int now] (upE θ l e)=.ok .non (upE θ l (zU e s now)):=by
  have tk:=fun (e:Zu) (n:Int)=>ZpO (θ:=θ) (l:=l) (e:=e) (n:=n) h
  have h2:Zaj [.val (.ref l),.val s.d,.val (.int now),.val (.int s.ans),.val (.bl (ZaN s.ans e.una)),.no] (upE θ l e)=.ok (.nx,[.val (.ref l),.val s.d,.val (.int now),.val (.int s.ans),.val (.bl (ZaN s.ans e.una)),.no]) (upE θ l (Zce e s now)):=by
    unfold Zce
    by_cases c1:ZaN s.ans e.una=true
    · rw [if_pos c1]
      by_cases c2:s.ans=e.nxt
      · rw [if_pos c2,c1]
        simp [Zaj,ZbS,h,tk,c2]
      · rw [if_neg c2,c1]
        simp [Zaj,ZbS,h,tk,c2]
    · rw [if_neg c1]
      simp [Zaj,c1]
  unfold zU
  obtain ⟨e1,he1⟩:∃x,x=Zce e s now:=⟨_,rfl⟩
  rw [←he1] at h2 ⊢
  obtain ⟨g,hg⟩:∃x,x=ZaN s.ans e.una:=⟨_,rfl⟩
  rw [←hg] at h2 ⊢
  clear he1
  by_cases c3:ZaN e1.una s.ans=true
  · simp [zL,ZaS,h,←hg,h2,Zai,c3]
  · have w0:∀x:Zu,(if (g || isNewer e1 s)=true then ZeA e1 s else e1)=x→zL [.ref l,s.d,.int now] (upE θ l e)=.ok .non (upE θ l (if e1.wnd=0∨x.wnd=0 then { x with tries:=0 } else x)):=by
      intro x hx
      have h4:ZaZ [.val (.ref l),.val s.d,.val (.int now),.val (.int s.ans),.val (.bl g),.val (.bl (decide (e1.wnd=0)))] (upE θ l e1)=.ok (.nx,[.val (.ref l),.val s.d,.val (.int now),.val (.int s.ans),.val (.bl g),.val (.bl (decide (e1.wnd=0)))]) (upE θ l x):=by
        rw [←hx]
        cases g
        · by_cases c:isNewer e1 s=true<;>simp [ZaZ,h,c]
        · simp [ZaZ,h]
      by_cases c5:e1.wnd=0
      · rw [if_pos (.inl c5)]
        simp [zL,ZaS,h,←hg,h2,Zai,c3,c5] at h4 ⊢
        simp [h4,ZaY,h]
      · by_cases c6:x.wnd=0
        · rw [if_pos (.inr c6)]
          simp [zL,ZaS,h,←hg,h2,Zai,c3,c5] at h4 ⊢
          simp [h4,ZaY,h,c6]
        · rw [if_neg (by intro z; exact z.elim c5 c6)]
          simp [zL,ZaS,h,←hg,h2,Zai,c3,c5] at h4 ⊢
          simp [h4,ZaY,h,c6]
    simp only [if_neg c3]
    exact w0 _ rfl
@[simp] theorem Zri (h:l+3 < θ.length):ZP [.ref l,.int now] (upE θ l e)=.ok .non (upE θ l (ZaQ e now)):=by
  by_cases c1:Zfd e=true
  · by_cases c2:e.una=e.nxt
    · cases c:e.state<;>simp [ZP,zn,zh,ZaI,ZaH,ZaG,h,c,c1,c2,ZaQ]
    · simp [ZP,zn,zh,h,c1,c2,ZaQ]
  · simp [ZP,zn,zh,h,c1,ZaQ]
@[simp] theorem Ztq (h:l+3 < θ.length):ZZ [.ref l,s.d,.int now] (upE θ l e)=.ok (.bl (Zav e s now).1) (upE θ l (Zav e s now).2):=by
  by_cases c1:e.state=.synCome
  · simp [ZZ,zE,zy,h,c1,Zav]
  · by_cases c2:ZaN s.ans e.nxt=true
    · simp [ZZ,zE,zy,zZ,h,c1,c2,Zav]
    · simp [ZZ,zE,zy,zZ,h,c1,c2,Zav]
end
end
end My
namespace My
open PySem L2 L2.MM
noncomputable section
theorem ZhM (m:EL) (n b:Int):(Zgc m n b).length≤m.length+1:=by
  unfold Zgc
  cases atE m n<;>simp
section
variable {θ:Sto} {l:Nat} {e:Zu} {s:Seg} {now n b:Int}
abbrev keepB:SM:=Zv (zc 4 (mCB zo (Zc (mOp ixM (Zd 1) (mC (.int 2))) (Zc (Zd 2) Zk)))) ZaR
theorem ZpS (h:l+3 < θ.length) (k:Nat) (x:Sl) (he:e.early.length<1000):keepB [.val (.ref l),.val s.d,.val (.int k),.val (.int b),x] (upE θ l e)=.ok (.nx,[.val (.ref l),.val s.d,.val (.int k),.val (.int b),.val (.int (Zw s.num k))]) (upE θ l (if inWin e (Zw s.num k)=true then { e with early:=Zgc e.early (Zw s.num k) b } else e)):=by
  have hd:=fun (e:Zu)=>dk3 (θ:=θ) (l:=l) (e:=e) h
  have hs:=fun (e:Zu) (m:EL)=>Zt0 (θ:=θ) (l:=l) (e:=e) h m
  have hB:(e.early.map ed).length<BIG:=by simp [BIG]; omega
  obtain ⟨n,hn⟩:∃n,n=Zw s.num k:=⟨_,rfl⟩
  by_cases c:inWin e n=true
  · unfold Zgc
    cases c2:atE e.early n with
    | some v=>
      simp [ZaR,h,←hn,c,hd,hB,Zfb,c2,-List.length_map]
    | none=>
      simp [ZaR,h,←hn,c,hd,hB,Zfb,c2,Zqc,hs,-List.length_map,-List.map_append]
  · simp [ZaR,h,←hn,c]
theorem Zlf (h:l+3 < θ.length):∀(r:List Int) (k:Nat) (x y z:Sl) (e:Zu),e.early.length+r.length<1000→
    ∃x' y' z',forE 2 3 keepB k (r.map D.int) [.val (.ref l),.val s.d,x,y,z] (upE θ l e)=.ok (.nx,[.val (.ref l),.val s.d,x',y',z']) (upE θ l (ZaW e s.num k r))
  | [],k,x,y,z,e,_=>⟨x,y,z,rfl⟩
  | b::r,k,x,y,z,e,hl=>by
    have hl':e.early.length+r.length+1<1000:=by simpa [Nat.add_assoc] using hl
    show ∃x' y' z',(keepB [.val (.ref l),.val s.d,.val (.int k),.val (.int b),z] (upE θ l e)).bind (Zf9 (forE 2 3 keepB (k+1) (r.map D.int)))=_
    rw [ZpS h k z (by omega)]
    exact Zlf h r (k+1) _ _ _ _ (by
      split
      · have:=ZhM e.early (Zw s.num k) b
        show (Zgc e.early (Zw s.num k) b).length+r.length<1000
        omega
      · omega)
@[simp] theorem ZjQ (h:l+3 < θ.length) (hl:e.early.length+s.data.length<1000):ZbB [.ref l,s.d] (upE θ l e)=.ok .non (upE θ l (Zaa e s)):=by
  obtain ⟨x,y,z,g⟩:=Zlf (s:=s) h s.data 0 .no .no .no e hl
  have h2:Zct [.val (.ref l),.val s.d,.no,.no,.no] (upE θ l e)=.ok (.nx,[.val (.ref l),.val s.d,x,y,z]) (upE θ l (ZaW e s.num 0 s.data)):=by
    rw [←g]
    simp [Zct,ZoS]
    rfl
  obtain ⟨e1,he1⟩:∃q,q=ZaW e s.num 0 s.data:=⟨_,rfl⟩
  unfold Zaa
  rw [←he1] at h2 ⊢
  by_cases c:0<s.data.length
  · rw [if_pos c]
    simp [ZbB,Zde,h2,Zcs,h,c]
  · rw [if_neg c]
    simp [ZbB,Zde,h2,Zcs,h,c]
@[simp] theorem Zsf (h:l+3 < θ.length) (e:Zu) (n:Int):za ["End"] "early_fin" (.int n) (.ref l) (upE θ l e)=some (upE θ l { e with early_fin:=some n }):=Zj0 h e (some n)
@[simp] theorem Zty (r:Option Int):Zck (Zgw r)=r.isNone:=by cases r<;>rfl
theorem ZjP (h:l+3 < θ.length):ZaE [.val (.ref l),.val s.d,.val (.int n)] (upE θ l e)=.ok (.nx,[.val (.ref l),.val s.d,.val (.int n)]) (upE θ l (if e.early_fin=none∧inWin e n=true then { e with early_fin:=some n } else e)):=by
  by_cases c2:e.early_fin=none
  · by_cases c3:inWin e n=true
    · rw [if_pos ⟨c2,c3⟩]
      have q:∀f,e.early_fin=f→f=none→ZaE [.val (.ref l),.val s.d,.val (.int n)] (upE θ l e)=.ok (.nx,[.val (.ref l),.val s.d,.val (.int n)]) (upE θ l { e with early_fin:=some n }):=by
        intro f hf h0
        have h1:e.early_fin.isNone=true:=by rw [hf,h0]; rfl
        simp [ZaE,h,h1,c3]
      exact q _ rfl c2
    · rw [if_neg fun z=>c3 z.2]
      have h1:e.early_fin.isNone=true:=by rw [c2]; rfl
      simp [ZaE,h,h1,c3]
  · rw [if_neg fun z=>c2 z.1]
    have h1:e.early_fin.isNone=false:=by cases q:e.early_fin<;>first | exact absurd q c2 | rfl
    simp [ZaE,h,h1]
@[simp] theorem ZkH (h:l+3 < θ.length):Zb5 [.ref l,s.d] (upE θ l e)=.ok .non (upE θ l (Zbc e s)):=by
  unfold Zbc
  by_cases c1:bears s 1=true
  · obtain ⟨n,hn⟩:∃n,n=Zw s.num s.data.length:=⟨_,rfl⟩
    have k2:=ZjP (e:={ e with owes_answer:=true }) (s:=s) (n:=n) h
    rw [←hn,c1]
    simp [Zb5,ZdP,ZcP,h,c1,←hn,k2]
    rfl
  · simp [Zb5,ZdP,ZcP,c1]
@[simp] theorem ZxE (n:Int) (r:Option Int):neM (.int n) (Zgw r) θ=.ok (.bl (!decide (r=some n))) θ:=by
  cases r with
  | none=>rw [Zif (by exact Zen rfl rfl rfl rfl)]; simp [look,Zgw]
  | some m=>simp [Zgw,eq_comm]
@[simp] theorem ZxX (n:Int) (r:Option Int):eqM (.int n) (Zgw r) θ=.ok (.bl (decide (r=some n))) θ:=by
  cases r with
  | none=>rw [Zir (by exact Zen rfl rfl rfl rfl)]; simp [look,Zgw]
  | some m=>simp [Zgw,eq_comm]
abbrev Zpf:TMr:=ZfT (ZI (mOp neM (ZE ["End"] "rcv" (Zd 0)) (ZE ["End"] "early_fin" (Zd 0)))) (ZI (ZoT (ZE ["End"] "rcv" (Zd 0)) (ZE ["End"] "early" (Zd 0))))
abbrev Zpg:SM:=Zv (Zft 1 (ZlH (ZE ["End"] "early" (Zd 0)) (ZE ["End"] "rcv" (Zd 0))))
    (ZB ["End"] "rcv" (Zd 0) (mCB zo (Zc (ZE ["End"] "rcv" (Zd 0)) (Zc (mC (.int 1)) Zk))))
theorem ZpW (h:l+3 < θ.length) (x:Sl):Zpf [.val (.ref l),x] (upE θ l e)=.ok (!decide (e.early_fin=some e.rcv) && (atE e.early e.rcv).isSome) (upE θ l e):=by
  have hd:=fun (e:Zu)=>dk3 (θ:=θ) (l:=l) (e:=e) h
  by_cases c:e.early_fin=some e.rcv<;>simp [h,hd,Zfb,c]
theorem ZpX (h:l+3 < θ.length) {b:Int} (xs:List D) (hx:xs.length<BIG) (hv:atE e.early e.rcv=some b):Zpg [.val (.ref l),.own xs] (upE θ l e)=.ok (.nx,[.val (.ref l),.own (xs++[.int b])]) (upE θ l { e with early:=Zc2 e.early e.rcv,rcv:=Zw e.rcv 1 }):=by
  have hd:=fun (e:Zu)=>dk3 (θ:=θ) (l:=l) (e:=e) h
  have hs:=fun (e:Zu) (m:EL)=>Zt0 (θ:=θ) (l:=l) (e:=e) h m
  simp [h,hd,Zfb,hv,Zkv,hs,hx]
theorem Zpe {m:EL} {n b:Int} (h:atE m n=some b):(Zc2 m n).length<m.length:=by
  induction m with
  | nil=>simp [atE] at h
  | cons p r ih=>
    unfold Zc2 atE at *
    by_cases e:p.1=n
    · simp [e]
      exact Nat.lt_succ_of_le (List.length_filter_le ..)
    · simp [e] at h ⊢
      have:=ih (by simpa using h)
      simpa using this
theorem Zli (h:l+3 < θ.length):∀(n:Nat) (e:Zu) (xs:List Int),e.early.length<n→xs.length+n<1000→whileL Zpf Zpg n [.val (.ref l),.own (xs.map D.int)] (upE θ l e)=.ok (.nx,[.val (.ref l),.own ((xs++(drawn n e).1).map D.int)]) (upE θ l (drawn n e).2)
  | 0,e,xs,hn,_=>absurd hn (Nat.not_lt_zero _)
  | n+1,e,xs,hn,hx=>by
    rw [Zgy,ZpW h]
    unfold drawn
    by_cases c:e.early_fin=some e.rcv
    · simp [c]
    · cases c2:atE e.early e.rcv with
      | none=>simp [c]
      | some b=>
        have:=Zli h n { e with early:=Zc2 e.early e.rcv,rcv:=Zw e.rcv 1 } (xs++[b]) (by have:=Zpe c2; simp only; omega) (by simp; omega)
        rw [if_neg c]
        simp only [c,decide_false,Bool.not_false,Bool.true_and,Option.isSome_some,R.bind,if_true]
        rw [ZpX h (xs.map D.int) (by simp [BIG]; omega) c2]
        simp only [R.bind,Zf9]
        rw [List.map_append] at this
        simpa [List.append_assoc] using this
theorem Zg0:∀(n:Nat) (e:Zu),(drawn n e).2.come=e.come
  | 0,e=>rfl
  | n+1,e=>by
    unfold drawn
    split
    · rfl
    · split
      · rfl
      · exact Zg0 n _
theorem ZlR {r:List Int} {k:Int} (h:0≤k):((Za7 r none (some k)).length:Int)≤k:=by
  rw [Zem r h]
  have:=List.length_take_le k.toNat r
  omega
theorem Zr1 (h:l+3 < θ.length) (hc:e.come.length≤64) (r:List Int):Zfj [.ref (l+2),il r] (upE θ l e)=.ok (.int (Za7 r none (some (ZM e))).length) (upE θ l (Zfv e r)):=by
  have h1:e.come.length+(Za7 r none (some (ZM e))).length≤100000:=by
    have:=ZlR (r:=r) (k:=ZM e) (by unfold ZM; omega)
    unfold ZM at *
    omega
  simp [Zfj,Ziy,h,Zfv,h1]
@[simp] theorem Zu5 (h:l+3 < θ.length):ZdE [.ref (l+1)] (upE θ l e)=.ok (.int (64-(e.written.length:Int))) (upE θ l e):=by
  simp [ZdE,Zg8,h]
theorem Zr0 (h:l+3 < θ.length) (hc:e.written.length≤64) (r:List Int):Zfj [.ref (l+1),il r] (upE θ l e)=.ok (.int (Za7 r none (some (64-(e.written.length:Int)))).length) (upE θ l { e with written:=e.written++Za7 r none (some (64-(e.written.length:Int))) }):=by
  have h1:e.written.length+(Za7 r none (some (64-(e.written.length:Int)))).length≤100000:=by
    have:=ZlR (r:=r) (k:=64-(e.written.length:Int)) (by omega)
    omega
  simp [Zfj,Ziy,h,h1]
def ZeG (e:Zu):Zu:=Zfv (drawn 200 e).2 (drawn 200 e).1
theorem Zgo (h:l+3 < θ.length) (hc:e.come.length≤64) (he:e.early.length<200):ZaO [.ref l] (upE θ l e)=.ok .non (upE θ l (ZeG e)):=by
  have g:=Zli h 200 e [] he (by simp)
  have g1:Zbh [.val (.ref l),.own []] (upE θ l e)=.ok (.nx,[.val (.ref l),.own ((drawn 200 e).1.map D.int)]) (upE θ l (drawn 200 e).2):=by
    have q:Zbh=whileL Zpf Zpg 200:=rfl
    rw [q]
    simpa using g
  have hc1:(drawn 200 e).2.come.length≤64:=by rw [Zg0]; exact hc
  obtain ⟨e1,he1⟩:∃q,q=(drawn 200 e).2:=⟨_,rfl⟩
  obtain ⟨r1,hr1⟩:∃q,q=(drawn 200 e).1:=⟨_,rfl⟩
  unfold ZeG
  rw [←he1,←hr1] at g1 ⊢
  rw [←he1] at hc1
  have tl:=Zr1 (e:=e1) h hc1 r1
  simp [ZaO,Zc5,g1,h,tl]
@[simp] theorem Zr5 (h:l+3 < θ.length):Zb6 [.ref l,.int now] (upE θ l e)=.ok .non (upE θ l (ZgD e now)):=by
  by_cases c1:e.state=.opn
  · simp [Zb6,ZdQ,ZcR,h,c1,ZgD]
  · by_cases c2:e.state=.waitOne<;>simp [Zb6,ZdQ,Zew,ZcR,h,c1,c2,ZgD]
def Za1 (e:Zu) (s:Seg):Zu:=ZeG (Zbc (Zaa e s) s)
def ZbD (e:Zu) (s:Seg) (now:Int):Zu:=
  if e.state=.opn∨e.state=.waitOne∨e.state=.waitTwo then
    (if (Za1 e s).early_fin=some (Za1 e s).rcv then ZgD (Za1 e s) now else Za1 e s)
  else e
theorem Zgd (num:Int):∀(r:List Int) (k:Nat) (e:Zu),(ZaW e num k r).early.length≤e.early.length+r.length
  | [],k,e=>Nat.le_refl _
  | b::r,k,e=>by
    unfold ZaW
    refine Nat.le_trans (Zgd num r (k+1) _) ?_
    split
    · have:=ZhM e.early (Zw num k) b
      simp only [List.length_cons]
      omega
    · simp only [List.length_cons]; omega
theorem Zhn (e:Zu) (s:Seg):(Zbc e s).early=e.early:=by
  unfold Zbc
  split
  · rfl
  · split<;>rfl
theorem Zim (e:Zu) (s:Seg):(Zaa e s).early.length≤e.early.length+s.data.length:=by
  unfold Zaa
  split<;>exact Zgd ..
theorem Zfw (num:Int):∀(r:List Int) (k:Nat) (e:Zu),(ZaW e num k r).come=e.come
  | [],k,e=>rfl
  | b::r,k,e=>by
    unfold ZaW
    rw [Zfw num r (k+1) _]
    split<;>rfl
theorem Zil (e:Zu) (s:Seg):(Zbc e s).come=e.come:=by
  unfold Zbc
  split
  · rfl
  · split<;>rfl
theorem Zho (e:Zu) (s:Seg):(Zaa e s).come=e.come:=by
  unfold Zaa
  split<;>exact Zfw ..
theorem Zhk (h:l+3 < θ.length) (hc:e.come.length≤64) (hl:e.early.length+s.data.length<200):Zas [.ref l,s.d,.int now] (upE θ l e)=.ok .non (upE θ l (ZbD e s now)):=by
  unfold ZbD
  by_cases c:e.state=.opn∨e.state=.waitOne∨e.state=.waitTwo
  · rw [if_pos c]
    have k1:=ZjQ (e:=e) (s:=s) h (by omega)
    have k2:=ZkH (e:=Zaa e s) (s:=s) h
    have k3:=Zgo (e:=Zbc (Zaa e s) s) h (by rw [Zil,Zho]; exact hc) (by rw [Zhn]; have:=Zim e s; omega)
    have k4:ZeG (Zbc (Zaa e s) s)=Za1 e s:=rfl
    rw [k4] at k3
    obtain ⟨e3,he3⟩:∃q,q=Za1 e s:=⟨_,rfl⟩
    rw [←he3] at k3 ⊢
    have c':e.state∈[State.opn,.waitOne,.waitTwo]:=by simpa using c
    by_cases c2:e3.early_fin=some e3.rcv
    · simp [Zas,Zbr,ZaX,h,c,k1,k2,k3,ZbR,c2]
    · simp [Zas,Zbr,ZaX,h,c,k1,k2,k3,ZbR,c2]
  · rw [if_neg c]
    simp [Zas,Zbr,ZaX,h,c]
def ZaL (e:Zu) (s:Seg) (now:Int):Zu:=
  if ZdX e s=false then Zcg e s now
  else if bears s 4=true then ZeD e s
  else if bears s 2=true then { e with owes_answer:=true }
  else if bears s 16=true then (if (Zav e s now).1=true then ZbD (Zav e s now).2 s now else (Zav e s now).2)
  else e
theorem Zip (e:Zu) (s:Seg) (now:Int):(Zav e s now).2.early=e.early:=by
  unfold Zav
  split
  · unfold Zaq
    split
    · unfold Za4; split<;>rfl
    · rfl
  · split
    · rfl
    · show (ZaQ (zU e s now) now).early=e.early
      have h1:(Zce e s now).early=e.early:=by
        unfold Zce
        split
        · split<;>rfl
        · rfl
      have h2:(zU e s now).early=e.early:=by
        unfold zU
        simp only
        split
        · exact h1
        · split
          · split<;>exact h1
          · split<;>exact h1
      unfold ZaQ
      split
      · exact h2
      · split
        · exact h2
        · split
          · exact h2
          · split<;>exact h2
theorem Zkq (e:Zu) (s:Seg) (now:Int):(Zav e s now).2.come=e.come:=by
  unfold Zav
  split
  · unfold Zaq
    split
    · unfold Za4; split<;>rfl
    · rfl
  · split
    · rfl
    · show (ZaQ (zU e s now) now).come=e.come
      have h1:(Zce e s now).come=e.come:=by
        unfold Zce
        split
        · split<;>rfl
        · rfl
      have h2:(zU e s now).come=e.come:=by
        unfold zU
        simp only
        split
        · exact h1
        · split
          · split<;>exact h1
          · split<;>exact h1
      unfold ZaQ
      split
      · exact h2
      · split
        · exact h2
        · split
          · exact h2
          · split<;>exact h2
theorem ZfJ (h:l+3 < θ.length) (hc:e.come.length≤64) (hl:e.early.length+s.data.length<200):Z8 [.ref l,s.d,.int now] (upE θ l e)=.ok .non (upE θ l (ZaL e s now)):=by
  unfold ZaL
  by_cases c1:ZdX e s=true
  · by_cases c2:bears s 4=true
    · simp [Z8,zt,zg,zw,h,c1,c2]
    · by_cases c3:bears s 2=true
      · simp [Z8,zt,zg,zw,zQ,h,c1,c2,c3]
      · by_cases c4:bears s 16=true
        · have hs:=Zhk (e:=(Zav e s now).2) (s:=s) (now:=now) h (by rw [Zkq]; exact hc) (by rw [Zip]; exact hl)
          by_cases c5:(Zav e s now).1=true
          · simp [Z8,zt,zg,zw,zQ,Zan,h,c1,c2,c3,c4,c5,hs]
          · simp [Z8,zt,zg,zw,zQ,Zan,h,c1,c2,c3,c4,c5]
        · simp [Z8,zt,zg,zw,zQ,Zan,h,c1,c2,c3,c4]
  · simp [Z8,zt,zg,h,c1]
theorem Zgp (h:l+3 < θ.length) (hc:e.come.length≤64) {r:List Int} (hb:Byt r) (hr:ZaM r=true) (hf:ZeS e (ZbM r)=true) (hl:e.early.length+(ZbM r).data.length<200) (h1:¬e.state=.closed) (h2:¬e.state=.listen) (h3:¬e.state=.synSent):ZaA [.ref l,il r,.int now] (upE θ l e)=.ok (.bl true) (upE θ l (ZaL e (ZbM r) now)):=by
  simp [ZaA,ZcT,ZbW,ZbV,ZbU,Zcx,ZdR,ZcC hb,hr,Zlh hb hr,h,hf,h1,h2,h3,ZfJ h hc hl]
def Zdr (e:Zu) (s:Seg) (now:Int):Zu:=
  match e.state with
  | .closed=>Za4 e s
  | .listen=>Zbx e s
  | .synSent=>Z9 e s now
  | _=>ZaL e s now
theorem Zh5 (h:l+3 < θ.length) (hc:e.come.length≤64) (hs:s.Ok) (hf:ZeS e s=true) (hl:e.early.length<150):ZaA [.ref l,il (putL s),.int now] (upE θ l e)=.ok (.bl true) (upE θ l (Zdr e s now)):=by
  have hb:=Zqb hs.put
  have hr:=Zme hs
  have hg:=ZqO hs
  have hd:s.data.length≤16:=hs.data.2
  unfold Zdr
  cases c:e.state
  · simp only
    rw [Zgr h hb hr (by rw [hg]; exact hf) c,hg]
  · simp only
    rw [Zgq h hb hr (by rw [hg]; exact hf) c,hg]
  · simp only
    rw [ZfK h hb hr (by rw [hg]; exact hf) c,hg]
  all_goals
    simp only
    rw [Zgp h hc hb hr (by rw [hg]; exact hf) (by rw [hg]; omega) (by rw [c]; decide) (by rw [c]; decide) (by rw [c]; decide),hg]
def ZcM (e:Zu):Bool:=!e.has_closed && decide (e.state∈[State.synSent,.synCome,.opn,.closeWait])
def Zf5 (e:Zu) (r:List Int):List Int:=Za7 r none (some (64-(e.written.length:Int)))
def Za0 (e:Zu) (r:List Int):Zu:=if ZcM e=true then { e with written:=e.written++Zf5 e r,behind:=Zw e.behind (Zf5 e r).length } else e
theorem ZpM (h:l+3 < θ.length) (hc:e.written.length≤64) (r:List Int):ZcU [.ref l,il r] (upE θ l e)=.ok (.int (if ZcM e=true then (Zf5 e r).length else 0)) (upE θ l (Za0 e r)):=by
  have hw:Zf5 e r=Za7 r none (some (64-(e.written.length:Int))):=rfl
  unfold Za0 ZcM
  by_cases c:e.has_closed=true
  · simp [ZcU,ZeH,Zc3,h,c]
  · by_cases c2:e.state∈[State.synSent,.synCome,.opn,.closeWait]
    · have c2':e.state=State.synSent∨e.state=State.synCome∨e.state=State.opn∨e.state=State.closeWait:=by simpa using c2
      simp [ZcU,ZeH,Zc3,h,c,c2',←hw,Zr0 h hc]
    · have c2':¬(e.state=State.synSent∨e.state=State.synCome∨e.state=State.opn∨e.state=State.closeWait):=by simpa using c2
      simp [ZcU,ZeH,Zc3,h,c,c2']
def ZhA (e:Zu) (n:Int):Zu:=
  if ZM e=0∧0<ZM { e with come:=e.come.drop n.toNat }∧e.state∈[State.opn,.waitOne,.waitTwo] then { e with come:=e.come.drop n.toNat,owes_answer:=true } else { e with come:=e.come.drop n.toNat }
theorem ZrW (h:l+3 < θ.length):Zc8 [.ref l,.int n] (upE θ l e)=.ok (il (e.come.take n.toNat)) (upE θ l (ZhA e n)):=by
  have tk:=ZpN (θ:=θ) (l:=l) (e:=e) (n:=n) h
  obtain ⟨e1,he1⟩:∃q:Zu,q={ e with come:=e.come.drop n.toNat }:=⟨_,rfl⟩
  obtain ⟨k1,hk1⟩:∃q,q=il (e.come.take n.toNat):=⟨_,rfl⟩
  have s1:e.state=e1.state:=by rw [he1]
  unfold ZhA
  have e2:({ e with come:=e.come.drop n.toNat,owes_answer:=true }:Zu)={ e1 with owes_answer:=true }:=by rw [he1]
  rw [e2,←he1,←hk1,s1]
  rw [←he1,←hk1] at tk
  by_cases c1:ZM e=0
  · by_cases c2:0<ZM e1
    · by_cases c3:e1.state∈[State.opn,.waitOne,.waitTwo]
      · have c3':e1.state=State.opn∨e1.state=State.waitOne∨e1.state=State.waitTwo:=by simpa using c3
        simp [Zc8,Zep,ZcO,h,tk,c1,c2,c3']
      · have c3':¬(e1.state=State.opn∨e1.state=State.waitOne∨e1.state=State.waitTwo):=by simpa using c3
        simp [Zc8,Zep,ZcO,h,tk,c1,c2,c3']
    · simp [Zc8,Zep,ZcO,h,tk,c1,c2]
  · simp [Zc8,Zep,ZcO,h,tk,c1]
end
end
end My
namespace My
open PySem L2 L2.MM
noncomputable section
theorem ZoA {n k:Int} (h : -2147483648≤k∧k<2147483648):ZL (Zw n k) n=k:=by
  unfold ZL Zw; omega
theorem Zdn {n j k:Int} (h : -2147483648≤j-k∧j-k<2147483648):ZL (Zw n j) (Zw n k)=j-k:=by
  unfold ZL Zw; omega
theorem Zmk {n k:Int} (h : -2147483648<k∧k≤2147483648):ZL n (Zw n k) = -k:=by
  unfold ZL Zw; omega
theorem Zdk (n j k:Int):Zw (Zw n j) k=Zw n (j+k):=by
  unfold Zw; omega
theorem Zgz (n k:Int):0≤Zw n k∧Zw n k≤4294967295:=by
  unfold Zw; omega
theorem Zdj {n:Int} (h:0≤n∧n≤4294967295):Zw n 0=n:=by
  unfold Zw; omega
theorem Zia {n k:Int} (h:0<k∧k<4294967296):¬Zw n k=n:=by
  unfold Zw; omega
theorem Zfh {n j k:Int} (h:0≤j∧0≤k∧j<4294967296∧k<4294967296):Zw n j=Zw n k↔j=k:=by
  unfold Zw; omega
def Zd5 (num:Int):Nat→List Int→EL
  | _,[]=>[]
  | k,b::r=>(Zw num k,b)::Zd5 num (k+1) r
theorem Zdy (p:Int×Int) (m:EL) (n:Int):atE (p::m) n=if p.1=n then some p.2 else atE m n:=by
  unfold atE
  by_cases h:p.1=n<;>simp [h]
theorem Zq6 (m m':EL) (n:Int) (h:atE m n=none):atE (m++m') n=atE m' n:=by
  induction m with
  | nil=>rfl
  | cons p r ih=>
    rw [Zdy] at h
    rw [List.cons_append,Zdy]
    by_cases e:p.1=n
    · rw [if_pos e] at h; cases h
    · rw [if_neg e] at h ⊢
      exact ih h
theorem Zl2 (num:Int):∀(r:List Int) (k j:Nat),j<k→k+r.length<4294967296→atE (Zd5 num k r) (Zw num j)=none
  | [],k,j,_,_=>rfl
  | b::r,k,j,h,hl=>by
    have hl':k+r.length+1<4294967296:=by simpa [Nat.add_assoc] using hl
    rw [Zd5,Zdy,if_neg (by rw [Zfh (by omega)]; omega)]
    exact Zl2 num r (k+1) j (by omega) (by omega)
theorem Zk4 (m:EL) (n:Int) (h:atE m n=none):Zc2 m n=m:=by
  induction m with
  | nil=>rfl
  | cons p r ih=>
    rw [Zdy] at h
    by_cases e:p.1=n
    · rw [if_pos e] at h; cases h
    · rw [if_neg e] at h
      unfold Zc2 at *
      rw [List.filter_cons_of_pos (by simp [e]),ih h]
theorem ZmA (num b:Int) (r:List Int) (k:Nat) (hl:k+1+r.length<4294967296):Zc2 ((Zw num k,b)::Zd5 num (k+1) r) (Zw num k)=Zd5 num (k+1) r:=by
  have:=Zk4 (Zd5 num (k+1) r) (Zw num k) (Zl2 num r (k+1) k (by omega) hl)
  unfold Zc2 at *
  rw [List.filter_cons_of_neg (by simp),this]
theorem ZgX (num:Int):∀(r:List Int) (k:Nat) (e:Zu),k+r.length<4294967296→(∀i:Nat,k≤i→i<k+r.length→inWin e (Zw num i)=true∧atE e.early (Zw num i)=none)→ZaW e num k r={ e with early:=e.early++Zd5 num k r }
  | [],k,e,_,_=>by simp [ZaW,Zd5]
  | b::r,k,e,hl,h=>by
    have hl':k+r.length+1<4294967296:=by simpa [Nat.add_assoc] using hl
    obtain ⟨h1,h2⟩:=h k (Nat.le_refl _) (by simp)
    unfold ZaW
    rw [if_pos h1]
    have h3:Zgc e.early (Zw num k) b=e.early++[(Zw num k,b)]:=by unfold Zgc; rw [h2]
    rw [h3,ZgX num r (k+1) _ (by omega)]
    · simp [Zd5]
    · intro i hi hj
      obtain ⟨g1,g2⟩:=h i (by omega) (by simp; omega)
      refine ⟨g1,?_⟩
      show atE (e.early++[(Zw num k,b)]) (Zw num i)=none
      rw [Zq6 _ _ _ g2,Zdy,if_neg (by rw [Zfh (by omega)]; omega)]
      rfl
theorem Zkw (num:Int):∀(r:List Int) (k n:Nat) (e:Zu),k+r.length<4294967296→r.length<n→e.rcv=Zw num k→e.early=Zd5 num k r→(∀i:Nat,k≤i→i<k+r.length→¬e.early_fin=some (Zw num i))→drawn n e=(r,{ e with early:=[],rcv:=Zw num (k+r.length:Nat) })
  | [],k,0,e,_,hn,_,_,_=>by simp at hn
  | [],k,n+1,e,_,_,h1,h2,_=>by
    unfold drawn
    have:atE e.early e.rcv=none:=by rw [h2]; rfl
    have he:e={ e with early:=[],rcv:=Zw num k }:=by
      obtain ⟨_⟩:=e
      simp only [Zd5] at h1 h2
      subst h1 h2
      rfl
    split
    · simpa using he
    · rw [this]
      simpa using he
  | b::r,k,0,e,_,hn,_,_,_=>by simp at hn
  | b::r,k,n+1,e,hl,hn,h1,h2,h3=>by
    have hl':k+r.length+1<4294967296:=by simpa [Nat.add_assoc] using hl
    have hn':r.length<n:=by simpa using hn
    unfold drawn
    rw [if_neg (by rw [h1]; exact h3 k (Nat.le_refl _) (by simp))]
    have:atE e.early e.rcv=some b:=by rw [h2,h1,Zd5,Zdy]; simp
    rw [this]
    simp only
    have g:=Zkw num r (k+1) n { e with early:=Zc2 e.early e.rcv,rcv:=Zw e.rcv 1 } (by omega) hn' (by show Zw e.rcv 1=_; rw [h1,Zdk]; simp) (by show Zc2 e.early e.rcv=_; rw [h2,h1,Zd5,ZmA _ _ _ _ (by omega)]) (fun i hi hj=>h3 i (by omega) (by simp; omega))
    rw [g]
    simp [Nat.add_assoc,Nat.add_comm 1]
theorem ZgE {r:List Int} {k:Int} (h:(r.length:Int)≤k):Za7 r none (some k)=r:=by
  rw [Zem r (by omega)]
  exact List.take_of_length_le (by omega)
theorem ZjU {e:Zu} {s:Seg} (hd:s.data.length≤16) (hn:s.num=e.rcv) (hr:0≤e.rcv∧e.rcv≤4294967295) (he:e.early=[]) (hf:e.early_fin=none) (hw:e.come.length+s.data.length+(if bears s 1=true then 1 else 0)≤64) :
    Za1 e s={ e with come:=e.come++s.data,rcv:=Zw e.rcv s.data.length,owes_answer:=e.owes_answer || decide (0<s.data.length) || bears s 1,early_fin:=if bears s 1=true then some (Zw e.rcv s.data.length) else none }:=by
  have w:∀i:Nat,i<s.data.length∨(i=s.data.length∧bears s 1=true)→inWin e (Zw e.rcv i)=true:=by
    intro i hi
    unfold inWin ZM
    rw [ZoA (by omega)]
    have:(i:Int)<64-e.come.length:=by
      rcases hi with hi | ⟨rfl,hi⟩
      · omega
      · rw [if_pos hi] at hw; omega
    simp; omega
  have k1:ZaW e s.num 0 s.data={ e with early:=Zd5 e.rcv 0 s.data }:=by
    rw [hn,ZgX e.rcv s.data 0 e (by omega) (fun i _ hi=>⟨w i (.inl (by omega)),by rw [he]; rfl⟩),he]
    rfl
  have k2:Zaa e s={ e with early:=Zd5 e.rcv 0 s.data,owes_answer:=e.owes_answer || decide (0<s.data.length) }:=by
    unfold Zaa
    rw [k1]
    by_cases c:0<s.data.length
    · rw [if_pos c]; simp [c]
    · rw [if_neg c]; simp [c]
  obtain ⟨oa,hoa⟩:∃x,x=(e.owes_answer || decide (0<s.data.length)):=⟨_,rfl⟩
  rw [←hoa] at k2 ⊢
  have k3:Zbc (Zaa e s) s={ e with early:=Zd5 e.rcv 0 s.data,owes_answer:=oa || bears s 1,early_fin:=if bears s 1=true then some (Zw e.rcv s.data.length) else none }:=by
    rw [k2]
    unfold Zbc
    by_cases c:bears s 1=true
    · have iw:inWin ({ e with early:=Zd5 e.rcv 0 s.data,owes_answer:=oa }) (Zw s.num s.data.length)=true:=by
        rw [hn]; exact w _ (.inr ⟨rfl,c⟩)
      rw [if_neg (by simp [c]),if_pos ⟨hf,iw⟩,hn]
      simp [c]
    · rw [if_pos (by simpa using c)]
      simp [c,hf]
  unfold Za1 ZeG
  rw [k3]
  obtain ⟨bf,hbf⟩:∃x,x=bears s 1:=⟨_,rfl⟩
  rw [←hbf]
  rw [Zkw e.rcv s.data 0 200 _ (by omega) (by omega) (by simpa using (Zdj hr).symm) rfl (by
    intro i _ hi
    simp only
    cases bf
    · simp
    · simp only [if_true,Option.some.injEq]
      rw [Zfh (by omega)]
      omega)]
  unfold Zfv
  simp only
  rw [ZgE (by unfold ZM; simp only; split at hw<;>omega)]
  simp [he]
end
end My
namespace My
open PySem L2 L2.MM
noncomputable section
@[simp] theorem ZyE {f:Int} (h0:0≤f) (h1:f≤31):bit f 1=f % 2:=(Zps ⟨h0,h1⟩).1
@[simp] theorem ZyD {f:Int} (h0:0≤f) (h1:f≤31):bit f 2=f/2 % 2:=(Zps ⟨h0,h1⟩).2.1
@[simp] theorem ZyC {f:Int} (h0:0≤f) (h1:f≤31):bit f 4=f/4 % 2:=(Zps ⟨h0,h1⟩).2.2.1
@[simp] theorem ZxZ {f:Int} (h0:0≤f) (h1:f≤31):bit f 16=f/16 % 2:=(Zps ⟨h0,h1⟩).2.2.2.2
@[simp] theorem ZuS {a b c d f w m k:Int} {x:List Int}:bears ⟨a,b,c,d,f,w,m,x⟩ k=decide (bit f k=1):=rfl
@[simp] theorem Zve {a b c d f w m:Int} {x:List Int}:ZgW ⟨a,b,c,d,f,w,m,x⟩=x.length+bit f 2+bit f 1:=rfl
def Zrp:Option Seg→List Int
  | none=>[]
  | some s=>putL s
@[simp] theorem Zsj:Zrp none=[]:=rfl
@[simp] theorem Zsi (s:Seg):Zrp (some s)=putL s:=rfl
theorem Zsn (s:Seg):putL s≠[]:=fun z=>by
  have:=Zlp (s:=s)
  rw [z] at this
  simp at this
  split at this<;>omega
section
variable {a b f g W m t t' x:Int} {ex:List Int} {fl:Int}
end
section
variable {θ:Sto} {l:Nat} {e:Zu} {s:Seg} {now n:Int}
theorem Zkt {n:Int} (h:0≤n∧n≤4294967295):0≤ZdL n∧ZdL n≤4294967295:=by
  unfold ZdL
  split<;>omega
end
end
end My
namespace My
open PySem L2 L2.MM
noncomputable section
end
end My
namespace My
open PySem L2 L2.MM
noncomputable section
inductive Zpz (t:Int):Zu→List Seg→Zu→Prop
  | nil {e e':Zu} (h:going e t=(none,e')):Zpz t e [] e'
  | cons {e e1 e':Zu} {s:Seg} {r:List Seg} (h:going e t=(some s,e1)) (hs:s.Ok) (hr:Zpz t e1 r e'):Zpz t e (s::r) e'
section
variable {θ:Sto} {l:Nat} {t:Int}
end
end
end My
namespace My
open PySem L2 L2.MM
noncomputable section
theorem Zpm {nE:EM} {src:List Nat} {elt:EM} {ρ:List Sl} {θ:Sto} {j:Int} (F:Nat→Int) (hn:nE ρ θ=.ok (.int j) θ) (h0:0≤j) (h1:j≤1000) (he:∀i:Nat,i<j.toNat→elt (ZdW src ρ (.int (i:Int))) θ=.ok (.int (F i)) θ) :
    Zef (ZbY (Zc nE Zk)) src elt ρ θ=.ok (il ((List.range j.toNat).map F)) θ:=by
  have:=ZhK (ρ:=ρ) (θ:=θ) (fi:=ZbY (Zc nE Zk)) (src:=src) (elt:=elt) (lo:=0) (n:=j.toNat) (θ':=θ) (fun k=>.int (F k.toNat)) (by simp [hn]; omega) (by simp [BIG]; omega) (by
    intro i hi
    simpa using he i hi)
  rw [this]
  simp [il]
end
end My
namespace My
open PySem L2 L2.MM
noncomputable section
structure Q where
  st:State
  una:Int
  nxt:Int
  beh:Int
  rcv:Int
  told:Int
  by_:Int
  wnd:Int
  most:Int
  written:List Int
  come:List Int
  fin:Option Int
  cl:Bool
  oa:Bool
  pr:Bool
  since:Int
  wait:Int
  tries:Int
def q0 (W m:Int) (t:Int):Q:=⟨.opn,1,1,1,1,1,1,W,if m=0 then 12 else m,[],[],none,false,false,false,t,1000,0⟩
theorem ZxB {n j k:Int} (h1 : -2147483648≤j-k) (h2:j-k<2147483648):ZL (Zw n j) (Zw n k)=j-k:=Zdn ⟨h1,h2⟩
theorem Zul {n j k:Int} (h1 : -2147483648≤j-k) (h2:j-k<2147483648):ZaN (Zw n j) (Zw n k)=decide (0<j-k):=by
  unfold ZaN
  rw [ZxB h1 h2]
end
end My
namespace My
open PySem L2 L2.MM
noncomputable section
section
variable {e:Zu} {t:Int}
structure Calm (e:Zu) (t:Int):Prop where
  rst:e.owed_reset=none
  st:e.state∉[State.closed,.listen,.synSent,.synCome]
  tw:e.state=.timeWait→t-e.since<120000
  due:¬e.nxt=e.una→t-e.since<e.wait
theorem Calm.go (c:Calm e t):going e t=Zah e t:=by
  have hs:=c.st
  simp only [List.mem_cons,List.not_mem_nil,or_false,not_or] at hs
  have h1:¬(e.state=.timeWait∧120000≤t-e.since):=fun h=>by have:=c.tw h.1; omega
  have h2:¬(e.state=.closed∨e.state=.listen):=fun h=>h.elim hs.1 hs.2.1
  have h3:¬(¬e.nxt=e.una∧ZcK e t=true):=fun h=>by
    have:=c.due h.1
    have h2:=h.2
    unfold ZcK at h2
    simp at h2
    omega
  unfold going
  rw [c.rst]
  simp only [if_neg h1]
  rw [if_neg h2,if_neg h3]
end
section
variable {e:Zu} {s:Seg} {t:Int}
theorem Zq0 (hs:e.state∉[State.closed,.listen,.synSent]) (hf:ZdX e s=true) (h4:bears s 4=false) (h2:bears s 2=false) (h16:bears s 16=true):Zdr e s t=if (Zav e s t).1=true then ZbD (Zav e s t).2 s t else (Zav e s t).2:=by
  have:Zdr e s t=ZaL e s t:=by
    unfold Zdr
    simp only [List.mem_cons,List.not_mem_nil,or_false,not_or] at hs
    split
    · rename_i h; exact absurd h hs.1
    · rename_i h; exact absurd h hs.2.1
    · rename_i h; exact absurd h hs.2.2
    · rfl
  rw [this]
  unfold ZaL
  rw [hf,h4,h2,h16]
  simp
theorem Zpn (hs:e.state∉[State.closed,.listen,.synSent]):Zdr e s t=ZaL e s t:=by
  unfold Zdr
  simp only [List.mem_cons,List.not_mem_nil,or_false,not_or] at hs
  split
  · rename_i h; exact absurd h hs.1
  · rename_i h; exact absurd h hs.2.1
  · rename_i h; exact absurd h hs.2.2
  · rfl
end
end
end My
namespace My
open PySem L2 L2.MM
noncomputable section
section
variable {a b f g W m t:Int}
structure ZyF (q:Q) (t:Int):Prop where
  st:q.st∉[State.closed,.listen,.synSent,.synCome]
  tw:q.st=.timeWait→t-q.since<120000
  due:¬q.nxt=q.una→t-q.since<q.wait
  pr:q.pr=false
  un:q.beh≤q.nxt∧q.nxt-q.beh<1000∧0≤q.una∧q.una≤q.nxt∧q.nxt<1000
  fin:q.beh=q.nxt→q.st∉[State.waitOne,.closing,.lastAck]
end
end
end My
namespace My
open PySem L2 L2.MM
noncomputable section
end
end My
namespace My
open PySem L2 L2.MM
noncomputable section
def room (q:Q):Int:=q.wnd-(q.nxt-q.una)
def ZrJ (q:Q):Prop:=q.st∈[State.opn,.waitOne,.closeWait,.closing,.lastAck]∧q.nxt<q.beh
def ZrI (q:Q):Prop:=q.st∈[State.waitOne,.closing,.lastAck]∧q.nxt=q.beh
instance (q:Q):Decidable (ZrJ q):=by unfold ZrJ; infer_instance
instance (q:Q):Decidable (ZrI q):=by unfold ZrI; infer_instance
structure WF (q:Q):Prop where
  una:0≤q.una∧q.una≤q.nxt
  nxt:q.nxt≤q.beh+1∧q.beh<1000000
  wr:q.una≤q.beh→(q.written.length:Int)=q.beh-q.una
  wnd:0≤q.wnd∧q.wnd≤65535
  most:4≤q.most
  come:q.come.length≤64
  byt:∀z∈q.written,0≤z∧z≤255
structure ZyH (q:Q) (t:Int):Prop where
  st:q.st∉[State.closed,.listen,.synSent,.synCome]
  tw:q.st=.timeWait→t-q.since<120000
  due:¬q.nxt=q.una→t-q.since<q.wait
section
variable {a b f g t:Int} {q:Q}
end
section
variable {a b f g t:Int}
end
end
end My
namespace My
open PySem L2 L2.MM
noncomputable section
structure ZyQ (q q':Q):Prop where
  st:q'.st=q.st
  una:q'.una=q.una
  beh:q'.beh=q.beh
  rcv:q'.rcv=q.rcv
  told:q'.told=q.told
  by_:q'.by_=q.by_
  wnd:q'.wnd=q.wnd
  most:q'.most=q.most
  written:q'.written=q.written
  come:q'.come=q.come
  fin:q'.fin=q.fin
  cl:q'.cl=q.cl
section
variable {a b f g t:Int}
end
section
variable {a b f g t:Int}
end
end
end My
namespace My
open PySem L2 L2.MM
noncomputable section
section
variable {a b f g t:Int}
end
end
end My
namespace My
open PySem L2 L2.MM
noncomputable section
section
variable {a b f g t:Int} {q:Q}
structure Due (q:Q) (t:Int):Prop where
  st:q.st∉[State.closed,.listen,.synSent,.synCome,.timeWait]
  nx:¬q.nxt=q.una
  due:q.wait≤t-q.since
end
end
end My
namespace My
open PySem L2 L2.MM
noncomputable section
section
variable {a b f g t:Int} {q:Q}
end
end
end My
namespace My
open PySem L2 L2.MM
noncomputable section
section
variable {a b f g t:Int} {q:Q}
end
end
end My
namespace My
open PySem L2 L2.MM
noncomputable section
structure Ear (g R hi:Int) (l:EL) (F:Int→Option Int):Prop where
  at_:∀x,R≤x→x<hi→atE l (Zw g x)=F x
  keys:∀k∈l.map (·.1),∃x,R≤x∧x<hi∧k=Zw g x
  nd:(l.map (·.1)).Nodup
  out:∀x,¬(R≤x∧x<hi)→F x=none
end
end My
namespace L2.MM
open PySem L2
structure BE (X:Cx) (e:Expr) (f:EM):Prop where
  h:ME X e f
structure BA (X:Cx) (es:List Expr) (f:AM):Prop where
  h:MA X es f
structure BS (X:Cx) (st:Stmt) (f:SM):Prop where
  h:MS X st f
section
variable {X:Cx} {e:Expr} {es:List Expr} {f:EM} {fs:AM} {pos:Pos}
end
end L2.MM
namespace L2.MM
open PySem PySem.Spec PyProof.Rows
def kvS (kvs:List (Str×Str)):List (Key×V):=kvs.map fun p=>(.inr p.1,.str p.2)
def trS (kvs:List (Str×Str)):List (TE×TE):=kvs.map fun p=>(tC (.str p.1),tC (.str p.2))
section
variable {X:Cx}
end
section
variable {ρ:List Sl} {θ:Sto}
end
end L2.MM
namespace L2.MM
open PySem PySem.Spec PyProof.Rows
structure BP (X:Cx) (pos:Pos) (keys:List (Option Expr)) (values:List Expr) (kvs:List (Str×Str)):Prop where
  h:PPs X pos keys values (trS kvs)
  m:ZsU [] (kvS kvs)=kvS kvs
  a:keys.all (·.isSome)=true
  l:keys.length=values.length
  n:kvs.length=keys.length
section
variable {X:Cx} {pos apos cpos pos' p1 p2:Pos} {k0:Option Expr} {keys:List (Option Expr)} {values:List Expr} {kvs:List (Str×Str)} {x y:Str} {fi ff:EM} {k:Nat}
variable {e:Expr} {es:List Expr} {f:EM} {fs:AM}
end
end L2.MM
namespace My
open PySem L2 L2.MM
noncomputable section
theorem for_rng {fi:IM} {body:SM} {k:Nat} {ρ:List Sl} {θ:Sto} {lo:Int} {n:Nat} (Inv:Nat→List Sl→Sto→Prop) (hn:fi ρ θ=.ok (.rng lo n) θ) (hi:Inv 0 ρ θ)
    (step:∀(i:Nat) ρ θ,i<n→Inv i ρ θ→∃ρ' θ',body (ρ.set k (.val (.int (lo+(i:Int))))) θ=.ok (.nx,ρ') θ'∧Inv (i+1) ρ' θ') (hk:∀i ρ θ,Inv i ρ θ→k < ρ.length) :
    ∃ρ' θ',Zhm fi (gNm k) body ρ θ=.ok (.nx,ρ') θ'∧Inv n ρ' θ':=by
  obtain ⟨all,hall⟩:∃x,x=(List.range n).map fun (i:Nat)=>D.int (lo+(i:Int)):=⟨_,rfl⟩
  have hm:Zhm fi (gNm k) body ρ θ=forL (.rng lo n) all (gNm k) body all ρ θ:=by
    unfold Zhm
    rw [hn,R.bind_ok]
    simp only [ZeB,←hall]
  rw [hm]
  have key:∀(m:Nat) ρ θ,m≤n→Inv (n-m) ρ θ→∃ρ' θ',forL (.rng lo n) all (gNm k) body (all.drop (n-m)) ρ θ=.ok (.nx,ρ') θ'∧Inv n ρ' θ':=by
    intro m
    induction m with
    | zero=>
      intro ρ θ _ hI
      refine ⟨ρ,θ,?_,by simpa using hI⟩
      rw [Nat.sub_zero,List.drop_eq_nil_of_le (by rw [hall]; simp)]
      simp [forL,hall]
    | succ m ih=>
      intro ρ θ hm hI
      have hlt:n-(m+1)<n:=by omega
      have hla:n-(m+1)<all.length:=by rw [hall]; simpa using hlt
      have e:n-(m+1)+1=n-m:=by omega
      have hx:all[n-(m+1)]=D.int (lo+((n-(m+1):Nat):Int)):=by simp [hall]
      have hg:gNm k (D.int (lo+((n-(m+1):Nat):Int))) ρ=some (ρ.set k (.val (.int (lo+((n-(m+1):Nat):Int))))):=by
        have:=hk _ _ _ hI
        simp [gNm,this]
      have hit:(Src.rng lo n).items θ=some all:=by rw [ZeB,hall]
      rw [List.drop_eq_getElem_cons hla,hx,e]
      simp only [forL,hit,if_true,hg]
      obtain ⟨ρ',θ',h,hI'⟩:=step _ ρ θ hlt hI
      rw [h,R.bind_ok,Zb0]
      exact ih ρ' θ' (by omega) (by rw [←e]; exact hI')
  have:=key n ρ θ (Nat.le_refl _) (by rw [Nat.sub_self]; exact hi)
  rw [Nat.sub_self,List.drop_zero] at this
  exact this
section
variable {B:Sto} {l:Nat} {e:Zu} {m m':List (Key×D)}
end
end
end My
namespace L2.MM
open PySem PySem.Spec PyProof.Rows
def ZkY (θ:Sto):D→Option (Nat×List D)
  | .ref l=>match θ[l]? with
    | some (.lst xs)=>some (l,xs)
    | _=>none
  | _=>none
section
variable {B:Bx} {H:Hp}
theorem Zik {cl:Mo} {θ:Sto} (G:Good cl B θ H) {d:D} {v:V} {l:Nat} {xs:List D} (r:RepV B H d v) (h:ZkY θ d=some (l,xs)):l<B.n∧v=.ref (B.m l)∧∃vs,H (B.m l)=some (.lst vs)∧RepL B H xs vs:=by
  cases d with
  | ref k=>
    simp only [ZkY] at h
    split at h
    · rename_i xs' e
      cases h
      obtain ⟨hl,rfl⟩:=r
      obtain ⟨vs,h1,h2⟩:=G.cel _ _ e
      exact ⟨hl,rfl,vs,h1,h2⟩
    · cases h
  | _=>cases h
end
section
variable {X:Cx}
def Zki (fo fe:EM):EM:=fun ρ θ=>(fo ρ θ).bind fun d θ=>match ZkY θ d with
  | none=>.bad
  | some _=>(fe ρ θ).bind fun y θ=>match ZkY θ d with
    | some (l,xs)=>if xs.length<BIG then .ok .non (θ.set l (.lst (xs++[y]))) else .bad
    | none=>.bad
theorem Zqy {o e:Expr} {fo fe:EM} {apos pos:Pos} (hpe:PE X (.Call (.Attribute o "append" apos) [e] [] pos) (tBM X.K "list" Zh9 (tM X fo) (Zn6 (tM X fe) Zp0))):ME X (.Call (.Attribute o "append" apos) [e] [] pos) (Zki fo fe):=by
  refine PE.imp hpe fun σ H Q h=>?_
  obtain ⟨B,θ,ρ,F,w⟩:=h
  refine ZW (step F w) ?_
  rintro v H1 ⟨B1,θ1,d,E1,F1,rd,w1⟩
  split at w1
  · exact w1.elim
  · rename_i q ed
    obtain ⟨l,xs⟩:=q
    obtain ⟨hl,rfl,vs,h1,h2⟩:=Zik F1.good rd ed
    refine ⟨.inl ⟨rfl,vs,SqL.of h1⟩,?_⟩
    refine ZW (step F1 w1) ?_
    rintro y H2 ⟨B2,θ2,dy,E2,F2,ry,w2⟩
    split at w2
    · rename_i l2 xs2 ed2
      obtain ⟨hl2,e2,vs2,h3,h4⟩:=Zik F2.good (rd.ext E2.toExtS) ed2
      have e3:B1.m l=B2.m l2:=by injection e2
      split at w2
      · rename_i hb
        refine ⟨B1.m l,vs2,y,rfl,rfl,by rw [e3]; exact h3,by rw [h4.len]; exact Nat.lt_of_lt_of_le hb (zV (Nat.le_refl _)),?_⟩
        rw [e3]
        have E4:=ZeF F2.good hl2 (.lst (vs2++[y]))
        have G4:=Zei F2.good hl2 (o:=.lst (vs2++[y])) (c:=.lst (xs2++[dy])) ⟨_,zl,(h4.app (show RepL B2 H2 [dy] [y] from ⟨y,[],rfl,ry,rfl⟩)).ext E4.toExtS⟩
        exact w2 _ _ _ E4 G4 (show RepV _ _ .non .non from rfl)
      · exact w2.elim
    · exact w2.elim
end
end L2.MM
namespace L2.MM
open PySem PySem.Spec PyProof.Rows
def ZxG:Stmt→Scope
  | .Assign _ (.ListComp _ _ sc _) _=>sc
  | _=>{ kind:=.function,names:=[],isGenerator:=false,isCoroutine:=false }
section
variable {X:Cx}
def ZyP:OM:=fun x y θ=>match ZaC θ x,ZaC θ y with
  | some xs,some ys=>if xs.length+ys.length≤BIG then .ok (.ref θ.length) (θ++[.lst (xs++ys)]) else .bad
  | _,_=>.bad
def mSetC (fo fi fv:EM):SM:=fun ρ θ=>(fv ρ θ).bind fun v θ=>(fo ρ θ).bind fun d θ=>(fi ρ θ).bind fun y θ=>match y,ZkY θ d with
  | .int i,some (l,xs)=>match ixN xs.length i with
    | some k=>.ok (.nx,ρ) (θ.set l (.lst (xs.set k v)))
    | none=>.bad
  | _,_=>.bad
theorem RepL.setAt {B:Bx} {H:Hp}:∀{ds:List D} {vs:List V} {d:D} {v:V} (k:Nat),RepL B H ds vs→RepV B H d v→RepL B H (ds.set k d) (vs.set k v)
  | [],vs,d,v,k,r,_=>by cases (show vs=[] from r); exact rfl
  | e::ds,vs,d,v,0,r,rv=>by
    obtain ⟨u,us,rfl,r1,r2⟩:=r
    exact ⟨v,us,rfl,rv,r2⟩
  | e::ds,vs,d,v,k+1,r,rv=>by
    obtain ⟨u,us,rfl,r1,r2⟩:=r
    exact ⟨u,us.set k v,rfl,r1,RepL.setAt k r2 rv⟩
theorem Zqv {o i value:Expr} {fo fi fv:EM} {pos pos':Pos} (ho:ME X o fo) (hi:ME X i fi) (hv:ME X value fv) (hps:PS X (.Assign [.Subscript o i pos'] value pos) (Zp1 (tM X fv) (ZuI (tM X fo) (tM X fi) Zrs))):MS X (.Assign [.Subscript o i pos'] value pos) (mSetC fo fi fv):=
  PS.imp hps fun D σ H h=>by
  obtain ⟨B,θ,ρ,F,w⟩:=h
  refine ZW (ZeP F w) ?_
  rintro v H1 ⟨B1,θ1,dv,E1,F1,rv,w1⟩
  refine ZW (ZeP F1 w1) ?_
  rintro x H2 ⟨B2,θ2,d,E2,F2,rd,w2⟩
  refine ZW (ZeP F2 w2) ?_
  rintro y H3 ⟨B3,θ3,dy,E3,F3,ry,w3⟩
  split at w3
  · rename_i n l xs ed
    obtain ⟨hl,rfl,vs,h1,h2⟩:=Zik F3.good (rd.ext E3.toExtS) ed
    split at w3
    · rename_i k ek
      have rv3:=(rv.ext E2.toExtS).ext E3.toExtS
      have E4:=ZeF F3.good hl (.lst (vs.set k v))
      have G4:=Zei F3.good hl (o:=.lst (vs.set k v)) (c:=.lst (xs.set k dv)) ⟨_,zl,(h2.setAt k rv3).ext E4.toExtS⟩
      have:=w3 _ _ _ E4.toExtS (F3.ext E4 G4)
      exact ⟨B3.m l,vs,n,k,rfl,ry,h1,by rw [h2.len]; exact ek,this⟩
    · exact w3.elim
  · exact w3.elim
end
end L2.MM
namespace My
open PySem L2 L2.MM
noncomputable section
inductive Mo3 | ss | sc | op deriving DecidableEq
structure AE where
  st:Mo3
  una:Nat
  nxt:Nat
  beh:Nat
  rcv:Nat
  osyn:Bool
  oa:Bool
  since:Nat
  wait:Nat
  tries:Nat
  deriving DecidableEq
structure AS where
  kind:Nat
  num:Nat
  ans:Nat
  deriving DecidableEq
def ZbN (A:AE) (s:AS):AE:=if s.kind=3∨s.kind=4 then { A with rcv:=2,oa:=true } else A
def ZaD (A:AE) (s:AS) (t:Nat):AE:=
  match A.st with
  | .ss=>
    if s.kind=0 then { A with rcv:=1,st:=.sc,since:=t,wait:=1,tries:=0,osyn:=true }
    else if s.kind=1 then { A with rcv:=1,una:=1,st:=.op,oa:=true }
    else A
  | .sc=>
    if s.kind=0 then { A with osyn:=true }
    else if s.kind=1∨s.num<A.rcv then { A with oa:=true }
    else ZbN { A with una:=1,st:=.op } s
  | .op=>
    if s.kind=0∨s.kind=1∨s.num<A.rcv then { A with oa:=true }
    else ZbN (if A.una<s.ans then { A with una:=s.ans } else A) s
def goA (A:AE) (t:Nat):Option AS×AE:=
  if ¬A.nxt=A.una∧A.wait≤t-A.since then
    (if A.st=.op then (some ⟨4,A.una,A.rcv⟩,{ A with tries:=A.tries+1,wait:=if 16<2*A.wait then 16 else 2*A.wait,since:=t })
    else (some (if A.st=.ss then ⟨0,0,0⟩ else ⟨1,0,A.rcv⟩),{ A with tries:=A.tries+1,wait:=if 16<2*A.wait then 16 else 2*A.wait,since:=t,osyn:=false }))
  else if A.st=.op then
    (if A.nxt<A.beh then (some ⟨3,A.nxt,A.rcv⟩,{ A with oa:=false,nxt:=A.beh,since:=t,wait:=1,tries:=0 })
    else if A.oa=true then (some ⟨2,A.nxt,A.rcv⟩,{ A with oa:=false }) else (none,A))
  else if A.osyn=true then (some (if A.st=.ss then ⟨0,0,0⟩ else ⟨1,0,A.rcv⟩),{ A with osyn:=false })
  else if A.oa=true then (some ⟨2,A.nxt,A.rcv⟩,{ A with oa:=false }) else (none,A)
def okA (hd hp:Bool) (A:AE):Bool:=
  decide (A.tries<6) && (decide (A.nxt=A.una) || decide (0<A.wait)) && (decide (A.beh=1) || (decide (A.beh=2) && hd)) && (match A.st with
  | .ss=>decide (A.una=0) && decide (A.nxt=1) && decide (A.rcv=0) && !A.oa
  | .sc=>decide (A.una=0) && decide (A.nxt=1) && decide (A.rcv=1)
  | .op=>decide (1≤A.una) && decide (A.una≤A.nxt) && decide (A.nxt≤A.beh) && (decide (A.rcv=1) || (decide (A.rcv=2) && hp)))
def okS (hd hp:Bool) (A:AE) (s:AS):Bool:=
  match s.kind with
  | 0=>decide (s.num=0)
  | 1=>decide (s.num=0) && decide (s.ans=1)
  | 2=>(decide (s.num=1) || (decide (s.num=2) && hp)) && decide (1≤s.ans) && decide (s.ans≤A.nxt)
  | 3=>decide (s.num=1) && hp && decide (1≤s.ans) && decide (s.ans≤A.nxt)
  | 4=>decide (s.num=1) && hp && decide (1≤s.ans) && decide (s.ans≤A.nxt)
  | _=>false
def Zc0 (t:Nat):Nat→AE→List AS×AE
  | 0,A=>([],A)
  | n+1,A=>match goA A t with
    | (none,A')=>([],A')
    | (some s,A')=>(s::(Zc0 t n A').1,(Zc0 t n A').2)
def ZdZ (hd hp:Bool) (t:Nat):Nat→AE→Bool
  | 0,A=>false
  | n+1,A=>okA hd hp A && (match goA A t with
    | (none,A')=>okA hd hp A'
    | (some _,A')=>ZdZ hd hp t n A')
def ZbO (t:Nat):AE→List AS→AE
  | A,[]=>A
  | A,s::r=>ZbO t (ZaD A s t) r
def chkCome (hd hp:Bool) (t:Nat):AE→List AS→Bool
  | A,[]=>okA hd hp A
  | A,s::r=>okA hd hp A && okS hd hp A s && chkCome hd hp t (ZaD A s t) r
structure AJ where
  a:AE
  b:AE
  ra:List AS
  rb:List AS
  deriving DecidableEq
def swp (J:AJ):AJ:=⟨J.b,J.a,J.rb,J.ra⟩
def got (ok:Bool) (t:Nat) (J:AJ):AE:=if ok=true then ZbO t J.a J.ra else J.a
def trn (ok:Bool) (t:Nat) (J:AJ):AJ:=⟨(Zc0 t 6 (got ok t J)).2,J.b,[],J.rb++(Zc0 t 6 (got ok t J)).1⟩
def Zhp (hd hp ok:Bool) (t:Nat) (J:AJ):Bool:=(!ok || chkCome hd hp t J.a J.ra) && ZdZ hd hp t 6 (got ok t J)
def rnd (ord ok:Bool) (t:Nat) (J:AJ):AJ:=if ord=true then trn ok t (swp (trn ok t (swp J))) else swp (trn ok t (swp (trn ok t J)))
def Ziv (ha hb ord ok:Bool) (t:Nat) (J:AJ):Bool:=if ord=true then Zhp hb ha ok t (swp J) && Zhp ha hb ok t (swp (trn ok t (swp J))) else Zhp ha hb ok t J && Zhp hb ha ok t (swp (trn ok t J))
def nrm (A:AE):AE:=if A.nxt=A.una then { A with since:=0,wait:=0,tries:=0 } else A
def Zgt (J:AJ):AJ:=⟨nrm J.a,nrm J.b,J.ra,J.rb⟩
def fresh:AE:=⟨.ss,0,1,1,0,false,false,0,1,0⟩
def J0:AJ:=⟨fresh,fresh,[⟨0,0,0⟩],[⟨0,0,0⟩]⟩
def ins (l:List AJ) (J:AJ):List AJ:=if J∈l then l else J::l
def Zrm (k:Nat) (J:AJ):List AJ:=if k≤12 then [Zgt (rnd false true k J),Zgt (rnd true true k J),Zgt (rnd false false k J),Zgt (rnd true false k J)] else [Zgt (rnd false true k J),Zgt (rnd true true k J)]
def wrt (ha hb:Bool) (J:AJ):AJ:=⟨if ha=true then { J.a with beh:=2 } else J.a,if hb=true then { J.b with beh:=2 } else J.b,J.ra,J.rb⟩
def ZjX (ha hb:Bool) (k:Nat) (l:List AJ):List AJ:=(l.flatMap (Zrm k)).foldl (fun acc J=>ins acc (if k=12 then wrt ha hb J else J)) []
def ZuP (ha hb:Bool) (k:Nat) (l:List AJ):Bool:=l.all fun J=>Ziv ha hb false true k J && Ziv ha hb true true k J && (decide (12<k) || (Ziv ha hb false false k J && Ziv ha hb true false k J))
def ZeT (ha hb:Bool):Nat→Nat→List AJ→Bool
  | 0,_,l=>l.all fun J=>decide (J.a.st=.op) && decide (J.b.st=.op) && (decide (J.a.rcv=2) || !hb) && (decide (J.b.rcv=2) || !ha)
  | n+1,k,l=>ZuP ha hb k l && ZeT ha hb n (k+1) (ZjX ha hb k l)
def stS:Mo3→State
  | .ss=>.synSent
  | .sc=>.synCome
  | .op=>.opn
def dc (n:Int):Nat→Int
  | 0=>0
  | 1=>1
  | _=>1+n
def gr (g n:Int):Nat→Int
  | 0=>0
  | c=>Zw g (dc n c)
def cE (a b f g:Int) (d d':List Int) (A:AE) (w tl bq mo si wa:Int) (tr:Int):Zu:=
  ⟨a,b,stS A.st,.none,f,Zw f (dc d.length A.una),Zw f (dc d.length A.nxt),gr g d'.length A.rcv,w,tl,bq,mo,if A.beh=2∧A.una≤1 then d else [],if A.rcv=2 then d' else [],[],none,false,Zw f (dc d.length A.beh),none,A.osyn,A.oa,false,si,wa,tr⟩
structure Rep (a b f g:Int) (d d':List Int) (A:AE) (e:Zu):Prop where
  ex:∃w tl bq mo si wa tr,e=cE a b f g d d' A w tl bq mo si wa tr∧(¬A.st=.ss→56≤w∧w≤64∧mo=16)∧(¬A.nxt=A.una→si=1000*(A.since:Int)∧wa=1000*(A.wait:Int)∧tr=(A.tries:Int))
def cS (a b f g:Int) (d':List Int) (n:Int) (s:AS) (win:Int):Seg:=
  match s.kind with
  | 0=>⟨b,a,g,0,2,64,16,[]⟩
  | 1=>⟨b,a,g,Zw f (dc n s.ans),18,64,16,[]⟩
  | 2=>⟨b,a,Zw g (dc d'.length s.num),Zw f (dc n s.ans),16,win,0,[]⟩
  | 3=>⟨b,a,Zw g (dc d'.length s.num),Zw f (dc n s.ans),24,win,0,d'⟩
  | _=>⟨b,a,Zw g (dc d'.length s.num),Zw f (dc n s.ans),16,win,0,d'⟩
section
variable {n f g:Int} {i j:Nat}
theorem Zfz (hi:i≤2) (hn:0≤n∧n≤8):0≤dc n i∧dc n i≤9:=by
  match i,hi with
  | 0,_=>simp [dc]
  | 1,_=>simp [dc]
  | 2,_=>simp only [dc]; omega
theorem Zis (hi:i≤2) (hj:j≤2) (hn:0≤n∧n≤8) (h2:i=2∨j=2→0<n):(0<dc n i-dc n j↔j<i)∧(dc n i=dc n j↔i=j):=by
  match i,j,hi,hj with
  | 0,0,_,_=>simp [dc]
  | 0,1,_,_=>simp [dc]
  | 0,2,_,_=>have:=h2 (.inr rfl); simp only [dc]; omega
  | 1,0,_,_=>simp [dc]
  | 1,1,_,_=>simp [dc]
  | 1,2,_,_=>have:=h2 (.inr rfl); simp only [dc]; omega
  | 2,0,_,_=>have:=h2 (.inl rfl); simp only [dc]; omega
  | 2,1,_,_=>have:=h2 (.inl rfl); simp only [dc]; omega
  | 2,2,_,_=>simp [dc]
theorem ZqZ (hi:i≤2) (hj:j≤2) (hn:0≤n∧n≤8) (h2:i=2∨j=2→0<n):ZaN (Zw f (dc n i)) (Zw f (dc n j))=decide (j<i):=by
  have a:=Zfz hi hn
  have b:=Zfz hj hn
  rw [Zul (by omega) (by omega),decide_eq_decide]
  exact (Zis hi hj hn h2).1
theorem ZuN (hi:i≤2) (hj:j≤2) (hn:0≤n∧n≤8) (h2:i=2∨j=2→0<n):Zw f (dc n i)=Zw f (dc n j)↔i=j:=by
  have a:=Zfz hi hn
  have b:=Zfz hj hn
  rw [Zfh (by omega)]
  exact (Zis hi hj hn h2).2
theorem Zit (hi:i≤2) (hj:j≤2) (hn:0≤n∧n≤8):ZL (Zw f (dc n i)) (Zw f (dc n j))=dc n i-dc n j:=by
  have a:=Zfz hi hn
  have b:=Zfz hj hn
  exact Zdn (by omega)
end
theorem ZjT {e:Zu} {s:Seg} (hd:s.data=[]) (h1:bears s 1=false) (he:e.early=[]) (hf:e.early_fin=none):Za1 e s=e:=by
  have k1:Zaa e s=e:=by
    unfold Zaa
    rw [hd]
    rfl
  have k2:Zbc e s=e:=by
    unfold Zbc
    rw [if_pos h1]
  unfold Za1 ZeG
  rw [k1,k2]
  have d1:drawn 200 e=([],e):=by
    unfold drawn
    rw [if_neg (by rw [hf]; simp),he]
    rfl
  rw [d1]
  unfold Zfv
  have:Za7 ([]:List Int) none (some (ZM e))=[]:=by unfold Za7; rw [List.drop_nil,List.take_nil]
  simp only [this,List.append_nil]
section
variable {a b f g win:Int} {d d':List Int} {A:AE} {e:Zu} {s:AS} {t:Nat} {hd hp:Bool}
theorem Zsd (r:Rep a b f g d d' A e) (hst:A.st=.ss) (ok:okA hd hp A=true) (os:okS hd hp A s=true) (rf:0≤f∧f≤4294967295):Rep a b f g d d' (ZaD A s t) (Zdr e (cS a b f g d' d.length s win) (1000*(t:Int))):=by
  obtain ⟨w,tl,bq,mo,si,wa,tr,rfl,hw,ht⟩:=r.ex
  obtain ⟨st,una,nxt,beh,rcv,osyn,oa,since,wait,tries⟩:=A
  simp only at hst
  subst hst
  simp only [okA,Bool.and_eq_true,decide_eq_true_eq] at ok
  obtain ⟨⟨⟨_,_⟩,_⟩,⟨⟨q1,q2⟩,q3⟩,q4⟩:=ok
  subst q1 q2 q3
  have na:∀sg:Seg,sg.ans=Zw f 1→Zcb (cE a b f g d d' ⟨.ss,0,1,beh,0,osyn,oa,since,wait,tries⟩ w tl bq mo si wa tr) sg=true:=by
    intro sg h
    unfold Zcb
    have:¬Zw f 1=f:=Zia (by omega)
    rw [h]
    simp [cE,dc,this]
  obtain ⟨kind,num,ans⟩:=s
  match kind with
  | 0=>
    refine ⟨64,g,0,16,1000*(t:Int),1000,0,?_,fun _=>by omega,fun _=>⟨rfl,rfl,rfl⟩⟩
    show Z9 _ _ _=_
    unfold Z9 cS
    simp [cE,ZaD,hearSyn,zi,stS,gr,dc]
  | 1=>
    simp only [okS,Bool.and_eq_true,decide_eq_true_eq] at os
    obtain ⟨rfl,rfl⟩:=os
    refine ⟨64,g,Zw f 1,16,si,wa,tr,?_,fun _=>by omega,fun z=>absurd rfl z⟩
    show Z9 _ _ _=_
    unfold Z9 cS
    rw [na _ rfl]
    simp [cE,ZaD,hearSyn,stS,gr,dc]
  | k+2=>
    have a1:ans=1:=by
      match k with
      | 0=>simp only [okS,Bool.and_eq_true,decide_eq_true_eq] at os; omega
      | 1=>simp only [okS,Bool.and_eq_true,decide_eq_true_eq] at os; omega
      | 2=>simp only [okS,Bool.and_eq_true,decide_eq_true_eq] at os; omega
      | k+3=>simp [okS] at os
    subst a1
    have e1:ZaD ⟨.ss,0,1,beh,0,osyn,oa,since,wait,tries⟩ ⟨k+2,num,1⟩ t=⟨.ss,0,1,beh,0,osyn,oa,since,wait,tries⟩:=by simp [ZaD]
    rw [e1]
    refine ⟨w,tl,bq,mo,si,wa,tr,?_,hw,ht⟩
    show Z9 _ _ _=_
    have:∃sg:Seg,cS a b f g d' d.length ⟨k+2,num,1⟩ win=sg∧sg.ans=Zw f 1∧bears sg 4=false∧bears sg 2=false:=by
      match k with
      | 0=>exact ⟨_,rfl,rfl,by simp [cS],by simp [cS]⟩
      | 1=>exact ⟨_,rfl,rfl,by simp [cS],by simp [cS]⟩
      | k+2=>exact ⟨_,rfl,rfl,by simp [cS],by simp [cS]⟩
    obtain ⟨sg,h1,h2,h3,h4⟩:=this
    rw [h1]
    unfold Z9
    rw [na sg h2,h3,h4]
    simp
end
end
end My
namespace My
open PySem L2 L2.MM
noncomputable section
section
variable {a b f g win:Int} {d d':List Int} {A:AE} {e:Zu} {s:AS} {t:Nat} {hd hp:Bool}
theorem ZhS {e:Zu} {s:Seg} {t:Int} (hs:e.state∉[State.closed,.listen,.synSent]) (hf:ZdX e s=false):Zdr e s t=Zcg e s t:=by
  rw [Zpn hs]
  unfold ZaL
  rw [if_pos hf]
theorem Zsb (h:¬A.st=.ss):stS A.st∉[State.closed,.listen,.synSent]:=by
  cases hh:A.st with
  | ss=>exact absurd hh h
  | sc=>simp [stS]
  | op=>simp [stS]
structure Cod (hd hp:Bool) (A:AE):Prop where
  tries:A.tries<6
  wait:A.nxt=A.una∨0<A.wait
  beh:A.beh=1∨(A.beh=2∧hd=true)
  una:A.una≤A.nxt
  nxt:1≤A.nxt∧A.nxt≤A.beh
  rcv:A.rcv≤2
  rcv2:A.rcv=2→hp=true
  ss:A.st=.ss→A.una=0∧A.nxt=1∧A.rcv=0∧A.oa=false
  sc:A.st=.sc→A.una=0∧A.nxt=1∧A.rcv=1
  op:A.st=.op→1≤A.una∧1≤A.rcv
theorem Cod.of (ok:okA hd hp A=true):Cod hd hp A:=by
  obtain ⟨st,una,nxt,beh,rcv,osyn,oa,since,wait,tries⟩:=A
  unfold okA at ok
  simp only [Bool.and_eq_true,Bool.or_eq_true,decide_eq_true_eq] at ok
  obtain ⟨⟨⟨h1,h0⟩,h2⟩,h3⟩:=ok
  cases st with
  | ss=>
    simp at h3
    exact ⟨h1,h0,by simpa using h2,by simp; omega,by simp; omega,by simp; omega,by simp; omega,fun _=>⟨h3.1.1.1,h3.1.1.2,h3.1.2,h3.2⟩,fun z=>by simp at z,fun z=>by simp at z⟩
  | sc=>
    simp at h3
    exact ⟨h1,h0,by simpa using h2,by simp; omega,by simp; omega,by simp; omega,by simp; omega,fun z=>by simp at z,fun _=>⟨h3.1.1,h3.1.2,h3.2⟩,fun z=>by simp at z⟩
  | op=>
    simp at h3
    obtain ⟨⟨⟨k1,k2⟩,k3⟩,k4⟩:=h3
    exact ⟨h1,h0,by simpa using h2,by simp; omega,by simp; omega,by simp; omega,fun z=>k4.elim (fun q=>by simp at z; omega) (·.2),fun z=>by simp at z,fun z=>by simp at z,fun _=>⟨k1,by simp; omega⟩⟩
structure Lst (hd:Bool) (d:List Int):Prop where
  len:d.length≤8
  pos:hd=true→0<d.length
structure SegK (hp:Bool) (A:AE) (s:AS):Prop where
  num:(s.num=1∨(s.num=2∧hp=true∧s.kind=2))
  ans:1≤s.ans∧s.ans≤A.nxt
  data:s.kind=2∨((s.kind=3∨s.kind=4)∧s.num=1∧hp=true)
theorem SegK.of (os:okS hd hp A s=true) (h:¬(s.kind=0∨s.kind=1)):SegK hp A s:=by
  obtain ⟨kind,num,ans⟩:=s
  match kind with
  | 0=>simp at h
  | 1=>simp at h
  | 2=>simp [okS] at os; exact ⟨os.1.1.imp id (fun q=>⟨q.1,q.2,rfl⟩),⟨os.1.2,os.2⟩,.inl rfl⟩
  | 3=>simp [okS] at os; exact ⟨.inl os.1.1.1,⟨os.1.2,os.2⟩,.inr ⟨.inl rfl,os.1.1.1,os.1.1.2⟩⟩
  | 4=>simp [okS] at os; exact ⟨.inl os.1.1.1,⟨os.1.2,os.2⟩,.inr ⟨.inr rfl,os.1.1.1,os.1.1.2⟩⟩
  | k+5=>simp [okS] at os
def fS (s:AS):Int:=if s.kind=3 then 24 else 16
def dS (d':List Int) (s:AS):List Int:=if s.kind=2 then [] else d'
theorem ZuR {n:Int} (h:¬(s.kind=0∨s.kind=1)):cS a b f g d' n s win=⟨b,a,Zw g (dc d'.length s.num),Zw f (dc n s.ans),fS s,win,0,dS d' s⟩:=by
  obtain ⟨kind,num,ans⟩:=s
  match kind with
  | 0=>simp at h
  | 1=>simp at h
  | 2=>rfl
  | 3=>rfl
  | k+4=>
    show _=(⟨_,_,_,_,if k+4=3 then 24 else 16,_,_,if k+4=2 then [] else d'⟩:Seg)
    rw [if_neg (by omega),if_neg (by omega)]
    rfl
theorem Ziq (s:AS):bit (fS s) 2=0∧bit (fS s) 1=0∧bit (fS s) 4=0∧bit (fS s) 16=1:=by
  unfold fS
  split<;>decide
theorem Zg2 {w tl bq mo si wa tr:Int} (h:1≤A.rcv):(cE a b f g d d' A w tl bq mo si wa tr).rcv=Zw g (dc d'.length A.rcv):=by
  show gr g d'.length A.rcv=_
  unfold gr
  split
  · rename_i q; omega
  · rfl
theorem Ze4 {n:Int} {c:Nat} (h:1≤c):gr g n c=Zw g (dc n c):=by
  unfold gr
  split
  · rename_i q; omega
  · rfl
theorem ZlB {w tl bq mo si wa tr:Int} {sg:Seg} (hr:1≤A.rcv∧A.rcv≤2) (hl:d'.length≤8) (h1:sg.num=g) (h2:ZgW sg=1) (rg:0≤g∧g≤4294967295):ZdX (cE a b f g d d' A w tl bq mo si wa tr) sg=false:=by
  have hb:Zw g 0=g:=Zdj rg
  have q:=Zfz (n:=d'.length) (i:=A.rcv) hr.2 (by omega)
  have q1:1≤dc d'.length A.rcv:=by
    have:A.rcv=1∨A.rcv=2:=by omega
    rcases this with h | h<;>rw [h]<;>simp only [dc]<;>omega
  have o:ZL g (Zw g (dc d'.length A.rcv)) = - dc d'.length A.rcv:=Zmk (by omega)
  unfold ZdX
  rw [h2,if_neg (by omega),h1]
  unfold inWin
  rw [Zg2 hr.1,show (1:Int)-1=0 from rfl,hb,o]
  simp; omega
theorem ZqT {w tl bq mo si wa tr n:Int} (hr:1≤A.rcv∧A.rcv≤2) (hr2:A.rcv=2→hp=true) (hl:Lst hp d') (k:SegK hp A s):ZdX (cE a b f g d d' A w tl bq mo si wa tr) ⟨b,a,Zw g (dc d'.length s.num),Zw f (dc n s.ans),fS s,win,0,dS d' s⟩=decide (A.rcv≤s.num):=by
  obtain ⟨b2,b1,b4,b16⟩:=Ziq s
  have hn2:s.num≤2:=by rcases k.num with h | h<;>omega
  have ll:=hl.len
  have h2:s.num=2∨A.rcv=2→0<(d'.length:Int):=by
    rintro (h | h)
    · rcases k.num with q | q
      · omega
      · have:=hl.pos q.2.1; omega
    · have:=hl.pos (hr2 h); omega
  have sub:=Zis (n:=d'.length) (i:=s.num) (j:=A.rcv) hn2 hr.2 (by omega) h2
  have i1:=Zfz (n:=d'.length) (i:=A.rcv) hr.2 (by omega)
  have i2:=Zfz (n:=d'.length) (i:=s.num) hn2 (by omega)
  have off:ZL (Zw g (dc d'.length s.num)) (Zw g (dc d'.length A.rcv))=dc d'.length s.num-dc d'.length A.rcv:=Zit hn2 hr.2 (by omega)
  have ge:0≤dc d'.length s.num-dc d'.length A.rcv↔A.rcv≤s.num:=by
    by_cases c:A.rcv=s.num
    · rw [c]; simp
    · have e1:=sub.2
      have e2:=sub.1
      constructor
      · intro h
        have:0<dc d'.length s.num-dc d'.length A.rcv:=by
          by_cases z:dc d'.length s.num=dc d'.length A.rcv
          · exact absurd (e1.mp z).symm c
          · omega
        have:=e2.mp this
        omega
      · intro h
        have:=e2.mpr (by omega)
        omega
  unfold ZdX
  have len:ZgW ⟨b,a,Zw g (dc d'.length s.num),Zw f (dc n s.ans),fS s,win,0,dS d' s⟩=(dS d' s).length:=by
    unfold ZgW
    show ((dS d' s).length:Int)+bit (fS s) 2+bit (fS s) 1=_
    rw [b2,b1]; omega
  rw [len]
  rcases k.data with h | ⟨h,h1,h3⟩
  · have:dS d' s=[]:=by unfold dS; rw [if_pos h]
    rw [this,if_pos (by rfl)]
    rw [Zg2 hr.1]
    show (decide (0≤ZL (Zw g (dc d'.length s.num)) (Zw g (dc d'.length A.rcv))) && decide (ZL (Zw g (dc d'.length s.num)) (Zw g (dc d'.length A.rcv))≤64))=_
    rw [off]
    rw [Bool.eq_iff_iff]
    simp only [Bool.and_eq_true,decide_eq_true_eq]
    constructor
    · intro h; exact ge.mp h.1
    · intro h; exact ⟨ge.mpr h,by omega⟩
  · have hpos:=hl.pos h3
    have:dS d' s=d':=by unfold dS; rw [if_neg (by omega)]
    rw [this,if_neg (by omega)]
    unfold inWin ZM
    rw [Zg2 hr.1]
    show (decide (0≤ZL (Zw g (dc d'.length s.num)) (Zw g (dc d'.length A.rcv))) && decide (ZL (Zw g (dc d'.length s.num)) (Zw g (dc d'.length A.rcv))<64-((if A.rcv=2 then d' else []).length:Int)) || decide (0≤ZL (Zw (Zw g (dc d'.length s.num)) (d'.length-1)) (Zw g (dc d'.length A.rcv))) && decide (ZL (Zw (Zw g (dc d'.length s.num)) (d'.length-1)) (Zw g (dc d'.length A.rcv))<64-((if A.rcv=2 then d' else []).length:Int)))=_
    rw [off,Zdk,Zdn (by omega),h1]
    have hc:A.rcv=1∨A.rcv=2:=by omega
    rcases hc with hc | hc
    · rw [hc,if_neg (by omega)]
      simp [dc]
    · rw [hc,if_pos rfl]
      simp [dc]; omega
abbrev sgK (a b f g:Int) (d':List Int) (n:Int) (s:AS) (win:Int):Seg:=⟨b,a,Zw g (dc d'.length s.num),Zw f (dc n s.ans),fS s,win,0,dS d' s⟩
theorem ZqK {w tl bq mo si wa tr:Int} (hst:A.st=.sc) (c:Cod hd hp A) (k:SegK hp A s):Zav (cE a b f g d d' A w tl bq mo si wa tr) (sgK a b f g d' d.length s win) (1000*(t:Int))=(true,cE a b f g d d' { A with una:=1,st:=.op } win (Zw g (dc d'.length s.num)) (Zw f (dc d.length s.ans)) mo si wa tr):=by
  obtain ⟨q1,q2,q3⟩:=c.sc hst
  have a1:s.ans=1:=by have:=k.ans; omega
  obtain ⟨kind,num,ans⟩:=s
  simp only at a1
  subst a1
  obtain ⟨st,una,nxt,beh,rcv,osyn,oa,since,wait,tries⟩:=A
  simp only at hst q1 q2 q3
  subst hst q1 q2 q3
  unfold Zav Zaq
  have h1:¬Zw f 1=f:=Zia (by omega)
  simp [cE,stS,dc,h1,ZeA]
theorem ZqL {w tl bq mo si wa tr:Int} (hst:A.st=.op) (c:Cod hd hp A) (k:SegK hp A s) (hl:Lst hd d) (hw:56≤w∧w≤64) (hwin:56≤win∧win≤64):∃w' tl' bq',(56≤w'∧w'≤64)∧Zav (cE a b f g d d' A w tl bq mo si wa tr) (sgK a b f g d' d.length s win) (1000*(t:Int))=(true,cE a b f g d d' (if A.una<s.ans then { A with una:=s.ans } else A) w' tl' bq' mo si wa tr):=by
  obtain ⟨q1,q2⟩:=c.op hst
  have hb:=c.beh
  have hn:=c.nxt
  have hu:=c.una
  have ha:=k.ans
  have ll:=hl.len
  have pos:A.beh=2→0<(d.length:Int):=by
    intro h
    rcases hb with z | ⟨_,z⟩
    · omega
    · have:=hl.pos z; omega
  have pst:∀i j:Nat,i≤A.beh→j≤A.beh→ZaN (Zw f (dc d.length i)) (Zw f (dc d.length j))=decide (j<i):=fun i j hi hj=>ZqZ (by omega) (by omega) (by omega) (fun z=>pos (by omega))
  unfold Zav
  rw [if_neg (by show ¬stS A.st=.synCome; rw [hst]; simp [stS])]
  have p1:ZaN (sgK a b f g d' d.length s win).ans (cE a b f g d d' A w tl bq mo si wa tr).nxt=false:=by
    show ZaN (Zw f (dc d.length s.ans)) (Zw f (dc d.length A.nxt))=false
    rw [pst _ _ (by omega) (by omega)]
    simp; omega
  rw [p1,if_neg (by simp)]
  obtain ⟨A1,hA1⟩:∃A1,A1=(if A.una<s.ans then { A with una:=s.ans } else A):=⟨_,rfl⟩
  have hon:Zce (cE a b f g d d' A w tl bq mo si wa tr) (sgK a b f g d' d.length s win) (1000*(t:Int))=cE a b f g d d' A1 w tl bq mo si wa tr:=by
    unfold Zce
    have p2:ZaN (sgK a b f g d' d.length s win).ans (cE a b f g d d' A w tl bq mo si wa tr).una=decide (A.una<s.ans):=pst _ _ (by omega) (by omega)
    rw [p2]
    by_cases z:A.una<s.ans
    · rw [if_pos (by simpa using z)]
      rw [if_pos z] at hA1
      have z1:A.una=1:=by omega
      have z2:s.ans=2:=by omega
      have z3:A.nxt=2:=by omega
      have z4:A.beh=2:=by omega
      rw [if_pos (by show Zw f (dc d.length s.ans)=Zw f (dc d.length A.nxt); rw [z2,z3]),hA1]
      have o:ZL (sgK a b f g d' d.length s win).ans (cE a b f g d d' A w tl bq mo si wa tr).una=d.length:=by
        show ZL (Zw f (dc d.length s.ans)) (Zw f (dc d.length A.una))=_
        rw [z1,z2,Zit (by omega) (by omega) (by omega)]
        simp only [dc]; omega
      rw [o]
      unfold cE
      simp only [z4,z1,z2,z3]
      simp
    · rw [if_neg (by simpa using z)]
      rw [if_neg z] at hA1
      rw [hA1]
  have hst1:A1.st=.op:=by rw [hA1]; split<;>exact hst
  have h1:∃w' tl' bq',(56≤w'∧w'≤64)∧zU (cE a b f g d d' A w tl bq mo si wa tr) (sgK a b f g d' d.length s win) (1000*(t:Int))=cE a b f g d d' A1 w' tl' bq' mo si wa tr:=by
    unfold zU
    simp only [hon]
    by_cases z:ZaN (cE a b f g d d' A1 w tl bq mo si wa tr).una (sgK a b f g d' d.length s win).ans=true
    · exact ⟨w,tl,bq,hw,by rw [if_pos z]⟩
    · rw [if_neg z]
      by_cases y:(ZaN (sgK a b f g d' d.length s win).ans (cE a b f g d d' A w tl bq mo si wa tr).una || isNewer (cE a b f g d d' A1 w tl bq mo si wa tr) (sgK a b f g d' d.length s win))=true
      · refine ⟨win,Zw g (dc d'.length s.num),Zw f (dc d.length s.ans),hwin,?_⟩
        rw [if_pos y,if_neg]
        · rfl
        · show ¬(w=0∨win=0); omega
      · refine ⟨w,tl,bq,hw,?_⟩
        rw [if_neg y,if_neg]
        show ¬(w=0∨w=0); omega
  obtain ⟨w',tl',bq',hw',h1⟩:=h1
  refine ⟨w',tl',bq',hw',?_⟩
  rw [h1]
  have h2:ZaQ (cE a b f g d d' A1 w' tl' bq' mo si wa tr) (1000*(t:Int))=cE a b f g d d' A1 w' tl' bq' mo si wa tr:=by
    have hf:Zfd (cE a b f g d d' A1 w' tl' bq' mo si wa tr)=false:=by
      show ZaN (Zw f (dc d.length A1.nxt)) (Zw f (dc d.length A1.beh))=false
      have e1:A1.nxt=A.nxt∧A1.beh=A.beh:=by rw [hA1]; split<;>exact ⟨rfl,rfl⟩
      rw [e1.1,e1.2,pst _ _ (by omega) (by omega)]
      simp; omega
    unfold ZaQ
    rw [if_pos (.inl hf)]
  rw [h2,←hA1]
  have h3:(cE a b f g d d' A1 w' tl' bq' mo si wa tr).state=.opn:=by show stS A1.st=_; rw [hst1]; rfl
  rw [h3]
  simp
theorem ZrB {w tl bq mo si wa tr:Int} (hst:A.st=.op) (hr:1≤A.rcv∧A.rcv≤s.num) (k:SegK hp A s) (hl:Lst hp d'):ZbD (cE a b f g d d' A w tl bq mo si wa tr) (sgK a b f g d' d.length s win) (1000*(t:Int))=cE a b f g d d' (ZbN A s) w tl bq mo si wa tr:=by
  obtain ⟨b2,b1,b4,b16⟩:=Ziq s
  have ll:=hl.len
  have b1':bears (sgK a b f g d' d.length s win) 1=false:=by
    unfold bears
    show decide (bit (fS s) 1=1)=false
    rw [b1]; rfl
  have hS:(cE a b f g d d' A w tl bq mo si wa tr).state=.opn:=by show stS A.st=_; rw [hst]; rfl
  unfold ZbD
  rw [if_pos (.inl hS)]
  have key:Za1 (cE a b f g d d' A w tl bq mo si wa tr) (sgK a b f g d' d.length s win)=cE a b f g d d' (ZbN A s) w tl bq mo si wa tr:=by
    rcases k.data with h | ⟨h,h1,h3⟩
    · rw [ZjT (by show dS d' s=[]; unfold dS; rw [if_pos h]) b1' rfl rfl]
      have e5:ZbN A s=A:=by unfold ZbN; rw [if_neg (by omega)]
      rw [e5]
    · have e1:A.rcv=1:=by omega
      have hds:dS d' s=d':=by unfold dS; rw [if_neg (by omega)]
      have hpos:=hl.pos h3
      rw [ZjU (by show (dS d' s).length≤16; rw [hds]; omega) (by rw [Zg2 hr.1,e1]; show Zw g (dc d'.length s.num)=_; rw [h1]) (by rw [Zg2 hr.1]; exact Zgz _ _) rfl rfl (by
        rw [b1',if_neg (by simp)]
        show (if A.rcv=2 then d' else []).length+(dS d' s).length+0≤64
        rw [hds,e1]; simp; omega)]
      rw [b1']
      have e5:ZbN A s={ A with rcv:=2,oa:=true }:=by unfold ZbN; rw [if_pos h]
      rw [e5]
      have e6:Zw (gr g d'.length 1) d'.length=gr g d'.length 2:=by
        rw [Ze4 (by omega),Ze4 (by omega),Zdk]; rfl
      unfold cE
      simp [hds,e1,e6,hpos]
  rw [key,if_neg]
  show ¬none=some _
  simp
theorem Zp2 (r:Rep a b f g d d' A e) (hst:¬A.st=.ss) (ok:okA hd hp A=true) (os:okS hd hp A s=true) (rg:0≤g∧g≤4294967295) (hwin:56≤win∧win≤64) (l:Lst hd d) (l':Lst hp d'):Rep a b f g d d' (ZaD A s t) (Zdr e (cS a b f g d' d.length s win) (1000*(t:Int))):=by
  obtain ⟨w,tl,bq,mo,si,wa,tr,rfl,hw,ht⟩:=r.ex
  have c:=Cod.of ok
  have hr:1≤A.rcv∧A.rcv≤2:=by
    refine ⟨?_,c.rcv⟩
    cases h:A.st with
    | ss=>exact absurd h hst
    | sc=>have:=(c.sc h).2.2; omega
    | op=>exact (c.op h).2
  have sI:(cE a b f g d d' A w tl bq mo si wa tr).state∉[State.closed,.listen,.synSent]:=Zsb hst
  obtain ⟨hw0,hw1,hm⟩:=hw hst
  by_cases h01:s.kind=0∨s.kind=1
  · have nf:ZdX (cE a b f g d d' A w tl bq mo si wa tr) (cS a b f g d' d.length s win)=false:=by
      rcases h01 with h | h
      · exact ZlB hr l'.len (by simp [cS,h]) (by simp [cS,ZgW,h]) rg
      · exact ZlB hr l'.len (by simp [cS,h]) (by simp [cS,ZgW,h]) rg
    rw [ZhS sI nf]
    have n4:bears (cS a b f g d' d.length s win) 4=false:=by
      rcases h01 with h | h<;>simp [cS,h]
    have b2:bears (cS a b f g d' d.length s win) 2=true:=by
      rcases h01 with h | h<;>simp [cS,h]
    unfold Zcg
    rw [n4,b2,if_neg (by simp)]
    obtain ⟨st,una,nxt,beh,rcv,osyn,oa,since,wait,tries⟩:=A
    cases st with
    | ss=>simp at hst
    | sc=>
      rcases h01 with h | h
      · have n16:bears (cS a b f g d' d.length s win) 16=false:=by simp [cS,h]
        refine ⟨w,tl,bq,mo,si,wa,tr,?_,fun _=>⟨hw0,hw1,hm⟩,fun z=>?_⟩
        · rw [n16]; simp [cE,stS,ZaD,h]
        · simp only [ZaD,h] at z ⊢; exact ht z
      · have n16:bears (cS a b f g d' d.length s win) 16=true:=by simp [cS,h]
        refine ⟨w,tl,bq,mo,si,wa,tr,?_,fun _=>⟨hw0,hw1,hm⟩,fun z=>?_⟩
        · rw [n16]; simp [cE,stS,ZaD,h]
        · simp [ZaD,h] at z ⊢; exact ht z
    | op=>
      refine ⟨w,tl,bq,mo,si,wa,tr,?_,fun _=>⟨hw0,hw1,hm⟩,fun z=>?_⟩
      · rcases h01 with h | h<;>simp [cE,stS,ZaD,h]
      · rcases h01 with h | h<;>· simp [ZaD,h] at z ⊢; exact ht z
  · have k:=SegK.of os h01
    have e1:=ZuR (a:=a) (b:=b) (f:=f) (g:=g) (d':=d') (n:=d.length) (win:=win) h01
    have ft:=ZqT (a:=a) (b:=b) (f:=f) (g:=g) (d:=d) (w:=w) (tl:=tl) (bq:=bq) (mo:=mo) (si:=si) (wa:=wa) (tr:=tr) (n:=d.length) (win:=win) hr c.rcv2 l' k
    obtain ⟨b2,b1,b4,b16⟩:=Ziq s
    have n4:bears (sgK a b f g d' d.length s win) 4=false:=by
      unfold bears; show decide (bit (fS s) 4=1)=false; rw [b4]; rfl
    have n2:bears (sgK a b f g d' d.length s win) 2=false:=by
      unfold bears; show decide (bit (fS s) 2=1)=false; rw [b2]; rfl
    have n16:bears (sgK a b f g d' d.length s win) 16=true:=by
      unfold bears; show decide (bit (fS s) 16=1)=true; rw [b16]; rfl
    rw [e1]
    by_cases z:A.rcv≤s.num
    · rw [Zq0 sI (by rw [ft]; simpa using z) n4 n2 n16]
      cases h:A.st with
      | ss=>exact absurd h hst
      | sc=>
        rw [ZqK h c k]
        simp only [if_true]
        rw [ZrB (A:={ A with una:=1,st:=.op }) rfl ⟨hr.1,z⟩ ⟨k.num,k.ans,k.data⟩ l']
        have e2:ZaD A s t=ZbN { A with una:=1,st:=.op } s:=by
          unfold ZaD
          rw [h]
          simp only
          rw [if_neg (by omega),if_neg (by omega)]
        rw [e2]
        have q2:=(c.sc h).2.1
        refine ⟨win,_,_,mo,si,wa,tr,rfl,fun _=>⟨hwin.1,hwin.2,hm⟩,fun y=>?_⟩
        exfalso; apply y
        unfold ZbN
        split<;>exact q2
      | op=>
        obtain ⟨w',tl',bq',hw',gp⟩:=ZqL (a:=a) (b:=b) (f:=f) (g:=g) (d:=d) (d':=d') (w:=w) (tl:=tl) (bq:=bq) (mo:=mo) (si:=si) (wa:=wa) (tr:=tr) (t:=t) h c k l ⟨hw0,hw1⟩ hwin
        rw [gp]
        simp only [if_true]
        have e0:(if A.una<s.ans then { A with una:=s.ans } else A).st=.op∧(if A.una<s.ans then { A with una:=s.ans } else A).rcv=A.rcv∧(if A.una<s.ans then { A with una:=s.ans } else A).nxt=A.nxt:=by split<;>exact ⟨h,rfl,rfl⟩
        rw [ZrB e0.1 (by rw [e0.2.1]; exact ⟨hr.1,z⟩) ⟨k.num,by rw [e0.2.2]; exact k.ans,k.data⟩ l']
        have e2:ZaD A s t=ZbN (if A.una<s.ans then { A with una:=s.ans } else A) s:=by
          unfold ZaD
          rw [h]
          simp only
          rw [if_neg (by omega)]
        rw [e2]
        refine ⟨w',tl',bq',mo,si,wa,tr,rfl,fun _=>⟨hw'.1,hw'.2,hm⟩,fun y=>?_⟩
        have e3:∀B:AE,(ZbN B s).nxt=B.nxt∧(ZbN B s).una=B.una∧(ZbN B s).since=B.since∧(ZbN B s).wait=B.wait∧(ZbN B s).tries=B.tries:=by
          intro B; unfold ZbN; split<;>exact ⟨rfl,rfl,rfl,rfl,rfl⟩
        obtain ⟨r1,r2,r3,r4,r5⟩:=e3 (if A.una<s.ans then { A with una:=s.ans } else A)
        rw [r1,r2] at y
        rw [r3,r4,r5]
        by_cases x:A.una<s.ans
        · simp only [if_pos x] at y ⊢
          have:=k.ans
          have:=c.una
          have:=c.nxt
          have:=c.beh
          have:=c.op h
          omega
        · simp only [if_neg x] at y ⊢
          exact ht y
    · rw [ZhS sI (by rw [ft]; simpa using z)]
      unfold Zcg
      rw [n4,n2,if_neg (by simp)]
      obtain ⟨st,una,nxt,beh,rcv,osyn,oa,since,wait,tries⟩:=A
      have z':s.num<rcv:=by simpa using z
      have k0:¬s.kind=0:=by omega
      cases st with
      | ss=>simp at hst
      | sc=>
        refine ⟨w,tl,bq,mo,si,wa,tr,?_,fun _=>⟨hw0,hw1,hm⟩,fun y=>?_⟩
        · simp [cE,stS,ZaD,z',k0]
        · simp [ZaD,k0,z'] at y ⊢; exact ht y
      | op=>
        refine ⟨w,tl,bq,mo,si,wa,tr,?_,fun _=>⟨hw0,hw1,hm⟩,fun y=>?_⟩
        · simp [cE,stS,ZaD,z',k0]
        · simp [ZaD,k0,z'] at y ⊢; exact ht y
theorem Zoc (r:Rep a b f g d d' A e) (ok:okA hd hp A=true) (os:okS hd hp A s=true) (rf:0≤f∧f≤4294967295) (rg:0≤g∧g≤4294967295) (hwin:56≤win∧win≤64) (l:Lst hd d) (l':Lst hp d'):Rep a b f g d d' (ZaD A s t) (Zdr e (cS a b f g d' d.length s win) (1000*(t:Int))):=by
  by_cases h:A.st=.ss
  · exact Zsd r h ok os rf
  · exact Zp2 r h ok os rg hwin l l'
theorem ZqX {si wa tr w tl bq mo:Int} (ht:si=1000*(A.since:Int)∧wa=1000*(A.wait:Int)∧tr=(A.tries:Int)) (hw:0<A.wait):ZcK (cE a b f g d d' A w tl bq mo si wa tr) (1000*(t:Int))=decide (A.wait≤t-A.since):=by
  unfold ZcK
  show decide (wa≤1000*(t:Int)-si)=_
  rw [decide_eq_decide]
  omega
theorem ZsR {w tl bq mo si wa tr:Int} (c:Cod hd hp A) (l:Lst hd d):(cE a b f g d d' A w tl bq mo si wa tr).nxt=(cE a b f g d d' A w tl bq mo si wa tr).una↔A.nxt=A.una:=by
  show Zw f (dc d.length A.nxt)=Zw f (dc d.length A.una)↔_
  have hb:=c.beh
  have hn:=c.nxt
  have hu:=c.una
  have ll:=l.len
  refine ZuN (by omega) (by omega) (by omega) fun z=>?_
  rcases hb with h | ⟨_,h⟩
  · omega
  · have:=l.pos h; omega
def goS (a b f g:Int) (d:List Int) (n':Int) (x:Option AS) (y:Option Seg):Prop:=
  match x,y with
  | none,none=>True
  | some s,some sg=>∃win,56≤win∧win≤64∧sg=cS b a g f d n' s win
  | _,_=>False
theorem ZmC {r:List Int} {k:Int} (h:(r.length:Int)≤k):Za7 r (some 0) (some k)=r:=by
  have:=ZgE h
  unfold Za7 at this ⊢
  have e:HT.sIx r.length 0 (some 0)=HT.sIx r.length 0 none:=by
    simp [HT.sIx]
  rw [e]
  exact this
theorem ZdK {x:Option AS×AE} {y:Option Seg×Zu} {A':AE} {e':Zu} (hA:x=(some s,A')) (hE:y=(some (cS b a g f d d'.length s win),e')) (hw:56≤win∧win≤64) (r:Rep a b f g d d' A' e'):goS a b f g d d'.length x.1 y.1∧Rep a b f g d d' x.2 y.2:=by
  subst hA hE
  exact ⟨⟨win,hw.1,hw.2,rfl⟩,r⟩
theorem ZlQ {x:Option AS×AE} {y:Option Seg×Zu} {A':AE} {e':Zu} (hA:x=(none,A')) (hE:y=(none,e')) (r:Rep a b f g d d' A' e'):goS a b f g d d'.length x.1 y.1∧Rep a b f g d d' x.2 y.2:=by
  subst hA hE
  exact ⟨trivial,r⟩
theorem Zob (r:Rep a b f g d d' A e) (ok:okA hd hp A=true) (rf:0≤f∧f≤4294967295) (l:Lst hd d) (l':Lst hp d'):goS a b f g d d'.length (goA A t).1 (going e (1000*(t:Int))).1∧Rep a b f g d d' (goA A t).2 (going e (1000*(t:Int))).2:=by
  obtain ⟨w,tl,bq,mo,si,wa,tr,rfl,hw,ht⟩:=r.ex
  have c:=Cod.of ok
  have ll:=l.len
  have ll':=l'.len
  have nu:=ZsR (a:=a) (b:=b) (f:=f) (g:=g) (d':=d') (w:=w) (tl:=tl) (bq:=bq) (mo:=mo) (si:=si) (wa:=wa) (tr:=tr) c l
  have hwn:56≤64-((if A.rcv=2 then d' else []).length:Int)∧64-((if A.rcv=2 then d' else []).length:Int)≤64:=by
    split
    · omega
    · simp
  have f0:Zw f 0=f:=Zdj rf
  have stt:stS A.st=.synSent∨stS A.st=.synCome∨stS A.st=.opn:=by cases A.st<;>simp [stS]
  have hg:going (cE a b f g d d' A w tl bq mo si wa tr) (1000*(t:Int))=if ¬A.nxt=A.una∧A.wait≤t-A.since then again (cE a b f g d d' A w tl bq mo si wa tr) (1000*(t:Int)) else Zah (cE a b f g d d' A w tl bq mo si wa tr) (1000*(t:Int)):=by
    unfold going
    have k1:¬((cE a b f g d d' A w tl bq mo si wa tr).state=.timeWait∧120000≤(1000*(t:Int))-(cE a b f g d d' A w tl bq mo si wa tr).since):=by
      show ¬(stS A.st=.timeWait∧_)
      rcases stt with h | h | h<;>rw [h]<;>simp
    have k2:¬((cE a b f g d d' A w tl bq mo si wa tr).state=.closed∨(cE a b f g d d' A w tl bq mo si wa tr).state=.listen):=by
      show ¬(stS A.st=.closed∨stS A.st=.listen)
      rcases stt with h | h | h<;>rw [h]<;>simp
    show (if (if _∧_ then _ else _:Zu).state=.closed∨_ then _ else _)=_
    rw [if_neg k1,if_neg k2]
    by_cases z:A.nxt=A.una
    · rw [if_neg (fun h=>h.1 (nu.mpr z)),if_neg (fun h=>h.1 z)]
    · have dw:=ZqX (a:=a) (b:=b) (f:=f) (g:=g) (d:=d) (d':=d') (w:=w) (tl:=tl) (bq:=bq) (mo:=mo) (t:=t) (ht z) (c.wait.resolve_left z)
      rw [dw]
      by_cases y:A.wait≤t-A.since
      · rw [if_pos ⟨fun h=>z (nu.mp h),by simpa using y⟩,if_pos ⟨z,y⟩]
      · rw [if_neg (fun h=>y (by simpa using h.2)),if_neg (fun h=>y h.2)]
  have hne:¬Zw f 1=f:=Zia (by omega)
  by_cases du:¬A.nxt=A.una∧A.wait≤t-A.since
  · rw [if_pos du] at hg
    obtain ⟨e1,e2,e3⟩:=ht du.1
    have ntr:¬tr=6:=by have:=c.tries; omega
    have hmn:mn (2*wa) 16000=1000*((if 16<2*A.wait then 16 else 2*A.wait:Nat):Int):=by
      unfold mn
      by_cases z:16<2*A.wait
      · rw [if_pos z,if_pos (by omega)]; rfl
      · rw [if_neg z,if_neg (by omega)]; omega
    obtain ⟨A2,hA2⟩:∃A2:AE,A2={ A with tries:=A.tries+1,wait:=if 16<2*A.wait then 16 else 2*A.wait,since:=t }:=⟨_,rfl⟩
    have hgA:goA A t=if A.st=.op then (some ⟨4,A.una,A.rcv⟩,A2) else (some (if A.st=.ss then ⟨0,0,0⟩ else ⟨1,0,A.rcv⟩),{ A2 with osyn:=false }):=by
      unfold goA
      rw [if_pos du,hA2]
    have tm:(1000*(t:Int))=1000*(A2.since:Int)∧mn (2*wa) 16000=1000*(A2.wait:Int)∧tr+1=(A2.tries:Int):=by
      rw [hA2]; exact ⟨rfl,hmn,by rw [e3]; rfl⟩
    have hE2:again (cE a b f g d d' A w tl bq mo si wa tr) (1000*(t:Int))=if A.st=.op then (some (Zbz (cE a b f g d d' A2 w tl bq mo (1000*(t:Int)) (mn (2*wa) 16000) (tr+1)) (Zw f (dc d.length A.una)) (if 0<(ZaJ (cE a b f g d d' A w tl bq mo si wa tr)).length then 0 else 1) (ZaJ (cE a b f g d d' A w tl bq mo si wa tr))),cE a b f g d d' A2 w tl bq mo (1000*(t:Int)) (mn (2*wa) 16000) (tr+1)) else (some (Za8 (cE a b f g d d' A2 w tl bq mo (1000*(t:Int)) (mn (2*wa) 16000) (tr+1))),cE a b f g d d' { A2 with osyn:=false } w tl bq mo (1000*(t:Int)) (mn (2*wa) 16000) (tr+1)):=by
      unfold again
      rw [if_neg (show ¬(cE a b f g d d' A w tl bq mo si wa tr).tries=6 from ntr),hA2]
      cases h:A.st with
      | ss=>rw [if_pos (by left; show stS A.st=_; rw [h]; rfl),if_neg (by simp)]; rw [←h]; rfl
      | sc=>rw [if_pos (by right; show stS A.st=_; rw [h]; rfl),if_neg (by simp)]; rw [←h]; rfl
      | op=>rw [if_neg (by show ¬(stS A.st=_∨stS A.st=_); rw [h]; simp [stS]),if_pos rfl]; rw [←h]; rfl
    have s2:A2.st=A.st∧A2.rcv=A.rcv:=by rw [hA2]; exact ⟨rfl,rfl⟩
    rw [hgA,hg,hE2]
    cases h:A.st with
    | ss=>
      refine ZdK (win:=64) (if_neg (by simp)) (s:=⟨0,0,0⟩) (A':={ A2 with osyn:=false }) (e':=cE a b f g d d' { A2 with osyn:=false } w tl bq mo (1000*(t:Int)) (mn (2*wa) 16000) (tr+1)) ?_ (by omega) ⟨w,tl,bq,mo,_,_,_,rfl,fun z=>absurd (s2.1.trans h) z,fun _=>tm⟩
      rw [if_neg (by simp)]
      have:Za8 (cE a b f g d d' A2 w tl bq mo (1000*(t:Int)) (mn (2*wa) 16000) (tr+1))=cS b a g f d d'.length ⟨0,0,0⟩ 64:=by
        simp [Za8,cE,cS,s2.1,h,stS]
      rw [this]
    | sc=>
      obtain ⟨q1,q2,q3⟩:=c.sc h
      refine ZdK (win:=64) (if_neg (by simp)) (s:=⟨1,0,A.rcv⟩) (A':={ A2 with osyn:=false }) (e':=cE a b f g d d' { A2 with osyn:=false } w tl bq mo (1000*(t:Int)) (mn (2*wa) 16000) (tr+1)) ?_ (by omega) ⟨w,tl,bq,mo,_,_,_,rfl,fun z=>hw (by rw [h]; simp),fun _=>tm⟩
      rw [if_neg (by simp)]
      have:Za8 (cE a b f g d d' A2 w tl bq mo (1000*(t:Int)) (mn (2*wa) 16000) (tr+1))=cS b a g f d d'.length ⟨1,0,A.rcv⟩ 64:=by
        simp [Za8,cE,cS,s2.1,s2.2,h,stS,Ze4,q3]
      rw [this]
    | op=>
      obtain ⟨q1,q2⟩:=c.op h
      have hb:=c.beh
      have hn:=c.nxt
      have hu:=c.una
      have hne:=du.1
      have z1:A.una=1:=by omega
      have z2:A.nxt=2:=by omega
      have z3:A.beh=2:=by omega
      have hdp:0<d.length:=l.pos (by rcases hb with y | y; omega; exact y.2)
      obtain ⟨hw0,hw1,hm⟩:=hw (by rw [h]; simp)
      have ad:ZaJ (cE a b f g d d' A w tl bq mo si wa tr)=d:=by
        unfold ZaJ
        have o:ZL (cE a b f g d d' A w tl bq mo si wa tr).nxt (cE a b f g d d' A w tl bq mo si wa tr).una=d.length:=by
          show ZL (Zw f (dc d.length A.nxt)) (Zw f (dc d.length A.una))=_
          rw [z1,z2,Zit (by omega) (by omega) (by omega)]
          simp only [dc]; omega
        have m:zC (cE a b f g d d' A w tl bq mo si wa tr)=16:=by
          show (if 16<mo then 16 else mo)=16
          rw [hm]; rfl
        have wr:(cE a b f g d d' A w tl bq mo si wa tr).written=d:=by
          show (if A.beh=2∧A.una≤1 then d else [])=d
          rw [if_pos ⟨z3,by omega⟩]
        rw [o,m,wr]
        unfold mn
        rw [if_neg (by omega)]
        exact ZgE (by omega)
      rw [ad]
      refine ZdK (win:=64-((if A.rcv=2 then d' else []).length:Int)) (if_pos rfl) ?_ hwn ⟨w,tl,bq,mo,_,_,_,rfl,fun z=>⟨hw0,hw1,hm⟩,fun _=>tm⟩
      rw [if_pos rfl,if_pos hdp]
      have:Zbz (cE a b f g d d' A2 w tl bq mo (1000*(t:Int)) (mn (2*wa) 16000) (tr+1)) (Zw f (dc d.length A.una)) 0 d=cS b a g f d d'.length ⟨4,A.una,A.rcv⟩ (64-((if A.rcv=2 then d' else []).length:Int)):=by
        simp [Zbz,cE,cS,s2.2,ZM,Ze4 q2]
      rw [this]
  · rw [if_neg du] at hg
    have hgA:goA A t=if A.st=.op then
        (if A.nxt<A.beh then (some ⟨3,A.nxt,A.rcv⟩,{ A with oa:=false,nxt:=A.beh,since:=t,wait:=1,tries:=0 })
        else if A.oa=true then (some ⟨2,A.nxt,A.rcv⟩,{ A with oa:=false }) else (none,A))
      else if A.osyn=true then (some (if A.st=.ss then ⟨0,0,0⟩ else ⟨1,0,A.rcv⟩),{ A with osyn:=false })
      else if A.oa=true then (some ⟨2,A.nxt,A.rcv⟩,{ A with oa:=false }) else (none,A):=by
      unfold goA
      rw [if_neg du]
    have hans:1≤A.rcv→zz (cE a b f g d d' A w tl bq mo si wa tr)=if A.oa=true then (some (cS b a g f d d'.length ⟨2,A.nxt,A.rcv⟩ (64-((if A.rcv=2 then d' else []).length:Int))),cE a b f g d d' { A with oa:=false } w tl bq mo si wa tr) else (none,cE a b f g d d' A w tl bq mo si wa tr):=by
      intro q
      unfold zz
      have:Zbz (cE a b f g d d' A w tl bq mo si wa tr) (cE a b f g d d' A w tl bq mo si wa tr).nxt 0 []=cS b a g f d d'.length ⟨2,A.nxt,A.rcv⟩ (64-((if A.rcv=2 then d' else []).length:Int)):=by
        simp [Zbz,cE,cS,ZM,Ze4 q]
      rw [this]
      rfl
    have hoff:¬A.st=.op→zd (cE a b f g d d' A w tl bq mo si wa tr) (1000*(t:Int))=(none,cE a b f g d d' A w tl bq mo si wa tr):=by
      intro h
      have z0:¬(cE a b f g d d' A w tl bq mo si wa tr).nxt=(cE a b f g d d' A w tl bq mo si wa tr).una:=by
        intro z
        have z':=nu.mp z
        cases hh:A.st with
        | ss=>have:=c.ss hh; omega
        | sc=>have:=c.sc hh; omega
        | op=>exact h hh
      unfold zd
      rw [if_pos (.inl z0)]
      rfl
    have hsyn:¬A.st=.op→zb (cE a b f g d d' A w tl bq mo si wa tr) (1000*(t:Int))=if A.osyn=true then (some (cS b a g f d d'.length (if A.st=.ss then ⟨0,0,0⟩ else ⟨1,0,A.rcv⟩) 64),cE a b f g d d' { A with osyn:=false } w tl bq mo si wa tr) else (none,cE a b f g d d' A w tl bq mo si wa tr):=by
      intro h
      obtain ⟨st,una,nxt,beh,rcv,osyn,oa,since,wait,tries⟩:=A
      cases st with
      | ss=>
        obtain ⟨q1,q2,q3,q4⟩:=c.ss rfl
        simp only at q1 q2 q3 q4
        subst q1 q2 q3 q4
        cases osyn<;>simp [zb,Zc9,Za8,cE,stS,dc,f0,hne,cS]
      | sc=>
        obtain ⟨q1,q2,q3⟩:=c.sc rfl
        simp only at q1 q2 q3
        subst q1 q2 q3
        cases osyn<;>simp [zb,Zc9,Za8,cE,stS,dc,f0,hne,cS,Ze4]
      | op=>exact absurd rfl h
    rw [hgA,hg]
    by_cases h:A.st=.op
    · rw [if_pos h]
      obtain ⟨q1,q2⟩:=c.op h
      have hb:=c.beh
      have hn:=c.nxt
      have hu:=c.una
      obtain ⟨hw0,hw1,hm⟩:=hw (by rw [h]; simp)
      have pos:A.beh=2→0<(d.length:Int):=by
        intro h
        rcases hb with z | ⟨_,z⟩
        · omega
        · have:=l.pos z; omega
      have hso:(cE a b f g d d' A w tl bq mo si wa tr).state=.opn:=by show stS A.st=_; rw [h]; rfl
      have uns:Zb1 (cE a b f g d d' A w tl bq mo si wa tr)=dc d.length A.beh-dc d.length A.nxt:=Zit (by omega) (by omega) (by omega)
      have sub:=Zis (n:=d.length) (i:=A.beh) (j:=A.nxt) (by omega) (by omega) (by omega) (fun _=>pos (by omega))
      have more:ZcZ (cE a b f g d d' A w tl bq mo si wa tr)=decide (A.nxt<A.beh):=by
        unfold ZcZ Zau hasNewFin
        rw [uns,hso]
        have:decide (0<dc d.length A.beh-dc d.length A.nxt)=decide (A.nxt<A.beh):=by rw [decide_eq_decide]; exact sub.1
        rw [this]
        simp
      have isyn:¬((cE a b f g d d' A w tl bq mo si wa tr).state=.synSent∨(cE a b f g d d' A w tl bq mo si wa tr).state=.synCome):=by rw [hso]; simp
      by_cases nb:A.nxt<A.beh
      · have z1:A.nxt=1:=by omega
        have z2:A.beh=2:=by omega
        have z3:A.una=1:=by omega
        have hdp:=pos z2
        obtain ⟨st,una,nxt,beh,rcv,osyn,oa,since,wait,tries⟩:=A
        simp only at h z1 z2 z3 hm
        subst h z1 z2 z3 hm
        have o1:∀k:Int,0≤k→k≤16→ZL (Zw f k) (Zw f 1)=k-1:=fun k h1 h2=>Zdn (by omega)
        have hE:Zah (cE a b f g d d' ⟨.op,1,1,2,rcv,osyn,oa,since,wait,tries⟩ w tl bq 16 si wa tr) (1000*(t:Int))=(some (cS b a g f d d'.length ⟨3,1,rcv⟩ (64-((if rcv=2 then d' else []).length:Int))),cE a b f g d d' ⟨.op,1,2,2,rcv,osyn,false,t,1,0⟩ w tl bq 16 (1000*(t:Int)) 1000 0):=by
          unfold Zah zb
          rw [if_neg isyn,if_neg]
          · rw [if_pos (nu.mpr rfl)]
            simp only
            have hN:Za5 { zi (cE a b f g d d' ⟨.op,1,1,2,rcv,osyn,oa,since,wait,tries⟩ w tl bq 16 si wa tr) (1000*(t:Int)) with owes_answer:=false } ((cE a b f g d d' ⟨.op,1,1,2,rcv,osyn,oa,since,wait,tries⟩ w tl bq 16 si wa tr).wnd-ZL (cE a b f g d d' ⟨.op,1,1,2,rcv,osyn,oa,since,wait,tries⟩ w tl bq 16 si wa tr).nxt (cE a b f g d d' ⟨.op,1,1,2,rcv,osyn,oa,since,wait,tries⟩ w tl bq 16 si wa tr).una)=(cS b a g f d d'.length ⟨3,1,rcv⟩ (64-((if rcv=2 then d' else []).length:Int)),cE a b f g d d' ⟨.op,1,2,2,rcv,osyn,false,t,1,0⟩ w tl bq 16 (1000*(t:Int)) 1000 0):=by
              have u1:Zb1 (cE a b f g d d' ⟨.op,1,1,2,rcv,osyn,false,t,1,0⟩ w tl bq 16 (1000*(t:Int)) 1000 0)=d.length:=by
                show ZL (Zw f (1+d.length)) (Zw f 1)=_
                rw [o1 _ (by omega) (by omega)]; omega
              have nd:Zau (cE a b f g d d' ⟨.op,1,1,2,rcv,osyn,false,t,1,0⟩ w tl bq 16 (1000*(t:Int)) 1000 0)=true:=by
                unfold Zau
                rw [u1]
                show (decide (State.opn∈_) && _)=true
                simp; omega
              have of0:ZL (Zw f 1) (Zw f 1)=0:=by rw [o1 _ (by omega) (by omega)]; rfl
              show Za5 (cE a b f g d d' ⟨.op,1,1,2,rcv,osyn,false,t,1,0⟩ w tl bq 16 (1000*(t:Int)) 1000 0) (w-ZL (Zw f 1) (Zw f 1))=_
              rw [of0]
              unfold Za5
              rw [if_pos nd]
              show ZdG (cE a b f g d d' ⟨.op,1,1,2,rcv,osyn,false,t,1,0⟩ w tl bq 16 (1000*(t:Int)) 1000 0) (w-0)=_
              have nm:ZeC (cE a b f g d d' ⟨.op,1,1,2,rcv,osyn,false,t,1,0⟩ w tl bq 16 (1000*(t:Int)) 1000 0) (w-0)=d.length:=by
                unfold ZeC
                rw [u1]
                show mn3 (if (16:Int)<16 then 16 else 16) _ _=_
                unfold mn3
                rw [if_neg (show ¬(16:Int)<16 by omega),if_pos (by omega),if_neg (by omega)]
              have e2:({ cE a b f g d d' ⟨.op,1,1,2,rcv,osyn,false,t,1,0⟩ w tl bq 16 (1000*(t:Int)) 1000 0 with nxt:=Zw (cE a b f g d d' ⟨.op,1,1,2,rcv,osyn,false,t,1,0⟩ w tl bq 16 (1000*(t:Int)) 1000 0).nxt d.length }:Zu)=cE a b f g d d' ⟨.op,1,2,2,rcv,osyn,false,t,1,0⟩ w tl bq 16 (1000*(t:Int)) 1000 0:=by
                have:Zw (Zw f 1) d.length=Zw f (1+d.length):=Zdk _ _ _
                simp [cE,dc,this]
              unfold ZdG
              rw [nm]
              simp only [e2]
              have u2:Zb1 (cE a b f g d d' ⟨.op,1,2,2,rcv,osyn,false,t,1,0⟩ w tl bq 16 (1000*(t:Int)) 1000 0)=0:=by
                show ZL (Zw f (1+d.length)) (Zw f (1+d.length))=_
                rw [Zdn (by omega)]; omega
              rw [u2,if_pos rfl]
              have wr:Za7 (cE a b f g d d' ⟨.op,1,1,2,rcv,osyn,false,t,1,0⟩ w tl bq 16 (1000*(t:Int)) 1000 0).written (some (ZL (Zw f 1) (Zw f 1))) (some (ZL (Zw f 1) (Zw f 1)+d.length))=d:=by
                rw [of0]
                show Za7 (if 2=2∧1≤1 then d else []) _ _=_
                rw [if_pos ⟨rfl,Nat.le_refl _⟩]
                exact ZmC (by omega)
              have sg:Zbz (cE a b f g d d' ⟨.op,1,2,2,rcv,osyn,false,t,1,0⟩ w tl bq 16 (1000*(t:Int)) 1000 0) (Zw f 1) 8 d=cS b a g f d d'.length ⟨3,1,rcv⟩ (64-((if rcv=2 then d' else []).length:Int)):=by
                simp [Zbz,cE,cS,ZM,Ze4 q2,dc]
              refine Prod.ext ?_ rfl
              show Zbz _ (Zw f 1) 8 (Za7 _ (some (ZL (Zw f 1) (Zw f 1))) (some (ZL (Zw f 1) (Zw f 1)+d.length)))=_
              rw [wr,sg]
            rw [hN]
          · rw [more]
            show ¬(w-ZL (Zw f 1) (Zw f 1)≤0∨_)
            rw [o1 _ (by omega) (by omega)]
            simp; omega
        rw [if_pos nb,hE]
        exact ZdK rfl rfl hwn ⟨w,tl,bq,16,_,_,_,rfl,fun _=>⟨hw0,hw1,rfl⟩,fun _=>⟨rfl,rfl,rfl⟩⟩
      · rw [if_neg nb]
        have hE:Zah (cE a b f g d d' A w tl bq mo si wa tr) (1000*(t:Int))=zz (cE a b f g d d' A w tl bq mo si wa tr):=by
          have hN:zb (cE a b f g d d' A w tl bq mo si wa tr) (1000*(t:Int))=(none,cE a b f g d d' A w tl bq mo si wa tr):=by
            unfold zb
            rw [if_neg isyn,if_pos]
            right
            rw [more]; simpa using nb
          have hP:zd (cE a b f g d d' A w tl bq mo si wa tr) (1000*(t:Int))=(none,cE a b f g d d' A w tl bq mo si wa tr):=by
            unfold zd
            rw [if_pos]
            · rfl
            · right; left
              show ¬w=0
              omega
          unfold Zah
          simp only [hN,hP]
        rw [hE,hans q2]
        by_cases oa:A.oa=true
        · exact ZdK (if_pos oa) (if_pos oa) hwn ⟨w,tl,bq,mo,si,wa,tr,rfl,hw,ht⟩
        · exact ZlQ (if_neg oa) (if_neg oa) ⟨w,tl,bq,mo,si,wa,tr,rfl,hw,ht⟩
    · rw [if_neg h]
      have hE:Zah (cE a b f g d d' A w tl bq mo si wa tr) (1000*(t:Int))=if A.osyn=true then (some (cS b a g f d d'.length (if A.st=.ss then ⟨0,0,0⟩ else ⟨1,0,A.rcv⟩) 64),cE a b f g d d' { A with osyn:=false } w tl bq mo si wa tr) else zz (cE a b f g d d' A w tl bq mo si wa tr):=by
        unfold Zah
        rw [hsyn h]
        by_cases os:A.osyn=true
        · rw [if_pos os,if_pos os]
        · rw [if_neg os,if_neg os]
          simp only [hoff h]
      rw [hE]
      by_cases os:A.osyn=true
      · exact ZdK (win:=64) (if_pos os) (if_pos os) (by omega) ⟨w,tl,bq,mo,si,wa,tr,rfl,hw,ht⟩
      · rw [if_neg os,if_neg os]
        by_cases oa:A.oa=true
        · have q:1≤A.rcv:=by
            cases hh:A.st with
            | ss=>have:=(c.ss hh).2.2.2; rw [oa] at this; cases this
            | sc=>have:=c.sc hh; omega
            | op=>exact absurd hh h
          rw [hans q]
          exact ZdK (if_pos oa) (if_pos oa) hwn ⟨w,tl,bq,mo,si,wa,tr,rfl,hw,ht⟩
        · refine ZlQ (if_neg oa) (e':=cE a b f g d d' A w tl bq mo si wa tr) ?_ ⟨w,tl,bq,mo,si,wa,tr,rfl,hw,ht⟩
          unfold zz
          exact if_neg oa
end
end
end My
namespace L2.MM
open PySem
def Zt5 (scope sc:Scope):Scope:=PySem.relabel scope { scope:=sc,locals:=0,globals:=0,cells:=[] }
end L2.MM
namespace My
open PySem L2 L2.MM
noncomputable section
abbrev Zay (s:Seg):D:=il (putL s)
def RdL (a b f g:Int) (d':List Int) (n:Int):List AS→List Seg→Prop
  | [],[]=>True
  | s::r,x::y=>(∃win,56≤win∧win≤64∧x=cS a b f g d' n s win)∧RdL a b f g d' n r y
  | _,_=>False
theorem RdL.app {a b f g n:Int} {d':List Int}:∀{l l':List AS} {x x':List Seg},RdL a b f g d' n l x→RdL a b f g d' n l' x'→RdL a b f g d' n (l++l') (x++x')
  | [],_,[],_,_,h=>h
  | _::_,_,_::_,_,h,h'=>⟨h.1,RdL.app h.2 h'⟩
  | [],_,_::_,_,h,_=>h.elim
  | _::_,_,[],_,h,_=>h.elim
def BytL (d:List Int):Prop:=∀z∈d,0≤z∧z≤255
theorem ZlX {a b f g n win:Int} {d':List Int} {s:AS} (ha:0≤a∧a≤65535) (hb:0≤b∧b≤65535) (rg:0≤g∧g≤4294967295) (hd:BytL d') (hl:d'.length≤8) (hw:56≤win∧win≤64):(cS a b f g d' n s win).Ok:=by
  have p1:=Zgz g (dc d'.length s.num)
  have p2:=Zgz f (dc n s.ans)
  have bd:(∀z∈d',0≤z∧z≤255)∧d'.length≤16:=⟨hd,by omega⟩
  have bn:(∀z∈([]:List Int),0≤z∧z≤255)∧([]:List Int).length≤16:=⟨by simp,by simp⟩
  unfold cS
  split
  · exact ⟨hb,ha,rg,by simp,by simp,by simp,.inr (by simp),bn⟩
  · exact ⟨hb,ha,rg,p2,by simp,by simp,.inr (by simp),bn⟩
  · exact ⟨hb,ha,p1,p2,by simp,by simp; omega,.inl rfl,bn⟩
  · exact ⟨hb,ha,p1,p2,by simp,by simp; omega,.inl rfl,bd⟩
  · exact ⟨hb,ha,p1,p2,by simp,by simp; omega,.inl rfl,bd⟩
def S0 (e e':Zu) (r:Sto):Sto:=c0 0 e::c1 e::c2 e::c3 e::c0 4 e'::c1 e'::c2 e'::c3 e'::r
def Sx (to:Nat) (e e':Zu) (r:Sto):Sto:=if to=0 then S0 e e' r else S0 e' e r
section
variable {to:Nat} {e e' e2:Zu} {r:Sto}
theorem ZfH (h:to≤1):upE (Sx to e e' r) (4*to) e2=Sx to e2 e' r:=by
  have:to=0∨to=1:=by omega
  rcases this with rfl | rfl<;>rfl
theorem Zpy:(Sx to e e' r).length=8+r.length:=by
  unfold Sx S0
  split<;>simp<;>omega
theorem ZkD (h:to≤1):4*to+3<(Sx to e e' r).length:=by rw [Zpy]; omega
theorem Zl3 (i:Nat):(Sx to e e' r)[i+8]?=r[i]?:=by
  unfold Sx S0
  split<;>rfl
theorem Zpx (i:Nat) (c:Cell):(Sx to e e' r).set (i+8) c=Sx to e e' (r.set i c):=by
  unfold Sx S0
  split<;>rfl
theorem Ztd (l:Sto):Sx to e e' r++l=Sx to e e' (r++l):=by
  unfold Sx S0
  split<;>rfl
theorem ZdT (h:to≤1):Sx to e e' r=Sx (1-to) e' e r:=by
  have:to=0∨to=1:=by omega
  rcases this with rfl | rfl<;>rfl
theorem Zln {now:Int} (h:to≤1) (hp:∀s,(going e now).1=some s→s.Ok):Zbs [.ref (4*to),.int now] (Sx to e e' r)=.ok (il (ZaV e now)) (Sx to (going e now).2 e' r):=by
  have:=ZrV (θ:=Sx to e e' r) (l:=4*to) (e:=e) (now:=now) (ZkD h) (fun s hs=>(hp s hs).put)
  rw [ZfH h,ZfH h] at this
  exact this
theorem Zq7 {now:Int} {s:Seg} (h:to≤1) (hc:e.come.length≤64) (hs:s.Ok) (hf:ZeS e s=true) (hl:e.early.length<150):ZaA [.ref (4*to),il (putL s),.int now] (Sx to e e' r)=.ok (.bl true) (Sx to (Zdr e s now) e' r):=by
  have:=Zh5 (θ:=Sx to e e' r) (l:=4*to) (e:=e) (now:=now) (ZkD h) hc hs hf hl
  rw [ZfH h,ZfH h] at this
  exact this
theorem ZnU {w:List Int} (h:to≤1) (hc:e.written.length≤64):ZcU [.ref (4*to),il w] (Sx to e e' r)=.ok (.int (if ZcM e=true then (Zf5 e w).length else 0)) (Sx to (Za0 e w) e' r):=by
  have:=ZpM (θ:=Sx to e e' r) (l:=4*to) (e:=e) (ZkD h) hc w
  rw [ZfH h,ZfH h] at this
  exact this
theorem Zrq {n:Int} (h:to≤1):Zc8 [.ref (4*to),.int n] (Sx to e e' r)=.ok (il (e.come.take n.toNat)) (Sx to (ZhA e n) e' r):=by
  have:=ZrW (θ:=Sx to e e' r) (l:=4*to) (e:=e) (n:=n) (ZkD h)
  rw [ZfH h,ZfH h] at this
  exact this
theorem Zoa (h:to≤1):ZdD [.ref (4*to)] (Sx to e e' r)=.ok (.str e.state.s) (Sx to e e' r):=by
  have:=ZpP (θ:=Sx to e e' r) (l:=4*to) (e:=e) (ZkD h)
  rw [ZfH h] at this
  exact this
end
structure RdC (to:Nat) (x x':List Seg) (r:Sto) (i i':Nat):Prop where
  road:r[2]?=some (.lst (if to=0 then [.ref (i+8),.ref (i'+8)] else [.ref (i'+8),.ref (i+8)]))
  one:r[i]?=some (.lst (x.map Zay))
  two:r[i']?=some (.lst (x'.map Zay))
  ne:¬i=2∧¬i'=2∧¬i=i'
theorem RdC.swap {to:Nat} {x x':List Seg} {r:Sto} {i i':Nat} (h:to≤1) (c:RdC to x x' r i i'):RdC (1-to) x' x r i' i:=by
  refine ⟨?_,c.two,c.one,c.ne.2.1,c.ne.1,fun z=>c.ne.2.2 z.symm⟩
  rw [c.road]
  have:to=0∨to=1:=by omega
  rcases this with rfl | rfl<;>rfl
def Zq (sc p da:D) (now:Int) (k num j to row:Sl):List Sl:=[.val sc,.val p,.val (.lst [.ref 0,.ref 4]),.val (.ref 10),.val da,.val (.int now),k,num,j,to,row]
section
variable {to:Nat} {e e' e2:Zu} {r:Sto} {x x':List Seg} {i i':Nat}
theorem ZkZ (h:to≤1) (θ:Sto):ixM (.lst [.ref 0,.ref 4]) (.int to) θ=.ok (.ref (4*to)) θ:=by
  have:to=0∨to=1:=by omega
  rcases this with rfl | rfl<;>rfl
theorem ZlK (h:to≤1) (c:RdC to x x' r i i'):ixM (.ref 10) (.int to) (Sx to e e' r)=.ok (.ref (i+8)) (Sx to e e' r):=by
  have q:ZaC (Sx to e e' r) (.ref 10)=some (if to=0 then [.ref (i+8),.ref (i'+8)] else [.ref (i'+8),.ref (i+8)]):=by
    show (match (Sx to e e' r)[2+8]? with | some (Cell.lst xs)=>some xs | _=>none)=_
    rw [Zl3,c.road]
  have:to=0∨to=1:=by omega
  unfold ixM ixD
  simp only
  show (match (ZaC (Sx to e e' r) (.ref 10)).bind (atI · (to:Int)) with | some d=>R.ok d (Sx to e e' r) | none=>.bad)=_
  rw [q]
  rcases this with rfl | rfl<;>rfl
theorem ZsX (c:RdC to x x' r i i'):ZkY (Sx to e e' r) (.ref (i+8))=some (i+8,x.map Zay):=by
  show (match (Sx to e e' r)[i+8]? with | some (Cell.lst xs)=>some (i+8,xs) | _=>none)=_
  rw [Zl3,c.one]
theorem ZgB (c:RdC to x x' r i i'):ZaC (Sx to e e' r) (.ref (i+8))=some (x.map Zay):=by
  show (match (Sx to e e' r)[i+8]? with | some (Cell.lst xs)=>some xs | _=>none)=_
  rw [Zl3,c.one]
theorem RdC.more (c:RdC to x x' r i i') (s:Seg):RdC to x (x'++[s]) (r.set i' (.lst (x'.map Zay++[Zay s]))) i i':=by
  obtain ⟨n1,n2,n3⟩:=c.ne
  have hl:i'<r.length:=by
    have:=c.two
    exact (List.getElem?_eq_some_iff.mp this).1
  refine ⟨?_,?_,?_,n1,n2,n3⟩
  · rw [List.getElem?_set_ne (by omega)]; exact c.road
  · rw [List.getElem?_set_ne (by omega)]; exact c.one
  · rw [List.getElem?_set_self hl]; simp
theorem RdC.clear (h:to≤1) (c:RdC to x x' r i i'):RdC to [] x' ((r++[Cell.lst []]).set 2 (Cell.lst (if to=0 then [.ref (r.length+8),.ref (i'+8)] else [.ref (i'+8),.ref (r.length+8)]))) r.length i':=by
  obtain ⟨n1,n2,n3⟩:=c.ne
  have l2:2<r.length:=(List.getElem?_eq_some_iff.mp c.road).1
  have li:i'<r.length:=(List.getElem?_eq_some_iff.mp c.two).1
  refine ⟨?_,?_,?_,by omega,n2,by omega⟩
  · rw [List.getElem?_set_self (by simp; omega)]
  · rw [List.getElem?_set_ne (by omega),List.getElem?_append_right (Nat.le_refl _),Nat.sub_self]; rfl
  · rw [List.getElem?_set_ne (by omega),List.getElem?_append_left li]; exact c.two
end
end
end My
namespace My
theorem ZqI:ZeT true true 32 0 [J0]=true:=by decide +kernel
theorem ZqM:ZeT false true 32 0 [J0]=true:=by decide +kernel
theorem ZqJ:ZeT true false 32 0 [J0]=true:=by decide +kernel
theorem ZqN:ZeT false false 32 0 [J0]=true:=by decide +kernel
theorem Zo6 (ha hb:Bool):ZeT ha hb 32 0 [J0]=true:=by
  cases ha<;>cases hb
  · exact ZqN
  · exact ZqM
  · exact ZqJ
  · exact ZqI
end My
namespace PySem.W.Fast
def tw18032963918465000576:=0
def tw8133824793989228704:=0
def tw18398886027299030240:=0
def tw11468898840527255936:=0
def tw9357622761161267616:=0
def tw12665903035475544512:=0
def tw9131279290934095328:=0
def tw9064009868521083424:=0
def tw6348662119884849728:=0
def tw11081745985792697920:=0
def tw11160596981482576544:=0
def tw3089789755885929184:=0
def tw7592497136636347200:=0
def tw12253786194037721920:=0
def tw15070680921099690880:=0
def tw4800964393790445472:=0
def tw1887274444982115232:=0
def tw15144732002851913696:=0
def tw14901764343252030593:=0
def tw6339064355883492481:=0
def tw13394151645837011073:=0
def tw13339854896501235905:=0
def tw13103991738685097153:=0
def tw5041124251717929217:=0
def tw52068427353319681:=0
def tw3716833132252400961:=0
def tw10036000189105331553:=0
def tw14399765149445839233:=0
def tw154875556099798433:=0
def tw6618845750194950561:=0
def tw13468324250534309345:=0
def tw7804426609844686337:=0
def tw712764657274061377:=0
def tw15162070124389485121:=0
def tw2862254838582396513:=0
def tw10923289652713604801:=0
def tw11384069677533487841:=0
def tw2665243811042160353:=0
def tw9835161119410236161:=0
def tw16487950998388754177:=0
def tw4735331105008210689:=0
def tw7073513679278331745:=0
def tw6573841952955809697:=0
def tw15845103050465813473:=0
def tw7142284588333535266:=0
def tw16903852714760642594:=0
def tw4665570309250966594:=0
def tw8697127372862184546:=0
def tw17652130524315222210:=0
def tw5382179479972814178:=0
def tw1100986771641432418:=0
def tw16508830235663790530:=0
def tw18278777661193738882:=0
def tw72302447016866434:=0
def tw17478703751662013250:=0
def tw12906472599389649730:=0
def tw7292671038464667490:=0
def tw1831685125427676002:=0
def tw14657074413236216674:=0
def tw8772640447674933186:=0
def tw241944623312402531:=0
def tw8850651738965214339:=0
def tw3445517398848426211:=0
def tw9499230684789098851:=0
def tw3987729740552828291:=0
def tw4353773176181296547:=0
def tw15771697405533665731:=0
def tw3513628101484100035:=0
def tw10998586553408828931:=0
def tw11375255604841059971:=0
def tw13252428317633587843:=0
def tw7749016789513366179:=0
def tw3030569947836048131:=0
def tw10555497602581454659:=0
def tw5356802263318855523:=0
def tw13249149249029355427:=0
def tw8742615568878925763:=0
def tw7590490625928283172:=0
def tw2680038331114175556:=0
def tw15558166256460178532:=0
def tw3168304639895114884:=0
def tw12503889394099156100:=0
def tw13205968038531565796:=0
def tw3357905344778156356:=0
def tw12427922271540574628:=0
def tw8161713231932079620:=0
def tw16494552720860704324:=0
def tw13579100783013308004:=0
def tw13972870015111506564:=0
def tw13659840068742667908:=0
def tw1084300860709313188:=0
def tw6065340215284274884:=0
def tw6840635520605984484:=0
def tw12310108787876599556:=0
def tw16370825068085551876:=0
def tw15026445747144563524:=0
def tw3533069269750091620:=0
def tw18064952039243530116:=0
def tw6508192431041658820:=0
def tw2653672251975505892:=0
def tw9291744463946932196:=0
def tw12611853680791634949:=0
def tw2495455803603890213:=0
def tw17030541354249792613:=0
def tw15721805065618838661:=0
def tw1461196817569856677:=0
def tw10130762260490060997:=0
def tw2959910663618760901:=0
def tw9823419122930778341:=0
def tw6024003160319718757:=0
def tw13750059872266159493:=0
def tw4094921081518396805:=0
def tw10459847417443516837:=0
def tw5392740420232361381:=0
def tw14419609514410646981:=0
def tw15491093890948532709:=0
def tw16978399517877754373:=0
def tw16540650652137308709:=0
def tw7022342595183766149:=0
def tw13600300641369472741:=0
def tw6773524516982817605:=0
def tw903232614837330789:=0
def tw3806397953090434917:=0
def tw1005299017310539653:=0
def tw6986928353617455045:=0
def tw8735165569022798821:=0
def tw682292468815822854:=0
def tw7673849072375478310:=0
def tw10964651219751528518:=0
def tw10751712489379399782:=0
def tw16016054745202035910:=0
def tw2894184218456261926:=0
def tw7359608832720798022:=0
def tw4415378711101009254:=0
def tw17719521683961822662:=0
def tw3631001703178060230:=0
def tw5514325078668368390:=0
def tw3716423915889788454:=0
def tw17180824858354422310:=0
def tw15574426011885068838:=0
def tw4526833153548296774:=0
def tw871766586435425862:=0
def tw3692920955919207046:=0
def tw12749517252408440518:=0
def tw3166015147996981990:=0
def tw4645911461939545862:=0
def tw8804715617662920486:=0
def tw12508147476993965862:=0
def tw16588156058414339910:=0
def tw16386212232693016390:=0
def tw6178298712930193254:=0
def tw15757591380422413158:=0
def tw9926204777519926118:=0
def tw8035043955513109414:=0
def tw5348450320312565767:=0
def tw6524915376337231911:=0
def tw8664315184563387495:=0
def tw7781607026895778983:=0
def tw17341468797192583495:=0
def tw2799768667854841191:=0
def tw9533740572567576999:=0
def tw17508796291078738343:=0
def tw10372194773979756999:=0
def tw12826273103227813351:=0
def tw9690607514574726663:=0
def tw1517878844996859399:=0
def tw6840499641450123815:=0
def tw3143179290994120327:=0
def tw12102575967433208551:=0
def tw11618483563049247687:=0
def tw6662734623239054344:=0
def tw10056852546443184360:=0
def tw9246310988722844904:=0
def tw7003137009384700136:=0
def tw10628987538193116392:=0
def tw4061386540425486600:=0
def tw6026484505730856232:=0
def tw13895202042255979816:=0
def tw13718701862238050600:=0
def tw9518172512039086408:=0
def tw17198430847052215656:=0
def tw2845797949717718440:=0
def tw18161195152790901352:=0
def tw3083191117742045800:=0
def tw17443651577810196104:=0
def tw9506806256930036360:=0
def tw1428523922126070408:=0
def tw12529844701060589192:=0
def tw7936681474431479464:=0
def tw2702005568914129608:=0
def tw14048054444481445576:=0
def tw3027967807351577320:=0
def tw8955604541781938952:=0
def tw685227351777768296:=0
def tw14208598176044198792:=0
def tw6539770996780470216:=0
def tw3647367305597554664:=0
def tw938446503821501416:=0
def tw6547327914598757352:=0
def tw301236204549317865:=0
def tw5037122278476744969:=0
def tw2977710853744468265:=0
def tw7347429373952991561:=0
def tw2070464025198776649:=0
def tw5612460155595056489:=0
def tw152868558349111689:=0
def tw7850831734305896841:=0
def tw3478571772670965161:=0
def tw18162172058877976009:=0
def tw1564993108737518057:=0
def tw5949195245603482089:=0
def tw2885235521384585737:=0
def tw15216321062174937609:=0
def tw15713956295584757321:=0
def tw11835970350219129449:=0
def tw11552245074377942729:=0
def tw3949161939618773705:=0
def tw15350870695603355337:=0
def tw14991193302331377353:=0
def tw8493072657894204169:=0
def tw15428867076566620969:=0
def tw2448456504346181481:=0
def tw11902147624778277769:=0
def tw1566639651930945578:=0
def tw9081258220190784554:=0
def tw14114449153415024714:=0
def tw12448583172190190698:=0
def tw4469118695361089770:=0
def tw4921938888925571306:=0
def tw1587650272530365674:=0
def tw6464201341756383530:=0
def tw14265827030141406538:=0
def tw14777512109116473898:=0
def tw13672147132119873066:=0
def tw6478981416134415946:=0
def tw17244913274753856074:=0
def tw8956750082089468490:=0
def tw4283902478510875242:=0
def tw996002171910943402:=0
def tw4024278509322235594:=0
def tw5899872076624800490:=0
def tw4848954692713817834:=0
def tw7830658408631910154:=0
def tw17532180180080899882:=0
def tw9749386413184594794:=0
def tw2105718236685808522:=0
def tw16805174564021226442:=0
def tw4739594088705681386:=0
def tw5378180666205140970:=0
def tw17677330039523019787:=0
def tw17033172023944831019:=0
def tw8321986545428066347:=0
def tw6083130425943868491:=0
def tw6474785343031500939:=0
def tw6693085985211515051:=0
def tw13240221959709179051:=0
def tw15995040529176279243:=0
def tw14337234928147446987:=0
def tw4957511235285078251:=0
def tw2730356922844304619:=0
def tw607608687553404235:=0
def tw11962746226122336619:=0
def tw16472880374064036203:=0
def tw4897827523730582955:=0
def tw16164204831832407499:=0
def tw14136203571140483595:=0
def tw4743987265193750059:=0
def tw7446426656759980651:=0
def tw1646901407263371:=0
def tw9823465192035048171:=0
def tw295127872308109035:=0
def tw10830422762430768011:=0
def tw2700446066263964555:=0
def tw3241884694339690475:=0
def tw14612917194217168875:=0
def tw13125781070709363756:=0
def tw4223105432836469836:=0
def tw8526382904769065100:=0
def tw14587430551460242572:=0
def tw10660091260186507532:=0
def tw1940978710875577676:=0
def tw5561631647918245196:=0
def tw8913305659225642348:=0
def tw10744627237493930380:=0
def tw9871852349277382060:=0
def tw9921332919036333516:=0
def tw4333048096182790636:=0
def tw5896294091208561196:=0
def tw8933506932894709292:=0
def tw16648246551876641356:=0
def tw17772152744131686988:=0
def tw8422911583545768588:=0
def tw10070260374031617740:=0
def tw6854228604027078444:=0
def tw13550169068912868140:=0
def tw15993169929913870156:=0
def tw15764688925554983756:=0
def tw9786236944229091148:=0
def tw17393782718864443212:=0
def tw11529942165511614348:=0
def tw468300392632861612:=0
def tw1434153364068329388:=0
def tw15422569935777480652:=0
def tw6631681253871703020:=0
def tw6112167684756926477:=0
def tw2939243040047446061:=0
def tw14875416917677163565:=0
def tw1359650869147228205:=0
def tw2334618574235266093:=0
def tw10110081609550598221:=0
def tw7168093799410528333:=0
def tw17035113665447059565:=0
def tw17445409971640211629:=0
def tw9288034580709743885:=0
def tw11855643518432355693:=0
def tw8574056890731096429:=0
def tw17985588436144790957:=0
def tw2512475711836019149:=0
def tw10337758306156209613:=0
def tw15792177404267092461:=0
def tw10617901907507117581:=0
def tw2427624173095769709:=0
def tw977380813605202541:=0
def tw6601603733236345453:=0
def tw15138035429118684813:=0
def tw7186887151701629677:=0
def tw211084235453474541:=0
def tw15794491696408162029:=0
def tw6090636517614356237:=0
def tw13510315464639055629:=0
def tw15600817686929878797:=0
def tw17238351121132536589:=0
def tw1273439155666948941:=0
def tw17029208349338463053:=0
def tw201552219279367021:=0
def tw3324865576658495437:=0
def tw12290981316863329261:=0
def tw3971622126900317165:=0
def tw3729471694601009133:=0
def tw8702690707981369390:=0
def tw14567562655217046574:=0
def tw3356329652526713934:=0
def tw2867357477833707726:=0
def tw14919566967459508462:=0
def tw18407874947874276654:=0
def tw12748293754911221070:=0
def tw1273871710313368942:=0
def tw6770031254190946734:=0
def tw11592014713220013550:=0
def tw8332477005098077678:=0
def tw6139705195510305326:=0
def tw15077143422999663246:=0
def tw14150188842091369134:=0
def tw17201484922581074702:=0
def tw3244445854003287822:=0
def tw12062060455463862062:=0
def tw16570347151702642703:=0
def tw1918101695191948335:=0
def tw13139588547672450191:=0
def tw62260319104401647:=0
def tw1579013413178971599:=0
def tw7420884787423347311:=0
def tw5141157851478233711:=0
def tw11150156680330131055:=0
def tw14328158411975575183:=0
def tw5367866458289468047:=0
def tw3881611498524850927:=0
def tw12995437243106411279:=0
def tw6418737068227450639:=0
def tw18199299792109498127:=0
def tw10024245971549023023:=0
def tw17131064303630772047:=0
def tw15179773157537397615:=0
def tw539893433887749103:=0
def tw5621742629035016208:=0
def tw9210031796427122704:=0
def tw3890659417615561840:=0
def tw1305791581247580304:=0
def tw16552067417175997584:=0
def tw16887590491291340016:=0
def tw10848125731183525104:=0
def tw12558658354312855824:=0
def tw14659803071512714512:=0
def tw9037172299575352720:=0
def tw10106729988589434320:=0
def tw7795388879611837936:=0
def tw6546436647755934192:=0
def tw8109028884837911056:=0
def tw1676651762907605520:=0
def tw4478435517842440816:=0
def tw15647040917499082352:=0
def tw5227302922128793232:=0
def tw13390626018849631888:=0
def tw11470837325841536848:=0
def tw216102334981802896:=0
def tw8220413837683734448:=0
def tw7524866030223852496:=0
def tw4740184483013292337:=0
def tw2048870272530596177:=0
def tw1710797787376387441:=0
def tw11755804257384222129:=0
def tw12981816498454229457:=0
def tw3158356957627124209:=0
def tw113241905178361329:=0
def tw3295540772075315761:=0
def tw11132065713663532625:=0
def tw6626294695683004145:=0
def tw8713281010474034033:=0
def tw4888004238004938609:=0
def tw17119156645439542161:=0
def tw7394811110535599089:=0
def tw12563200909717416945:=0
def tw1173173069343559794:=0
def tw3487648000597505170:=0
def tw5124317953347913906:=0
def tw17693203422650212594:=0
def tw10786068002502948082:=0
def tw15818004019886988562:=0
def tw7137982324636170514:=0
def tw16249377351082208530:=0
def tw4471607562675245362:=0
def tw14841141593368783154:=0
def tw7557355365780194738:=0
def tw18006645702741175730:=0
def tw156226546482139570:=0
def tw15528736815492641234:=0
def tw4458684251919268338:=0
def tw13766066822321595890:=0
def tw836914434288041490:=0
def tw13419715585676191282:=0
def tw1902553826394852946:=0
def tw13977341709581451986:=0
def tw1408149425577339602:=0
def tw1556089621652493010:=0
def tw16892733512237104914:=0
def tw17128589872459031346:=0
def tw6808702130506772274:=0
def tw15417591205430976370:=0
def tw10543139952142157810:=0
def tw8603545067699091475:=0
def tw4641582171398288499:=0
def tw4964678234716488819:=0
def tw7542827493810486419:=0
def tw187358689429008595:=0
def tw13155353815866210515:=0
def tw15074026082910077235:=0
def tw15770389554502147379:=0
def tw12969202320893705555:=0
def tw4670247972970513843:=0
def tw13395001946817755571:=0
def tw17835904512670492147:=0
def tw15741214514021527027:=0
def tw18205596491702783571:=0
def tw16407989781033100915:=0
def tw2763139877571011219:=0
def tw10635076662204093075:=0
def tw9881434830936301235:=0
def tw5752723667865700147:=0
def tw16035962543536956211:=0
def tw18222993554420461395:=0
def tw13531814392091116531:=0
def tw14583273094371220467:=0
def tw14395121601502040084:=0
def tw1684349533707699252:=0
def tw8679582470507820084:=0
def tw12533464565287232660:=0
def tw10689528089751612564:=0
def tw11079145708458763508:=0
def tw14914019586006956468:=0
def tw3952926749463777748:=0
def tw10750065597946877428:=0
def tw9160641153295267348:=0
def tw11762608410771422740:=0
def tw2357800564267739732:=0
def tw3673600253045364372:=0
def tw6633044843779578516:=0
def tw2367011315776978580:=0
def tw12505178359500685044:=0
def tw10501432513045126932:=0
def tw12670633589112311604:=0
def tw2604130086615284532:=0
def tw8560663729602640756:=0
def tw14268035899229554548:=0
def tw7243060595544218516:=0
def tw15507345467279929365:=0
def tw2539009776878013525:=0
def tw14627844807772941429:=0
def tw6556497092623625333:=0
def tw12352133215945470133:=0
def tw16973364073371381941:=0
def tw10365034176153580757:=0
def tw7754814414255400181:=0
def tw13567633648502134005:=0
def tw15497390404892910965:=0
def tw873645650443887989:=0
def tw2422069491430357397:=0
def tw3868497505031393813:=0
def tw1595474327617397269:=0
def tw13770659510394955349:=0
def tw4637495228470330997:=0
def tw16759787610818593493:=0
def tw1536164674435750645:=0
def tw12385217578596761397:=0
def tw6161537692843672469:=0
def tw10851346810955219861:=0
def tw18280629973421616021:=0
def tw18259657983702351797:=0
def tw7867629754004170677:=0
def tw8039822808853160949:=0
def tw9478997551514115061:=0
def tw10623828219057900662:=0
def tw4723856973628582102:=0
def tw17721795563462325526:=0
def tw562202552391804246:=0
def tw2500889134019035478:=0
def tw7493475571859570038:=0
def tw19764431637093782:=0
def tw12674341059309198774:=0
def tw3598912504796054006:=0
def tw289509526246886966:=0
def tw5665027615895131734:=0
def tw3593173670501566070:=0
def tw6382589907993919094:=0
def tw16326666431890257558:=0
def tw12677613776888556214:=0
def tw10731153398339128022:=0
def tw11240398525250767606:=0
def tw15449007634412519190:=0
def tw10590465769021306646:=0
def tw15011027043598809910:=0
def tw12079741672281209718:=0
def tw4247720130230127510:=0
def tw11140036852213821334:=0
def tw10338608001769095062:=0
def tw5760206528107851766:=0
def tw4471619150240204823:=0
def tw15755238551070644279:=0
def tw17026097070440392855:=0
def tw13854437626734488727:=0
def tw16030327473263751383:=0
def tw5122112178132994295:=0
def tw10691887334676714743:=0
def tw5545385187932920055:=0
def tw17775282563873030423:=0
def tw12605168089272863095:=0
def tw6083094233886975351:=0
def tw12019624228849674679:=0
def tw10224208021052206679:=0
def tw9958197243003760215:=0
def tw11427187807737594487:=0
def tw10569431501816159959:=0
def tw14616320939991090967:=0
def tw11326827597374353175:=0
def tw3542468933810218807:=0
def tw10858456270236119863:=0
def tw14708997700681447287:=0
def tw9239104122277162871:=0
def tw15623046086163387351:=0
def tw6028583946720077815:=0
def tw11393866598480970776:=0
def tw4387540224944229560:=0
def tw1470075626223534296:=0
def tw2616309535190196440:=0
def tw11974056430098932952:=0
def tw7156216566733124856:=0
def tw11357092545400290648:=0
def tw2665840987274105176:=0
def tw2942685412541410680:=0
def tw9124366415236595064:=0
def tw8804235639270746552:=0
def tw6043017635464030680:=0
def tw10618548154408971768:=0
def tw14051514554499145272:=0
def tw12205651530027515448:=0
def tw1009489433360816696:=0
def tw1210558959233560120:=0
def tw16720096728413354648:=0
def tw9056302689144310456:=0
def tw5674402009545891512:=0
def tw4222469504538877656:=0
def tw13158035605264873240:=0
def tw1389251845277631320:=0
def tw9581542309794767704:=0
def tw11845833420607423352:=0
def tw4429672068527122296:=0
def tw11086605360333820824:=0
def tw11970239320009981912:=0
def tw2624374476836231160:=0
def tw812797874181369848:=0
def tw14790384721400963097:=0
def tw18214613275934073881:=0
def tw4206229505682126937:=0
def tw4264379094794445977:=0
def tw14639446779655152793:=0
def tw1513603377905455321:=0
def tw15698152118873668921:=0
def tw5960056325799434617:=0
def tw12334533815749564825:=0
def tw6097819334453233145:=0
def tw6472130408209769049:=0
def tw6071084461863683865:=0
def tw11735212308689550105:=0
def tw13856260226635760505:=0
def tw16013060909839466361:=0
def tw3945867615741251481:=0
def tw372425231611644857:=0
def tw15540880040995547194:=0
def tw3843210825542097018:=0
def tw12504998902774263930:=0
def tw13787974564183105722:=0
def tw14312476334210816250:=0
def tw2793967521566697722:=0
def tw3042650928455863546:=0
def tw10765175964619580698:=0
def tw5434609039005221274:=0
def tw4127046606300538266:=0
def tw9385021947748844986:=0
def tw10063396897626665434:=0
def tw4449799351292656090:=0
def tw10317973487457797626:=0
def tw5282760216180634106:=0
def tw6417920916746564090:=0
def tw7955352274108041850:=0
def tw16622951638462095994:=0
def tw13825119123998797434:=0
def tw16182497018708220570:=0
def tw9685382581700542138:=0
def tw811766910020525914:=0
def tw10239326026405212026:=0
def tw14188835789696829338:=0
def tw14604933645338971034:=0
def tw12449387590114101146:=0
def tw18371671331421445050:=0
def tw5529599149583983610:=0
def tw13179305304831692827:=0
def tw11781545403713231899:=0
def tw665592876423547995:=0
def tw17391554744075399259:=0
def tw15970813782798268571:=0
def tw8348550895987492027:=0
def tw3787176060239364283:=0
def tw7187266116594769179:=0
def tw3973413038359894299:=0
def tw6465514030383196507:=0
def tw312820552276047195:=0
def tw8869499229252949467:=0
def tw8503850115331016155:=0
def tw5923393571599908379:=0
def tw2140024367602711099:=0
def tw12574587199571037787:=0
def tw15744453500054910555:=0
def tw13213606333916007003:=0
def tw9524545153279901339:=0
def tw3695629923954593499:=0
def tw10971610305320114939:=0
def tw8833549303708588859:=0
def tw14603480026193280859:=0
def tw6263001321445332891:=0
def tw5487153472198190011:=0
def tw12804683242924424155:=0
def tw12338090035370870779:=0
def tw3817847489036486684:=0
def tw16497883425742672956:=0
def tw7083176223597789308:=0
def tw1486690501073567900:=0
def tw9913544357164640412:=0
def tw17363783397328366812:=0
def tw18223326721672939836:=0
def tw15929609136340094300:=0
def tw1925192829197782396:=0
def tw9701525699300406780:=0
def tw584143346784037404:=0
def tw12209911016506979932:=0
def tw8134813744567647836:=0
def tw15887750978811346652:=0
def tw3362265850358157084:=0
def tw1109800439222305596:=0
def tw15133718001175542684:=0
def tw16831869407333255100:=0
def tw3182687814036597724:=0
def tw3153268695275337692:=0
def tw10337033499092491260:=0
def tw5013459648924476412:=0
def tw4625895244041195581:=0
def tw9076805383692576829:=0
def tw6291869122779156637:=0
def tw16655886492285093085:=0
def tw12736652236726301917:=0
def tw9819414371673909533:=0
def tw13674818030021015869:=0
def tw13586983602578011549:=0
def tw8079477650133715421:=0
def tw15519338489797515741:=0
def tw16280098489246028285:=0
def tw8546586814833070589:=0
def tw9681711653396835837:=0
def tw3922381899833494141:=0
def tw2552635181085501149:=0
def tw11539596085931780861:=0
def tw13059621586269289213:=0
def tw9258082695336044413:=0
def tw8802693248731995005:=0
def tw18061762069029706653:=0
def tw13317114751696397213:=0
def tw5860770343995887581:=0
def tw11447074571498160093:=0
def tw6066659502073634813:=0
def tw14139132941706926142:=0
def tw17201410601697026206:=0
def tw10732966647480051870:=0
def tw5313084715230132382:=0
def tw765293238234194110:=0
def tw12502291186656143646:=0
def tw4110777821590649182:=0
def tw13291212338220848510:=0
def tw12182606753356046718:=0
def tw11995655386509070814:=0
def tw9244160501759745598:=0
def tw10054369279334300222:=0
def tw17168445220927250014:=0
def tw17195016665193144958:=0
def tw12067105462622175902:=0
def tw9433242876649709278:=0
def tw10370484021534425822:=0
def tw15862758981361598206:=0
def tw2016428806064179006:=0
def tw11335558236472635230:=0
def tw7518745070943608734:=0
def tw11376452172206908350:=0
def tw970206193242969086:=0
def tw17770787052458147903:=0
def tw9033581911373325407:=0
def tw9303151689754162303:=0
def tw12149899191852276927:=0
def tw16131293709700422911:=0
def tw1703556132939325695:=0
def tw7202915789584992543:=0
def tw8480843146481171839:=0
def tw10539519214194438559:=0
def tw13245809827984035327:=0
def tw1521202148878641695:=0
def tw12620821569068327487:=0
def tw3439244609055450719:=0
def tw1390450449408671:=0
def tw15334256630591786687:=0
def tw5194984779322510015:=0
def tw6524269902357742303:=0
def tw14203247593994306271:=0
def tw439352114223310623:=0
def tw1656398752200151871:=0
def tw6253448385957125983:=0
def tw444471780811627391:=0
def tw750784802919417791:=0
def tw6802178389886286815:=0
def tw13908378894798965727:=0
def tw11635023484659108335:=0
end PySem.W.Fast
namespace My
open PySem L2 L2.MM
noncomputable section
def ZcB:SM:=(mIf (mOr (ZI (mOp gtM (mOp Zbm (mOp Zgx (Zd 7) (mC (.int 2))) (mC (.int 5))) (mC (.int 0)))) (ZI (mOp gtM (Zd 6) (mC (.int 12))))) (zJ (mCB ZaA (Zc (mOp ixM (Zd 2) (Zd 9)) (Zc (Zd 10) (Zc (Zd 5) Zk))))) ZS)
def ZeL:SM:=(Zhm (mIn (mOp ixM (Zd 3) (Zd 9))) (gNm 10) ZcB)
def Zf1:SM:=(whileL (ZI (mOp neM (Zd 10) (ZeN Zk))) (Zv (zJ (Zki (mOp ixM (Zd 3) (mOp ZeZ (mC (.int 1)) (Zd 9))) (Zd 10)))
        (zc 10 (mCB Zbs (Zc (mOp ixM (Zd 2) (Zd 9)) (Zc (Zd 5) Zk))))) 200)
def ZeK:SM:=(Zhm (ZbY (Zc (mC (.int 2)) Zk)) (gNm 8) (Zv (zc 9 (mOp Zbm (mOp zx (Zd 8) (Zd 7)) (mC (.int 2))))
      (Zv ZeL
      (Zv (mSetC (Zd 3) (Zd 9) (Zdq Zk))
      (Zv (zc 10 (mCB Zbs (Zc (mOp ixM (Zd 2) (Zd 9)) (Zc (Zd 5) Zk))))
      Zf1)))))
def ZeJ:SM:=(mIf (ZI (mOp neM (mCB ZcU (Zc (mOp ixM (Zd 2) (Zd 8)) (Zc (mOp ixM (Zd 4) (Zd 8)) Zk))) (mCB Zeg (Zc (mOp ixM (Zd 4) (Zd 8)) Zk)))) (ZT (mC (.bl false))) ZS)
def Zh2:SM:=(Zhm (ZbY (Zc (mC (.int 2)) Zk)) (gNm 8) ZeJ)
def ZcA:SM:=(mIf (ZI (mOp eqM (Zd 6) (mC (.int 12)))) Zh2 ZS)
def Zh1:SM:=(Zhm (ZbY (Zc (mC (.int 32)) Zk)) (gNm 6) (Zv (zc 7 (mCB Zbn (Zc (Zd 0) (Zc (mOp zx (mC (.int 6)) (Zd 6)) Zk))))
    (Zv ZeK
    (Zv (zc 5 (mOp zx (Zd 5) (mC (.int 1000))))
    ZcA))))
def Zh0:SM:=(mIf (mOr (ZI (mOp neM (mCB ZdD (Zc (mOp ixM (Zd 2) (mC (.int 0))) Zk)) (mC (.str "open")))) (ZI (mOp neM (mCB ZdD (Zc (mOp ixM (Zd 2) (mC (.int 1))) Zk)) (mC (.str "open"))))) (ZT (mC (.bl false))) ZS)
def Zl1:SM:=(Zv (zc 1 (Zb8 (Zc (mOp Zbm (mCB Zbn (Zc (Zd 0) (Zc (mC (.int 0)) Zk))) (mC (.int 65536))) (Zc (mOp Zbm (mCB Zbn (Zc (Zd 0) (Zc (mC (.int 1)) Zk))) (mC (.int 65536))) Zk))))
  (Zv (zc 2 (ZeN (Zc (mCB Zci (Zc (mOp ixM (Zd 1) (mC (.int 0))) (Zc (mOp ixM (Zd 1) (mC (.int 1))) (Zc (mCB ZcY (Zc (mCB Zbn (Zc (Zd 0) (Zc (mC (.int 2)) Zk))) Zk)) (Zc (mC (.bl true)) Zk))))) (Zc (mCB Zci (Zc (mOp ixM (Zd 1) (mC (.int 1))) (Zc (mOp ixM (Zd 1) (mC (.int 0))) (Zc (mCB ZcY (Zc (mCB Zbn (Zc (Zd 0) (Zc (mC (.int 3)) Zk))) Zk)) (Zc (mC (.bl true)) Zk))))) Zk))))
  (Zv (zc 3 (Zdq (Zc (Zdq (Zc (mCB Zbs (Zc (mOp ixM (Zd 2) (mC (.int 1))) (Zc (mC (.int 0)) Zk))) Zk)) (Zc (Zdq (Zc (mCB Zbs (Zc (mOp ixM (Zd 2) (mC (.int 0))) (Zc (mC (.int 0)) Zk))) Zk)) Zk))))
  (Zv (zc 4 (Zef (ZbY (Zc (mC (.int 2)) Zk)) [0] (Zef (ZbY (Zc (mOp Zbm (mCB Zbn (Zc (Zd 1) (Zc (mOp zx (mC (.int 4)) (Zd 0)) Zk))) (mC (.int 9))) Zk)) [1] (mOp Zbm (mCB Zbn (Zc (Zd 1) (Zc (mOp zx (mC (.int 30)) (Zd 0)) Zk))) (mC (.int 256))))))
  (Zv (zc 5 (mC (.int 0)))
  (Zv Zh1
  (Zv Zh0
  (ZT (Zcu (mOp eqM (mCB Zc8 (Zc (mOp ixM (Zd 2) (mC (.int 0))) (Zc (mC (.int 99)) Zk))) (mOp ixM (Zd 4) (mC (.int 1)))) (mOp eqM (mCB Zc8 (Zc (mOp ixM (Zd 2) (mC (.int 1))) (Zc (mC (.int 99)) Zk))) (mOp ixM (Zd 4) (mC (.int 0)))))))))))))
def ZlJ:GM:=ZU 1 11 Zl1
section
variable {to:Nat} {e e' e2:Zu} {r:Sto} {x x':List Seg} {i i':Nat} {sc p da:D} {a b f g:Int} {d d':List Int} {A:AE} {t:Nat} {hd hp:Bool} {num:Int} {k:Nat} {j:Sl}
theorem Rep.facts (rp:Rep a b f g d d' A e) (l:Lst hd d) (l':Lst hp d'):e.come.length≤64∧e.early=[]∧e.ours=a∧e.theirs=b∧e.written.length≤8:=by
  obtain ⟨w,tl,bq,mo,si,wa,tr,rfl,_,_⟩:=rp.ex
  have:=l.len
  have:=l'.len
  refine ⟨?_,rfl,rfl,rfl,?_⟩
  · show (if A.rcv=2 then d' else []).length≤64
    split
    · omega
    · simp
  · show (if A.beh=2∧A.una≤1 then d else []).length≤8
    split
    · omega
    · simp
theorem ZoX {n win:Int} {s:AS} (rp:Rep a b f g d d' A e):ZeS e (cS a b f g d' n s win)=true:=by
  obtain ⟨w,tl,bq,mo,si,wa,tr,rfl,_,_⟩:=rp.ex
  unfold ZeS
  have:(cS a b f g d' n s win).goal=a∧(cS a b f g d' n s win).src=b:=by
    unfold cS
    split<;>exact ⟨rfl,rfl⟩
  rw [this.1,this.2]
  simp [cE]
theorem Zpu (h1:to≤1) (ra:0≤a∧a≤65535) (rb:0≤b∧b≤65535) (rf:0≤f∧f≤4294967295) (rg:0≤g∧g≤4294967295) (l:Lst hd d) (l':Lst hp d') (hb':BytL d') (ok:Bool) (hok:ok=(decide (0<num/2 % 5) || decide (12<k))) (c:RdC to x x' r i i') :
    ∀(la:List AS) (y:List Seg) (A:AE) (e:Zu) (row:Sl),Rep a b f g d d' A e→RdL a b f g d' d.length la y→(ok=true→chkCome hd hp t A la=true)→∃e2 row',forL (.seq (.ref (i+8))) (x.map Zay) (gNm 10) ZcB (y.map Zay) (Zq sc p da (1000*(t:Int)) (.val (.int (k:Int))) (.val (.int num)) j (.val (.int to)) row) (Sx to e e' r)=.ok (.nx,Zq sc p da (1000*(t:Int)) (.val (.int (k:Int))) (.val (.int num)) j (.val (.int to)) row') (Sx to e2 e' r)∧Rep a b f g d d' (if ok=true then ZbO t A la else A) e2
  | [],[],A,e,row,rp,rd,ck=>by
    refine ⟨e,row,?_,by simpa [ZbO] using rp⟩
    have hit:(Src.seq (.ref (i+8))).items (Sx to e e' r)=some (x.map Zay):=ZgB c
    simp only [List.map_nil,forL,hit,if_true]
  | [],_::_,_,_,_,_,rd,_=>rd.elim
  | _::_,[],_,_,_,_,rd,_=>rd.elim
  | s::la,sg::y,A,e,row,rp,rd,ck=>by
    obtain ⟨⟨win,w1,w2,hsg⟩,rd⟩:=rd
    have hit:(Src.seq (.ref (i+8))).items (Sx to e e' r)=some (x.map Zay):=ZgB c
    have hg:gNm 10 (Zay sg) (Zq sc p da (1000*(t:Int)) (.val (.int (k:Int))) (.val (.int num)) j (.val (.int to)) row)=some (Zq sc p da (1000*(t:Int)) (.val (.int (k:Int))) (.val (.int num)) j (.val (.int to)) (.val (Zay sg))):=rfl
    have ft:=rp.facts l l'
    have sok:sg.Ok:=by rw [hsg]; exact ZlX ra rb rg hb' l'.len ⟨w1,w2⟩
    simp only [List.map_cons,forL,hit,if_true,hg]
    have tst:(mOr (ZI (mOp gtM (mOp Zbm (mOp Zgx (Zd 7) (mC (.int 2))) (mC (.int 5))) (mC (.int 0)))) (ZI (mOp gtM (Zd 6) (mC (.int 12))))) (Zq sc p da (1000*(t:Int)) (.val (.int (k:Int))) (.val (.int num)) j (.val (.int to)) (.val (Zay sg))) (Sx to e e' r)=.ok ok (Sx to e e' r):=by
      rw [hok]
      by_cases z:0<num/2 % 5
      · simp [Zq,z]
      · have e1:num/2 % 5=0:=by omega
        by_cases y:12<(k:Int)
        · have:12<k:=by omega
          simp [Zq,e1,y,this]
        · have:¬12<k:=by omega
          simp [Zq,e1,y,this]
    cases ok with
    | false=>
      have step:ZcB (Zq sc p da (1000*(t:Int)) (.val (.int (k:Int))) (.val (.int num)) j (.val (.int to)) (.val (Zay sg))) (Sx to e e' r)=.ok (.nx,Zq sc p da (1000*(t:Int)) (.val (.int (k:Int))) (.val (.int num)) j (.val (.int to)) (.val (Zay sg))) (Sx to e e' r):=by
        unfold ZcB
        rw [ZpI,tst]
        rfl
      obtain ⟨e2,row',h,rp'⟩:=Zpu h1 ra rb rf rg l l' hb' false hok c la y A e (.val (Zay sg)) rp rd (by simp)
      refine ⟨e2,row',?_,by simpa using rp'⟩
      rw [step,R.bind_ok,Zb0]
      exact h
    | true=>
      have ck':=ck rfl
      simp only [chkCome,Bool.and_eq_true] at ck'
      obtain ⟨⟨k1,k2⟩,k3⟩:=ck'
      have ar:=Zq7 (to:=to) (e:=e) (e':=e') (r:=r) (now:=1000*(t:Int)) h1 ft.1 sok (by rw [hsg]; exact ZoX rp) (by rw [ft.2.1]; simp)
      have step:ZcB (Zq sc p da (1000*(t:Int)) (.val (.int (k:Int))) (.val (.int num)) j (.val (.int to)) (.val (Zay sg))) (Sx to e e' r)=.ok (.nx,Zq sc p da (1000*(t:Int)) (.val (.int (k:Int))) (.val (.int num)) j (.val (.int to)) (.val (Zay sg))) (Sx to (Zdr e sg (1000*(t:Int))) e' r):=by
        unfold ZcB
        rw [ZpI,tst]
        simp [Zq,ZkZ h1,ar]
      have sm:=Zoc (t:=t) rp k1 k2 rf rg ⟨w1,w2⟩ l l'
      rw [←hsg] at sm
      obtain ⟨e2,row',h,rp'⟩:=Zpu h1 ra rb rf rg l l' hb' true hok c la y (ZaD A s t) _ (.val (Zay sg)) sm rd (fun _=>k3)
      refine ⟨e2,row',?_,by simpa [ZbO] using rp'⟩
      rw [step,R.bind_ok,Zb0]
      exact h
theorem ZlP (ra:0≤a∧a≤65535) (rb:0≤b∧b≤65535) (rf:0≤f∧f≤4294967295) (l:Lst hd d) (l':Lst hp d') (hb:BytL d) (rp:Rep a b f g d d' A e) (ok:okA hd hp A=true):∀s,(going e (1000*(t:Int))).1=some s→s.Ok:=by
  intro s hs
  have sg:=(Zob (t:=t) rp ok rf l l').1
  rw [hs] at sg
  cases h:(goA A t).1 with
  | none=>rw [h] at sg; exact sg.elim
  | some s'=>
    rw [h] at sg
    obtain ⟨win,w1,w2,rfl⟩:=sg
    exact ZlX rb ra rf hb l.len ⟨w1,w2⟩
theorem ZoI (r:List Int) (θ:Sto):neM (il r) (.lst []) θ=.ok (.bl (!decide (r=[]))) θ:=ZuB (b:=[])
abbrev tst14:TMr:=ZI (mOp neM (Zd 10) (ZeN Zk))
abbrev bod14:SM:=Zv (zJ (Zki (mOp ixM (Zd 3) (mOp ZeZ (mC (.int 1)) (Zd 9))) (Zd 10))) (zc 10 (mCB Zbs (Zc (mOp ixM (Zd 2) (Zd 9)) (Zc (Zd 5) Zk))))
theorem Zld (h1:to≤1) (ra:0≤a∧a≤65535) (rb:0≤b∧b≤65535) (rf:0≤f∧f≤4294967295) (l:Lst hd d) (l':Lst hp d') (hb:BytL d) :
    ∀(n m:Nat) (A:AE) (e:Zu) (x':List Seg) (r:Sto),n≤m→Rep a b f g d d' A e→ZdZ hd hp t n A=true→RdC to x x' r i i'→x'.length+n≤1000→∃e2 y r2,whileL tst14 bod14 m (Zq sc p da (1000*(t:Int)) (.val (.int (k:Int))) (.val (.int num)) j (.val (.int to)) (.val (il (ZaV e (1000*(t:Int)))))) (Sx to (going e (1000*(t:Int))).2 e' r)=.ok (.nx,Zq sc p da (1000*(t:Int)) (.val (.int (k:Int))) (.val (.int num)) j (.val (.int to)) (.val (il []))) (Sx to e2 e' r2)∧Rep a b f g d d' (Zc0 t n A).2 e2∧RdL b a g f d d'.length (Zc0 t n A).1 y∧RdC to x (x'++y) r2 i i'∧y.length≤n
  | 0,m,A,e,x',r,_,_,ck,_,_=>by simp [ZdZ] at ck
  | n+1,0,A,e,x',r,h,_,_,_,_=>by omega
  | n+1,m+1,A,e,x',r,hm,rp,ck,c,hx=>by
    simp only [ZdZ,Bool.and_eq_true] at ck
    obtain ⟨oa,ck⟩:=ck
    obtain ⟨sg,rp1⟩:=Zob (t:=t) rp oa rf l l'
    obtain ⟨o,A',hgo⟩:∃o A',goA A t=(o,A'):=⟨_,_,rfl⟩
    obtain ⟨q,e1,hge⟩:∃q e1,going e (1000*(t:Int))=(q,e1):=⟨_,_,rfl⟩
    rw [hgo,hge] at sg rp1
    simp only at sg rp1
    simp only [Zc0,hgo]
    rw [hgo] at ck
    cases o with
    | none=>
      cases q with
      | some s=>exact sg.elim
      | none=>
        have sr:ZaV e (1000*(t:Int))=[]:=by unfold ZaV; rw [hge]
        refine ⟨e1,[],r,?_,rp1,trivial,by simpa using c,by simp⟩
        rw [sr,hge]
        have tt:tst14 (Zq sc p da (1000*(t:Int)) (.val (.int (k:Int))) (.val (.int num)) j (.val (.int to)) (.val (il []))) (Sx to e1 e' r)=.ok false (Sx to e1 e' r):=by
          simp [Zq,ZoI]
        unfold whileL
        rw [tt,R.bind_ok]
        rfl
    | some s=>
      cases q with
      | none=>exact sg.elim
      | some gs=>
        obtain ⟨win,w1,w2,hgs⟩:=sg
        simp only at ck
        have sr:ZaV e (1000*(t:Int))=putL gs:=by unfold ZaV; rw [hge]
        have n0:∃n',n=n'+1:=by
          cases n with
          | zero=>simp [ZdZ] at ck
          | succ n=>exact ⟨n,rfl⟩
        have oa':okA hd hp A'=true:=by
          obtain ⟨n',rfl⟩:=n0
          simp only [ZdZ,Bool.and_eq_true] at ck
          exact ck.1
        have c1:=c.more gs
        obtain ⟨r1,hr1⟩:∃q,q=r.set i' (.lst (x'.map Zay++[Zay gs])):=⟨_,rfl⟩
        rw [←hr1] at c1
        obtain ⟨e2,y,r2,h,rp2,rd2,c2,hy⟩:=Zld h1 ra rb rf l l' hb n m A' e1 (x'++[gs]) r1 (by omega) rp1 ck c1 (by simp; omega)
        refine ⟨e2,gs::y,r2,?_,rp2,⟨⟨win,w1,w2,hgs⟩,rd2⟩,by simpa using c2,by simpa using hy⟩
        rw [sr,hge]
        have tt:tst14 (Zq sc p da (1000*(t:Int)) (.val (.int (k:Int))) (.val (.int num)) j (.val (.int to)) (.val (il (putL gs)))) (Sx to e1 e' r)=.ok true (Sx to e1 e' r):=by
          have:=Zsn gs
          simp [Zq,ZoI,this]
        have sn:=Zln (to:=to) (e:=e1) (e':=e') (r:=r1) (now:=1000*(t:Int)) h1 (ZlP ra rb rf l l' hb rp1 oa')
        have cs:=c.swap h1
        have ir:=ZlK (e:=e') (e':=e1) (show 1-to≤1 by omega) cs
        rw [←ZdT h1] at ir
        have lc:=ZsX (e:=e') (e':=e1) cs
        rw [←ZdT h1] at lc
        have ei:(1:Int)-(to:Int)=((1-to:Nat):Int):=by omega
        have bd:bod14 (Zq sc p da (1000*(t:Int)) (.val (.int (k:Int))) (.val (.int num)) j (.val (.int to)) (.val (il (putL gs)))) (Sx to e1 e' r)=.ok (.nx,Zq sc p da (1000*(t:Int)) (.val (.int (k:Int))) (.val (.int num)) j (.val (.int to)) (.val (il (ZaV e1 (1000*(t:Int)))))) (Sx to (going e1 (1000*(t:Int))).2 e' r1):=by
          have ap:Zki (mOp ixM (Zd 3) (mOp ZeZ (mC (.int 1)) (Zd 9))) (Zd 10) (Zq sc p da (1000*(t:Int)) (.val (.int (k:Int))) (.val (.int num)) j (.val (.int to)) (.val (il (putL gs)))) (Sx to e1 e' r)=.ok .non (Sx to e1 e' r1):=by
            unfold Zki
            have o1:mOp ixM (Zd 3) (mOp ZeZ (mC (.int 1)) (Zd 9)) (Zq sc p da (1000*(t:Int)) (.val (.int (k:Int))) (.val (.int num)) j (.val (.int to)) (.val (il (putL gs)))) (Sx to e1 e' r)=.ok (.ref (i'+8)) (Sx to e1 e' r):=by
              simp [Zq,ei,ir]
            rw [o1,R.bind_ok,lc]
            have o2:Zd 10 (Zq sc p da (1000*(t:Int)) (.val (.int (k:Int))) (.val (.int num)) j (.val (.int to)) (.val (il (putL gs)))) (Sx to e1 e' r)=.ok (il (putL gs)) (Sx to e1 e' r):=by simp [Zq]
            simp only
            rw [o2,R.bind_ok,lc]
            simp only
            rw [if_pos (by simp [Zk9]; omega),Zpx,hr1]
          unfold bod14
          rw [Zhs,ZrP,ap]
          simp [Zq,ZkZ h1,sn]
        unfold whileL
        rw [tt,R.bind_ok,if_pos rfl,bd,R.bind_ok,Zb0]
        exact h
def turnB:SM:=Zv ZeL (Zv (mSetC (Zd 3) (Zd 9) (Zdq Zk)) (Zv (zc 10 (mCB Zbs (Zc (mOp ixM (Zd 2) (Zd 9)) (Zc (Zd 5) Zk)))) Zf1))
theorem ZqD:ZeK=Zhm (ZbY (Zc (mC (.int 2)) Zk)) (gNm 8) (Zv (zc 9 (mOp Zbm (mOp zx (Zd 8) (Zd 7)) (mC (.int 2)))) turnB):=rfl
theorem ZqE:Zf1=whileL tst14 bod14 200:=rfl
theorem Zq1 (h1:to≤1) (c:RdC to x x' r i i') (row:Sl):∃r2,mSetC (Zd 3) (Zd 9) (Zdq Zk) (Zq sc p da (1000*(t:Int)) (.val (.int (k:Int))) (.val (.int num)) j (.val (.int to)) row) (Sx to e e' r)=.ok (.nx,Zq sc p da (1000*(t:Int)) (.val (.int (k:Int))) (.val (.int num)) j (.val (.int to)) row) (Sx to e e' r2)∧RdC to [] x' r2 r.length i':=by
  refine ⟨_,?_,c.clear h1⟩
  have l2:2<r.length:=(List.getElem?_eq_some_iff.mp c.road).1
  have lr:ZkY (Sx to e e' (r++[Cell.lst []])) (.ref 10)=some (10,if to=0 then [.ref (i+8),.ref (i'+8)] else [.ref (i'+8),.ref (i+8)]):=by
    show (match (Sx to e e' (r++[Cell.lst []]))[2+8]? with | some (Cell.lst xs)=>some (10,xs) | _=>none)=_
    rw [Zl3,List.getElem?_append_left l2,c.road]
  unfold mSetC
  have o1:Zdq Zk (Zq sc p da (1000*(t:Int)) (.val (.int (k:Int))) (.val (.int num)) j (.val (.int to)) row) (Sx to e e' r)=.ok (.ref (r.length+8)) (Sx to e e' (r++[Cell.lst []])):=by
    unfold Zdq
    simp only [ZtG,R.bind_ok,List.length_nil,Nat.zero_le,if_true,Zpy,Ztd]
    rw [Nat.add_comm]
  rw [o1,R.bind_ok]
  have o2:∀θ,Zd 3 (Zq sc p da (1000*(t:Int)) (.val (.int (k:Int))) (.val (.int num)) j (.val (.int to)) row) θ=.ok (.ref 10) θ:=fun θ=>by simp [Zq]
  have o3:∀θ,Zd 9 (Zq sc p da (1000*(t:Int)) (.val (.int (k:Int))) (.val (.int num)) j (.val (.int to)) row) θ=.ok (.int to) θ:=fun θ=>by simp [Zq]
  rw [o2,R.bind_ok,o3,R.bind_ok,lr]
  simp only
  have ss:=Zpx (to:=to) (e:=e) (e':=e') (r:=r++[Cell.lst []]) 2
  simp only [Nat.reduceAdd] at ss
  have:to=0∨to=1:=by omega
  rcases this with rfl | rfl
  · have:ixN 2 ((0:Nat):Int)=some 0:=rfl
    simp only [if_true,List.length_cons,List.length_nil,Nat.reduceAdd,this,ss]
    rfl
  · have:ixN 2 ((1:Nat):Int)=some 1:=rfl
    simp only [if_neg (show ¬1=0 by omega),List.length_cons,List.length_nil,Nat.reduceAdd,this,ss]
    rfl
theorem ZrT (h1:to≤1) (ra:0≤a∧a≤65535) (rb:0≤b∧b≤65535) (rf:0≤f∧f≤4294967295) (rg:0≤g∧g≤4294967295) (l:Lst hd d) (l':Lst hp d') (hb:BytL d) (hb':BytL d') (ok:Bool) (hok:ok=(decide (0<num/2 % 5) || decide (12<k))) (c:RdC to x x' r i i') {la:List AS} (rp:Rep a b f g d d' A e) (rd:RdL a b f g d' d.length la x)
    (ck:ok=true→chkCome hd hp t A la=true) (cg:ZdZ hd hp t 6 (if ok=true then ZbO t A la else A)=true) (hx:x'.length≤900) (row:Sl) :
    ∃e2 y r2 i2 row',turnB (Zq sc p da (1000*(t:Int)) (.val (.int (k:Int))) (.val (.int num)) j (.val (.int to)) row) (Sx to e e' r)=.ok (.nx,Zq sc p da (1000*(t:Int)) (.val (.int (k:Int))) (.val (.int num)) j (.val (.int to)) row') (Sx to e2 e' r2)∧RdC to [] (x'++y) r2 i2 i'∧Rep a b f g d d' (Zc0 t 6 (if ok=true then ZbO t A la else A)).2 e2∧RdL b a g f d d'.length (Zc0 t 6 (if ok=true then ZbO t A la else A)).1 y∧y.length≤6:=by
  obtain ⟨e1,row1,a1,rp1⟩:=Zpu (t:=t) (k:=k) (sc:=sc) (p:=p) (da:=da) (j:=j) (e':=e') h1 ra rb rf rg l l' hb' ok hok c la x A e row rp rd ck
  obtain ⟨A1,hA1⟩:∃q,q=(if ok=true then ZbO t A la else A):=⟨_,rfl⟩
  rw [←hA1] at rp1 cg ⊢
  obtain ⟨r1,b1,c1⟩:=Zq1 (t:=t) (k:=k) (sc:=sc) (p:=p) (da:=da) (j:=j) (num:=num) (e:=e1) (e':=e') h1 c row1
  have oa:okA hd hp A1=true:=by
    simp only [ZdZ,Bool.and_eq_true] at cg
    exact cg.1
  obtain ⟨e2,y,r2,w,rp2,rd2,c2,hy⟩:=Zld (t:=t) (k:=k) (sc:=sc) (p:=p) (da:=da) (j:=j) (num:=num) (e':=e') h1 ra rb rf l l' hb 6 200 A1 e1 x' r1 (by omega) rp1 cg c1 (by omega)
  refine ⟨e2,y,r2,r.length,.val (il []),?_,c2,rp2,rd2,hy⟩
  have f1:ZeL (Zq sc p da (1000*(t:Int)) (.val (.int (k:Int))) (.val (.int num)) j (.val (.int to)) row) (Sx to e e' r)=.ok (.nx,Zq sc p da (1000*(t:Int)) (.val (.int (k:Int))) (.val (.int num)) j (.val (.int to)) row1) (Sx to e1 e' r):=by
    unfold ZeL Zhm
    have m1:mIn (mOp ixM (Zd 3) (Zd 9)) (Zq sc p da (1000*(t:Int)) (.val (.int (k:Int))) (.val (.int num)) j (.val (.int to)) row) (Sx to e e' r)=.ok (.seq (.ref (i+8))) (Sx to e e' r):=by
      unfold mIn
      have:mOp ixM (Zd 3) (Zd 9) (Zq sc p da (1000*(t:Int)) (.val (.int (k:Int))) (.val (.int num)) j (.val (.int to)) row) (Sx to e e' r)=.ok (.ref (i+8)) (Sx to e e' r):=by
        simp [Zq,ZlK h1 c]
      rw [this,R.bind_ok]
      have:seqOf (Sx to e e' r) (.ref (i+8))=some (x.map Zay):=ZgB c
      rw [this]
    rw [m1,R.bind_ok]
    have hit:(Src.seq (.ref (i+8))).items (Sx to e e' r)=some (x.map Zay):=ZgB c
    rw [hit]
    exact a1
  have sn:=Zln (to:=to) (e:=e1) (e':=e') (r:=r1) (now:=1000*(t:Int)) h1 (ZlP ra rb rf l l' hb rp1 oa)
  have s1:zc 10 (mCB Zbs (Zc (mOp ixM (Zd 2) (Zd 9)) (Zc (Zd 5) Zk))) (Zq sc p da (1000*(t:Int)) (.val (.int (k:Int))) (.val (.int num)) j (.val (.int to)) row1) (Sx to e1 e' r1)=.ok (.nx,Zq sc p da (1000*(t:Int)) (.val (.int (k:Int))) (.val (.int num)) j (.val (.int to)) (.val (il (ZaV e1 (1000*(t:Int)))))) (Sx to (going e1 (1000*(t:Int))).2 e' r1):=by
    simp [Zq,ZkZ h1,sn]
  unfold turnB
  rw [ZqE]
  simp only [Zhs,f1,b1,s1,Zdf,w]
def GT (to N:Nat) (a b f g:Int) (d d':List Int) (J:AJ) (θ:Sto):Prop:=∃e e' x x' r i i',θ=Sx to e e' r∧RdC to x x' r i i'∧Rep a b f g d d' J.a e∧Rep b a g f d' d J.b e'∧RdL a b f g d' d.length J.ra x∧RdL b a g f d d'.length J.rb x'∧x.length≤N∧x'.length≤N
theorem GT.swap {N:Nat} {J:AJ} {θ:Sto} (h:to≤1) (G:GT to N a b f g d d' J θ):GT (1-to) N b a g f d' d (swp J) θ:=by
  obtain ⟨e,e',x,x',r,i,i',h1,h2,h3,h4,h5,h6,h7,h8⟩:=G
  exact ⟨e',e,x',x,r,i',i,by rw [h1]; exact ZdT h,h2.swap h,h4,h3,h6,h5,h8,h7⟩
theorem Zo4 {N:Nat} {J:AJ} {θ:Sto} (h1:to≤1) (ra:0≤a∧a≤65535) (rb:0≤b∧b≤65535) (rf:0≤f∧f≤4294967295) (rg:0≤g∧g≤4294967295) (l:Lst hd d) (l':Lst hp d') (hb:BytL d) (hb':BytL d') (ok:Bool) (hok:ok=(decide (0<num/2 % 5) || decide (12<k))) (G:GT to N a b f g d d' J θ) (ck:Zhp hd hp ok t J=true) (hN:N≤900) (row:Sl) :
    ∃row' θ',turnB (Zq sc p da (1000*(t:Int)) (.val (.int (k:Int))) (.val (.int num)) j (.val (.int to)) row) θ=.ok (.nx,Zq sc p da (1000*(t:Int)) (.val (.int (k:Int))) (.val (.int num)) j (.val (.int to)) row') θ'∧GT to (N+6) a b f g d d' (trn ok t J) θ':=by
  obtain ⟨e,e',x,x',r,i,i',h2,h3,h4,h5,h6,h7,h8,h9⟩:=G
  subst h2
  unfold Zhp at ck
  simp only [Bool.and_eq_true,Bool.or_eq_true] at ck
  obtain ⟨e2,y,r2,i2,row',s1,s2,s3,s4,s5⟩:=ZrT (t:=t) (sc:=sc) (p:=p) (da:=da) (j:=j) (e':=e') h1 ra rb rf rg l l' hb hb' ok hok h3 h4 h6 (fun z=>ck.1.resolve_left (by rw [z]; simp)) ck.2 (by omega) row
  refine ⟨row',_,s1,e2,e',[],x'++y,r2,i2,i',rfl,s2,s3,h5,trivial,h7.app s4,by simp,by simp; omega⟩
theorem Zp4 {N:Nat} {J:AJ} {θ:Sto} {ha hb:Bool} {d0 d1:List Int} (ra:0≤a∧a≤65535) (rb:0≤b∧b≤65535) (rf:0≤f∧f≤4294967295) (rg:0≤g∧g≤4294967295) (l:Lst ha d0) (l':Lst hb d1) (hb0:BytL d0) (hb1:BytL d1) (ok:Bool) (hok:ok=(decide (0<num/2 % 5) || decide (12<k))) (ord:Bool) (ho:ord=decide (num % 2=1)) (G:GT 0 N a b f g d0 d1 J θ) (ck:Ziv ha hb ord ok t J=true) (hN:N≤800) (j to row:Sl) :
    ∃j' to' row' θ',ZeK (Zq sc p da (1000*(t:Int)) (.val (.int (k:Int))) (.val (.int num)) j to row) θ=.ok (.nx,Zq sc p da (1000*(t:Int)) (.val (.int (k:Int))) (.val (.int num)) j' to' row') θ'∧GT 0 (N+12) a b f g d0 d1 (rnd ord ok t J) θ':=by
  rw [ZqD]
  obtain ⟨Jm,hJ0,hJ1,hJ2⟩:∃Jm:Nat→AJ,Jm 0=J∧Jm 1=(if ord=true then swp (trn ok t (swp J)) else trn ok t J)∧Jm 2=rnd ord ok t J:=⟨fun m=>match m with | 0=>J | 1=>(if ord=true then swp (trn ok t (swp J)) else trn ok t J) | _=>rnd ord ok t J,rfl,rfl,rfl⟩
  have mid:∀(m tv:Nat) (N:Nat) (J J':AJ) (θ:Sto) (j to row:Sl),tv≤1→(tv:Int)=((m:Int)+num) % 2→N≤900→GT 0 N a b f g d0 d1 J θ→(tv=0→Zhp ha hb ok t J=true∧J'=trn ok t J)→(tv=1→Zhp hb ha ok t (swp J)=true∧J'=swp (trn ok t (swp J)))→
      ∃row' θ',(Zv (zc 9 (mOp Zbm (mOp zx (Zd 8) (Zd 7)) (mC (.int 2)))) turnB) (Zq sc p da (1000*(t:Int)) (.val (.int (k:Int))) (.val (.int num)) (.val (.int (m:Int))) to row) θ=.ok (.nx,Zq sc p da (1000*(t:Int)) (.val (.int (k:Int))) (.val (.int num)) (.val (.int (m:Int))) (.val (.int tv)) row') θ'∧GT 0 (N+6) a b f g d0 d1 J' θ':=by
    intro m tv N J J' θ j to row htv hm hN G h0 h1
    have st:zc 9 (mOp Zbm (mOp zx (Zd 8) (Zd 7)) (mC (.int 2))) (Zq sc p da (1000*(t:Int)) (.val (.int (k:Int))) (.val (.int num)) (.val (.int (m:Int))) to row) θ=.ok (.nx,Zq sc p da (1000*(t:Int)) (.val (.int (k:Int))) (.val (.int num)) (.val (.int (m:Int))) (.val (.int tv)) row) θ:=by
      simp [Zq,hm]
    have:tv=0∨tv=1:=by omega
    rcases this with z | z
    · obtain ⟨k1,k2⟩:=h0 z
      subst z
      obtain ⟨row',θ',s1,s2⟩:=Zo4 (to:=0) (sc:=sc) (p:=p) (da:=da) (j:=.val (.int (m:Int))) (by omega) ra rb rf rg l l' hb0 hb1 ok hok G k1 hN row
      refine ⟨row',θ',?_,by rw [k2]; exact s2⟩
      rw [Zhs,st,Zdf]
      exact s1
    · obtain ⟨k1,k2⟩:=h1 z
      subst z
      obtain ⟨row',θ',s1,s2⟩:=Zo4 (to:=1) (sc:=sc) (p:=p) (da:=da) (j:=.val (.int (m:Int))) (by omega) rb ra rg rf l' l hb1 hb0 ok hok (G.swap (by omega)) k1 hN row
      refine ⟨row',θ',?_,by rw [k2]; exact s2.swap (by omega)⟩
      rw [Zhs,st,Zdf]
      exact s1
  obtain ⟨ρ',θ',h,j',to',row',hr,G'⟩:=for_rng (fi:=ZbY (Zc (mC (.int 2)) Zk)) (body:=Zv (zc 9 (mOp Zbm (mOp zx (Zd 8) (Zd 7)) (mC (.int 2)))) turnB) (k:=8) (ρ:=Zq sc p da (1000*(t:Int)) (.val (.int (k:Int))) (.val (.int num)) j to row) (θ:=θ) (lo:=0) (n:=2)
    (fun m ρ θ=>∃j to row,ρ=Zq sc p da (1000*(t:Int)) (.val (.int (k:Int))) (.val (.int num)) j to row∧GT 0 (N+6*m) a b f g d0 d1 (Jm m) θ) (by simp) ⟨j,to,row,rfl,by rw [hJ0]; exact G⟩ (by
      rintro m ρ θ hm ⟨j,to,row,rfl,G⟩
      have e1:(Zq sc p da (1000*(t:Int)) (.val (.int (k:Int))) (.val (.int num)) j to row).set 8 (.val (.int (0+(m:Int))))=Zq sc p da (1000*(t:Int)) (.val (.int (k:Int))) (.val (.int num)) (.val (.int (m:Int))) to row:=by simp [Zq]
      rw [e1]
      have htv:∃tv:Nat,tv≤1∧(tv:Int)=((m:Int)+num) % 2:=⟨(((m:Int)+num) % 2).toNat,by omega,by omega⟩
      obtain ⟨tv,h1,h2⟩:=htv
      unfold Ziv at ck
      have:m=0∨m=1:=by omega
      rcases this with rfl | rfl
      · rw [hJ0] at G
        obtain ⟨row',θ',s1,s2⟩:=mid 0 tv _ _ (Jm 1) θ j to row h1 h2 (by omega) G (by
          intro z
          have:ord=false:=by rw [ho]; simp; omega
          rw [this] at ck hJ1
          simp only [Bool.false_eq_true,if_false,Bool.and_eq_true] at ck hJ1
          exact ⟨ck.1,hJ1⟩) (by
          intro z
          have:ord=true:=by rw [ho]; simp; omega
          rw [this] at ck hJ1
          simp only [if_true,Bool.and_eq_true] at ck hJ1
          exact ⟨ck.1,hJ1⟩)
        exact ⟨_,_,s1,_,_,_,rfl,s2⟩
      · rw [hJ1] at G
        obtain ⟨row',θ',s1,s2⟩:=mid 1 tv _ _ (Jm 2) θ j to row h1 h2 (by omega) G (by
          intro z
          have:ord=true:=by rw [ho]; simp; omega
          rw [this] at ck hJ2 ⊢
          simp only [if_true,Bool.and_eq_true] at ck ⊢
          refine ⟨ck.2,?_⟩
          rw [hJ2]; rfl) (by
          intro z
          have:ord=false:=by rw [ho]; simp; omega
          rw [this] at ck hJ2 ⊢
          simp only [Bool.false_eq_true,if_false,Bool.and_eq_true] at ck ⊢
          refine ⟨ck.2,?_⟩
          rw [hJ2]; rfl)
        exact ⟨_,_,s1,_,_,_,rfl,s2⟩) (by rintro m ρ θ ⟨j,to,row,rfl,G⟩; simp [Zq])
  subst hr
  rw [hJ2] at G'
  exact ⟨j',to',row',θ',h,G'⟩
theorem Zlo (rp:Rep a b f g d d' A e):Rep a b f g d d' (nrm A) e:=by
  unfold nrm
  split
  · rename_i h
    obtain ⟨w,tl,bq,mo,si,wa,tr,h1,h2,h3⟩:=rp.ex
    exact ⟨w,tl,bq,mo,si,wa,tr,h1,h2,fun z=>absurd h z⟩
  · exact rp
theorem Zpo (A:AE) (s:AS) (t:Nat):(ZaD A s t).beh=A.beh:=by
  have hd:∀B:AE,(ZbN B s).beh=B.beh:=fun B=>by unfold ZbN; split<;>rfl
  unfold ZaD
  split
  · split
    · rfl
    · split<;>rfl
  · split
    · rfl
    · split
      · rfl
      · rw [hd]
  · split
    · rfl
    · rw [hd]; split<;>rfl
theorem Zgg (t:Nat):∀(l:List AS) (A:AE),(ZbO t A l).beh=A.beh
  | [],_=>rfl
  | s::r,A=>by
    show (ZbO t (ZaD A s t) r).beh=_
    rw [Zgg t r,Zpo]
theorem Zs4 (A:AE) (t:Nat):(goA A t).2.beh=A.beh:=by
  unfold goA
  split
  · split<;>rfl
  · split
    · split
      · rfl
      · split<;>rfl
    · split
      · rfl
      · split<;>rfl
theorem ZhO (t:Nat):∀(n:Nat) (A:AE),(Zc0 t n A).2.beh=A.beh
  | 0,_=>rfl
  | n+1,A=>by
    have g:=Zs4 A t
    unfold Zc0
    split
    · rename_i A' h; rw [h] at g; exact g
    · rename_i s A' h; rw [h] at g; rw [ZhO t n A']; exact g
theorem Zkr (t:Nat):∀(n:Nat) (A:AE),ZdZ hd hp t n A=true→okA hd hp (Zc0 t n A).2=true
  | 0,_,h=>by simp [ZdZ] at h
  | n+1,A,h=>by
    simp only [ZdZ,Bool.and_eq_true] at h
    unfold Zc0
    split
    · rename_i A' q; rw [q] at h; exact h.2
    · rename_i s A' q; rw [q] at h; exact Zkr t n A' h.2
theorem ZqH (ok:Bool) (t:Nat) (J:AJ):(got ok t J).beh=J.a.beh:=by
  unfold got
  split
  · exact Zgg _ _ _
  · rfl
theorem Zez (ok:Bool) (t:Nat) (J:AJ):(trn ok t J).a.beh=J.a.beh∧(trn ok t J).b=J.b:=⟨by show (Zc0 t 6 (got ok t J)).2.beh=_; rw [ZhO,ZqH],rfl⟩
theorem Zh4 {ok:Bool} {t:Nat} {J:AJ} (h:Zhp hd hp ok t J=true):okA hd hp (trn ok t J).a=true:=by
  unfold Zhp at h
  simp only [Bool.and_eq_true] at h
  exact Zkr t 6 _ h.2
theorem Zp5 (ord ok:Bool) (t:Nat) (J:AJ):(rnd ord ok t J).a.beh=J.a.beh∧(rnd ord ok t J).b.beh=J.b.beh:=by
  unfold rnd
  split
  · refine ⟨?_,?_⟩
    · rw [(Zez _ _ _).1]; rfl
    · rw [(Zez _ _ _).2]; exact (Zez _ _ (swp J)).1
  · refine ⟨?_,?_⟩
    · show (trn ok t (swp (trn ok t J))).b.beh=_
      rw [(Zez _ _ _).2]; exact (Zez _ _ J).1
    · show (trn ok t (swp (trn ok t J))).a.beh=_
      rw [(Zez _ _ _).1]; rfl
theorem Zsk {ha hb ord ok:Bool} {t:Nat} {J:AJ} (h:Ziv ha hb ord ok t J=true):okA ha hb (rnd ord ok t J).a=true∧okA hb ha (rnd ord ok t J).b=true:=by
  unfold Ziv at h
  unfold rnd
  cases ord with
  | true=>
    simp only [if_true,Bool.and_eq_true] at h ⊢
    exact ⟨Zh4 h.2,Zh4 h.1⟩
  | false=>
    simp only [Bool.false_eq_true,if_false,Bool.and_eq_true] at h ⊢
    exact ⟨Zh4 h.1,Zh4 h.2⟩
theorem Zkb (A:AE):(nrm A).beh=A.beh∧(nrm A).una=A.una:=by
  unfold nrm
  split<;>exact ⟨rfl,rfl⟩
theorem Zhz {ha:Bool} (rp:Rep a b f g d d' A e) (l:Lst ha d) (hd:ha=false→d=[]) (hb:A.beh=1) (hu:A.una≤1):ZcM e=true∧Zf5 e d=d∧e.written.length≤64∧Rep a b f g d d' (if ha=true then { A with beh:=2 } else A) (Za0 e d):=by
  obtain ⟨w,tl,bq,mo,si,wa,tr,rfl,h2,h3⟩:=rp.ex
  have ll:=l.len
  have cw:ZcM (cE a b f g d d' A w tl bq mo si wa tr)=true:=by
    unfold ZcM
    have stt:stS A.st=.synSent∨stS A.st=.synCome∨stS A.st=.opn:=by cases A.st<;>simp [stS]
    show (!false && decide (stS A.st∈_))=true
    rcases stt with h | h | h<;>simp [h]
  have wr:(cE a b f g d d' A w tl bq mo si wa tr).written=[]:=by
    show (if A.beh=2∧A.una≤1 then d else [])=[]
    rw [if_neg (by omega)]
  have wo:Zf5 (cE a b f g d d' A w tl bq mo si wa tr) d=d:=by
    unfold Zf5
    rw [wr]
    exact ZgE (by simp; omega)
  refine ⟨cw,wo,by rw [wr]; simp,?_⟩
  unfold Za0
  rw [if_pos cw,wo,wr]
  cases ha with
  | false=>
    have d0:=hd rfl
    subst d0
    refine ⟨w,tl,bq,mo,si,wa,tr,?_,h2,h3⟩
    have:Zw (Zw f 1) 0=Zw f 1:=Zdj (Zgz _ _)
    simp [cE,hb,dc,this]
  | true=>
    refine ⟨w,tl,bq,mo,si,wa,tr,?_,h2,h3⟩
    have:Zw (Zw f 1) d.length=Zw f (1+d.length):=Zdk _ _ _
    simp [cE,hb,dc,this,hu]
theorem ZlE {l:List AJ} {J K:AJ} (h:K∈l∨K=J):K∈ins l J:=by
  unfold ins
  split
  · rename_i z
    rcases h with h | h
    · exact h
    · rw [h]; exact z
  · rcases h with h | h
    · exact List.mem_cons_of_mem _ h
    · rw [h]; exact List.mem_cons_self
theorem Zkg (F:AJ→AJ):∀(l:List AJ) (acc:List AJ) (K:AJ),(K∈acc∨∃J∈l,K=F J)→K∈l.foldl (fun acc J=>ins acc (F J)) acc
  | [],acc,K,h=>by
    rcases h with h | ⟨J,h,_⟩
    · exact h
    · simp at h
  | J::l,acc,K,h=>by
    refine Zkg F l _ K ?_
    rcases h with h | ⟨J',h,e⟩
    · exact .inl (ZlE (.inl h))
    · rcases List.mem_cons.mp h with h | h
      · left; rw [e,h]; exact ZlE (.inr rfl)
      · exact .inr ⟨J',h,e⟩
theorem ZoM {ha hb:Bool} {k:Nat} {l:List AJ} {J:AJ} (h:J∈l) {ord ok:Bool} (hok:ok=false→k≤12):(if k=12 then wrt ha hb (Zgt (rnd ord ok k J)) else Zgt (rnd ord ok k J))∈ZjX ha hb k l:=by
  unfold ZjX
  refine Zkg (fun J=>if k=12 then wrt ha hb J else J) _ _ _ (.inr ⟨Zgt (rnd ord ok k J),?_,rfl⟩)
  refine List.mem_flatMap.mpr ⟨J,h,?_⟩
  unfold Zrm
  split
  · cases ord<;>cases ok<;>simp
  · rename_i z
    have:ok=true:=by cases ok; exact absurd (hok rfl) z; rfl
    subst this
    cases ord<;>simp
theorem ZpJ {N:Nat} {J:AJ} {θ:Sto} {ha hb:Bool} {d0 d1:List Int} {now:Int} (l:Lst ha d0) (l':Lst hb d1) (n0:ha=false→d0=[]) (n1:hb=false→d1=[]) (G:GT 0 N a b f g d0 d1 J θ) (b0:J.a.beh=1∧J.a.una≤1) (b1:J.b.beh=1∧J.b.una≤1) (kk nn j to row:Sl) :
    ∃j' θ',Zh2 (Zq sc p (.lst [il d0,il d1]) now kk nn j to row) θ=.ok (.nx,Zq sc p (.lst [il d0,il d1]) now kk nn j' to row) θ'∧GT 0 N a b f g d0 d1 (wrt ha hb J) θ':=by
  obtain ⟨e,e',x,x',r,i,i',h2,h3,h4,h5,h6,h7,h8,h9⟩:=G
  subst h2
  obtain ⟨w1,w2,w3,w4⟩:=Zhz h4 l n0 b0.1 b0.2
  obtain ⟨v1,v2,v3,v4⟩:=Zhz h5 l' n1 b1.1 b1.2
  have k1:=ZnU (to:=0) (e:=e) (e':=e') (r:=r) (w:=d0) (by omega) w3
  have k2:=ZnU (to:=1) (e:=e') (e':=Za0 e d0) (r:=r) (w:=d1) (by omega) v3
  rw [if_pos w1,w2] at k1
  rw [if_pos v1,v2,←ZdT (to:=0) (by omega)] at k2
  have sw:Sx 1 (Za0 e' d1) (Za0 e d0) r=Sx 0 (Za0 e d0) (Za0 e' d1) r:=(ZdT (to:=0) (by omega)).symm
  rw [sw] at k2
  simp only [Nat.mul_zero,Nat.mul_one] at k1 k2
  obtain ⟨ρ',θ',h,j',hr,ht⟩:=for_rng (fi:=ZbY (Zc (mC (.int 2)) Zk)) (body:=ZeJ) (k:=8) (ρ:=Zq sc p (.lst [il d0,il d1]) now kk nn j to row) (θ:=Sx 0 e e' r) (lo:=0) (n:=2)
    (fun m ρ θ=>∃j,ρ=Zq sc p (.lst [il d0,il d1]) now kk nn j to row∧θ=Sx 0 (if 1≤m then Za0 e d0 else e) (if 2≤m then Za0 e' d1 else e') r) (by simp) ⟨j,rfl,rfl⟩ (by
      rintro m ρ θ hm ⟨j,rfl,rfl⟩
      have:m=0∨m=1:=by omega
      have ix:∀θ,ixM (.lst [il d0,il d1]) (.int 0) θ=.ok (il d0) θ∧ixM (.lst [il d0,il d1]) (.int 1) θ=.ok (il d1) θ∧ixM (.lst [.ref 0,.ref 4]) (.int 0) θ=.ok (.ref 0) θ∧ixM (.lst [.ref 0,.ref 4]) (.int 1) θ=.ok (.ref 4) θ:=fun θ=>⟨rfl,rfl,rfl,rfl⟩
      rcases this with rfl | rfl
      · refine ⟨Zq sc p (.lst [il d0,il d1]) now kk nn (.val (.int 0)) to row,Sx 0 (Za0 e d0) e' r,?_,_,rfl,rfl⟩
        simp [Zq,ZeJ,(ix _).1,(ix _).2.2.1,k1]
      · refine ⟨Zq sc p (.lst [il d0,il d1]) now kk nn (.val (.int 1)) to row,Sx 0 (Za0 e d0) (Za0 e' d1) r,?_,_,rfl,rfl⟩
        simp [Zq,ZeJ,(ix _).2.1,(ix _).2.2.2,k2]) (by rintro m ρ θ ⟨j,rfl,G⟩; simp [Zq])
  subst hr ht
  refine ⟨j',_,h,Za0 e d0,Za0 e' d1,x,x',r,i,i',rfl,h3,?_,?_,h6,h7,h8,h9⟩
  · unfold wrt; exact w4
  · unfold wrt; exact v4
theorem ZsW {ns:List Int} {θ:Sto} {ha hb:Bool} {d0 d1:List Int} (ra:0≤a∧a≤65535) (rb:0≤b∧b≤65535) (rf:0≤f∧f≤4294967295) (rg:0≤g∧g≤4294967295) (l:Lst ha d0) (l':Lst hb d1) (hb0:BytL d0) (hb1:BytL d1) (n0:ha=false→d0=[]) (n1:hb=false→d1=[]) (G:GT 0 2 a b f g d0 d1 J0 θ) :
    ∃now k num j to row θ' J,Zh1 (Zq (.scr ns) p (.lst [il d0,il d1]) 0 .no .no .no .no .no) θ=.ok (.nx,Zq (.scr ns) p (.lst [il d0,il d1]) now k num j to row) θ'∧GT 0 400 a b f g d0 d1 J θ'∧J.a.st=.op∧J.b.st=.op∧(J.a.rcv=2∨hb=false)∧(J.b.rcv=2∨ha=false):=by
  obtain ⟨ρ',θ',h,k,num,j,to,row,J,L,hr,G',hJ,hg,_⟩:=for_rng (fi:=ZbY (Zc (mC (.int 32)) Zk)) (body:=Zv (zc 7 (mCB Zbn (Zc (Zd 0) (Zc (mOp zx (mC (.int 6)) (Zd 6)) Zk)))) (Zv ZeK (Zv (zc 5 (mOp zx (Zd 5) (mC (.int 1000)))) ZcA))) (k:=6) (ρ:=Zq (.scr ns) p (.lst [il d0,il d1]) 0 .no .no .no .no .no) (θ:=θ) (lo:=0) (n:=32)
    (fun m ρ θ=>∃k num j to row J L,ρ=Zq (.scr ns) p (.lst [il d0,il d1]) (1000*(m:Int)) k num j to row∧GT 0 (2+12*m) a b f g d0 d1 J θ∧J∈L∧ZeT ha hb (32-m) m L=true∧(m≤12→J.a.beh=1∧J.b.beh=1)) (by simp) ⟨_,_,_,_,_,J0,[J0],rfl,G,by simp,Zo6 ha hb,fun _=>⟨rfl,rfl⟩⟩ (by
      rintro m ρ θ hm ⟨k,num,j,to,row,J,L,rfl,G,hJ,hg,hbe⟩
      have e1:(Zq (.scr ns) p (.lst [il d0,il d1]) (1000*(m:Int)) k num j to row).set 6 (.val (.int (0+(m:Int))))=Zq (.scr ns) p (.lst [il d0,il d1]) (1000*(m:Int)) (.val (.int (m:Int))) num j to row:=by simp [Zq]
      rw [e1]
      obtain ⟨nm,hnm⟩:∃q,q=mix ns (6+(m:Int)):=⟨_,rfl⟩
      have s1:zc 7 (mCB Zbn (Zc (Zd 0) (Zc (mOp zx (mC (.int 6)) (Zd 6)) Zk))) (Zq (.scr ns) p (.lst [il d0,il d1]) (1000*(m:Int)) (.val (.int (m:Int))) num j to row) θ=.ok (.nx,Zq (.scr ns) p (.lst [il d0,il d1]) (1000*(m:Int)) (.val (.int (m:Int))) (.val (.int nm)) j to row) θ:=by
        simp [Zq,hnm]
      have e32:32-m=(31-m)+1:=by omega
      rw [e32] at hg
      simp only [ZeT,Bool.and_eq_true] at hg
      obtain ⟨cl,hg⟩:=hg
      obtain ⟨ok,hok⟩:∃q,q=(decide (0<nm/2 % 5) || decide (12<m)):=⟨_,rfl⟩
      obtain ⟨ord,hord⟩:∃q,q=decide (nm % 2=1):=⟨_,rfl⟩
      have k12:ok=false→m≤12:=by
        intro z
        rw [z] at hok
        simp at hok
        omega
      have ck:Ziv ha hb ord ok m J=true:=by
        unfold ZuP at cl
        have:=List.all_eq_true.mp cl J hJ
        simp only [Bool.and_eq_true,Bool.or_eq_true,decide_eq_true_eq] at this
        obtain ⟨⟨q1,q2⟩,q3⟩:=this
        cases ok with
        | true=>cases ord<;>assumption
        | false=>
          have:=q3.resolve_left (by have:=k12 rfl; omega)
          cases ord
          · exact this.1
          · exact this.2
      obtain ⟨j2,to2,row2,θ2,s2,G2⟩:=Zp4 (t:=m) (k:=m) (sc:=.scr ns) (p:=p) (da:=.lst [il d0,il d1]) ra rb rf rg l l' hb0 hb1 ok hok ord hord G ck (by omega) j to row
      have s3:zc 5 (mOp zx (Zd 5) (mC (.int 1000))) (Zq (.scr ns) p (.lst [il d0,il d1]) (1000*(m:Int)) (.val (.int (m:Int))) (.val (.int nm)) j2 to2 row2) θ2=.ok (.nx,Zq (.scr ns) p (.lst [il d0,il d1]) (1000*((m+1:Nat):Int)) (.val (.int (m:Int))) (.val (.int nm)) j2 to2 row2) θ2:=by
        have:1000*(m:Int)+1000=1000*((m+1:Nat):Int):=by omega
        simp [Zq,this]
      have G3:GT 0 (2+12*(m+1)) a b f g d0 d1 (Zgt (rnd ord ok m J)) θ2:=by
        obtain ⟨e,e',x,x',r,i,i',q1,q2,q3,q4,q5,q6,q7,q8⟩:=G2
        exact ⟨e,e',x,x',r,i,i',q1,q2,Zlo q3,Zlo q4,q5,q6,by omega,by omega⟩
      have mem:=ZoM (ha:=ha) (hb:=hb) hJ (ord:=ord) k12
      have bb:=Zp5 ord ok m J
      have n1':=Zkb (rnd ord ok m J).a
      have n2':=Zkb (rnd ord ok m J).b
      by_cases z:m=12
      · have be:=hbe (by omega)
        have ro:=Zsk ck
        have c1:=Cod.of ro.1
        have c2:=Cod.of ro.2
        have u1:(rnd ord ok m J).a.una≤1:=by have:=c1.una; have:=c1.nxt; rw [bb.1,be.1] at this; omega
        have u2:(rnd ord ok m J).b.una≤1:=by have:=c2.una; have:=c2.nxt; rw [bb.2,be.2] at this; omega
        obtain ⟨j3,θ3,s4,G4⟩:=ZpJ (sc:=.scr ns) (p:=p) (now:=1000*((m+1:Nat):Int)) l l' n0 n1 G3 (by show (nrm _).beh=1∧(nrm _).una≤1; rw [n1'.1,n1'.2,bb.1]; exact ⟨be.1,u1⟩) (by show (nrm _).beh=1∧(nrm _).una≤1; rw [n2'.1,n2'.2,bb.2]; exact ⟨be.2,u2⟩) (.val (.int (m:Int))) (.val (.int nm)) j2 to2 row2
        have s5:ZcA (Zq (.scr ns) p (.lst [il d0,il d1]) (1000*((m+1:Nat):Int)) (.val (.int (m:Int))) (.val (.int nm)) j2 to2 row2) θ2=.ok (.nx,Zq (.scr ns) p (.lst [il d0,il d1]) (1000*((m+1:Nat):Int)) (.val (.int (m:Int))) (.val (.int nm)) j3 to2 row2) θ3:=by
          unfold ZcA
          have tt:ZI (mOp eqM (Zd 6) (mC (.int 12))) (Zq (.scr ns) p (.lst [il d0,il d1]) (1000*((m+1:Nat):Int)) (.val (.int (m:Int))) (.val (.int nm)) j2 to2 row2) θ2=.ok true θ2:=by
            subst z; simp [Zq]
          rw [ZpI,tt,R.bind_ok,if_pos rfl]
          exact s4
        refine ⟨_,θ3,?_,.val (.int (m:Int)),.val (.int nm),j3,to2,row2,wrt ha hb (Zgt (rnd ord ok m J)),ZjX ha hb m L,rfl,G4,by rw [if_pos z] at mem; exact mem,?_,fun q=>by omega⟩
        · simp only [Zhs,s1,s2,s3,s5,Zdf]
        · rw [show 32-(m+1)=31-m by omega]; exact hg
      · have s5:ZcA (Zq (.scr ns) p (.lst [il d0,il d1]) (1000*((m+1:Nat):Int)) (.val (.int (m:Int))) (.val (.int nm)) j2 to2 row2) θ2=.ok (.nx,Zq (.scr ns) p (.lst [il d0,il d1]) (1000*((m+1:Nat):Int)) (.val (.int (m:Int))) (.val (.int nm)) j2 to2 row2) θ2:=by
          unfold ZcA
          have tt:ZI (mOp eqM (Zd 6) (mC (.int 12))) (Zq (.scr ns) p (.lst [il d0,il d1]) (1000*((m+1:Nat):Int)) (.val (.int (m:Int))) (.val (.int nm)) j2 to2 row2) θ2=.ok false θ2:=by
            have:¬(m:Int)=12:=by omega
            simp [Zq,this]
          rw [ZpI,tt,R.bind_ok]
          rfl
        refine ⟨_,θ2,?_,.val (.int (m:Int)),.val (.int nm),j2,to2,row2,Zgt (rnd ord ok m J),ZjX ha hb m L,rfl,G3,by rw [if_neg z] at mem; exact mem,?_,fun q=>?_⟩
        · simp only [Zhs,s1,s2,s3,s5,Zdf]
        · rw [show 32-(m+1)=31-m by omega]; exact hg
        · have be:=hbe (by omega)
          show (nrm _).beh=1∧(nrm _).beh=1
          rw [n1'.1,n2'.1,bb.1,bb.2]
          exact be) (by rintro m ρ θ ⟨k,num,j,to,row,J,L,rfl,_⟩; simp [Zq])
  subst hr
  refine ⟨_,k,num,j,to,row,θ',J,h,?_,?_⟩
  · obtain ⟨e,e',x,x',r,i,i',q1,q2,q3,q4,q5,q6,q7,q8⟩:=G'
    exact ⟨e,e',x,x',r,i,i',q1,q2,q3,q4,q5,q6,by omega,by omega⟩
  · have:ZeT ha hb 0 32 L=true:=hg
    unfold ZeT at this
    have:=List.all_eq_true.mp this J hJ
    simp only [Bool.and_eq_true,Bool.or_eq_true,decide_eq_true_eq] at this
    obtain ⟨⟨⟨q1,q2⟩,q3⟩,q4⟩:=this
    exact ⟨q1,q2,q3.imp id (by simp),q4.imp id (by simp)⟩
theorem Zrz (rf:0≤f∧f≤4294967295):∃e1,going (Ze1 a b f true) 0=(some (cS b a g f d d'.length ⟨0,0,0⟩ 64),e1)∧Rep a b f g d d' fresh e1:=by
  refine ⟨_,Prod.ext ?_ rfl,0,0,0,12,0,1000,0,?_,fun z=>absurd rfl z,fun _=>⟨rfl,rfl,rfl⟩⟩
  · simp [going,Ze1,Zah,zb,Zc9,Za8,zi,cS]
  · have:Zw f 0=f:=Zdj rf
    simp [going,Ze1,Zah,zb,Zc9,Za8,zi,cE,fresh,dc,stS,gr,this]
theorem Rep.opened (rp:Rep a b f g d d' A e) (h:A.st=.op) (hr:A.rcv=2∨d'=[]):e.state=.opn∧e.come=d':=by
  obtain ⟨w,tl,bq,mo,si,wa,tr,rfl,_,_⟩:=rp.ex
  refine ⟨by show stS A.st=_; rw [h]; rfl,?_⟩
  show (if A.rcv=2 then d' else [])=d'
  rcases hr with h | h
  · rw [if_pos h]
  · rw [h]; split<;>rfl
end
theorem law_true (ns:List Int) (hn:ns.length≤63):∃θ',ZlJ [.scr ns] []=.ok (.bl true) θ':=by
  obtain ⟨a,ha⟩:∃x,x=mix ns 0 % 65536:=⟨_,rfl⟩
  obtain ⟨b,hb⟩:∃x,x=mix ns 1 % 65536:=⟨_,rfl⟩
  obtain ⟨f,hf⟩:∃x,x=ZdL (mix ns 2):=⟨_,rfl⟩
  obtain ⟨g,hg⟩:∃x,x=ZdL (mix ns 3):=⟨_,rfl⟩
  have ra:0≤a∧a≤65535:=by omega
  have rb:0≤b∧b≤65535:=by omega
  have rf:0≤f∧f≤4294967295:=by rw [hf]; exact Zkt (by have:=ZoL ns 2; omega)
  have rg:0≤g∧g≤4294967295:=by rw [hg]; exact Zkt (by have:=ZoL ns 3; omega)
  obtain ⟨D0,hD0⟩:∃D0:Int→List Int,D0=fun (j:Int)=>(List.range (mix ns (4+j) % 9).toNat).map fun (k:Nat)=>mix ns (30+(k:Int)) % 256:=⟨_,rfl⟩
  have dl:∀j,(D0 j).length≤8:=fun j=>by rw [hD0]; simp; omega
  have db:∀j,BytL (D0 j):=fun j=>by
    rw [hD0]
    intro z hz
    obtain ⟨q,_,rfl⟩:=List.mem_map.mp hz
    omega
  have l0:Lst (decide (0<(D0 0).length)) (D0 0):=⟨dl 0,fun z=>by simpa using z⟩
  have l1:Lst (decide (0<(D0 1).length)) (D0 1):=⟨dl 1,fun z=>by simpa using z⟩
  have z0:∀j,decide (0<(D0 j).length)=false→D0 j=[]:=fun j z=>by
    have h:¬0<(D0 j).length:=of_decide_eq_false z
    exact List.eq_nil_of_length_eq_zero (by omega)
  obtain ⟨n0,hn0⟩:∃q,q=Ze1 a b f true:=⟨_,rfl⟩
  obtain ⟨n1,hn1⟩:∃q,q=Ze1 b a g true:=⟨_,rfl⟩
  obtain ⟨e0,g0,p0⟩:=Zrz (a:=a) (b:=b) (g:=g) (d:=D0 0) (d':=D0 1) rf
  obtain ⟨e1,g1,p1⟩:=Zrz (a:=b) (b:=a) (g:=f) (d:=D0 1) (d':=D0 0) rg
  rw [←hn0] at g0
  rw [←hn1] at g1
  obtain ⟨s0,hs0⟩:∃q,q=cS b a g f (D0 0) (D0 1).length ⟨0,0,0⟩ 64:=⟨_,rfl⟩
  obtain ⟨s1,hs1⟩:∃q,q=cS a b f g (D0 1) (D0 0).length ⟨0,0,0⟩ 64:=⟨_,rfl⟩
  rw [←hs0] at g0
  rw [←hs1] at g1
  have k0:s0.Ok:=by rw [hs0]; exact ZlX rb ra rf (db 0) (dl 0) (by omega)
  have k1:s1.Ok:=by rw [hs1]; exact ZlX ra rb rg (db 1) (dl 1) (by omega)
  have sd1:=Zln (to:=1) (e:=n1) (e':=n0) (r:=[]) (now:=0) (by omega) (by rw [g1]; intro s hs; cases hs; exact k1)
  have sd0:=Zln (to:=0) (e:=n0) (e':=e1) (r:=[Cell.lst [Zay s1]]) (now:=0) (by omega) (by rw [g0]; intro s hs; cases hs; exact k0)
  have r1:ZaV n1 0=putL s1:=by unfold ZaV; rw [g1]
  have r0:ZaV n0 0=putL s0:=by unfold ZaV; rw [g0]
  rw [r1,g1] at sd1
  rw [r0,g0] at sd0
  simp only [Nat.mul_zero,Nat.mul_one] at sd0 sd1
  have o1:=ZjO (a:=a) (b:=b) (c:=f) (act:=true) []
  have o2:=ZjO (a:=b) (b:=a) (c:=g) (act:=true) (cells 0 n0)
  have c4:(cells 0 n0).length=4:=rfl
  simp only [List.length_nil,List.nil_append,←hn0] at o1
  rw [c4,←hn1] at o2
  have ee:cells 0 n0++cells 4 n1=Sx 1 n1 n0 []:=rfl
  rw [ee] at o2
  have t1:zc 1 (Zb8 (Zc (mOp Zbm (mCB Zbn (Zc (Zd 0) (Zc (mC (.int 0)) Zk))) (mC (.int 65536))) (Zc (mOp Zbm (mCB Zbn (Zc (Zd 0) (Zc (mC (.int 1)) Zk))) (mC (.int 65536))) Zk))) [.val (.scr ns),.no,.no,.no,.no,.no,.no,.no,.no,.no,.no] []=.ok (.nx,[.val (.scr ns),.val (.tup [.int a,.int b]),.no,.no,.no,.no,.no,.no,.no,.no,.no]) []:=by
    simp [←ha,←hb]
  have t2:zc 2 (ZeN (Zc (mCB Zci (Zc (mOp ixM (Zd 1) (mC (.int 0))) (Zc (mOp ixM (Zd 1) (mC (.int 1))) (Zc (mCB ZcY (Zc (mCB Zbn (Zc (Zd 0) (Zc (mC (.int 2)) Zk))) Zk)) (Zc (mC (.bl true)) Zk))))) (Zc (mCB Zci (Zc (mOp ixM (Zd 1) (mC (.int 1))) (Zc (mOp ixM (Zd 1) (mC (.int 0))) (Zc (mCB ZcY (Zc (mCB Zbn (Zc (Zd 0) (Zc (mC (.int 3)) Zk))) Zk)) (Zc (mC (.bl true)) Zk))))) Zk))) [.val (.scr ns),.val (.tup [.int a,.int b]),.no,.no,.no,.no,.no,.no,.no,.no,.no] []=.ok (.nx,[.val (.scr ns),.val (.tup [.int a,.int b]),.val (.lst [.ref 0,.ref 4]),.no,.no,.no,.no,.no,.no,.no,.no]) (Sx 1 n1 n0 []):=by
    simp [←hf,←hg,o1,o2]
  have sw1:Sx 1 e1 n0 []++[Cell.lst [Zay s1]]=Sx 0 n0 e1 [Cell.lst [Zay s1]]:=rfl
  have sw2:Sx 0 e0 e1 [Cell.lst [Zay s1]]++[Cell.lst [Zay s0]]=Sx 0 e0 e1 [Cell.lst [Zay s1],Cell.lst [Zay s0]]:=rfl
  have sw3:Sx 0 e0 e1 [Cell.lst [Zay s1],Cell.lst [Zay s0]]++[Cell.lst [.ref 8,.ref 9]]=Sx 0 e0 e1 [Cell.lst [Zay s1],Cell.lst [Zay s0],Cell.lst [.ref 8,.ref 9]]:=rfl
  have le1:(Sx 1 e1 n0 []).length=8:=rfl
  have le2:(Sx 0 e0 e1 [Cell.lst [Zay s1]]).length=9:=rfl
  have le3:(Sx 0 e0 e1 [Cell.lst [Zay s1],Cell.lst [Zay s0]]).length=10:=rfl
  have ix:∀θ,ixM (.lst [.ref 0,.ref 4]) (.int 0) θ=.ok (.ref 0) θ∧ixM (.lst [.ref 0,.ref 4]) (.int 1) θ=.ok (.ref 4) θ:=fun θ=>⟨rfl,rfl⟩
  have t3:zc 3 (Zdq (Zc (Zdq (Zc (mCB Zbs (Zc (mOp ixM (Zd 2) (mC (.int 1))) (Zc (mC (.int 0)) Zk))) Zk)) (Zc (Zdq (Zc (mCB Zbs (Zc (mOp ixM (Zd 2) (mC (.int 0))) (Zc (mC (.int 0)) Zk))) Zk)) Zk))) [.val (.scr ns),.val (.tup [.int a,.int b]),.val (.lst [.ref 0,.ref 4]),.no,.no,.no,.no,.no,.no,.no,.no] (Sx 1 n1 n0 [])=.ok (.nx,[.val (.scr ns),.val (.tup [.int a,.int b]),.val (.lst [.ref 0,.ref 4]),.val (.ref 10),.no,.no,.no,.no,.no,.no,.no]) (Sx 0 e0 e1 [Cell.lst [Zay s1],Cell.lst [Zay s0],Cell.lst [.ref 8,.ref 9]]):=by
    simp [Zdq,(ix _).1,(ix _).2,sd0,sd1,sw1,sw2,sw3,le1,le2,le3,Zk9]
  have t4:∀θ,zc 4 (Zef (ZbY (Zc (mC (.int 2)) Zk)) [0] (Zef (ZbY (Zc (mOp Zbm (mCB Zbn (Zc (Zd 1) (Zc (mOp zx (mC (.int 4)) (Zd 0)) Zk))) (mC (.int 9))) Zk)) [1] (mOp Zbm (mCB Zbn (Zc (Zd 1) (Zc (mOp zx (mC (.int 30)) (Zd 0)) Zk))) (mC (.int 256))))) [.val (.scr ns),.val (.tup [.int a,.int b]),.val (.lst [.ref 0,.ref 4]),.val (.ref 10),.no,.no,.no,.no,.no,.no,.no] θ=.ok (.nx,[.val (.scr ns),.val (.tup [.int a,.int b]),.val (.lst [.ref 0,.ref 4]),.val (.ref 10),.val (.lst [il (D0 0),il (D0 1)]),.no,.no,.no,.no,.no,.no]) θ:=by
    intro θ
    have:=ZhK (ρ:=[.val (.scr ns),.val (.tup [.int a,.int b]),.val (.lst [.ref 0,.ref 4]),.val (.ref 10),.no,.no,.no,.no,.no,.no,.no]) (θ:=θ) (fi:=ZbY (Zc (mC (.int 2)) Zk)) (src:=[0]) (elt:=Zef (ZbY (Zc (mOp Zbm (mCB Zbn (Zc (Zd 1) (Zc (mOp zx (mC (.int 4)) (Zd 0)) Zk))) (mC (.int 9))) Zk)) [1] (mOp Zbm (mCB Zbn (Zc (Zd 1) (Zc (mOp zx (mC (.int 30)) (Zd 0)) Zk))) (mC (.int 256)))) (lo:=0) (n:=2) (θ':=θ) (fun j=>il (D0 j)) (by simp) (by simp [Zk9]) (by
      intro m hm
      rw [hD0]
      exact Zpm (j:=mix ns (4+(0+(m:Int))) % 9) (fun k=>mix ns (30+(k:Int)) % 256) (by simp [ZdW]) (by omega) (by omega) (by intro k hk; simp [ZdW]))
    rw [Zra,this]
    rfl
  obtain ⟨now,k,num,j,to,row,θ',J,lp,G,j1,j2,j3,j4⟩:=ZsW (ns:=ns) (p:=.tup [.int a,.int b]) ra rb rf rg l0 l1 (db 0) (db 1) (z0 0) (z0 1) (θ:=Sx 0 e0 e1 [Cell.lst [Zay s1],Cell.lst [Zay s0],Cell.lst [.ref 8,.ref 9]]) ⟨e0,e1,[s1],[s0],_,0,1,rfl,⟨rfl,rfl,rfl,by omega⟩,p0,p1,⟨⟨64,by omega,by omega,hs1⟩,trivial⟩,⟨⟨64,by omega,by omega,hs0⟩,trivial⟩,by simp,by simp⟩
  obtain ⟨E0,E1,x,x',r,i,i',q1,q2,q3,q4,q5,q6,q7,q8⟩:=G
  subst q1
  obtain ⟨f0,f1⟩:=q3.opened j1 (j3.imp id (z0 1))
  obtain ⟨f2,f3⟩:=q4.opened j2 (j4.imp id (z0 0))
  have sx0:=Zoa (to:=0) (e:=E0) (e':=E1) (r:=r) (by omega)
  have sx1:=Zoa (to:=1) (e:=E1) (e':=E0) (r:=r) (by omega)
  rw [←ZdT (to:=0) (by omega)] at sx1
  have rd0:=Zrq (to:=0) (e:=E0) (e':=E1) (r:=r) (n:=99) (by omega)
  have rd1:=Zrq (to:=1) (e:=E1) (e':=ZhA E0 99) (r:=r) (n:=99) (by omega)
  rw [←ZdT (to:=0) (by omega)] at rd1
  rw [f0] at sx0
  rw [f2] at sx1
  have tk:∀j,(D0 j).take (99:Int).toNat=D0 j:=fun j=>List.take_of_length_le (by have:=dl j; simp; omega)
  rw [f1,tk] at rd0
  rw [f3,tk] at rd1
  simp only [Nat.mul_zero,Nat.mul_one] at sx0 sx1 rd0 rd1
  have ixd:∀θ,ixM (.lst [il (D0 0),il (D0 1)]) (.int 0) θ=.ok (il (D0 0)) θ∧ixM (.lst [il (D0 0),il (D0 1)]) (.int 1) θ=.ok (il (D0 1)) θ:=fun θ=>⟨rfl,rfl⟩
  have t5:∀θ,zc 5 (mC (.int 0)) [.val (.scr ns),.val (.tup [.int a,.int b]),.val (.lst [.ref 0,.ref 4]),.val (.ref 10),.val (.lst [il (D0 0),il (D0 1)]),.no,.no,.no,.no,.no,.no] θ=.ok (.nx,[.val (.scr ns),.val (.tup [.int a,.int b]),.val (.lst [.ref 0,.ref 4]),.val (.ref 10),.val (.lst [il (D0 0),il (D0 1)]),.val (.int 0),.no,.no,.no,.no,.no]) θ:=fun θ=>rfl
  refine ⟨Sx 1 (ZhA E1 99) (ZhA E0 99) r,?_⟩
  unfold Zq at lp
  simp [ZlJ,Zl1,t1,t2,t3,t4,t5,lp,Zh0,(ix _).1,(ix _).2,(ixd _).1,(ixd _).2,sx0,sx1,rd0,rd1,-Zra]
end
def top (i:Nat):Stmt:=PySem.Challenge.pw_wirestream_k14_both_at_once.main.body.getD i (.Pass ⟨0,0,0,0⟩)
abbrev zs0:Stmt:=ZlO (top 2) 0
abbrev zs1:Stmt:=top 3
abbrev zs2:Stmt:=top 4
abbrev zs3:Stmt:=top 5
abbrev zs4:Stmt:=top 9
abbrev zs5:Stmt:=top 10
abbrev zs6:Stmt:=top 11
abbrev zs7:Stmt:=ZlO (top 30) 0
abbrev zs8:Stmt:=top 31
abbrev zs9:Stmt:=top 32
abbrev ZjK:Stmt:=top 33
abbrev ZjJ:Stmt:=top 34
abbrev ZjI:Stmt:=top 41
abbrev ZjH:Stmt:=top 42
abbrev ZjG:Stmt:=top 63
abbrev ZjF:Stmt:=top 64
abbrev ZjE:Stmt:=top 65
abbrev ZjD:Stmt:=top 66
abbrev ZjC:Stmt:=top 67
abbrev ZjB:Stmt:=top 68
abbrev ZjA:Stmt:=top 69
abbrev Zjz:Stmt:=top 70
abbrev Zjy:Stmt:=top 71
abbrev Zjx:Stmt:=top 72
abbrev Zjw:Stmt:=top 73
abbrev Zjv:Stmt:=top 74
abbrev Zju:Stmt:=top 75
abbrev Zjt:Stmt:=top 76
abbrev Zjs:Stmt:=top 77
abbrev Zjr:Stmt:=top 79
abbrev Zjq:Stmt:=top 80
abbrev Zjp:Stmt:=top 81
abbrev Zjo:Stmt:=top 82
abbrev Zjn:Stmt:=top 83
abbrev Zjm:Stmt:=top 84
abbrev Zjl:Stmt:=top 85
abbrev Zjk:Stmt:=top 86
abbrev Zjj:Stmt:=top 87
abbrev Zji:Stmt:=top 89
abbrev Zjh:Stmt:=top 90
abbrev Zjg:Stmt:=top 91
abbrev Zjf:Stmt:=top 92
abbrev Zje:Stmt:=top 93
abbrev Zjd:Stmt:=top 94
abbrev Zjc:Stmt:=top 95
abbrev Zjb:Stmt:=top 96
abbrev Zja:Stmt:=top 97
abbrev Zi9:Stmt:=top 98
abbrev Zi8:Stmt:=top 99
abbrev Zi7:Stmt:=top 100
abbrev Zi6:Stmt:=top 101
abbrev Zi5:Stmt:=top 102
abbrev Zi4:Stmt:=top 103
abbrev Zi3:Stmt:=top 104
abbrev Zi2:Stmt:=top 105
abbrev Zi1:Stmt:=top 106
abbrev Zi0:Stmt:=top 108
abbrev ZiZ:Stmt:=top 109
abbrev ZiY:Stmt:=top 110
abbrev ZiX:Stmt:=top 115
abbrev ZiW:Stmt:=top 116
abbrev ZiV:Stmt:=top 117
abbrev ZiU:Stmt:=top 118
abbrev ZiT:Stmt:=top 119
abbrev ZiS:Stmt:=top 120
abbrev ZiR:Stmt:=top 121
abbrev ZiQ:Stmt:=top 122
abbrev ZiP:Stmt:=top 123
abbrev ZiO:Stmt:=top 124
abbrev ZiN:Stmt:=top 125
abbrev ZiM:Stmt:=top 126
abbrev ZiL:Stmt:=top 127
abbrev ZiK:Stmt:=top 128
abbrev ZiJ:Stmt:=top 129
abbrev ZiI:Stmt:=top 130
abbrev ZiH:Stmt:=top 131
abbrev ZiG:Stmt:=top 132
abbrev ZiF:Stmt:=top 133
abbrev ZiE:Stmt:=top 135
abbrev ZiD:Stmt:=top 136
abbrev ZiC:Stmt:=top 145
abbrev Zfa:Stmt:=top 149
abbrev zP0:List Str:=["self"]
theorem zc0:Zr ["self"] zP0 (Ze zs0):=⟨rfl,rfl,rfl,by decide +kernel,rfl,by decide +kernel,by decide +kernel⟩
abbrev zP1:List Str:=["pile"]
theorem zc1:Zr ["pile"] zP1 (Ze zs1):=⟨rfl,rfl,rfl,by decide +kernel,rfl,by decide +kernel,by decide +kernel⟩
abbrev zP2:List Str:=["pile","row"]
theorem zc2:Zr ["pile","row","laid"] zP2 (Ze zs2):=⟨rfl,rfl,rfl,by decide +kernel,rfl,by decide +kernel,by decide +kernel⟩
abbrev zP3:List Str:=["pile","many"]
theorem zc3:Zr ["pile","many","size","taken"] zP3 (Ze zs3):=⟨rfl,rfl,rfl,by decide +kernel,rfl,by decide +kernel,by decide +kernel⟩
abbrev zP4:List Str:=["number","step"]
theorem zc4:Zr ["number","step"] zP4 (Ze zs4):=⟨rfl,rfl,rfl,by decide +kernel,rfl,by decide +kernel,by decide +kernel⟩
abbrev zP5:List Str:=["number","base"]
theorem zc5:Zr ["number","base"] zP5 (Ze zs5):=⟨rfl,rfl,rfl,by decide +kernel,rfl,by decide +kernel,by decide +kernel⟩
abbrev zP6:List Str:=["number","base"]
theorem zc6:Zr ["number","base"] zP6 (Ze zs6):=⟨rfl,rfl,rfl,by decide +kernel,rfl,by decide +kernel,by decide +kernel⟩
abbrev zP7:List Str:=["self","ours","theirs","first","active"]
theorem zc7:Zr ["self","ours","theirs","first","active"] zP7 (Ze zs7):=⟨rfl,rfl,rfl,by decide +kernel,rfl,by decide +kernel,by decide +kernel⟩
abbrev zP8:List Str:=["end","now"]
theorem zc8:Zr ["end","now"] zP8 (Ze zs8):=⟨rfl,rfl,rfl,by decide +kernel,rfl,by decide +kernel,by decide +kernel⟩
abbrev zP9:List Str:=["end"]
theorem zc9:Zr ["end"] zP9 (Ze zs9):=⟨rfl,rfl,rfl,by decide +kernel,rfl,by decide +kernel,by decide +kernel⟩
abbrev ZnR:List Str:=["end"]
theorem zc10:Zr ["end"] ZnR (Ze ZjK):=⟨rfl,rfl,rfl,by decide +kernel,rfl,by decide +kernel,by decide +kernel⟩
abbrev ZnQ:List Str:=["end"]
theorem zc11:Zr ["end"] ZnQ (Ze ZjJ):=⟨rfl,rfl,rfl,by decide +kernel,rfl,by decide +kernel,by decide +kernel⟩
abbrev ZnP:List Str:=["row"]
theorem zc12:Zr ["row","total"] ZnP (Ze ZjI):=⟨rfl,rfl,rfl,by decide +kernel,rfl,by decide +kernel,by decide +kernel⟩
abbrev ZnO:List Str:=["row"]
theorem zc13:Zr ["row"] ZnO (Ze ZjH):=⟨rfl,rfl,rfl,by decide +kernel,rfl,by decide +kernel,by decide +kernel⟩
abbrev ZnN:List Str:=["segment"]
theorem zc14:Zr ["segment","flags"] ZnN (Ze ZjG):=⟨rfl,rfl,rfl,by decide +kernel,rfl,by decide +kernel,by decide +kernel⟩
abbrev ZnM:List Str:=["flags","flag"]
theorem zc15:Zr ["flags","flag"] ZnM (Ze ZjF):=⟨rfl,rfl,rfl,by decide +kernel,rfl,by decide +kernel,by decide +kernel⟩
abbrev ZnL:List Str:=["segment","flag"]
theorem zc16:Zr ["segment","flag"] ZnL (Ze ZjE):=⟨rfl,rfl,rfl,by decide +kernel,rfl,by decide +kernel,by decide +kernel⟩
abbrev ZnK:List Str:=["segment"]
theorem zc17:Zr ["segment","ahead","behind"] ZnK (Ze ZjD):=⟨rfl,rfl,rfl,by decide +kernel,rfl,by decide +kernel,by decide +kernel⟩
abbrev ZnJ:List Str:=["segment"]
theorem zc18:Zr ["segment","ports","numbers","head"] ZnJ (Ze ZjC):=⟨rfl,rfl,rfl,by decide +kernel,rfl,by decide +kernel,by decide +kernel⟩
abbrev ZnI:List Str:=["head"]
theorem zc19:Zr ["head"] ZnI (Ze ZjB):=⟨rfl,rfl,rfl,by decide +kernel,rfl,by decide +kernel,by decide +kernel⟩
abbrev ZnH:List Str:=["most"]
theorem zc20:Zr ["most"] ZnH (Ze ZjA):=⟨rfl,rfl,rfl,by decide +kernel,rfl,by decide +kernel,by decide +kernel⟩
abbrev ZnG:List Str:=["number"]
theorem zc21:Zr ["number"] ZnG (Ze Zjz):=⟨rfl,rfl,rfl,by decide +kernel,rfl,by decide +kernel,by decide +kernel⟩
abbrev ZnF:List Str:=["number"]
theorem zc22:Zr ["number"] ZnF (Ze Zjy):=⟨rfl,rfl,rfl,by decide +kernel,rfl,by decide +kernel,by decide +kernel⟩
abbrev ZnE:List Str:=["row"]
theorem zc23:Zr ["row"] ZnE (Ze Zjx):=⟨rfl,rfl,rfl,by decide +kernel,rfl,by decide +kernel,by decide +kernel⟩
abbrev ZnD:List Str:=["row"]
theorem zc24:Zr ["row"] ZnD (Ze Zjw):=⟨rfl,rfl,rfl,by decide +kernel,rfl,by decide +kernel,by decide +kernel⟩
abbrev ZnC:List Str:=["row"]
theorem zc25:Zr ["row"] ZnC (Ze Zjv):=⟨rfl,rfl,rfl,by decide +kernel,rfl,by decide +kernel,by decide +kernel⟩
abbrev ZnB:List Str:=["row"]
theorem zc26:Zr ["row","head","most","ports","numbers"] ZnB (Ze Zju):=⟨rfl,rfl,rfl,by decide +kernel,rfl,by decide +kernel,by decide +kernel⟩
abbrev ZnA:List Str:=["row","place"]
theorem zc27:Zr ["row","place"] ZnA (Ze Zjt):=⟨rfl,rfl,rfl,by decide +kernel,rfl,by decide +kernel,by decide +kernel⟩
abbrev Znz:List Str:=["row","place"]
theorem zc28:Zr ["row","place"] Znz (Ze Zjs):=⟨rfl,rfl,rfl,by decide +kernel,rfl,by decide +kernel,by decide +kernel⟩
abbrev Zny:List Str:=["segment"]
theorem zc29:Zr ["segment","ports"] Zny (Ze Zjr):=⟨rfl,rfl,rfl,by decide +kernel,rfl,by decide +kernel,by decide +kernel⟩
abbrev Znx:List Str:=["end","segment"]
theorem zc30:Zr ["end","segment"] Znx (Ze Zjq):=⟨rfl,rfl,rfl,by decide +kernel,rfl,by decide +kernel,by decide +kernel⟩
abbrev Znw:List Str:=["end","segment"]
theorem zc31:Zr ["end","segment"] Znw (Ze Zjp):=⟨rfl,rfl,rfl,by decide +kernel,rfl,by decide +kernel,by decide +kernel⟩
abbrev Znv:List Str:=["end","segment"]
theorem zc32:Zr ["end","segment"] Znv (Ze Zjo):=⟨rfl,rfl,rfl,by decide +kernel,rfl,by decide +kernel,by decide +kernel⟩
abbrev Znu:List Str:=["end","segment"]
theorem zc33:Zr ["end","segment"] Znu (Ze Zjn):=⟨rfl,rfl,rfl,by decide +kernel,rfl,by decide +kernel,by decide +kernel⟩
abbrev Znt:List Str:=["end","segment","now"]
theorem zc34:Zr ["end","segment","now"] Znt (Ze Zjm):=⟨rfl,rfl,rfl,by decide +kernel,rfl,by decide +kernel,by decide +kernel⟩
abbrev Zns:List Str:=["end","segment"]
theorem zc35:Zr ["end","segment"] Zns (Ze Zjl):=⟨rfl,rfl,rfl,by decide +kernel,rfl,by decide +kernel,by decide +kernel⟩
abbrev Znr:List Str:=["end","segment"]
theorem zc36:Zr ["end","segment"] Znr (Ze Zjk):=⟨rfl,rfl,rfl,by decide +kernel,rfl,by decide +kernel,by decide +kernel⟩
abbrev Znq:List Str:=["end","segment","now"]
theorem zc37:Zr ["end","segment","now"] Znq (Ze Zjj):=⟨rfl,rfl,rfl,by decide +kernel,rfl,by decide +kernel,by decide +kernel⟩
abbrev Znp:List Str:=["end","row","now"]
theorem zc38:Zr ["end","row","now","segment"] Znp (Ze Zji):=⟨rfl,rfl,rfl,by decide +kernel,rfl,by decide +kernel,by decide +kernel⟩
abbrev Zno:List Str:=["end","segment"]
theorem zc39:Zr ["end","segment"] Zno (Ze Zjh):=⟨rfl,rfl,rfl,by decide +kernel,rfl,by decide +kernel,by decide +kernel⟩
abbrev Znn:List Str:=["end","segment","now"]
theorem zc40:Zr ["end","segment","now"] Znn (Ze Zjg):=⟨rfl,rfl,rfl,by decide +kernel,rfl,by decide +kernel,by decide +kernel⟩
abbrev Znm:List Str:=["end","segment"]
theorem zc41:Zr ["end","segment","size","last"] Znm (Ze Zjf):=⟨rfl,rfl,rfl,by decide +kernel,rfl,by decide +kernel,by decide +kernel⟩
abbrev Znl:List Str:=["end","number"]
theorem zc42:Zr ["end","number"] Znl (Ze Zje):=⟨rfl,rfl,rfl,by decide +kernel,rfl,by decide +kernel,by decide +kernel⟩
abbrev Znk:List Str:=["end","segment","now"]
theorem zc43:Zr ["end","segment","now"] Znk (Ze Zjd):=⟨rfl,rfl,rfl,by decide +kernel,rfl,by decide +kernel,by decide +kernel⟩
abbrev Znj:List Str:=["end","segment"]
theorem ZwU:Zr ["end","segment"] Znj (Ze Zjc):=⟨rfl,rfl,rfl,by decide +kernel,rfl,by decide +kernel,by decide +kernel⟩
abbrev Zni:List Str:=["end","segment","now"]
theorem ZwT:Zr ["end","segment","now"] Zni (Ze Zjb):=⟨rfl,rfl,rfl,by decide +kernel,rfl,by decide +kernel,by decide +kernel⟩
abbrev Znh:List Str:=["end","segment"]
theorem ZwS:Zr ["end","segment"] Znh (Ze Zja):=⟨rfl,rfl,rfl,by decide +kernel,rfl,by decide +kernel,by decide +kernel⟩
abbrev Zng:List Str:=["end","segment"]
theorem ZwR:Zr ["end","segment"] Zng (Ze Zi9):=⟨rfl,rfl,rfl,by decide +kernel,rfl,by decide +kernel,by decide +kernel⟩
abbrev Znf:List Str:=["end","segment","now"]
theorem zc48:Zr ["end","segment","now","answer","has_gone_on","was_shut"] Znf (Ze Zi8):=⟨rfl,rfl,rfl,by decide +kernel,rfl,by decide +kernel,by decide +kernel⟩
abbrev Zne:List Str:=["end","segment"]
theorem ZwQ:Zr ["end","segment"] Zne (Ze Zi7):=⟨rfl,rfl,rfl,by decide +kernel,rfl,by decide +kernel,by decide +kernel⟩
abbrev Znd:List Str:=["end","now"]
theorem ZwP:Zr ["end","now"] Znd (Ze Zi6):=⟨rfl,rfl,rfl,by decide +kernel,rfl,by decide +kernel,by decide +kernel⟩
abbrev Znc:List Str:=["end","segment","now"]
theorem ZwO:Zr ["end","segment","now"] Znc (Ze Zi5):=⟨rfl,rfl,rfl,by decide +kernel,rfl,by decide +kernel,by decide +kernel⟩
abbrev Znb:List Str:=["end","segment"]
theorem zc52:Zr ["end","segment","place","byte","number"] Znb (Ze Zi4):=⟨rfl,rfl,rfl,by decide +kernel,rfl,by decide +kernel,by decide +kernel⟩
abbrev Zna:List Str:=["end","segment"]
theorem zc53:Zr ["end","segment","number"] Zna (Ze Zi3):=⟨rfl,rfl,rfl,by decide +kernel,rfl,by decide +kernel,by decide +kernel⟩
abbrev Zm9:List Str:=["end"]
theorem zc54:Zr ["end","row"] Zm9 (Ze Zi2):=⟨rfl,rfl,rfl,by decide +kernel,rfl,by decide +kernel,by decide +kernel⟩
abbrev Zm8:List Str:=["end","now"]
theorem ZwN:Zr ["end","now"] Zm8 (Ze Zi1):=⟨rfl,rfl,rfl,by decide +kernel,rfl,by decide +kernel,by decide +kernel⟩
abbrev Zm7:List Str:=["ours","theirs","first","active"]
theorem ZwM:Zr ["ours","theirs","first","active"] Zm7 (Ze Zi0):=⟨rfl,rfl,rfl,by decide +kernel,rfl,by decide +kernel,by decide +kernel⟩
abbrev Zm6:List Str:=["end","row"]
theorem zc57:Zr ["end","row","taken"] Zm6 (Ze ZiZ):=⟨rfl,rfl,rfl,by decide +kernel,rfl,by decide +kernel,by decide +kernel⟩
abbrev Zm5:List Str:=["end","many"]
theorem zc58:Zr ["end","many","was_shut","row"] Zm5 (Ze ZiY):=⟨rfl,rfl,rfl,by decide +kernel,rfl,by decide +kernel,by decide +kernel⟩
abbrev Zm4:List Str:=["end","now"]
theorem zc59:Zr ["end","now","segment"] Zm4 (Ze ZiX):=⟨rfl,rfl,rfl,by decide +kernel,rfl,by decide +kernel,by decide +kernel⟩
abbrev Zm3:List Str:=["end","now"]
theorem zc60:Zr ["end","now","segment"] Zm3 (Ze ZiW):=⟨rfl,rfl,rfl,by decide +kernel,rfl,by decide +kernel,by decide +kernel⟩
abbrev Zm2:List Str:=["end"]
theorem zc61:Zr ["end","segment"] Zm2 (Ze ZiV):=⟨rfl,rfl,rfl,by decide +kernel,rfl,by decide +kernel,by decide +kernel⟩
abbrev Zm1:List Str:=["end","now"]
theorem ZwL:Zr ["end","now"] Zm1 (Ze ZiU):=⟨rfl,rfl,rfl,by decide +kernel,rfl,by decide +kernel,by decide +kernel⟩
abbrev Zm0:List Str:=["end","now"]
theorem zc63:Zr ["end","now","data"] Zm0 (Ze ZiT):=⟨rfl,rfl,rfl,by decide +kernel,rfl,by decide +kernel,by decide +kernel⟩
abbrev ZmZ:List Str:=["end"]
theorem ZwK:Zr ["end"] ZmZ (Ze ZiS):=⟨rfl,rfl,rfl,by decide +kernel,rfl,by decide +kernel,by decide +kernel⟩
abbrev ZmY:List Str:=["end"]
theorem ZwJ:Zr ["end"] ZmY (Ze ZiR):=⟨rfl,rfl,rfl,by decide +kernel,rfl,by decide +kernel,by decide +kernel⟩
abbrev ZmX:List Str:=["end","number","flags","data"]
theorem ZwI:Zr ["end","number","flags","data"] ZmX (Ze ZiQ):=⟨rfl,rfl,rfl,by decide +kernel,rfl,by decide +kernel,by decide +kernel⟩
abbrev ZmW:List Str:=["end","now"]
theorem zc67:Zr ["end","now","room"] ZmW (Ze ZiP):=⟨rfl,rfl,rfl,by decide +kernel,rfl,by decide +kernel,by decide +kernel⟩
abbrev ZmV:List Str:=["end","now"]
theorem ZwH:Zr ["end","now"] ZmV (Ze ZiO):=⟨rfl,rfl,rfl,by decide +kernel,rfl,by decide +kernel,by decide +kernel⟩
abbrev ZmU:List Str:=["end"]
theorem ZwG:Zr ["end"] ZmU (Ze ZiN):=⟨rfl,rfl,rfl,by decide +kernel,rfl,by decide +kernel,by decide +kernel⟩
abbrev ZmT:List Str:=["end"]
theorem ZwF:Zr ["end"] ZmT (Ze ZiM):=⟨rfl,rfl,rfl,by decide +kernel,rfl,by decide +kernel,by decide +kernel⟩
abbrev ZmS:List Str:=["end"]
theorem ZwE:Zr ["end"] ZmS (Ze ZiL):=⟨rfl,rfl,rfl,by decide +kernel,rfl,by decide +kernel,by decide +kernel⟩
abbrev ZmR:List Str:=["end"]
theorem ZwD:Zr ["end"] ZmR (Ze ZiK):=⟨rfl,rfl,rfl,by decide +kernel,rfl,by decide +kernel,by decide +kernel⟩
abbrev ZmQ:List Str:=["end","room"]
theorem ZwC:Zr ["end","room"] ZmQ (Ze ZiJ):=⟨rfl,rfl,rfl,by decide +kernel,rfl,by decide +kernel,by decide +kernel⟩
abbrev ZmP:List Str:=["end","room"]
theorem zc74:Zr ["end","room","number","many","place"] ZmP (Ze ZiI):=⟨rfl,rfl,rfl,by decide +kernel,rfl,by decide +kernel,by decide +kernel⟩
abbrev ZmO:List Str:=["end"]
theorem zc75:Zr ["end","number"] ZmO (Ze ZiH):=⟨rfl,rfl,rfl,by decide +kernel,rfl,by decide +kernel,by decide +kernel⟩
abbrev ZmN:List Str:=["end","now"]
theorem ZwB:Zr ["end","now"] ZmN (Ze ZiG):=⟨rfl,rfl,rfl,by decide +kernel,rfl,by decide +kernel,by decide +kernel⟩
abbrev ZmM:List Str:=["end"]
theorem ZwA:Zr ["end"] ZmM (Ze ZiF):=⟨rfl,rfl,rfl,by decide +kernel,rfl,by decide +kernel,by decide +kernel⟩
abbrev ZmL:List Str:=["_law_script","_law_k"]
theorem Zwz:Zr ["_law_script","_law_k"] ZmL (Ze ZiE):=⟨rfl,rfl,rfl,by decide +kernel,rfl,by decide +kernel,by decide +kernel⟩
abbrev ZmK:List Str:=["_law_script","_law_k"]
theorem zc79:Zr ["_law_script","_law_k","_law_number"] ZmK (Ze ZiD):=⟨rfl,rfl,rfl,by decide +kernel,rfl,by decide +kernel,by decide +kernel⟩
abbrev ZmJ:List Str:=["_law_number"]
theorem Zwy:Zr ["_law_number"] ZmJ (Ze ZiC):=⟨rfl,rfl,rfl,by decide +kernel,rfl,by decide +kernel,by decide +kernel⟩
abbrev ZmI:List Str:=["_law_script"]
theorem zc81:Zr ["_law_script","_law_ports","_law_ends","_law_road","_law_data","_law_now","_law_k","_law_number","_law_j","_law_to","_law_row"] ZmI (Ze Zfa):=⟨rfl,rfl,rfl,by decide +kernel,rfl,by decide +kernel,by decide +kernel⟩
structure Glb (K:PySem.W.Frag) (mg:Str→Option Value):Prop where
  zc0:∃t,mg "ACK"=some (.int 16 t)
  zc1:∃t,mg "ANSWER"=some (.int 3 t)
  zc2:∃t,mg "CLOSED"=some (.str "closed" t)
  zc3:∃t,mg "CLOSE_WAIT"=some (.str "close wait" t)
  zc4:∃t,mg "CLOSING"=some (.str "closing" t)
  zc5:∃t,mg "DATA"=some (.int 7 t)
  zc6:∃t,mg "FIN"=some (.int 1 t)
  zc7:∃t,mg "FIRST_WAIT"=some (.int 1000 t)
  zc8:∃t,mg "FLAGS"=some (.int 4 t)
  zc9:∃t,mg "GOAL"=some (.int 1 t)
  zc10:∃t,mg "GREATEST_DATA"=some (.int 16 t)
  zc11:∃t,mg "GREATEST_FLAGS"=some (.int 31 t)
  zc12:∃t,mg "GREATEST_WORD"=some (.int 65535 t)
  zc13:∃t,mg "HALF_ROUND"=some (.int 2147483648 t)
  zc14:∃t,mg "LAST_ACK"=some (.str "last ack" t)
  zc15:∃t,mg "LAST_WAIT"=some (.int 120000 t)
  zc16:∃t,mg "LEAST_MOST"=some (.int 4 t)
  zc17:∃t,mg "LISTEN"=some (.str "listen" t)
  zc18:∃t,mg "LONGEST_WAIT"=some (.int 16000 t)
  zc19:∃t,mg "LONG_HEAD"=some (.int 24 t)
  zc20:∃t,mg "MOST"=some (.int 6 t)
  zc21:∃t,mg "MOST_TRIES"=some (.int 6 t)
  zc22:∃t,mg "MOST_UNTOLD"=some (.int 12 t)
  zc23:∃t,mg "NO_ERROR"=some (.str "" t)
  zc24:∃t,mg "NUMBER"=some (.int 2 t)
  zc25:∃t,mg "OPEN"=some (.str "open" t)
  zc26:∃t,mg "PSH"=some (.int 8 t)
  zc27:∃t,mg "REFUSED"=some (.str "refused" t)
  zc28:∃t,mg "RESET"=some (.str "reset" t)
  zc29:∃t,mg "RIGHT_SUM"=some (.int 65535 t)
  zc30:∃t,mg "ROOM"=some (.int 64 t)
  zc31:∃t,mg "ROUND"=some (.int 4294967296 t)
  zc32:∃t,mg "RST"=some (.int 4 t)
  zc33:∃t,mg "SHORT_HEAD"=some (.int 20 t)
  zc34:∃t,mg "SOURCE"=some (.int 0 t)
  zc35:∃t,mg "SYN"=some (.int 2 t)
  zc36:∃t,mg "SYN_COME"=some (.str "syn come" t)
  zc37:∃t,mg "SYN_SENT"=some (.str "syn sent" t)
  zc38:∃t,mg "TIME"=some (.str "time" t)
  zc39:∃t,mg "TIME_WAIT"=some (.str "time wait" t)
  zc40:∃t,mg "WAIT_ONE"=some (.str "wait one" t)
  zc41:∃t,mg "WAIT_TWO"=some (.str "wait two" t)
  zc42:∃t,mg "WINDOW"=some (.int 5 t)
  zc43:∃t,mg "WORDS"=some (.int 65536 t)
  b_enumerate:mg "enumerate"=none
  b_len:mg "len"=none
  b_list:mg "list"=none
  b_max:mg "max"=none
  b_min:mg "min"=none
  b_range:mg "range"=none
  b_sum:mg "sum"=none
  b_tuple:mg "tuple"=none
  k_End:Cls K (zX mg "End")
  k_Pile:Cls K (zX mg "Pile")
  zn0:NoAttr K (zX mg "End") "behind"
  zn1:NoAttr K (zX mg "End") "come"
  zn2:NoAttr K (zX mg "End") "early"
  zn3:NoAttr K (zX mg "End") "early_fin"
  zn4:NoAttr K (zX mg "End") "error"
  zn5:NoAttr K (zX mg "End") "first"
  zn6:NoAttr K (zX mg "End") "has_closed"
  zn7:NoAttr K (zX mg "End") "most"
  zn8:NoAttr K (zX mg "End") "nxt"
  zn9:NoAttr K (zX mg "End") "ours"
  zn10:NoAttr K (zX mg "End") "owed_reset"
  zn11:NoAttr K (zX mg "End") "owes_answer"
  zn12:NoAttr K (zX mg "End") "owes_syn"
  zn13:NoAttr K (zX mg "End") "probes"
  zn14:NoAttr K (zX mg "End") "rcv"
  zn15:NoAttr K (zX mg "End") "since"
  zn16:NoAttr K (zX mg "End") "state"
  zn17:NoAttr K (zX mg "End") "theirs"
  zn18:NoAttr K (zX mg "End") "told"
  zn19:NoAttr K (zX mg "End") "told_by"
  zn20:NoAttr K (zX mg "End") "tries"
  zn21:NoAttr K (zX mg "End") "una"
  zn22:NoAttr K (zX mg "End") "wait"
  zn23:NoAttr K (zX mg "End") "wnd"
  zn24:NoAttr K (zX mg "End") "written"
  zn25:NoAttr K (zX mg "Pile") "row"
section
variable {P:Program} {w:World} {K:PySem.W.Frag} {mg:Str→Option Value} {base:Heap}
theorem zo0 (D:Mk0 K mg "Pile" "Pile.__init__" zs0 zP0) (g:Glb K mg) :MMk P w K mg base 1 "Pile" ZbC:=
  mk0 D zc0 1 1 rfl rfl fun f cdv A outer s H E hr=>(Zi (Zx (Zs ⟨g.k_Pile,g.zn25⟩) (Za 0) (Zcn Zg)))
theorem zo1 (D:Zn K mg "room" zs1 zP1) (g:Glb K mg) :Zp P w K mg base 1 "room" ZdE:=
  Z3 D zc1 1 1 rfl rfl fun f cdv A outer s H E hr=>(Zi (Zy (ZF Zeb (Zl g.zc30) (zP ZeV g.b_len PySem.boot_len (Zb (Zm (Zs ⟨g.k_Pile,g.zn25⟩) (Za 0)) Zg)))))
theorem zo2 (D:Zn K mg "lay" zs2 zP2) (g:Glb K mg) (zd1:Zp P w K mg base 1 "room" ZdE):Zp P w K mg base 2 "lay" Zfj:=
  Z3 D zc2 2 3 rfl rfl fun f cdv A outer s H E hr=>(Zf (ZN 2 zc2.nd (Zdp (Za 1) ZcX (Zcc (Zh zd1 hr (by decide) (Zb (Za 0) Zg)))))
  (Zf (Zx (Zs ⟨g.k_Pile,g.zn25⟩) (Za 0) (ZF zv (Zm (Zs ⟨g.k_Pile,g.zn25⟩) (Za 0)) (Za 2)))
  (Zi (Zy (zP ZeV g.b_len PySem.boot_len (Zb (Za 2) Zg))))))
theorem zo3 (D:Zn K mg "take" zs3 zP3) (g:Glb K mg) :Zp P w K mg base 1 "take" Zb2:=
  Z3 D zc3 2 4 rfl rfl fun f cdv A outer s H E hr=>(Zf (ZN 2 zc3.nd (zP ZuQ g.b_max PyProof.Rows.boot_max (Zb (Za 1) (Zb Zj Zg))))
  (Zf (ZN 3 zc3.nd (Zdp (Zm (Zs ⟨g.k_Pile,g.zn25⟩) (Za 0)) ZcX (Zcc (Za 2))))
  (Zf (Zx (Zs ⟨g.k_Pile,g.zn25⟩) (Za 0) (Zdp (Zm (Zs ⟨g.k_Pile,g.zn25⟩) (Za 0)) (Zcc (Za 2)) ZcX))
  (Zi (Zy (Za 3))))))
theorem zo4 (D:Zn K mg "plus" zs4 zP4) (g:Glb K mg) :Zp P w K mg base 1 "plus" zo:=
  Z3 D zc4 2 2 rfl rfl fun f cdv A outer s H E hr=>(Zi (Zy (ZF ZbX (ZF zv (Za 0) (Za 1)) (Zl g.zc31))))
theorem zo5 (D:Zn K mg "offset" zs5 zP5) (g:Glb K mg) :Zp P w K mg base 1 "offset" zB:=
  Z3 D zc5 2 2 rfl rfl fun f cdv A outer s H E hr=>(Zi (Zy (ZF Zeb (ZF ZbX (ZF zv (ZF Zeb (Za 0) (Za 1)) (Zl g.zc13)) (Zl g.zc31)) (Zl g.zc13))))
theorem zo6 (D:Zn K mg "past" zs6 zP6) (g:Glb K mg) (zd5:Zp P w K mg base 1 "offset" zB):Zp P w K mg base 2 "past" Zb3:=
  Z3 D zc6 2 2 rfl rfl fun f cdv A outer s H E hr=>(Zi (Zy (zG Zj9 (Zh zd5 hr (by decide) (Zb (Za 0) (Zb (Za 1) Zg))) Zj)))
theorem zo7 (D:Mk0 K mg "End" "End.__init__" zs7 zP7) (g:Glb K mg) (zd0:MMk P w K mg base 1 "Pile" ZbC) (zd4:Zp P w K mg base 1 "plus" zo):MMk P w K mg base 3 "End" Zb7:=
  mk0 D zc7 5 5 rfl rfl fun f cdv A outer s H E hr=>(Zf (Zx (Zs ⟨g.k_End,g.zn9⟩) (Za 0) (Za 1))
  (Zf (Zx (Zs ⟨g.k_End,g.zn17⟩) (Za 0) (Za 2))
  (Zf (Zx (Zs ⟨g.k_End,g.zn16⟩) (Za 0) (Zco (ZD (Za 4)) (ZA g.zc37) (ZA g.zc17)))
  (Zf (Zx (Zs ⟨g.k_End,g.zn4⟩) (Za 0) (ZA g.zc23))
  (Zf (Zx (Zs ⟨g.k_End,g.zn5⟩) (Za 0) (Za 3))
  (Zf (Zx (Zs ⟨g.k_End,g.zn21⟩) (Za 0) (Za 3))
  (Zf (Zx (Zs ⟨g.k_End,g.zn8⟩) (Za 0) (Za 3))
  (Zf (Zx (Zs ⟨g.k_End,g.zn14⟩) (Za 0) Zj)
  (Zf (Zx (Zs ⟨g.k_End,g.zn23⟩) (Za 0) Zj)
  (Zf (Zx (Zs ⟨g.k_End,g.zn18⟩) (Za 0) Zj)
  (Zf (Zx (Zs ⟨g.k_End,g.zn19⟩) (Za 0) Zj)
  (Zf (Zx (Zs ⟨g.k_End,g.zn7⟩) (Za 0) (Zl g.zc22))
  (Zf (Zx (Zs ⟨g.k_End,g.zn24⟩) (Za 0) (Zkh zd0 hr (by decide)))
  (Zf (Zx (Zs ⟨g.k_End,g.zn1⟩) (Za 0) (Zkh zd0 hr (by decide)))
  (Zf (Zx (Zs ⟨g.k_End,g.zn2⟩) (Za 0) ZoP)
  (Zf (Zx (Zs ⟨g.k_End,g.zn3⟩) (Za 0) Zbw)
  (Zf (Zx (Zs ⟨g.k_End,g.zn6⟩) (Za 0) Zad)
  (Zf (Zx (Zs ⟨g.k_End,g.zn0⟩) (Za 0) (Zh zd4 hr (by decide) (Zb (Za 3) (Zb Zj Zg))))
  (Zf (Zx (Zs ⟨g.k_End,g.zn10⟩) (Za 0) Zbw)
  (Zf (Zx (Zs ⟨g.k_End,g.zn12⟩) (Za 0) Zad)
  (Zf (Zx (Zs ⟨g.k_End,g.zn11⟩) (Za 0) Zad)
  (Zf (Zx (Zs ⟨g.k_End,g.zn13⟩) (Za 0) Zad)
  (Zf (Zx (Zs ⟨g.k_End,g.zn15⟩) (Za 0) Zj)
  (Zf (Zx (Zs ⟨g.k_End,g.zn22⟩) (Za 0) (Zl g.zc7))
  (Zi (Zx (Zs ⟨g.k_End,g.zn20⟩) (Za 0) Zj))))))))))))))))))))))))))
theorem zo8 (D:Zn K mg "start_timer" zs8 zP8) (g:Glb K mg) :Zp P w K mg base 1 "start_timer" Z6:=
  Z3 D zc8 2 2 rfl rfl fun f cdv A outer s H E hr=>(Zf (Zx (Zs ⟨g.k_End,g.zn15⟩) (Za 0) (Za 1))
  (Zf (Zx (Zs ⟨g.k_End,g.zn22⟩) (Za 0) (Zl g.zc7))
  (Zi (Zx (Zs ⟨g.k_End,g.zn20⟩) (Za 0) Zj))))
theorem zo9 (D:Zn K mg "state" zs9 zP9) (g:Glb K mg) :Zp P w K mg base 1 "state" ZdD:=
  Z3 D zc9 1 1 rfl rfl fun f cdv A outer s H E hr=>(Zi (Zy (Zm (Zs ⟨g.k_End,g.zn16⟩) (Za 0))))
theorem Zwx (D:Zn K mg "our_window" ZjK ZnR) (g:Glb K mg) (zd1:Zp P w K mg base 1 "room" ZdE):Zp P w K mg base 2 "our_window" zK:=
  Z3 D zc10 1 1 rfl rfl fun f cdv A outer s H E hr=>(Zi (Zy (Zh zd1 hr (by decide) (Zb (Zm (Zs ⟨g.k_End,g.zn1⟩) (Za 0)) Zg))))
theorem Zww (D:Zn K mg "has_sent_fin" ZjJ ZnQ) (g:Glb K mg) (zd6:Zp P w K mg base 2 "past" Zb3):Zp P w K mg base 3 "has_sent_fin" Za3:=
  Z3 D zc11 1 1 rfl rfl fun f cdv A outer s H E hr=>(Zi (Zy (Zh zd6 hr (by decide) (Zb (Zm (Zs ⟨g.k_End,g.zn8⟩) (Za 0)) (Zb (Zm (Zs ⟨g.k_End,g.zn0⟩) (Za 0)) Zg)))))
theorem Zwv (D:Zn K mg "folded" ZjI ZnP) (g:Glb K mg) :Zp P w K mg base 1 "folded" ZcI:=
  Z3 D zc12 1 2 rfl rfl fun f cdv A outer s H E hr=>(Zf (ZN 1 zc12.nd (ZF zv (ZF Zfl Zj (zP ZrH g.b_sum PyProof.Rows.boot_sum (Zb (ZhJ (Za 0) ZcX ZcX (Zcc Zj)) Zg))) (zP ZrH g.b_sum PyProof.Rows.boot_sum (Zb (ZhJ (Za 0) (Zcc Zj) ZcX (Zcc Zj)) Zg))))
  (Zf (ZgS 200 PassesOwn.never (ZG Zj9 (Za 1) (Zl g.zc12)) (Zi (ZN 1 zc12.nd (ZF zv (ZF ZbX (Za 1) (Zl g.zc43)) (ZF Zf8 (Za 1) (Zl g.zc43))))))
  (Zi (Zy (Za 1)))))
theorem Zwu (D:Zn K mg "sum_of" ZjH ZnO) (g:Glb K mg) (zd12:Zp P w K mg base 1 "folded" ZcI):Zp P w K mg base 2 "sum_of" Zd7:=
  Z3 D zc13 1 1 rfl rfl fun f cdv A outer s H E hr=>(Zi (Zy (ZF Zeb (Zl g.zc12) (Zh zd12 hr (by decide) (Zb (Za 0) Zg)))))
theorem Zws (D:Zn K mg "has" ZjF ZnM) (g:Glb K mg) :Zp P w K mg base 1 "has" ZeQ:=
  Z3 D zc15 2 2 rfl rfl fun f cdv A outer s H E hr=>(Zi (Zy (Zco (ZG (Ze0 hr.units) (ZF Zur (Za 0) (Za 1)) Zj) Zj Zj)))
theorem Zwt (D:Zn K mg "length" ZjG ZnN) (g:Glb K mg) (zd15:Zp P w K mg base 1 "has" ZeQ):Zp P w K mg base 2 "length" Zcj:=
  Z3 D zc14 1 2 rfl rfl fun f cdv A outer s H E hr=>(Zf (ZN 1 zc14.nd (ZH ZJ (Za 0) (Zl g.zc8)))
  (Zi (Zy (ZF zv (ZF zv (zP ZeV g.b_len PySem.boot_len (Zb (ZH ZJ (Za 0) (Zl g.zc5)) Zg)) (Zh zd15 hr (by decide) (Zb (Za 1) (Zb (Zl g.zc35) Zg)))) (Zh zd15 hr (by decide) (Zb (Za 1) (Zb (Zl g.zc6) Zg)))))))
theorem Zwr (D:Zn K mg "bears" ZjE ZnL) (g:Glb K mg) (zd15:Zp P w K mg base 1 "has" ZeQ):Zp P w K mg base 2 "bears" Z2:=
  Z3 D zc16 2 2 rfl rfl fun f cdv A outer s H E hr=>(Zi (Zy (zG (Zae hr.units) (Zh zd15 hr (by decide) (Zb (ZH ZJ (Za 0) (Zl g.zc8)) (Zb (Za 1) Zg))) Zj)))
theorem Zwo (D:Zn K mg "byte_of_head" ZjB ZnI) (g:Glb K mg) :Zp P w K mg base 1 "byte_of_head" zO:=
  Z3 D zc19 1 1 rfl rfl fun f cdv A outer s H E hr=>(Zi (Zy (ZF Zfl Zj (ZF Zf8 (Za 0) Zj))))
theorem Zwm (D:Zn K mg "two_bytes" Zjz ZnG) (g:Glb K mg) :Zp P w K mg base 1 "two_bytes" zk:=
  Z3 D zc21 1 1 rfl rfl fun f cdv A outer s H E hr=>(Zi (Zy (Zcn (Zb (ZF ZbX (ZF Zf8 (Za 0) Zj) Zj) (Zb (ZF ZbX (Za 0) Zj) Zg)))))
theorem Zwl (D:Zn K mg "four_bytes" Zjy ZnF) (g:Glb K mg) (zd21:Zp P w K mg base 1 "two_bytes" zk):Zp P w K mg base 2 "four_bytes" Zbb:=
  Z3 D zc22 1 1 rfl rfl fun f cdv A outer s H E hr=>(Zi (Zy (ZF zv (Zh zd21 hr (by decide) (Zb (ZF Zf8 (Za 0) Zj) Zg)) (Zh zd21 hr (by decide) (Zb (Za 0) Zg)))))
theorem Zwp (D:Zn K mg "bytes_ahead_of_sum" ZjC ZnJ) (g:Glb K mg) (zd19:Zp P w K mg base 1 "byte_of_head" zO) (zd22:Zp P w K mg base 2 "four_bytes" Zbb) (zd21:Zp P w K mg base 1 "two_bytes" zk):Zp P w K mg base 3 "bytes_ahead_of_sum" zN:=
  Z3 D zc18 1 4 rfl rfl fun f cdv A outer s H E hr=>(Zf (ZN 1 zc18.nd (ZF zv (Zh zd21 hr (by decide) (Zb (ZH ZJ (Za 0) (Zl g.zc34)) Zg)) (Zh zd21 hr (by decide) (Zb (ZH ZJ (Za 0) (Zl g.zc9)) Zg))))
  (Zf (ZN 2 zc18.nd (ZF zv (Zh zd22 hr (by decide) (Zb (ZH ZJ (Za 0) (Zl g.zc24)) Zg)) (Zh zd22 hr (by decide) (Zb (ZH ZJ (Za 0) (Zl g.zc1)) Zg))))
  (Zf (ZN 3 zc18.nd (Zco (ZG (Zae hr.units) (ZH ZJ (Za 0) (Zl g.zc20)) Zj) (Zl g.zc33) (Zl g.zc19)))
  (Zi (Zy (ZF zv (ZF zv (ZF zv (Za 1) (Za 2)) (Zcn (Zb (Zh zd19 hr (by decide) (Zb (Za 3) Zg)) (Zb (ZH ZJ (Za 0) (Zl g.zc8)) Zg)))) (Zh zd21 hr (by decide) (Zb (ZH ZJ (Za 0) (Zl g.zc42)) Zg))))))))
theorem Zwn (D:Zn K mg "bytes_of_most" ZjA ZnH) (g:Glb K mg) (zd21:Zp P w K mg base 1 "two_bytes" zk):Zp P w K mg base 2 "bytes_of_most" ZaP:=
  Z3 D zc20 1 1 rfl rfl fun f cdv A outer s H E hr=>(Zi (Zy (Zco (ZG (Zae hr.units) (Za 0) Zj) (Zcn Zg) (ZF zv (Zcn (Zb Zj (Zb Zj Zg))) (Zh zd21 hr (by decide) (Zb (Za 0) Zg))))))
theorem Zwq (D:Zn K mg "put" ZjD ZnK) (g:Glb K mg) (zd18:Zp P w K mg base 3 "bytes_ahead_of_sum" zN) (zd20:Zp P w K mg base 2 "bytes_of_most" ZaP) (zd13:Zp P w K mg base 2 "sum_of" Zd7) (zd21:Zp P w K mg base 1 "two_bytes" zk):Zp P w K mg base 4 "put" Zj4:=
  Z3 D zc17 1 3 rfl rfl fun f cdv A outer s H E hr=>(Zf (ZN 1 zc17.nd (Zh zd18 hr (by decide) (Zb (Za 0) Zg)))
  (Zf (ZN 2 zc17.nd (ZF zv (ZF zv (Zcn (Zb Zj (Zb Zj Zg))) (Zh zd20 hr (by decide) (Zb (ZH ZJ (Za 0) (Zl g.zc20)) Zg))) (ZfR Zs8 g.b_list PyProof.Rows.boot_list (Zb (ZH ZJ (Za 0) (Zl g.zc5)) Zg))))
  (Zi (Zy (ZF zv (ZF zv (Za 1) (Zh zd21 hr (by decide) (Zb (Zh zd13 hr (by decide) (Zb (ZF zv (ZF zv (Za 1) (Zcn (Zb Zj (Zb Zj Zg)))) (Za 2)) Zg)) Zg))) (Za 2))))))
theorem Zwj (D:Zn K mg "head_of" Zjw ZnD) (g:Glb K mg) :Zp P w K mg base 1 "head_of" Zba:=
  Z3 D zc24 1 1 rfl rfl fun f cdv A outer s H E hr=>(Zi (Zy (ZF Zfl (ZF Zf8 (ZH ZJ (Za 0) Zj) Zj) Zj)))
theorem Zwg (D:Zn K mg "two_at" Zjt ZnA) (g:Glb K mg) :Zp P w K mg base 1 "two_at" z6:=
  Z3 D zc27 2 2 rfl rfl fun f cdv A outer s H E hr=>(Zi (Zy (ZF zv (ZF Zfl Zj (ZH ZJ (Za 0) (Za 1))) (ZH ZJ (Za 0) (ZF zv (Za 1) Zj)))))
theorem Zwi (D:Zn K mg "is_right_long_head" Zjv ZnC) (g:Glb K mg) (zd15:Zp P w K mg base 1 "has" ZeQ) (zd27:Zp P w K mg base 1 "two_at" z6):Zp P w K mg base 2 "is_right_long_head" zM:=
  Z3 D zc25 1 1 rfl rfl fun f cdv A outer s H E hr=>(Zi (Zy (ZbL (zG (Zae hr.units) (Zh zd15 hr (by decide) (Zb (ZH ZJ (Za 0) Zj) (Zb (Zl g.zc35) Zg))) Zj) (ZbL (zG (Zae hr.units) (ZH ZJ (Za 0) Zj) Zj) (ZbL (zG (Zae hr.units) (ZH ZJ (Za 0) Zj) Zj) (ZcJ (zG Zqt (Zh zd27 hr (by decide) (Zb (Za 0) (Zb Zj Zg))) (Zl g.zc16))))))))
theorem Zwk (D:Zn K mg "is_right" Zjx ZnE) (g:Glb K mg) (zd19:Zp P w K mg base 1 "byte_of_head" zO) (zd12:Zp P w K mg base 1 "folded" ZcI) (zd24:Zp P w K mg base 1 "head_of" Zba) (zd25:Zp P w K mg base 2 "is_right_long_head" zM) (zd27:Zp P w K mg base 1 "two_at" z6):Zp P w K mg base 3 "is_right" z8:=
  Z3 D zc23 1 1 rfl rfl fun f cdv A outer s H E hr=>(Zi (Zy (ZbL (zG Zqt (zP ZeV g.b_len PySem.boot_len (Zb (Za 0) Zg)) (Zl g.zc33)) (ZbL (zG Zj8 (ZH ZJ (Za 0) Zj) (zW (Zb (Zh zd19 hr (by decide) (Zb (Zl g.zc33) Zg)) (Zb (Zh zd19 hr (by decide) (Zb (Zl g.zc19) Zg)) Zg))) (by with_unfolding_all rfl)) (ZbL (zG ZkR (ZH ZJ (Za 0) Zj) (Zl g.zc11)) (ZbL (ZgT ZkR ZkR Zj (ZF Zeb (zP ZeV g.b_len PySem.boot_len (Zb (Za 0) Zg)) (Zh zd24 hr (by decide) (Zb (Za 0) Zg))) (Zl g.zc10)) (ZbL (zG (Zae hr.units) (Zh zd27 hr (by decide) (Zb (Za 0) (Zb Zj Zg))) Zj) (ZbL (ZlF (zG (Zae hr.units) (Zh zd24 hr (by decide) (Zb (Za 0) Zg)) (Zl g.zc33)) (ZcJ (Zh zd25 hr (by decide) (Zb (Za 0) Zg)))) (ZcJ (zG (Zae hr.units) (Zh zd12 hr (by decide) (Zb (Za 0) Zg)) (Zl g.zc29)))))))))))
theorem Zwf (D:Zn K mg "four_at" Zjs Znz) (g:Glb K mg) (zd27:Zp P w K mg base 1 "two_at" z6):Zp P w K mg base 2 "four_at" Zcz:=
  Z3 D zc28 2 2 rfl rfl fun f cdv A outer s H E hr=>(Zi (Zy (ZF zv (ZF Zfl Zj (Zh zd27 hr (by decide) (Zb (Za 0) (Zb (Za 1) Zg)))) (Zh zd27 hr (by decide) (Zb (Za 0) (Zb (ZF zv (Za 1) Zj) Zg))))))
theorem Zwh (D:Zn K mg "get" Zju ZnB) (g:Glb K mg) (zd28:Zp P w K mg base 2 "four_at" Zcz) (zd24:Zp P w K mg base 1 "head_of" Zba) (zd23:Zp P w K mg base 3 "is_right" z8) (zd27:Zp P w K mg base 1 "two_at" z6):Zp P w K mg base 4 "get" ZhE:=
  Z3 D zc26 1 5 rfl rfl fun f cdv A outer s H E hr=>(Zf (ZK (ZbK (ZD (Zh zd23 hr (by decide) (Zb (Za 0) Zg)))) (Zi ZoK) ZC)
  (Zf (ZN 1 zc26.nd (Zh zd24 hr (by decide) (Zb (Za 0) Zg)))
  (Zf (ZN 2 zc26.nd (Zco (ZG (Zae hr.units) (Za 1) (Zl g.zc19)) (Zh zd27 hr (by decide) (Zb (Za 0) (Zb Zj Zg))) Zj))
  (Zf (ZN 3 zc26.nd (zW (Zb (Zh zd27 hr (by decide) (Zb (Za 0) (Zb Zj Zg))) (Zb (Zh zd27 hr (by decide) (Zb (Za 0) (Zb Zj Zg))) Zg))))
  (Zf (ZN 4 zc26.nd (zW (Zb (Zh zd28 hr (by decide) (Zb (Za 0) (Zb Zj Zg))) (Zb (Zh zd28 hr (by decide) (Zb (Za 0) (Zb Zj Zg))) Zg))))
  (Zi (Zy (ZF zv (ZF zv (Za 3) (Za 4)) (zW (Zb (ZH ZJ (Za 0) Zj) (Zb (Zh zd27 hr (by decide) (Zb (Za 0) (Zb Zj Zg))) (Zb (Za 2) (Zb (ZfR ZlV g.b_tuple PyProof.Rows.boot_tuple (Zb (Zdp (Za 0) (Zcc (Za 1)) ZcX) Zg)) Zg)))))))))))))
theorem Zwe (D:Zn K mg "reset_for" Zjr Zny) (g:Glb K mg) (zd16:Zp P w K mg base 2 "bears" Z2) (zd14:Zp P w K mg base 2 "length" Zcj) (zd4:Zp P w K mg base 1 "plus" zo):Zp P w K mg base 3 "reset_for" ZbA:=
  Z3 D zc29 1 2 rfl rfl fun f cdv A outer s H E hr=>(Zf (ZN 1 zc29.nd (zW (Zb (ZH ZJ (Za 0) (Zl g.zc9)) (Zb (ZH ZJ (Za 0) (Zl g.zc34)) Zg))))
  (Zf (ZK (ZD (Zh zd16 hr (by decide) (Zb (Za 0) (Zb (Zl g.zc0) Zg)))) (Zi (Zy (ZF zv (Za 1) (zW (Zb (ZH ZJ (Za 0) (Zl g.zc1)) (Zb Zj (Zb (Zl g.zc32) (Zb Zj (Zb Zj (Zb (zW Zg) Zg)))))))))) ZC)
  (Zi (Zy (ZF zv (Za 1) (zW (Zb Zj (Zb (Zh zd4 hr (by decide) (Zb (ZH ZJ (Za 0) (Zl g.zc24)) (Zb (Zh zd14 hr (by decide) (Zb (Za 0) Zg)) Zg))) (Zb (ZF zv (Zl g.zc32) (Zl g.zc0)) (Zb Zj (Zb Zj (Zb (zW Zg) Zg))))))))))))
theorem Zwd (D:Zn K mg "owe_reset_for" Zjq Znx) (g:Glb K mg) (zd16:Zp P w K mg base 2 "bears" Z2) (zd29:Zp P w K mg base 3 "reset_for" ZbA):Zp P w K mg base 4 "owe_reset_for" ZY:=
  Z3 D zc30 2 2 rfl rfl fun f cdv A outer s H E hr=>(Zi (ZK (ZbK (ZD (Zh zd16 hr (by decide) (Zb (Za 1) (Zb (Zl g.zc32) Zg))))) (Zi (Zx (Zs ⟨g.k_End,g.zn10⟩) (Za 0) (Zh zd29 hr (by decide) (Zb (Za 1) Zg)))) ZC))
theorem Zwc (D:Zn K mg "come_to_closed" Zjp Znw) (g:Glb K mg) (zd30:Zp P w K mg base 4 "owe_reset_for" ZY):Zp P w K mg base 5 "come_to_closed" Zaz:=
  Z3 D zc31 2 2 rfl rfl fun f cdv A outer s H E hr=>(Zi (ZX (Zh zd30 hr (by decide) (Zb (Za 0) (Zb (Za 1) Zg)))))
theorem Zwa (D:Zn K mg "hear_syn" Zjn Znu) (g:Glb K mg) (zd16:Zp P w K mg base 2 "bears" Z2) (zd4:Zp P w K mg base 1 "plus" zo):Zp P w K mg base 3 "hear_syn" Zbu:=
  Z3 D zc33 2 2 rfl rfl fun f cdv A outer s H E hr=>(Zf (Zx (Zs ⟨g.k_End,g.zn14⟩) (Za 0) (Zh zd4 hr (by decide) (Zb (ZH ZJ (Za 1) (Zl g.zc24)) (Zb Zj Zg))))
  (Zf (Zx (Zs ⟨g.k_End,g.zn23⟩) (Za 0) (ZH ZJ (Za 1) (Zl g.zc42)))
  (Zf (Zx (Zs ⟨g.k_End,g.zn18⟩) (Za 0) (ZH ZJ (Za 1) (Zl g.zc24)))
  (Zf (Zx (Zs ⟨g.k_End,g.zn19⟩) (Za 0) (Zco (ZD (Zh zd16 hr (by decide) (Zb (Za 1) (Zb (Zl g.zc0) Zg)))) (ZH ZJ (Za 1) (Zl g.zc1)) Zj))
  (Zi (ZK (ZG (Ze0 hr.units) (ZH ZJ (Za 1) (Zl g.zc20)) Zj) (Zi (Zx (Zs ⟨g.k_End,g.zn7⟩) (Za 0) (ZH ZJ (Za 1) (Zl g.zc20)))) ZC))))))
theorem Zwb (D:Zn K mg "come_to_listen" Zjo Znv) (g:Glb K mg) (zd16:Zp P w K mg base 2 "bears" Z2) (zd33:Zp P w K mg base 3 "hear_syn" Zbu) (zd30:Zp P w K mg base 4 "owe_reset_for" ZY):Zp P w K mg base 5 "come_to_listen" zu:=
  Z3 D zc32 2 2 rfl rfl fun f cdv A outer s H E hr=>(Zf (ZK (ZD (Zh zd16 hr (by decide) (Zb (Za 1) (Zb (Zl g.zc32) Zg)))) (Zi ZdH) ZC)
  (Zi (ZK (ZD (Zh zd16 hr (by decide) (Zb (Za 1) (Zb (Zl g.zc0) Zg)))) (Zi (ZX (Zh zd30 hr (by decide) (Zb (Za 0) (Zb (Za 1) Zg))))) (Zi (ZK (ZD (Zh zd16 hr (by decide) (Zb (Za 1) (Zb (Zl g.zc35) Zg)))) (Zf (Zx (Zs ⟨g.k_End,g.zn17⟩) (Za 0) (ZH ZJ (Za 1) (Zl g.zc34)))
      (Zf (ZX (Zh zd33 hr (by decide) (Zb (Za 0) (Zb (Za 1) Zg))))
      (Zi (Zx (Zs ⟨g.k_End,g.zn16⟩) (Za 0) (ZA g.zc36))))) ZC)))))
theorem Zv8 (D:Zn K mg "answers_syn" Zjl Zns) (g:Glb K mg) (zd4:Zp P w K mg base 1 "plus" zo):Zp P w K mg base 2 "answers_syn" Zbl:=
  Z3 D zc35 2 2 rfl rfl fun f cdv A outer s H E hr=>(Zi (Zy (ZbL (zG (Ze0 hr.units) (Zm (Zs ⟨g.k_End,g.zn8⟩) (Za 0)) (Zm (Zs ⟨g.k_End,g.zn5⟩) (Za 0))) (ZcJ (zG (Zae hr.units) (ZH ZJ (Za 1) (Zl g.zc1)) (Zh zd4 hr (by decide) (Zb (Zm (Zs ⟨g.k_End,g.zn5⟩) (Za 0)) (Zb Zj Zg))))))))
theorem Zv6 (D:Zn K mg "go_on_from_syn_sent" Zjj Znq) (g:Glb K mg) (zd16:Zp P w K mg base 2 "bears" Z2) (zd8:Zp P w K mg base 1 "start_timer" Z6):Zp P w K mg base 3 "go_on_from_syn_sent" zF:=
  Z3 D zc37 3 3 rfl rfl fun f cdv A outer s H E hr=>(Zi (ZK (ZD (Zh zd16 hr (by decide) (Zb (Za 1) (Zb (Zl g.zc0) Zg)))) (Zf (Zx (Zs ⟨g.k_End,g.zn21⟩) (Za 0) (ZH ZJ (Za 1) (Zl g.zc1)))
    (Zf (Zx (Zs ⟨g.k_End,g.zn16⟩) (Za 0) (ZA g.zc25))
    (Zi (Zx (Zs ⟨g.k_End,g.zn11⟩) (Za 0) Zad)))) (Zf (Zx (Zs ⟨g.k_End,g.zn16⟩) (Za 0) (ZA g.zc36))
    (Zf (ZX (Zh zd8 hr (by decide) (Zb (Za 0) (Zb (Za 2) Zg))))
    (Zi (Zx (Zs ⟨g.k_End,g.zn12⟩) (Za 0) Zad))))))
theorem Zv7 (D:Zn K mg "refuse" Zjk Znr) (g:Glb K mg) (zd16:Zp P w K mg base 2 "bears" Z2):Zp P w K mg base 3 "refuse" Zd8:=
  Z3 D zc36 2 2 rfl rfl fun f cdv A outer s H E hr=>(Zi (ZK (ZD (Zh zd16 hr (by decide) (Zb (Za 1) (Zb (Zl g.zc0) Zg)))) (Zf (Zx (Zs ⟨g.k_End,g.zn16⟩) (Za 0) (ZA g.zc2))
    (Zi (Zx (Zs ⟨g.k_End,g.zn4⟩) (Za 0) (ZA g.zc27)))) ZC))
theorem Zv9 (D:Zn K mg "come_to_syn_sent" Zjm Znt) (g:Glb K mg) (zd35:Zp P w K mg base 2 "answers_syn" Zbl) (zd16:Zp P w K mg base 2 "bears" Z2) (zd37:Zp P w K mg base 3 "go_on_from_syn_sent" zF) (zd33:Zp P w K mg base 3 "hear_syn" Zbu) (zd30:Zp P w K mg base 4 "owe_reset_for" ZY) (zd36:Zp P w K mg base 3 "refuse" Zd8):Zp P w K mg base 5 "come_to_syn_sent" ZQ:=
  Z3 D zc34 3 3 rfl rfl fun f cdv A outer s H E hr=>(Zi (ZK (MW.mt (Zda (ZD (Zh zd16 hr (by decide) (Zb (Za 1) (Zb (Zl g.zc0) Zg)))) (Za6 (ZbK (ZD (Zh zd35 hr (by decide) (Zb (Za 0) (Zb (Za 1) Zg)))))))) (Zi (ZX (Zh zd30 hr (by decide) (Zb (Za 0) (Zb (Za 1) Zg))))) (Zi (ZK (ZD (Zh zd16 hr (by decide) (Zb (Za 1) (Zb (Zl g.zc32) Zg)))) (Zi (ZX (Zh zd36 hr (by decide) (Zb (Za 0) (Zb (Za 1) Zg))))) (Zi (ZK (ZD (Zh zd16 hr (by decide) (Zb (Za 1) (Zb (Zl g.zc35) Zg)))) (Zf (ZX (Zh zd33 hr (by decide) (Zb (Za 0) (Zb (Za 1) Zg))))
        (Zi (ZX (Zh zd37 hr (by decide) (Zb (Za 0) (Zb (Za 1) (Zb (Za 2) Zg))))))) ZC))))))
theorem Zv1 (D:Zn K mg "is_in_window" Zje Znl) (g:Glb K mg) (zd5:Zp P w K mg base 1 "offset" zB) (zd10:Zp P w K mg base 2 "our_window" zK):Zp P w K mg base 3 "is_in_window" zm:=
  Z3 D zc42 2 2 rfl rfl fun f cdv A outer s H E hr=>(Zi (Zy (ZgT ZkR ZxC Zj (Zh zd5 hr (by decide) (Zb (Za 1) (Zb (Zm (Zs ⟨g.k_End,g.zn14⟩) (Za 0)) Zg))) (Zh zd10 hr (by decide) (Zb (Za 0) Zg)))))
theorem Zv2 (D:Zn K mg "fits" Zjf Znm) (g:Glb K mg) (zd42:Zp P w K mg base 3 "is_in_window" zm) (zd14:Zp P w K mg base 2 "length" Zcj) (zd5:Zp P w K mg base 1 "offset" zB) (zd4:Zp P w K mg base 1 "plus" zo):Zp P w K mg base 4 "fits" ZfP:=
  Z3 D zc41 2 4 rfl rfl fun f cdv A outer s H E hr=>(Zf (ZN 2 zc41.nd (Zh zd14 hr (by decide) (Zb (Za 1) Zg)))
  (Zf (ZK (ZG (Zae hr.units) (Za 2) Zj) (Zi (Zy (ZgT ZkR ZkR Zj (Zh zd5 hr (by decide) (Zb (ZH ZJ (Za 1) (Zl g.zc24)) (Zb (Zm (Zs ⟨g.k_End,g.zn14⟩) (Za 0)) Zg))) (Zl g.zc30)))) ZC)
  (Zf (ZN 3 zc41.nd (Zh zd4 hr (by decide) (Zb (ZH ZJ (Za 1) (Zl g.zc24)) (Zb (ZF Zeb (Za 2) Zj) Zg))))
  (Zi (Zy (ZlF (Zh zd42 hr (by decide) (Zb (Za 0) (Zb (ZH ZJ (Za 1) (Zl g.zc24)) Zg))) (ZcJ (Zh zd42 hr (by decide) (Zb (Za 0) (Zb (Za 3) Zg))))))))))
theorem ZvT (D:Zn K mg "end_what_is_acknowledged" Zi6 Znd) (g:Glb K mg) (zd11:Zp P w K mg base 3 "has_sent_fin" Za3):Zp P w K mg base 4 "end_what_is_acknowledged" ZP:=
  Z3 D ZwP 2 2 rfl rfl fun f cdv A outer s H E hr=>(Zf (ZK (MW.mt (Zed (ZbK (ZD (Zh zd11 hr (by decide) (Zb (Za 0) Zg)))) (ZaT (ZG (Ze0 hr.units) (Zm (Zs ⟨g.k_End,g.zn21⟩) (Za 0)) (Zm (Zs ⟨g.k_End,g.zn8⟩) (Za 0)))))) (Zi ZdH) ZC)
  (Zi (ZK (ZG (Zae hr.units) (Zm (Zs ⟨g.k_End,g.zn16⟩) (Za 0)) (ZA g.zc40)) (Zi (Zx (Zs ⟨g.k_End,g.zn16⟩) (Za 0) (ZA g.zc41))) (Zi (ZK (ZG (Zae hr.units) (Zm (Zs ⟨g.k_End,g.zn16⟩) (Za 0)) (ZA g.zc4)) (Zf (Zx (Zs ⟨g.k_End,g.zn16⟩) (Za 0) (ZA g.zc39))
      (Zi (Zx (Zs ⟨g.k_End,g.zn15⟩) (Za 0) (Za 1)))) (Zi (ZK (ZG (Zae hr.units) (Zm (Zs ⟨g.k_End,g.zn16⟩) (Za 0)) (ZA g.zc14)) (Zi (Zx (Zs ⟨g.k_End,g.zn16⟩) (Za 0) (ZA g.zc2))) ZC)))))))
theorem ZvW (D:Zn K mg "take_window" Zi9 Zng) (g:Glb K mg) :Zp P w K mg base 1 "take_window" Zar:=
  Z3 D ZwR 2 2 rfl rfl fun f cdv A outer s H E hr=>(Zf (Zx (Zs ⟨g.k_End,g.zn23⟩) (Za 0) (ZH ZJ (Za 1) (Zl g.zc42)))
  (Zf (Zx (Zs ⟨g.k_End,g.zn18⟩) (Za 0) (ZH ZJ (Za 1) (Zl g.zc24)))
  (Zi (Zx (Zs ⟨g.k_End,g.zn19⟩) (Za 0) (ZH ZJ (Za 1) (Zl g.zc1))))))
theorem ZvX (D:Zn K mg "has_answered_syn" Zja Znh) (g:Glb K mg) (zd30:Zp P w K mg base 4 "owe_reset_for" ZY) (zd47:Zp P w K mg base 1 "take_window" Zar):Zp P w K mg base 5 "has_answered_syn" zp:=
  Z3 D ZwS 2 2 rfl rfl fun f cdv A outer s H E hr=>(Zf (ZK (MW.mt (Zed (ZG (Zae hr.units) (Zm (Zs ⟨g.k_End,g.zn8⟩) (Za 0)) (Zm (Zs ⟨g.k_End,g.zn5⟩) (Za 0))) (ZaT (ZG (Ze0 hr.units) (ZH ZJ (Za 1) (Zl g.zc1)) (Zm (Zs ⟨g.k_End,g.zn8⟩) (Za 0)))))) (Zf (ZX (Zh zd30 hr (by decide) (Zb (Za 0) (Zb (Za 1) Zg))))
    (Zi (Zy Zad))) ZC)
  (Zf (Zx (Zs ⟨g.k_End,g.zn21⟩) (Za 0) (ZH ZJ (Za 1) (Zl g.zc1)))
  (Zf (Zx (Zs ⟨g.k_End,g.zn16⟩) (Za 0) (Zco (ZD (Zm (Zs ⟨g.k_End,g.zn6⟩) (Za 0))) (ZA g.zc40) (ZA g.zc25)))
  (Zf (ZX (Zh zd47 hr (by decide) (Zb (Za 0) (Zb (Za 1) Zg))))
  (Zi (Zy Zad))))))
theorem ZvU (D:Zn K mg "is_newer" Zi7 Zne) (g:Glb K mg) (zd6:Zp P w K mg base 2 "past" Zb3):Zp P w K mg base 3 "is_newer" ZcG:=
  Z3 D ZwQ 2 2 rfl rfl fun f cdv A outer s H E hr=>(Zf (ZK (ZG (Zae hr.units) (ZH ZJ (Za 1) (Zl g.zc24)) (Zm (Zs ⟨g.k_End,g.zn18⟩) (Za 0))) (Zi (Zy (ZsV (Zh zd6 hr (by decide) (Zb (Zm (Zs ⟨g.k_End,g.zn19⟩) (Za 0)) (Zb (ZH ZJ (Za 1) (Zl g.zc1)) Zg)))))) ZC)
  (Zi (Zy (Zh zd6 hr (by decide) (Zb (ZH ZJ (Za 1) (Zl g.zc24)) (Zb (Zm (Zs ⟨g.k_End,g.zn18⟩) (Za 0)) Zg))))))
theorem ZvV (D:Zn K mg "hear_answer" Zi8 Znf) (g:Glb K mg) (zd49:Zp P w K mg base 3 "is_newer" ZcG) (zd5:Zp P w K mg base 1 "offset" zB) (zd6:Zp P w K mg base 2 "past" Zb3) (zd8:Zp P w K mg base 1 "start_timer" Z6) (zd3:Zp P w K mg base 1 "take" Zb2) (zd47:Zp P w K mg base 1 "take_window" Zar):Zp P w K mg base 4 "hear_answer" zL:=
  Z3 D zc48 3 6 rfl rfl fun f cdv A outer s H E hr=>(Zf (ZN 3 zc48.nd (ZH ZJ (Za 1) (Zl g.zc1)))
  (Zf (ZN 4 zc48.nd (Zh zd6 hr (by decide) (Zb (Za 3) (Zb (Zm (Zs ⟨g.k_End,g.zn21⟩) (Za 0)) Zg))))
  (Zf (ZK (ZD (Za 4)) (Zf (ZX (Zh zd3 hr (by decide) (Zb (Zm (Zs ⟨g.k_End,g.zn24⟩) (Za 0)) (Zb (Zh zd5 hr (by decide) (Zb (Za 3) (Zb (Zm (Zs ⟨g.k_End,g.zn21⟩) (Za 0)) Zg))) Zg))))
    (Zf (Zx (Zs ⟨g.k_End,g.zn21⟩) (Za 0) (Za 3))
    (Zi (ZK (ZG (Ze0 hr.units) (Zm (Zs ⟨g.k_End,g.zn21⟩) (Za 0)) (Zm (Zs ⟨g.k_End,g.zn8⟩) (Za 0))) (Zi (ZX (Zh zd8 hr (by decide) (Zb (Za 0) (Zb (Za 2) Zg))))) ZC)))) ZC)
  (Zf (ZK (ZD (Zh zd6 hr (by decide) (Zb (Zm (Zs ⟨g.k_End,g.zn21⟩) (Za 0)) (Zb (Za 3) Zg)))) (Zi ZdH) ZC)
  (Zf (ZN 5 zc48.nd (zG (Zae hr.units) (Zm (Zs ⟨g.k_End,g.zn23⟩) (Za 0)) Zj))
  (Zf (ZK (MW.mt (Zed (ZD (Za 4)) (ZaT (ZD (Zh zd49 hr (by decide) (Zb (Za 0) (Zb (Za 1) Zg))))))) (Zi (ZX (Zh zd47 hr (by decide) (Zb (Za 0) (Zb (Za 1) Zg))))) ZC)
  (Zi (ZK (MW.mt (Zed (ZD (Za 5)) (ZaT (ZG (Zae hr.units) (Zm (Zs ⟨g.k_End,g.zn23⟩) (Za 0)) Zj)))) (Zi (Zx (Zs ⟨g.k_End,g.zn20⟩) (Za 0) Zj)) ZC))))))))
theorem ZvY (D:Zn K mg "goes_on_behind_answer" Zjb Zni) (g:Glb K mg) (zd50:Zp P w K mg base 4 "end_what_is_acknowledged" ZP) (zd46:Zp P w K mg base 5 "has_answered_syn" zp) (zd48:Zp P w K mg base 4 "hear_answer" zL) (zd6:Zp P w K mg base 2 "past" Zb3):Zp P w K mg base 6 "goes_on_behind_answer" ZZ:=
  Z3 D ZwT 3 3 rfl rfl fun f cdv A outer s H E hr=>(Zf (ZK (ZG (Zae hr.units) (Zm (Zs ⟨g.k_End,g.zn16⟩) (Za 0)) (ZA g.zc36)) (Zi (Zy (Zh zd46 hr (by decide) (Zb (Za 0) (Zb (Za 1) Zg))))) ZC)
  (Zf (ZK (ZD (Zh zd6 hr (by decide) (Zb (ZH ZJ (Za 1) (Zl g.zc1)) (Zb (Zm (Zs ⟨g.k_End,g.zn8⟩) (Za 0)) Zg)))) (Zf (Zx (Zs ⟨g.k_End,g.zn11⟩) (Za 0) Zad)
    (Zi (Zy Zad))) ZC)
  (Zf (ZX (Zh zd48 hr (by decide) (Zb (Za 0) (Zb (Za 1) (Zb (Za 2) Zg)))))
  (Zf (ZX (Zh zd50 hr (by decide) (Zb (Za 0) (Zb (Za 2) Zg))))
  (Zi (Zy (zG (Ze0 hr.units) (Zm (Zs ⟨g.k_End,g.zn16⟩) (Za 0)) (ZA g.zc2))))))))
theorem ZvZ (D:Zn K mg "hear_reset" Zjc Znj) (g:Glb K mg) :Zp P w K mg base 1 "hear_reset" Za9:=
  Z3 D ZwU 2 2 rfl rfl fun f cdv A outer s H E hr=>(Zf (ZK (ZG (Zae hr.units) (Zm (Zs ⟨g.k_End,g.zn16⟩) (Za 0)) (ZA g.zc39)) (Zi ZdH) ZC)
  (Zi (ZK (ZG (Zae hr.units) (ZH ZJ (Za 1) (Zl g.zc24)) (Zm (Zs ⟨g.k_End,g.zn14⟩) (Za 0))) (Zf (Zx (Zs ⟨g.k_End,g.zn16⟩) (Za 0) (ZA g.zc2))
    (Zi (Zx (Zs ⟨g.k_End,g.zn4⟩) (Za 0) (ZA g.zc28)))) (Zi (Zx (Zs ⟨g.k_End,g.zn11⟩) (Za 0) Zad)))))
theorem ZvP (D:Zn K mg "draw_in_order" Zi2 Zm9) (g:Glb K mg) (zd2:Zp P w K mg base 2 "lay" Zfj) (zd4:Zp P w K mg base 1 "plus" zo):Zp P w K mg base 3 "draw_in_order" ZaO:=
  Z3 D zc54 1 2 rfl rfl fun f cdv A outer s H E hr=>(Zf (Zmn 1 zc54.nd Zg)
  (Zf (ZgS 200 PassesOwn.never (MW.mt (Zda (ZG (Ze0 hr.units) (Zm (Zs ⟨g.k_End,g.zn14⟩) (Za 0)) (Zm (Zs ⟨g.k_End,g.zn3⟩) (Za 0))) (Za6 (ZsS hr (Zm (Zs ⟨g.k_End,g.zn14⟩) (Za 0)) (Zm (Zs ⟨g.k_End,g.zn2⟩) (Za 0)))))) (Zf (Zmp 1 (ZlG (Zm (Zs ⟨g.k_End,g.zn2⟩) (Za 0)) (Zm (Zs ⟨g.k_End,g.zn14⟩) (Za 0)) ⟨rfl,rfl,rfl,rfl⟩) (hpe:=fun h=>Zru PySem.F.plainAttrs_list PySem.F.slot_list_append PySem.F.type_list_append ZhH h (Zic (ZlG (Zm (Zs ⟨g.k_End,g.zn2⟩) (Za 0)) (Zm (Zs ⟨g.k_End,g.zn14⟩) (Za 0)) ⟨rfl,rfl,rfl,rfl⟩) ZkQ)))
    (Zi (Zx (Zs ⟨g.k_End,g.zn14⟩) (Za 0) (Zh zd4 hr (by decide) (Zb (Zm (Zs ⟨g.k_End,g.zn14⟩) (Za 0)) (Zb Zj Zg)))))))
  (Zi (Zmo 1 (ZX (Zh zd2 hr (by decide) (Zb (Zm (Zs ⟨g.k_End,g.zn1⟩) (Za 0)) (Zb (Za 1) Zg))))))))
theorem ZvO (D:Zn K mg "hear_fin" Zi1 Zm8) (g:Glb K mg) (zd4:Zp P w K mg base 1 "plus" zo):Zp P w K mg base 2 "hear_fin" Zb6:=
  Z3 D ZwN 2 2 rfl rfl fun f cdv A outer s H E hr=>(Zf (Zx (Zs ⟨g.k_End,g.zn14⟩) (Za 0) (Zh zd4 hr (by decide) (Zb (Zm (Zs ⟨g.k_End,g.zn14⟩) (Za 0)) (Zb Zj Zg))))
  (Zi (ZK (ZG (Zae hr.units) (Zm (Zs ⟨g.k_End,g.zn16⟩) (Za 0)) (ZA g.zc25)) (Zi (Zx (Zs ⟨g.k_End,g.zn16⟩) (Za 0) (ZA g.zc3))) (Zi (ZK (ZG (Zae hr.units) (Zm (Zs ⟨g.k_End,g.zn16⟩) (Za 0)) (ZA g.zc40)) (Zi (Zx (Zs ⟨g.k_End,g.zn16⟩) (Za 0) (ZA g.zc4))) (Zf (Zx (Zs ⟨g.k_End,g.zn16⟩) (Za 0) (ZA g.zc39))
      (Zi (Zx (Zs ⟨g.k_End,g.zn15⟩) (Za 0) (Za 1)))))))))
theorem ZvR (D:Zn K mg "keep_data" Zi4 Znb) (g:Glb K mg) (zd42:Zp P w K mg base 3 "is_in_window" zm) (zd4:Zp P w K mg base 1 "plus" zo):Zp P w K mg base 4 "keep_data" ZbB:=
  Z3 D zc52 2 5 rfl rfl fun f cdv A outer s H E hr=>(Zf (Zqw 2 3 zc52.nd PassesOwn.never g.b_enumerate (Zb (ZH ZJ (Za 1) (Zl g.zc5)) Zg) (Zf (ZN 4 zc52.nd (Zh zd4 hr (by decide) (Zb (ZH ZJ (Za 1) (Zl g.zc24)) (Zb (Za 2) Zg))))
    (Zi (ZK (ZD (Zh zd42 hr (by decide) (Zb (Za 0) (Zb (Za 4) Zg)))) (Zi (ZX (ZoO (Zm (Zs ⟨g.k_End,g.zn2⟩) (Za 0)) (Za 4) (Za 3) ⟨rfl,rfl,rfl,rfl⟩))) ZC))))
  (Zi (ZK (ZG Zj9 (zP ZeV g.b_len PySem.boot_len (Zb (ZH ZJ (Za 1) (Zl g.zc5)) Zg)) Zj) (Zi (Zx (Zs ⟨g.k_End,g.zn11⟩) (Za 0) Zad)) ZC)))
theorem ZvQ (D:Zn K mg "keep_fin" Zi3 Zna) (g:Glb K mg) (zd16:Zp P w K mg base 2 "bears" Z2) (zd42:Zp P w K mg base 3 "is_in_window" zm) (zd4:Zp P w K mg base 1 "plus" zo):Zp P w K mg base 4 "keep_fin" Zb5:=
  Z3 D zc53 2 3 rfl rfl fun f cdv A outer s H E hr=>(Zf (ZK (ZbK (ZD (Zh zd16 hr (by decide) (Zb (Za 1) (Zb (Zl g.zc6) Zg))))) (Zi ZdH) ZC)
  (Zf (Zx (Zs ⟨g.k_End,g.zn11⟩) (Za 0) Zad)
  (Zf (ZN 2 zc53.nd (Zh zd4 hr (by decide) (Zb (ZH ZJ (Za 1) (Zl g.zc24)) (Zb (zP ZeV g.b_len PySem.boot_len (Zb (ZH ZJ (Za 1) (Zl g.zc5)) Zg)) Zg))))
  (Zi (ZK (MW.mt (Zda (ZG Zqs (Zm (Zs ⟨g.k_End,g.zn3⟩) (Za 0)) Zbw) (Za6 (ZD (Zh zd42 hr (by decide) (Zb (Za 0) (Zb (Za 2) Zg))))))) (Zi (Zx (Zs ⟨g.k_End,g.zn3⟩) (Za 0) (Za 2))) ZC)))))
theorem ZvS (D:Zn K mg "hear_stream" Zi5 Znc) (g:Glb K mg) (zd54:Zp P w K mg base 3 "draw_in_order" ZaO) (zd55:Zp P w K mg base 2 "hear_fin" Zb6) (zd52:Zp P w K mg base 4 "keep_data" ZbB) (zd53:Zp P w K mg base 4 "keep_fin" Zb5):Zp P w K mg base 5 "hear_stream" Zas:=
  Z3 D ZwO 3 3 rfl rfl fun f cdv A outer s H E hr=>(Zf (ZK (ZG Zlx (Zm (Zs ⟨g.k_End,g.zn16⟩) (Za 0)) (zW (Zb (ZA g.zc25) (Zb (ZA g.zc40) (Zb (ZA g.zc41) Zg)))) (by with_unfolding_all rfl)) (Zi ZdH) ZC)
  (Zf (ZX (Zh zd52 hr (by decide) (Zb (Za 0) (Zb (Za 1) Zg))))
  (Zf (ZX (Zh zd53 hr (by decide) (Zb (Za 0) (Zb (Za 1) Zg))))
  (Zf (ZX (Zh zd54 hr (by decide) (Zb (Za 0) Zg)))
  (Zi (ZK (ZG (Zae hr.units) (Zm (Zs ⟨g.k_End,g.zn14⟩) (Za 0)) (Zm (Zs ⟨g.k_End,g.zn3⟩) (Za 0))) (Zi (ZX (Zh zd55 hr (by decide) (Zb (Za 0) (Zb (Za 2) Zg))))) ZC))))))
theorem Zv0 (D:Zn K mg "turn_away" Zjd Znk) (g:Glb K mg) (zd16:Zp P w K mg base 2 "bears" Z2):Zp P w K mg base 3 "turn_away" Za2:=
  Z3 D zc43 3 3 rfl rfl fun f cdv A outer s H E hr=>(Zf (ZK (ZD (Zh zd16 hr (by decide) (Zb (Za 1) (Zb (Zl g.zc32) Zg)))) (Zi ZdH) ZC)
  (Zf (ZK (MW.mt (Zda (ZG (Zae hr.units) (Zm (Zs ⟨g.k_End,g.zn16⟩) (Za 0)) (ZA g.zc36)) (Zda (ZD (Zh zd16 hr (by decide) (Zb (Za 1) (Zb (Zl g.zc35) Zg)))) (Za6 (ZbK (ZD (Zh zd16 hr (by decide) (Zb (Za 1) (Zb (Zl g.zc0) Zg))))))))) (Zi (Zx (Zs ⟨g.k_End,g.zn12⟩) (Za 0) Zad)) (Zi (Zx (Zs ⟨g.k_End,g.zn11⟩) (Za 0) Zad)))
  (Zi (ZK (ZG (Zae hr.units) (Zm (Zs ⟨g.k_End,g.zn16⟩) (Za 0)) (ZA g.zc39)) (Zi (Zx (Zs ⟨g.k_End,g.zn15⟩) (Za 0) (Za 2))) ZC))))
theorem Zv3 (D:Zn K mg "come_to_stream" Zjg Znn) (g:Glb K mg) (zd16:Zp P w K mg base 2 "bears" Z2) (zd41:Zp P w K mg base 4 "fits" ZfP) (zd45:Zp P w K mg base 6 "goes_on_behind_answer" ZZ) (zd44:Zp P w K mg base 1 "hear_reset" Za9) (zd51:Zp P w K mg base 5 "hear_stream" Zas) (zd43:Zp P w K mg base 3 "turn_away" Za2):Zp P w K mg base 7 "come_to_stream" Z8:=
  Z3 D zc40 3 3 rfl rfl fun f cdv A outer s H E hr=>(Zi (ZK (ZbK (ZD (Zh zd41 hr (by decide) (Zb (Za 0) (Zb (Za 1) Zg))))) (Zi (ZX (Zh zd43 hr (by decide) (Zb (Za 0) (Zb (Za 1) (Zb (Za 2) Zg)))))) (Zi (ZK (ZD (Zh zd16 hr (by decide) (Zb (Za 1) (Zb (Zl g.zc32) Zg)))) (Zi (ZX (Zh zd44 hr (by decide) (Zb (Za 0) (Zb (Za 1) Zg))))) (Zi (ZK (ZD (Zh zd16 hr (by decide) (Zb (Za 1) (Zb (Zl g.zc35) Zg)))) (Zi (Zx (Zs ⟨g.k_End,g.zn11⟩) (Za 0) Zad)) (Zi (ZK (MW.mt (Zda (ZD (Zh zd16 hr (by decide) (Zb (Za 1) (Zb (Zl g.zc0) Zg)))) (Za6 (ZD (Zh zd45 hr (by decide) (Zb (Za 0) (Zb (Za 1) (Zb (Za 2) Zg)))))))) (Zi (ZX (Zh zd51 hr (by decide) (Zb (Za 0) (Zb (Za 1) (Zb (Za 2) Zg)))))) ZC))))))))
theorem Zv4 (D:Zn K mg "is_for" Zjh Zno) (g:Glb K mg) :Zp P w K mg base 1 "is_for" Zd9:=
  Z3 D zc39 2 2 rfl rfl fun f cdv A outer s H E hr=>(Zi (Zy (ZbL (zG (Zae hr.units) (ZH ZJ (Za 1) (Zl g.zc9)) (Zm (Zs ⟨g.k_End,g.zn9⟩) (Za 0))) (ZcJ (ZlF (zG Zj8 (Zm (Zs ⟨g.k_End,g.zn16⟩) (Za 0)) (zW (Zb (ZA g.zc2) (Zb (ZA g.zc17) Zg))) (by with_unfolding_all rfl)) (ZcJ (zG (Zae hr.units) (ZH ZJ (Za 1) (Zl g.zc34)) (Zm (Zs ⟨g.k_End,g.zn17⟩) (Za 0)))))))))
theorem Zv5 (D:Zn K mg "arrive" Zji Znp) (g:Glb K mg) (zd31:Zp P w K mg base 5 "come_to_closed" Zaz) (zd32:Zp P w K mg base 5 "come_to_listen" zu) (zd40:Zp P w K mg base 7 "come_to_stream" Z8) (zd34:Zp P w K mg base 5 "come_to_syn_sent" ZQ) (zd26:Zp P w K mg base 4 "get" ZhE) (zd39:Zp P w K mg base 1 "is_for" Zd9) (zd23:Zp P w K mg base 3 "is_right" z8):Zp P w K mg base 8 "arrive" ZaA:=
  Z3 D zc38 3 4 rfl rfl fun f cdv A outer s H E hr=>(Zf (ZK (ZbK (ZD (Zh zd23 hr (by decide) (Zb (Za 1) Zg)))) (Zi (Zy Zad)) ZC)
  (Zf (ZN 3 zc38.nd (Zh zd26 hr (by decide) (Zb (Za 1) Zg)))
  (Zf (ZK (ZbK (ZD (Zh zd39 hr (by decide) (Zb (Za 0) (Zb (Za 3) Zg))))) (Zi (Zy Zad)) ZC)
  (Zf (ZK (ZG (Zae hr.units) (Zm (Zs ⟨g.k_End,g.zn16⟩) (Za 0)) (ZA g.zc2)) (Zi (ZX (Zh zd31 hr (by decide) (Zb (Za 0) (Zb (Za 3) Zg))))) (Zi (ZK (ZG (Zae hr.units) (Zm (Zs ⟨g.k_End,g.zn16⟩) (Za 0)) (ZA g.zc17)) (Zi (ZX (Zh zd32 hr (by decide) (Zb (Za 0) (Zb (Za 3) Zg))))) (Zi (ZK (ZG (Zae hr.units) (Zm (Zs ⟨g.k_End,g.zn16⟩) (Za 0)) (ZA g.zc37)) (Zi (ZX (Zh zd34 hr (by decide) (Zb (Za 0) (Zb (Za 3) (Zb (Za 2) Zg)))))) (Zi (ZX (Zh zd40 hr (by decide) (Zb (Za 0) (Zb (Za 3) (Zb (Za 2) Zg)))))))))))
  (Zi (Zy Zad))))))
theorem ZvN (D:Zn K mg "opened" Zi0 Zm7) (g:Glb K mg) (zd7:MMk P w K mg base 3 "End" Zb7):Zp P w K mg base 5 "opened" Zci:=
  Z3 D ZwM 4 4 rfl rfl fun f cdv A outer s H E hr=>(Zi (Zy (Zqx zd7 hr (by decide) (Zb (Za 0) (Zb (Za 1) (Zb (Za 2) (Zb (Za 3) Zg)))))))
theorem ZvM (D:Zn K mg "write" ZiZ Zm6) (g:Glb K mg) (zd2:Zp P w K mg base 2 "lay" Zfj) (zd4:Zp P w K mg base 1 "plus" zo):Zp P w K mg base 3 "write" ZcU:=
  Z3 D zc57 2 3 rfl rfl fun f cdv A outer s H E hr=>(Zf (ZK (MW.mt (Zed (ZD (Zm (Zs ⟨g.k_End,g.zn6⟩) (Za 0))) (ZaT (ZG Zlx (Zm (Zs ⟨g.k_End,g.zn16⟩) (Za 0)) (zW (Zb (ZA g.zc37) (Zb (ZA g.zc36) (Zb (ZA g.zc25) (Zb (ZA g.zc3) Zg))))) (by with_unfolding_all rfl))))) (Zi (Zy Zj)) ZC)
  (Zf (ZN 2 zc57.nd (Zh zd2 hr (by decide) (Zb (Zm (Zs ⟨g.k_End,g.zn24⟩) (Za 0)) (Zb (Za 1) Zg))))
  (Zf (Zx (Zs ⟨g.k_End,g.zn0⟩) (Za 0) (Zh zd4 hr (by decide) (Zb (Zm (Zs ⟨g.k_End,g.zn0⟩) (Za 0)) (Zb (Za 2) Zg))))
  (Zi (Zy (Za 2))))))
theorem ZvL (D:Zn K mg "read" ZiY Zm5) (g:Glb K mg) (zd10:Zp P w K mg base 2 "our_window" zK) (zd3:Zp P w K mg base 1 "take" Zb2):Zp P w K mg base 3 "read" Zc8:=
  Z3 D zc58 2 4 rfl rfl fun f cdv A outer s H E hr=>(Zf (ZN 2 zc58.nd (zG (Zae hr.units) (Zh zd10 hr (by decide) (Zb (Za 0) Zg)) Zj))
  (Zf (ZN 3 zc58.nd (Zh zd3 hr (by decide) (Zb (Zm (Zs ⟨g.k_End,g.zn1⟩) (Za 0)) (Zb (Za 1) Zg))))
  (Zf (ZK (MW.mt (Zda (ZD (Za 2)) (Zda (ZG Zj9 (Zh zd10 hr (by decide) (Zb (Za 0) Zg)) Zj) (Za6 (ZG Zj8 (Zm (Zs ⟨g.k_End,g.zn16⟩) (Za 0)) (zW (Zb (ZA g.zc25) (Zb (ZA g.zc40) (Zb (ZA g.zc41) Zg)))) (by with_unfolding_all rfl)))))) (Zi (Zx (Zs ⟨g.k_End,g.zn11⟩) (Za 0) Zad)) ZC)
  (Zi (Zy (Za 3))))))
theorem ZvF (D:Zn K mg "most_at_once" ZiS ZmZ) (g:Glb K mg) :Zp P w K mg base 1 "most_at_once" z7:=
  Z3 D ZwK 1 1 rfl rfl fun f cdv A outer s H E hr=>(Zi (Zy (zP ZlW g.b_min PyProof.Rows.boot_min (Zb (Zm (Zs ⟨g.k_End,g.zn7⟩) (Za 0)) (Zb (Zl g.zc10) Zg)))))
theorem ZvE (D:Zn K mg "paid_syn" ZiR ZmY) (g:Glb K mg) :Zp P w K mg base 1 "paid_syn" Zbt:=
  Z3 D ZwJ 1 1 rfl rfl fun f cdv A outer s H E hr=>(Zf (Zx (Zs ⟨g.k_End,g.zn12⟩) (Za 0) Zad)
  (Zf (ZK (ZG (Zae hr.units) (Zm (Zs ⟨g.k_End,g.zn16⟩) (Za 0)) (ZA g.zc37)) (Zi (Zy (zW (Zb (Zm (Zs ⟨g.k_End,g.zn9⟩) (Za 0)) (Zb (Zm (Zs ⟨g.k_End,g.zn17⟩) (Za 0)) (Zb (Zm (Zs ⟨g.k_End,g.zn5⟩) (Za 0)) (Zb Zj (Zb (Zl g.zc35) (Zb (Zl g.zc30) (Zb (Zl g.zc10) (Zb (zW Zg) Zg))))))))))) ZC)
  (Zi (Zy (zW (Zb (Zm (Zs ⟨g.k_End,g.zn9⟩) (Za 0)) (Zb (Zm (Zs ⟨g.k_End,g.zn17⟩) (Za 0)) (Zb (Zm (Zs ⟨g.k_End,g.zn5⟩) (Za 0)) (Zb (Zm (Zs ⟨g.k_End,g.zn14⟩) (Za 0)) (Zb (ZF zv (Zl g.zc35) (Zl g.zc0)) (Zb (Zl g.zc30) (Zb (Zl g.zc10) (Zb (zW Zg) Zg)))))))))))))
theorem ZvD (D:Zn K mg "segment_of" ZiQ ZmX) (g:Glb K mg) (zd10:Zp P w K mg base 2 "our_window" zK):Zp P w K mg base 3 "segment_of" zA:=
  Z3 D ZwI 4 4 rfl rfl fun f cdv A outer s H E hr=>(Zi (Zy (zW (Zb (Zm (Zs ⟨g.k_End,g.zn9⟩) (Za 0)) (Zb (Zm (Zs ⟨g.k_End,g.zn17⟩) (Za 0)) (Zb (Za 1) (Zb (Zm (Zs ⟨g.k_End,g.zn14⟩) (Za 0)) (Zb (ZF zv (Za 2) (Zl g.zc0)) (Zb (Zh zd10 hr (by decide) (Zb (Za 0) Zg)) (Zb Zj (Zb (ZfR ZlV g.b_tuple PyProof.Rows.boot_tuple (Zb (Za 3) Zg)) Zg)))))))))))
theorem ZvG (D:Zn K mg "again" ZiT Zm0) (g:Glb K mg) (zd64:Zp P w K mg base 1 "most_at_once" z7) (zd5:Zp P w K mg base 1 "offset" zB) (zd65:Zp P w K mg base 1 "paid_syn" Zbt) (zd66:Zp P w K mg base 3 "segment_of" zA):Zp P w K mg base 4 "again" ZcV:=
  Z3 D zc63 2 3 rfl rfl fun f cdv A outer s H E hr=>(Zf (ZK (ZG (Zae hr.units) (Zm (Zs ⟨g.k_End,g.zn20⟩) (Za 0)) (Zl g.zc21)) (Zf (Zx (Zs ⟨g.k_End,g.zn16⟩) (Za 0) (ZA g.zc2))
    (Zf (Zx (Zs ⟨g.k_End,g.zn4⟩) (Za 0) (ZA g.zc38))
    (Zi (Zy Zbw)))) ZC)
  (Zf (Zx (Zs ⟨g.k_End,g.zn20⟩) (Za 0) (ZF zv (Zm (Zs ⟨g.k_End,g.zn20⟩) (Za 0)) Zj))
  (Zf (Zx (Zs ⟨g.k_End,g.zn22⟩) (Za 0) (zP ZlW g.b_min PyProof.Rows.boot_min (Zb (ZF Zfl Zj (Zm (Zs ⟨g.k_End,g.zn22⟩) (Za 0))) (Zb (Zl g.zc18) Zg))))
  (Zf (Zx (Zs ⟨g.k_End,g.zn15⟩) (Za 0) (Za 1))
  (Zf (ZK (ZG Zj8 (Zm (Zs ⟨g.k_End,g.zn16⟩) (Za 0)) (zW (Zb (ZA g.zc37) (Zb (ZA g.zc36) Zg))) (by with_unfolding_all rfl)) (Zi (Zy (Zh zd65 hr (by decide) (Zb (Za 0) Zg)))) ZC)
  (Zf (ZN 2 zc63.nd (Zdp (Zm (Zs ⟨g.k_Pile,g.zn25⟩) (Zm (Zs ⟨g.k_End,g.zn24⟩) (Za 0))) ZcX (Zcc (zP ZlW g.b_min PyProof.Rows.boot_min (Zb (Zh zd5 hr (by decide) (Zb (Zm (Zs ⟨g.k_End,g.zn8⟩) (Za 0)) (Zb (Zm (Zs ⟨g.k_End,g.zn21⟩) (Za 0)) Zg))) (Zb (Zh zd64 hr (by decide) (Zb (Za 0) Zg)) Zg))))))
  (Zi (Zy (Zh zd66 hr (by decide) (Zb (Za 0) (Zb (Zm (Zs ⟨g.k_End,g.zn21⟩) (Za 0)) (Zb (Zco (ZG Zj9 (zP ZeV g.b_len PySem.boot_len (Zb (Za 2) Zg)) Zj) Zj (Zl g.zc6)) (Zb (Za 2) Zg)))))))))))))
theorem Zvs (D:Zn K mg "going_as_answer" ZiF ZmM) (g:Glb K mg) (zd66:Zp P w K mg base 3 "segment_of" zA):Zp P w K mg base 4 "going_as_answer" zT:=
  Z3 D ZwA 1 1 rfl rfl fun f cdv A outer s H E hr=>(Zf (ZK (ZbK (ZD (Zm (Zs ⟨g.k_End,g.zn11⟩) (Za 0)))) (Zi (Zy Zbw)) ZC)
  (Zf (Zx (Zs ⟨g.k_End,g.zn11⟩) (Za 0) Zad)
  (Zi (Zy (Zh zd66 hr (by decide) (Zb (Za 0) (Zb (Zm (Zs ⟨g.k_End,g.zn8⟩) (Za 0)) (Zb Zj (Zb (Zcn Zg) Zg)))))))))
theorem Zvy (D:Zn K mg "unsent" ZiL ZmS) (g:Glb K mg) (zd5:Zp P w K mg base 1 "offset" zB):Zp P w K mg base 2 "unsent" Zbj:=
  Z3 D ZwE 1 1 rfl rfl fun f cdv A outer s H E hr=>(Zi (Zy (Zh zd5 hr (by decide) (Zb (Zm (Zs ⟨g.k_End,g.zn0⟩) (Za 0)) (Zb (Zm (Zs ⟨g.k_End,g.zn8⟩) (Za 0)) Zg)))))
theorem Zvz (D:Zn K mg "has_new_data" ZiM ZmT) (g:Glb K mg) (zd71:Zp P w K mg base 2 "unsent" Zbj):Zp P w K mg base 3 "has_new_data" z9:=
  Z3 D ZwF 1 1 rfl rfl fun f cdv A outer s H E hr=>(Zi (Zy (ZbL (zG Zj8 (Zm (Zs ⟨g.k_End,g.zn16⟩) (Za 0)) (zW (Zb (ZA g.zc25) (Zb (ZA g.zc40) (Zb (ZA g.zc3) (Zb (ZA g.zc4) (Zb (ZA g.zc14) Zg)))))) (by with_unfolding_all rfl)) (ZcJ (zG Zj9 (Zh zd71 hr (by decide) (Zb (Za 0) Zg)) Zj)))))
theorem Zvx (D:Zn K mg "has_new_fin" ZiK ZmR) (g:Glb K mg) (zd71:Zp P w K mg base 2 "unsent" Zbj):Zp P w K mg base 3 "has_new_fin" Zbk:=
  Z3 D ZwD 1 1 rfl rfl fun f cdv A outer s H E hr=>(Zi (Zy (ZbL (zG Zj8 (Zm (Zs ⟨g.k_End,g.zn16⟩) (Za 0)) (zW (Zb (ZA g.zc40) (Zb (ZA g.zc4) (Zb (ZA g.zc14) Zg)))) (by with_unfolding_all rfl)) (ZcJ (zG (Zae hr.units) (Zh zd71 hr (by decide) (Zb (Za 0) Zg)) Zj)))))
theorem ZvA (D:Zn K mg "has_more" ZiN ZmU) (g:Glb K mg) (zd70:Zp P w K mg base 3 "has_new_data" z9) (zd72:Zp P w K mg base 3 "has_new_fin" Zbk):Zp P w K mg base 4 "has_more" Zbv:=
  Z3 D ZwG 1 1 rfl rfl fun f cdv A outer s H E hr=>(Zi (Zy (ZlF (Zh zd70 hr (by decide) (Zb (Za 0) Zg)) (ZcJ (Zh zd72 hr (by decide) (Zb (Za 0) Zg))))))
theorem Zvv (D:Zn K mg "new_data" ZiI ZmP) (g:Glb K mg) (zd64:Zp P w K mg base 1 "most_at_once" z7) (zd5:Zp P w K mg base 1 "offset" zB) (zd4:Zp P w K mg base 1 "plus" zo) (zd66:Zp P w K mg base 3 "segment_of" zA) (zd71:Zp P w K mg base 2 "unsent" Zbj):Zp P w K mg base 4 "new_data" Zb4:=
  Z3 D zc74 2 5 rfl rfl fun f cdv A outer s H E hr=>(Zf (ZN 2 zc74.nd (Zm (Zs ⟨g.k_End,g.zn8⟩) (Za 0)))
  (Zf (ZN 3 zc74.nd (zP ZlW g.b_min PyProof.Rows.boot_min (Zb (Zh zd64 hr (by decide) (Zb (Za 0) Zg)) (Zb (Zh zd71 hr (by decide) (Zb (Za 0) Zg)) (Zb (Za 1) Zg)))))
  (Zf (ZN 4 zc74.nd (Zh zd5 hr (by decide) (Zb (Za 2) (Zb (Zm (Zs ⟨g.k_End,g.zn21⟩) (Za 0)) Zg))))
  (Zf (Zx (Zs ⟨g.k_End,g.zn8⟩) (Za 0) (Zh zd4 hr (by decide) (Zb (Za 2) (Zb (Za 3) Zg))))
  (Zi (Zy (Zh zd66 hr (by decide) (Zb (Za 0) (Zb (Za 2) (Zb (Zco (ZG (Zae hr.units) (Zh zd71 hr (by decide) (Zb (Za 0) Zg)) Zj) (Zl g.zc26) Zj) (Zb (Zdp (Zm (Zs ⟨g.k_Pile,g.zn25⟩) (Zm (Zs ⟨g.k_End,g.zn24⟩) (Za 0))) (Zcc (Za 4)) (Zcc (ZF zv (Za 4) (Za 3)))) Zg)))))))))))
theorem Zvu (D:Zn K mg "new_fin" ZiH ZmO) (g:Glb K mg) (zd4:Zp P w K mg base 1 "plus" zo) (zd66:Zp P w K mg base 3 "segment_of" zA):Zp P w K mg base 4 "new_fin" Zdm:=
  Z3 D zc75 1 2 rfl rfl fun f cdv A outer s H E hr=>(Zf (ZN 1 zc75.nd (Zm (Zs ⟨g.k_End,g.zn8⟩) (Za 0)))
  (Zf (Zx (Zs ⟨g.k_End,g.zn8⟩) (Za 0) (Zh zd4 hr (by decide) (Zb (Za 1) (Zb Zj Zg))))
  (Zi (Zy (Zh zd66 hr (by decide) (Zb (Za 0) (Zb (Za 1) (Zb (Zl g.zc6) (Zb (Zcn Zg) Zg)))))))))
theorem Zvw (D:Zn K mg "new_piece" ZiJ ZmQ) (g:Glb K mg) (zd70:Zp P w K mg base 3 "has_new_data" z9) (zd74:Zp P w K mg base 4 "new_data" Zb4) (zd75:Zp P w K mg base 4 "new_fin" Zdm):Zp P w K mg base 5 "new_piece" ZaK:=
  Z3 D ZwC 2 2 rfl rfl fun f cdv A outer s H E hr=>(Zf (Zx (Zs ⟨g.k_End,g.zn13⟩) (Za 0) Zad)
  (Zi (Zy (Zco (ZD (Zh zd70 hr (by decide) (Zb (Za 0) Zg))) (Zh zd74 hr (by decide) (Zb (Za 0) (Zb (Za 1) Zg))) (Zh zd75 hr (by decide) (Zb (Za 0) Zg))))))
theorem ZvB (D:Zn K mg "new_syn" ZiO ZmV) (g:Glb K mg) (zd65:Zp P w K mg base 1 "paid_syn" Zbt) (zd4:Zp P w K mg base 1 "plus" zo) (zd8:Zp P w K mg base 1 "start_timer" Z6):Zp P w K mg base 2 "new_syn" Zcy:=
  Z3 D ZwH 2 2 rfl rfl fun f cdv A outer s H E hr=>(Zf (ZK (ZG (Zae hr.units) (Zm (Zs ⟨g.k_End,g.zn8⟩) (Za 0)) (Zm (Zs ⟨g.k_End,g.zn21⟩) (Za 0))) (Zi (ZX (Zh zd8 hr (by decide) (Zb (Za 0) (Zb (Za 1) Zg))))) ZC)
  (Zf (Zx (Zs ⟨g.k_End,g.zn8⟩) (Za 0) (Zh zd4 hr (by decide) (Zb (Zm (Zs ⟨g.k_End,g.zn5⟩) (Za 0)) (Zb Zj Zg))))
  (Zi (Zy (Zh zd65 hr (by decide) (Zb (Za 0) Zg))))))
theorem ZvC (D:Zn K mg "going_as_new" ZiP ZmW) (g:Glb K mg) (zd69:Zp P w K mg base 4 "has_more" Zbv) (zd73:Zp P w K mg base 5 "new_piece" ZaK) (zd68:Zp P w K mg base 2 "new_syn" Zcy) (zd5:Zp P w K mg base 1 "offset" zB) (zd8:Zp P w K mg base 1 "start_timer" Z6):Zp P w K mg base 6 "going_as_new" Z5:=
  Z3 D zc67 2 3 rfl rfl fun f cdv A outer s H E hr=>(Zf (ZK (ZG Zj8 (Zm (Zs ⟨g.k_End,g.zn16⟩) (Za 0)) (zW (Zb (ZA g.zc37) (Zb (ZA g.zc36) Zg))) (by with_unfolding_all rfl)) (Zi (Zy (Zco (MW.mt (Zed (ZG (Zae hr.units) (Zm (Zs ⟨g.k_End,g.zn8⟩) (Za 0)) (Zm (Zs ⟨g.k_End,g.zn5⟩) (Za 0))) (ZaT (ZD (Zm (Zs ⟨g.k_End,g.zn12⟩) (Za 0)))))) (Zh zd68 hr (by decide) (Zb (Za 0) (Zb (Za 1) Zg))) Zbw))) ZC)
  (Zf (ZN 2 zc67.nd (ZF Zeb (Zm (Zs ⟨g.k_End,g.zn23⟩) (Za 0)) (Zh zd5 hr (by decide) (Zb (Zm (Zs ⟨g.k_End,g.zn8⟩) (Za 0)) (Zb (Zm (Zs ⟨g.k_End,g.zn21⟩) (Za 0)) Zg)))))
  (Zf (ZK (MW.mt (Zed (ZG ZkR (Za 2) Zj) (ZaT (ZbK (ZD (Zh zd69 hr (by decide) (Zb (Za 0) Zg))))))) (Zi (Zy Zbw)) ZC)
  (Zf (ZK (ZG (Zae hr.units) (Zm (Zs ⟨g.k_End,g.zn8⟩) (Za 0)) (Zm (Zs ⟨g.k_End,g.zn21⟩) (Za 0))) (Zi (ZX (Zh zd8 hr (by decide) (Zb (Za 0) (Zb (Za 1) Zg))))) ZC)
  (Zf (Zx (Zs ⟨g.k_End,g.zn11⟩) (Za 0) Zad)
  (Zi (Zy (Zh zd73 hr (by decide) (Zb (Za 0) (Zb (Za 2) Zg))))))))))
theorem ZvH (D:Zn K mg "is_due" ZiU Zm1) (g:Glb K mg) :Zp P w K mg base 1 "is_due" ZcH:=
  Z3 D ZwL 2 2 rfl rfl fun f cdv A outer s H E hr=>(Zi (Zy (zG Zqt (ZF Zeb (Za 1) (Zm (Zs ⟨g.k_End,g.zn15⟩) (Za 0))) (Zm (Zs ⟨g.k_End,g.zn22⟩) (Za 0)))))
theorem Zvt (D:Zn K mg "going_as_probe" ZiG ZmN) (g:Glb K mg) (zd69:Zp P w K mg base 4 "has_more" Zbv) (zd62:Zp P w K mg base 1 "is_due" ZcH) (zd73:Zp P w K mg base 5 "new_piece" ZaK) (zd8:Zp P w K mg base 1 "start_timer" Z6):Zp P w K mg base 6 "going_as_probe" Z7:=
  Z3 D ZwB 2 2 rfl rfl fun f cdv A outer s H E hr=>(Zf (ZK (MW.mt (Zed (ZG (Ze0 hr.units) (Zm (Zs ⟨g.k_End,g.zn8⟩) (Za 0)) (Zm (Zs ⟨g.k_End,g.zn21⟩) (Za 0))) (Zed (ZG (Ze0 hr.units) (Zm (Zs ⟨g.k_End,g.zn23⟩) (Za 0)) Zj) (ZaT (ZbK (ZD (Zh zd69 hr (by decide) (Zb (Za 0) Zg)))))))) (Zf (Zx (Zs ⟨g.k_End,g.zn13⟩) (Za 0) Zad)
    (Zi (Zy Zbw))) ZC)
  (Zf (ZK (ZbK (ZD (Zm (Zs ⟨g.k_End,g.zn13⟩) (Za 0)))) (Zf (Zx (Zs ⟨g.k_End,g.zn13⟩) (Za 0) Zad)
    (Zi (ZX (Zh zd8 hr (by decide) (Zb (Za 0) (Zb (Za 1) Zg)))))) ZC)
  (Zf (ZK (ZbK (ZD (Zh zd62 hr (by decide) (Zb (Za 0) (Zb (Za 1) Zg))))) (Zi (Zy Zbw)) ZC)
  (Zf (Zx (Zs ⟨g.k_End,g.zn15⟩) (Za 0) (Za 1))
  (Zi (Zy (Zh zd73 hr (by decide) (Zb (Za 0) (Zb Zj Zg)))))))))
theorem ZvI (D:Zn K mg "paid_reset" ZiV Zm2) (g:Glb K mg) :Zp P w K mg base 1 "paid_reset" Zcv:=
  Z3 D zc61 1 2 rfl rfl fun f cdv A outer s H E hr=>(Zf (ZN 1 zc61.nd (Zm (Zs ⟨g.k_End,g.zn10⟩) (Za 0)))
  (Zf (Zx (Zs ⟨g.k_End,g.zn10⟩) (Za 0) Zbw)
  (Zi (Zy (Za 1)))))
theorem ZvJ (D:Zn K mg "going" ZiW Zm3) (g:Glb K mg) (zd63:Zp P w K mg base 4 "again" ZcV) (zd77:Zp P w K mg base 4 "going_as_answer" zT) (zd67:Zp P w K mg base 6 "going_as_new" Z5) (zd76:Zp P w K mg base 6 "going_as_probe" Z7) (zd62:Zp P w K mg base 1 "is_due" ZcH) (zd61:Zp P w K mg base 1 "paid_reset" Zcv):Zp P w K mg base 7 "going" ZdF:=
  Z3 D zc60 2 3 rfl rfl fun f cdv A outer s H E hr=>(Zf (ZK (ZG Zqr (Zm (Zs ⟨g.k_End,g.zn10⟩) (Za 0)) Zbw) (Zi (Zy (Zh zd61 hr (by decide) (Zb (Za 0) Zg)))) ZC)
  (Zf (ZK (MW.mt (Zda (ZG (Zae hr.units) (Zm (Zs ⟨g.k_End,g.zn16⟩) (Za 0)) (ZA g.zc39)) (Za6 (ZG Zqt (ZF Zeb (Za 1) (Zm (Zs ⟨g.k_End,g.zn15⟩) (Za 0))) (Zl g.zc15))))) (Zi (Zx (Zs ⟨g.k_End,g.zn16⟩) (Za 0) (ZA g.zc2))) ZC)
  (Zf (ZK (ZG Zj8 (Zm (Zs ⟨g.k_End,g.zn16⟩) (Za 0)) (zW (Zb (ZA g.zc2) (Zb (ZA g.zc17) Zg))) (by with_unfolding_all rfl)) (Zi (Zy Zbw)) ZC)
  (Zf (ZK (MW.mt (Zda (ZG (Ze0 hr.units) (Zm (Zs ⟨g.k_End,g.zn8⟩) (Za 0)) (Zm (Zs ⟨g.k_End,g.zn21⟩) (Za 0))) (Za6 (ZD (Zh zd62 hr (by decide) (Zb (Za 0) (Zb (Za 1) Zg))))))) (Zi (Zy (Zh zd63 hr (by decide) (Zb (Za 0) (Zb (Za 1) Zg))))) ZC)
  (Zf (ZN 2 zc60.nd (Zh zd67 hr (by decide) (Zb (Za 0) (Zb (Za 1) Zg))))
  (Zf (ZK (ZG Zqs (Za 2) Zbw) (Zi (ZN 2 zc60.nd (Zh zd76 hr (by decide) (Zb (Za 0) (Zb (Za 1) Zg))))) ZC)
  (Zf (ZK (ZG Zqs (Za 2) Zbw) (Zi (ZN 2 zc60.nd (Zh zd77 hr (by decide) (Zb (Za 0) Zg)))) ZC)
  (Zi (Zy (Za 2))))))))))
theorem ZvK (D:Zn K mg "send" ZiX Zm4) (g:Glb K mg) (zd60:Zp P w K mg base 7 "going" ZdF) (zd17:Zp P w K mg base 4 "put" Zj4):Zp P w K mg base 8 "send" Zbs:=
  Z3 D zc59 2 3 rfl rfl fun f cdv A outer s H E hr=>(Zf (ZN 2 zc59.nd (Zh zd60 hr (by decide) (Zb (Za 0) (Zb (Za 1) Zg))))
  (Zi (Zy (Zco (ZG Zqs (Za 2) Zbw) (Zcn Zg) (Zh zd17 hr (by decide) (Zb (Za 2) Zg))))))
theorem Zvr (D:Zn K mg "_law_cell" ZiE ZmL) (g:Glb K mg) :Zp P w K mg base 1 "_law_cell" ZfU:=
  Z3 D Zwz 2 2 rfl rfl fun f cdv A outer s H E hr=>(Zf (ZK (ZD (Za 0)) (Zi (Zy (ZH ZJ (Za 0) (ZF ZbX (Za 1) (zP ZeV g.b_len PySem.boot_len (Zb (Za 0) Zg)))))) ZC)
  (Zi (Zy Zj)))
theorem Zvq (D:Zn K mg "_law_mix" ZiD ZmK) (g:Glb K mg) (zd78:Zp P w K mg base 1 "_law_cell" ZfU):Zp P w K mg base 2 "_law_mix" Zbn:=
  Z3 D zc79 2 3 rfl rfl fun f cdv A outer s H E hr=>(Zf (ZN 2 zc79.nd (ZF ZbX (ZF zv (Zh zd78 hr (by decide) (Zb (Za 0) (Zb (Za 1) Zg))) (ZF Zfl Zj (ZF zv (Za 1) Zj))) Zj))
  (Zf (ZN 2 zc79.nd (ZF ZbX (ZF Zfl (Za 2) Zj) Zj))
  (Zi (Zy (ZF ZbX (ZF zv (ZF Zfl (ZF Zf8 (Za 2) Zj) Zj) (Za 2)) Zj)))))
theorem Zvp (D:Zn K mg "_law_first" ZiC ZmJ) (g:Glb K mg) :Zp P w K mg base 1 "_law_first" ZcY:=
  Z3 D Zwy 1 1 rfl rfl fun f cdv A outer s H E hr=>(Zf (ZK (ZG (Zae hr.units) (ZF ZbX (Za 0) Zj) Zj) (Zi (Zy (ZF ZbX (ZF Zeb Zj (ZF ZbX (ZF Zf8 (Za 0) Zj) Zj)) Zj))) ZC)
  (Zi (Zy (Za 0))))
theorem Zvo {fl:Addr} {fdl:FuncData} (F:Fun K "law" "law" Zfa fl fdl) (g:Glb K mg) (zd80:Zp P w K mg base 1 "_law_first" ZcY) (zd79:Zp P w K mg base 2 "_law_mix" Zbn) (zd38:Zp P w K mg base 8 "arrive" ZaA) (zd56:Zp P w K mg base 5 "opened" Zci) (zd58:Zp P w K mg base 3 "read" Zc8) (zd59:Zp P w K mg base 8 "send" Zbs) (zd9:Zp P w K mg base 1 "state" ZdD) (zd57:Zp P w K mg base 3 "write" ZcU):FnOk P w K mg base CX0 9 fl fdl ZmI (spM ⟨zX mg,K⟩ ZlJ):=
  mfn F zc81 1 11 rfl rfl fun cdv A outer s H E hr=>(Zf (ZN 1 zc81.nd (zW (Zb (ZF ZbX (Zh zd79 hr (by decide) (Zb (Za 0) (Zb Zj Zg))) Zj) (Zb (ZF ZbX (Zh zd79 hr (by decide) (Zb (Za 0) (Zb Zj Zg))) Zj) Zg))))
  (Zf (ZN 2 zc81.nd (Zcn (Zb (Zh zd56 hr (by decide) (Zb (ZH ZJ (Za 1) Zj) (Zb (ZH ZJ (Za 1) Zj) (Zb (Zh zd80 hr (by decide) (Zb (Zh zd79 hr (by decide) (Zb (Za 0) (Zb Zj Zg))) Zg)) (Zb Zad Zg))))) (Zb (Zh zd56 hr (by decide) (Zb (ZH ZJ (Za 1) Zj) (Zb (ZH ZJ (Za 1) Zj) (Zb (Zh zd80 hr (by decide) (Zb (Zh zd79 hr (by decide) (Zb (Za 0) (Zb Zj Zg))) Zg)) (Zb Zad Zg))))) Zg))))
  (Zf (ZN 3 zc81.nd (Zfp (Zb (Zfp (Zb (Zh zd59 hr (by decide) (Zb (ZH ZJ (Za 2) Zj) (Zb Zj Zg))) Zg)) (Zb (Zfp (Zb (Zh zd59 hr (by decide) (Zb (ZH ZJ (Za 2) Zj) (Zb Zj Zg))) Zg)) Zg))))
  (Zf (ZoJ 4 zc81.nd (show ZbI _ (Ze Zfa) "_law_j" ["_law_script","_law_ports","_law_ends","_law_road","_law_data","_law_now","_law_k","_law_number","_law_j","_law_to","_law_row"] ["_law_j","_law_script"] [0] from ⟨rfl,by decide +kernel,by decide +kernel,by decide +kernel,by decide +kernel,by decide +kernel,rfl,by decide,by decide +kernel⟩) rfl rfl (Zdo g.b_range (Zb Zj Zg)) (fun _ _ _ _ _=>(Zuw (show ZbI _ (Zt5 (ZxG ((Zo Zfa).getD 3 (.Pass ⟨0,0,0,0⟩))) (Ze Zfa)) "_law_k" ["_law_j","_law_script"] ["_law_k","_law_script"] [1] from ⟨rfl,by decide +kernel,by decide +kernel,by decide +kernel,by decide +kernel,by decide +kernel,rfl,by decide,by decide +kernel⟩) rfl rfl (Zdo g.b_range (Zb (ZF ZbX (Zh zd79 hr (by decide) (Zb (Za 1) (Zb (ZF zv Zj (Za 0)) Zg))) Zj) Zg)) (fun _ _ _ _ _=>(ZF ZbX (Zh zd79 hr (by decide) (Zb (Za 1) (Zb (ZF zv Zj (Za 0)) Zg))) Zj)))))
  (Zf (ZN 5 zc81.nd Zj)
  (Zf (Zig PassesOwn.never (Zdo g.b_range (Zb Zj Zg)) (ZgA 6 zc81.nd) (Zf (ZN 7 zc81.nd (Zh zd79 hr (by decide) (Zb (Za 0) (Zb (ZF zv Zj (Za 6)) Zg))))
    (Zf (Zig PassesOwn.never (Zdo g.b_range (Zb Zj Zg)) (ZgA 8 zc81.nd) (Zf (ZN 9 zc81.nd (ZF ZbX (ZF zv (Za 8) (Za 7)) Zj))
      (Zf (Zig PassesOwn.never (ZsT (ZH ZJ (Za 3) (Za 9))) (ZgA 10 zc81.nd) (Zi (ZK (MW.mt (Zed (ZG Zj9 (ZF ZbX (ZF Zf8 (Za 7) Zj) Zj) Zj) (ZaT (ZG Zj9 (Za 6) Zj)))) (Zi (ZX (Zh zd38 hr (by decide) (Zb (ZH ZJ (Za 2) (Za 9)) (Zb (Za 10) (Zb (Za 5) Zg)))))) ZC)))
      (Zf (Zqv (Za 3) (Za 9) (Zfp Zg) (Zss (Zfp Zg) (Zsy (Za 3) (Za 9) Zod)))
      (Zf (ZN 10 zc81.nd (Zh zd59 hr (by decide) (Zb (ZH ZJ (Za 2) (Za 9)) (Zb (Za 5) Zg))))
      (Zi (ZgS 200 PassesOwn.never (ZG (Ze0 hr.units) (Za 10) (Zcn Zg)) (Zf (ZX (Zqy (Zru PySem.F.plainAttrs_list PySem.F.slot_list_append PySem.F.type_list_append ZhH (ZH ZJ (Za 3) (ZF Zeb Zj (Za 9))) (Zic (Za 10) ZkQ))))
        (Zi (ZN 10 zc81.nd (Zh zd59 hr (by decide) (Zb (ZH ZJ (Za 2) (Za 9)) (Zb (Za 5) Zg)))))))))))))
    (Zf (ZN 5 zc81.nd (ZF zv (Za 5) Zj))
    (Zi (ZK (ZG (Zae hr.units) (Za 6) Zj) (Zi (Zig PassesOwn.never (Zdo g.b_range (Zb Zj Zg)) (ZgA 8 zc81.nd) (Zi (ZK (ZG (Ze0 hr.units) (Zh zd57 hr (by decide) (Zb (ZH ZJ (Za 2) (Za 8)) (Zb (ZH ZJ (Za 4) (Za 8)) Zg))) (zP ZeV g.b_len PySem.boot_len (Zb (ZH ZJ (Za 4) (Za 8)) Zg))) (Zi (Zy Zad)) ZC)))) ZC))))))
  (Zf (ZK (MW.mt (Zed (ZG (Ze0 hr.units) (Zh zd9 hr (by decide) (Zb (ZH ZJ (Za 2) Zj) Zg)) ZoN) (ZaT (ZG (Ze0 hr.units) (Zh zd9 hr (by decide) (Zb (ZH ZJ (Za 2) Zj) Zg)) ZoN)))) (Zi (Zy Zad)) ZC)
  (Zi (Zy (ZbL (zG (Zae hr.units) (Zh zd58 hr (by decide) (Zb (ZH ZJ (Za 2) Zj) (Zb Zj Zg))) (ZH ZJ (Za 4) Zj)) (ZcJ (zG (Zae hr.units) (Zh zd58 hr (by decide) (Zb (ZH ZJ (Za 2) Zj) (Zb Zj Zg))) (ZH ZJ (Za 4) Zj)))))))))))))
theorem ZsQ {fl:Addr} {fdl:FuncData} (F:Fun K "law" "law" Zfa fl fdl) (zD0:Mk0 K mg "Pile" "Pile.__init__" zs0 zP0) (zD1:Zn K mg "room" zs1 zP1) (zD2:Zn K mg "lay" zs2 zP2) (zD3:Zn K mg "take" zs3 zP3) (zD4:Zn K mg "plus" zs4 zP4) (zD5:Zn K mg "offset" zs5 zP5) (zD6:Zn K mg "past" zs6 zP6) (zD7:Mk0 K mg "End" "End.__init__" zs7 zP7) (zD8:Zn K mg "start_timer" zs8 zP8) (zD9:Zn K mg "state" zs9 zP9) (zD10:Zn K mg "our_window" ZjK ZnR) (zD11:Zn K mg "has_sent_fin" ZjJ ZnQ) (zD12:Zn K mg "folded" ZjI ZnP) (zD13:Zn K mg "sum_of" ZjH ZnO) (zD14:Zn K mg "length" ZjG ZnN) (zD15:Zn K mg "has" ZjF ZnM) (zD16:Zn K mg "bears" ZjE ZnL) (zD17:Zn K mg "put" ZjD ZnK) (zD18:Zn K mg "bytes_ahead_of_sum" ZjC ZnJ) (zD19:Zn K mg "byte_of_head" ZjB ZnI) (zD20:Zn K mg "bytes_of_most" ZjA ZnH) (zD21:Zn K mg "two_bytes" Zjz ZnG) (zD22:Zn K mg "four_bytes" Zjy ZnF) (zD23:Zn K mg "is_right" Zjx ZnE) (zD24:Zn K mg "head_of" Zjw ZnD) (zD25:Zn K mg "is_right_long_head" Zjv ZnC) (zD26:Zn K mg "get" Zju ZnB) (zD27:Zn K mg "two_at" Zjt ZnA) (zD28:Zn K mg "four_at" Zjs Znz) (zD29:Zn K mg "reset_for" Zjr Zny) (zD30:Zn K mg "owe_reset_for" Zjq Znx) (zD31:Zn K mg "come_to_closed" Zjp Znw) (zD32:Zn K mg "come_to_listen" Zjo Znv) (zD33:Zn K mg "hear_syn" Zjn Znu) (zD34:Zn K mg "come_to_syn_sent" Zjm Znt) (zD35:Zn K mg "answers_syn" Zjl Zns) (zD36:Zn K mg "refuse" Zjk Znr) (zD37:Zn K mg "go_on_from_syn_sent" Zjj Znq) (zD38:Zn K mg "arrive" Zji Znp) (zD39:Zn K mg "is_for" Zjh Zno) (zD40:Zn K mg "come_to_stream" Zjg Znn) (zD41:Zn K mg "fits" Zjf Znm) (zD42:Zn K mg "is_in_window" Zje Znl) (zD43:Zn K mg "turn_away" Zjd Znk) (zD44:Zn K mg "hear_reset" Zjc Znj) (zD45:Zn K mg "goes_on_behind_answer" Zjb Zni) (zD46:Zn K mg "has_answered_syn" Zja Znh) (zD47:Zn K mg "take_window" Zi9 Zng) (zD48:Zn K mg "hear_answer" Zi8 Znf) (zD49:Zn K mg "is_newer" Zi7 Zne) (zD50:Zn K mg "end_what_is_acknowledged" Zi6 Znd) (zD51:Zn K mg "hear_stream" Zi5 Znc) (zD52:Zn K mg "keep_data" Zi4 Znb) (zD53:Zn K mg "keep_fin" Zi3 Zna) (zD54:Zn K mg "draw_in_order" Zi2 Zm9) (zD55:Zn K mg "hear_fin" Zi1 Zm8) (zD56:Zn K mg "opened" Zi0 Zm7) (zD57:Zn K mg "write" ZiZ Zm6) (zD58:Zn K mg "read" ZiY Zm5) (zD59:Zn K mg "send" ZiX Zm4) (zD60:Zn K mg "going" ZiW Zm3) (zD61:Zn K mg "paid_reset" ZiV Zm2) (zD62:Zn K mg "is_due" ZiU Zm1) (zD63:Zn K mg "again" ZiT Zm0) (zD64:Zn K mg "most_at_once" ZiS ZmZ) (zD65:Zn K mg "paid_syn" ZiR ZmY) (zD66:Zn K mg "segment_of" ZiQ ZmX) (zD67:Zn K mg "going_as_new" ZiP ZmW) (zD68:Zn K mg "new_syn" ZiO ZmV) (zD69:Zn K mg "has_more" ZiN ZmU) (zD70:Zn K mg "has_new_data" ZiM ZmT) (zD71:Zn K mg "unsent" ZiL ZmS) (zD72:Zn K mg "has_new_fin" ZiK ZmR) (zD73:Zn K mg "new_piece" ZiJ ZmQ) (zD74:Zn K mg "new_data" ZiI ZmP) (zD75:Zn K mg "new_fin" ZiH ZmO) (zD76:Zn K mg "going_as_probe" ZiG ZmN) (zD77:Zn K mg "going_as_answer" ZiF ZmM) (zD78:Zn K mg "_law_cell" ZiE ZmL) (zD79:Zn K mg "_law_mix" ZiD ZmK) (zD80:Zn K mg "_law_first" ZiC ZmJ) (g:Glb K mg):FnOk P w K mg base CX0 9 fl fdl ZmI (spM ⟨zX mg,K⟩ ZlJ):=by
  have zd0:=zo0 (P:=P) (w:=w) (base:=base) zD0 g
  have zd1:=zo1 (P:=P) (w:=w) (base:=base) zD1 g
  have zd2:=zo2 (P:=P) (w:=w) (base:=base) zD2 g zd1
  have zd3:=zo3 (P:=P) (w:=w) (base:=base) zD3 g
  have zd4:=zo4 (P:=P) (w:=w) (base:=base) zD4 g
  have zd5:=zo5 (P:=P) (w:=w) (base:=base) zD5 g
  have zd6:=zo6 (P:=P) (w:=w) (base:=base) zD6 g zd5
  have zd7:=zo7 (P:=P) (w:=w) (base:=base) zD7 g zd0 zd4
  have zd8:=zo8 (P:=P) (w:=w) (base:=base) zD8 g
  have zd9:=zo9 (P:=P) (w:=w) (base:=base) zD9 g
  have zd10:=Zwx (P:=P) (w:=w) (base:=base) zD10 g zd1
  have zd11:=Zww (P:=P) (w:=w) (base:=base) zD11 g zd6
  have zd12:=Zwv (P:=P) (w:=w) (base:=base) zD12 g
  have zd13:=Zwu (P:=P) (w:=w) (base:=base) zD13 g zd12
  have zd15:=Zws (P:=P) (w:=w) (base:=base) zD15 g
  have zd14:=Zwt (P:=P) (w:=w) (base:=base) zD14 g zd15
  have zd16:=Zwr (P:=P) (w:=w) (base:=base) zD16 g zd15
  have zd19:=Zwo (P:=P) (w:=w) (base:=base) zD19 g
  have zd21:=Zwm (P:=P) (w:=w) (base:=base) zD21 g
  have zd22:=Zwl (P:=P) (w:=w) (base:=base) zD22 g zd21
  have zd18:=Zwp (P:=P) (w:=w) (base:=base) zD18 g zd19 zd22 zd21
  have zd20:=Zwn (P:=P) (w:=w) (base:=base) zD20 g zd21
  have zd17:=Zwq (P:=P) (w:=w) (base:=base) zD17 g zd18 zd20 zd13 zd21
  have zd24:=Zwj (P:=P) (w:=w) (base:=base) zD24 g
  have zd27:=Zwg (P:=P) (w:=w) (base:=base) zD27 g
  have zd25:=Zwi (P:=P) (w:=w) (base:=base) zD25 g zd15 zd27
  have zd23:=Zwk (P:=P) (w:=w) (base:=base) zD23 g zd19 zd12 zd24 zd25 zd27
  have zd28:=Zwf (P:=P) (w:=w) (base:=base) zD28 g zd27
  have zd26:=Zwh (P:=P) (w:=w) (base:=base) zD26 g zd28 zd24 zd23 zd27
  have zd29:=Zwe (P:=P) (w:=w) (base:=base) zD29 g zd16 zd14 zd4
  have zd30:=Zwd (P:=P) (w:=w) (base:=base) zD30 g zd16 zd29
  have zd31:=Zwc (P:=P) (w:=w) (base:=base) zD31 g zd30
  have zd33:=Zwa (P:=P) (w:=w) (base:=base) zD33 g zd16 zd4
  have zd32:=Zwb (P:=P) (w:=w) (base:=base) zD32 g zd16 zd33 zd30
  have zd35:=Zv8 (P:=P) (w:=w) (base:=base) zD35 g zd4
  have zd37:=Zv6 (P:=P) (w:=w) (base:=base) zD37 g zd16 zd8
  have zd36:=Zv7 (P:=P) (w:=w) (base:=base) zD36 g zd16
  have zd34:=Zv9 (P:=P) (w:=w) (base:=base) zD34 g zd35 zd16 zd37 zd33 zd30 zd36
  have zd42:=Zv1 (P:=P) (w:=w) (base:=base) zD42 g zd5 zd10
  have zd41:=Zv2 (P:=P) (w:=w) (base:=base) zD41 g zd42 zd14 zd5 zd4
  have zd50:=ZvT (P:=P) (w:=w) (base:=base) zD50 g zd11
  have zd47:=ZvW (P:=P) (w:=w) (base:=base) zD47 g
  have zd46:=ZvX (P:=P) (w:=w) (base:=base) zD46 g zd30 zd47
  have zd49:=ZvU (P:=P) (w:=w) (base:=base) zD49 g zd6
  have zd48:=ZvV (P:=P) (w:=w) (base:=base) zD48 g zd49 zd5 zd6 zd8 zd3 zd47
  have zd45:=ZvY (P:=P) (w:=w) (base:=base) zD45 g zd50 zd46 zd48 zd6
  have zd44:=ZvZ (P:=P) (w:=w) (base:=base) zD44 g
  have zd54:=ZvP (P:=P) (w:=w) (base:=base) zD54 g zd2 zd4
  have zd55:=ZvO (P:=P) (w:=w) (base:=base) zD55 g zd4
  have zd52:=ZvR (P:=P) (w:=w) (base:=base) zD52 g zd42 zd4
  have zd53:=ZvQ (P:=P) (w:=w) (base:=base) zD53 g zd16 zd42 zd4
  have zd51:=ZvS (P:=P) (w:=w) (base:=base) zD51 g zd54 zd55 zd52 zd53
  have zd43:=Zv0 (P:=P) (w:=w) (base:=base) zD43 g zd16
  have zd40:=Zv3 (P:=P) (w:=w) (base:=base) zD40 g zd16 zd41 zd45 zd44 zd51 zd43
  have zd39:=Zv4 (P:=P) (w:=w) (base:=base) zD39 g
  have zd38:=Zv5 (P:=P) (w:=w) (base:=base) zD38 g zd31 zd32 zd40 zd34 zd26 zd39 zd23
  have zd56:=ZvN (P:=P) (w:=w) (base:=base) zD56 g zd7
  have zd57:=ZvM (P:=P) (w:=w) (base:=base) zD57 g zd2 zd4
  have zd58:=ZvL (P:=P) (w:=w) (base:=base) zD58 g zd10 zd3
  have zd64:=ZvF (P:=P) (w:=w) (base:=base) zD64 g
  have zd65:=ZvE (P:=P) (w:=w) (base:=base) zD65 g
  have zd66:=ZvD (P:=P) (w:=w) (base:=base) zD66 g zd10
  have zd63:=ZvG (P:=P) (w:=w) (base:=base) zD63 g zd64 zd5 zd65 zd66
  have zd77:=Zvs (P:=P) (w:=w) (base:=base) zD77 g zd66
  have zd71:=Zvy (P:=P) (w:=w) (base:=base) zD71 g zd5
  have zd70:=Zvz (P:=P) (w:=w) (base:=base) zD70 g zd71
  have zd72:=Zvx (P:=P) (w:=w) (base:=base) zD72 g zd71
  have zd69:=ZvA (P:=P) (w:=w) (base:=base) zD69 g zd70 zd72
  have zd74:=Zvv (P:=P) (w:=w) (base:=base) zD74 g zd64 zd5 zd4 zd66 zd71
  have zd75:=Zvu (P:=P) (w:=w) (base:=base) zD75 g zd4 zd66
  have zd73:=Zvw (P:=P) (w:=w) (base:=base) zD73 g zd70 zd74 zd75
  have zd68:=ZvB (P:=P) (w:=w) (base:=base) zD68 g zd65 zd4 zd8
  have zd67:=ZvC (P:=P) (w:=w) (base:=base) zD67 g zd69 zd73 zd68 zd5 zd8
  have zd62:=ZvH (P:=P) (w:=w) (base:=base) zD62 g
  have zd76:=Zvt (P:=P) (w:=w) (base:=base) zD76 g zd69 zd62 zd73 zd8
  have zd61:=ZvI (P:=P) (w:=w) (base:=base) zD61 g
  have zd60:=ZvJ (P:=P) (w:=w) (base:=base) zD60 g zd63 zd77 zd67 zd76 zd62 zd61
  have zd59:=ZvK (P:=P) (w:=w) (base:=base) zD59 g zd60 zd17
  have zd78:=Zvr (P:=P) (w:=w) (base:=base) zD78 g
  have zd79:=Zvq (P:=P) (w:=w) (base:=base) zD79 g zd78
  have zd80:=Zvp (P:=P) (w:=w) (base:=base) zD80 g
  exact Zvo F g zd80 zd79 zd38 zd56 zd58 zd59 zd9 zd57
end
theorem us1 {p:List Value→Prop} (h:∀a,p [a]):∀us:List Value,us.length=1→p us
  | [a],_=>h a
theorem us2 {p:List Value→Prop} (h:∀a b,p [a,b]):∀us:List Value,us.length=2→p us
  | [a,b],_=>h a b
theorem us3 {p:List Value→Prop} (h:∀a b c,p [a,b,c]):∀us:List Value,us.length=3→p us
  | [a,b,c],_=>h a b c
theorem us4 {p:List Value→Prop} (h:∀a b c d,p [a,b,c,d]):∀us:List Value,us.length=4→p us
  | [a,b,c,d],_=>h a b c d
theorem us5 {p:List Value→Prop} (h:∀a b c d e,p [a,b,c,d,e]):∀us:List Value,us.length=5→p us
  | [a,b,c,d,e],_=>h a b c d e
open PySem.W
theorem Ztb {l:OpenLaw} {w:World} {K:Frag} {h:Heap} {mg:Str→Option Value} {fa:Addr} (X:K.In h) (G:h.Ns mainGlobals mg) (hfa:mg "law"=some (.ref fa))
    (aC_End:nsIn K mainGlobals "End"=some (some (.ref C_End)))
    (aC_Pile:nsIn K mainGlobals "Pile"=some (some (.ref C_Pile)))
    (a0:findIn K (.ref C_Pile) "__init__"=some (some (.ref f0))) (i0:isFn K (.ref f0)=true) (l0:K.lookup f0=some ⟨oc0,od0,.func (fnOf "__init__" "Pile.__init__" (Zt zs0) (Zo zs0) (Ze zs0) .none kV0 dc0 pm0 an0 cd0 ct0),sl0⟩) (c0:codeIn K cd0 "Pile.__init__"=true) (k0:keepIn K (.ref f0)=true)
    (a1:nsIn K mainGlobals "room"=some (some (.ref f1))) (l1:K.lookup f1=some ⟨oc1,od1,.func (fnOf "room" "room" (Zt zs1) (Zo zs1) (Ze zs1) .none kV1 dc1 pm1 an1 cd1 ct1),sl1⟩) (c1:codeIn K cd1 "room"=true) (k1:keepIn K (.ref f1)=true)
    (a2:nsIn K mainGlobals "lay"=some (some (.ref f2))) (l2:K.lookup f2=some ⟨oc2,od2,.func (fnOf "lay" "lay" (Zt zs2) (Zo zs2) (Ze zs2) .none kV2 dc2 pm2 an2 cd2 ct2),sl2⟩) (c2:codeIn K cd2 "lay"=true) (k2:keepIn K (.ref f2)=true)
    (a3:nsIn K mainGlobals "take"=some (some (.ref f3))) (l3:K.lookup f3=some ⟨oc3,od3,.func (fnOf "take" "take" (Zt zs3) (Zo zs3) (Ze zs3) .none kV3 dc3 pm3 an3 cd3 ct3),sl3⟩) (c3:codeIn K cd3 "take"=true) (k3:keepIn K (.ref f3)=true)
    (a4:nsIn K mainGlobals "plus"=some (some (.ref f4))) (l4:K.lookup f4=some ⟨oc4,od4,.func (fnOf "plus" "plus" (Zt zs4) (Zo zs4) (Ze zs4) .none kV4 dc4 pm4 an4 cd4 ct4),sl4⟩) (c4:codeIn K cd4 "plus"=true) (k4:keepIn K (.ref f4)=true)
    (a5:nsIn K mainGlobals "offset"=some (some (.ref f5))) (l5:K.lookup f5=some ⟨oc5,od5,.func (fnOf "offset" "offset" (Zt zs5) (Zo zs5) (Ze zs5) .none kV5 dc5 pm5 an5 cd5 ct5),sl5⟩) (c5:codeIn K cd5 "offset"=true) (k5:keepIn K (.ref f5)=true)
    (a6:nsIn K mainGlobals "past"=some (some (.ref f6))) (l6:K.lookup f6=some ⟨oc6,od6,.func (fnOf "past" "past" (Zt zs6) (Zo zs6) (Ze zs6) .none kV6 dc6 pm6 an6 cd6 ct6),sl6⟩) (c6:codeIn K cd6 "past"=true) (k6:keepIn K (.ref f6)=true)
    (a7:findIn K (.ref C_End) "__init__"=some (some (.ref f7))) (i7:isFn K (.ref f7)=true) (l7:K.lookup f7=some ⟨oc7,od7,.func (fnOf "__init__" "End.__init__" (Zt zs7) (Zo zs7) (Ze zs7) .none kV7 dc7 pm7 an7 cd7 ct7),sl7⟩) (c7:codeIn K cd7 "End.__init__"=true) (k7:keepIn K (.ref f7)=true)
    (a8:nsIn K mainGlobals "start_timer"=some (some (.ref f8))) (l8:K.lookup f8=some ⟨oc8,od8,.func (fnOf "start_timer" "start_timer" (Zt zs8) (Zo zs8) (Ze zs8) .none kV8 dc8 pm8 an8 cd8 ct8),sl8⟩) (c8:codeIn K cd8 "start_timer"=true) (k8:keepIn K (.ref f8)=true)
    (a9:nsIn K mainGlobals "state"=some (some (.ref f9))) (l9:K.lookup f9=some ⟨oc9,od9,.func (fnOf "state" "state" (Zt zs9) (Zo zs9) (Ze zs9) .none kV9 dc9 pm9 an9 cd9 ct9),sl9⟩) (c9:codeIn K cd9 "state"=true) (k9:keepIn K (.ref f9)=true)
    (a10:nsIn K mainGlobals "our_window"=some (some (.ref f10))) (l10:K.lookup f10=some ⟨oc10,od10,.func (fnOf "our_window" "our_window" (Zt ZjK) (Zo ZjK) (Ze ZjK) .none kV10 dc10 pm10 an10 cd10 ct10),sl10⟩) (c10:codeIn K cd10 "our_window"=true) (k10:keepIn K (.ref f10)=true)
    (a11:nsIn K mainGlobals "has_sent_fin"=some (some (.ref f11))) (l11:K.lookup f11=some ⟨oc11,od11,.func (fnOf "has_sent_fin" "has_sent_fin" (Zt ZjJ) (Zo ZjJ) (Ze ZjJ) .none kV11 dc11 pm11 an11 cd11 ct11),sl11⟩) (c11:codeIn K cd11 "has_sent_fin"=true) (k11:keepIn K (.ref f11)=true)
    (a12:nsIn K mainGlobals "folded"=some (some (.ref f12))) (l12:K.lookup f12=some ⟨oc12,od12,.func (fnOf "folded" "folded" (Zt ZjI) (Zo ZjI) (Ze ZjI) .none kV12 dc12 pm12 an12 cd12 ct12),sl12⟩) (c12:codeIn K cd12 "folded"=true) (k12:keepIn K (.ref f12)=true)
    (a13:nsIn K mainGlobals "sum_of"=some (some (.ref f13))) (l13:K.lookup f13=some ⟨oc13,od13,.func (fnOf "sum_of" "sum_of" (Zt ZjH) (Zo ZjH) (Ze ZjH) .none kV13 dc13 pm13 an13 cd13 ct13),sl13⟩) (c13:codeIn K cd13 "sum_of"=true) (k13:keepIn K (.ref f13)=true)
    (a14:nsIn K mainGlobals "length"=some (some (.ref f14))) (l14:K.lookup f14=some ⟨oc14,od14,.func (fnOf "length" "length" (Zt ZjG) (Zo ZjG) (Ze ZjG) .none kV14 dc14 pm14 an14 cd14 ct14),sl14⟩) (c14:codeIn K cd14 "length"=true) (k14:keepIn K (.ref f14)=true)
    (a15:nsIn K mainGlobals "has"=some (some (.ref f15))) (l15:K.lookup f15=some ⟨oc15,od15,.func (fnOf "has" "has" (Zt ZjF) (Zo ZjF) (Ze ZjF) .none kV15 dc15 pm15 an15 cd15 ct15),sl15⟩) (c15:codeIn K cd15 "has"=true) (k15:keepIn K (.ref f15)=true)
    (a16:nsIn K mainGlobals "bears"=some (some (.ref f16))) (l16:K.lookup f16=some ⟨oc16,od16,.func (fnOf "bears" "bears" (Zt ZjE) (Zo ZjE) (Ze ZjE) .none kV16 dc16 pm16 an16 cd16 ct16),sl16⟩) (c16:codeIn K cd16 "bears"=true) (k16:keepIn K (.ref f16)=true)
    (a17:nsIn K mainGlobals "put"=some (some (.ref f17))) (l17:K.lookup f17=some ⟨oc17,od17,.func (fnOf "put" "put" (Zt ZjD) (Zo ZjD) (Ze ZjD) .none kV17 dc17 pm17 an17 cd17 ct17),sl17⟩) (c17:codeIn K cd17 "put"=true) (k17:keepIn K (.ref f17)=true)
    (a18:nsIn K mainGlobals "bytes_ahead_of_sum"=some (some (.ref f18))) (l18:K.lookup f18=some ⟨oc18,od18,.func (fnOf "bytes_ahead_of_sum" "bytes_ahead_of_sum" (Zt ZjC) (Zo ZjC) (Ze ZjC) .none kV18 dc18 pm18 an18 cd18 ct18),sl18⟩) (c18:codeIn K cd18 "bytes_ahead_of_sum"=true) (k18:keepIn K (.ref f18)=true)
    (a19:nsIn K mainGlobals "byte_of_head"=some (some (.ref f19))) (l19:K.lookup f19=some ⟨oc19,od19,.func (fnOf "byte_of_head" "byte_of_head" (Zt ZjB) (Zo ZjB) (Ze ZjB) .none kV19 dc19 pm19 an19 cd19 ct19),sl19⟩) (c19:codeIn K cd19 "byte_of_head"=true) (k19:keepIn K (.ref f19)=true)
    (a20:nsIn K mainGlobals "bytes_of_most"=some (some (.ref f20))) (l20:K.lookup f20=some ⟨oc20,od20,.func (fnOf "bytes_of_most" "bytes_of_most" (Zt ZjA) (Zo ZjA) (Ze ZjA) .none kV20 dc20 pm20 an20 cd20 ct20),sl20⟩) (c20:codeIn K cd20 "bytes_of_most"=true) (k20:keepIn K (.ref f20)=true)
    (a21:nsIn K mainGlobals "two_bytes"=some (some (.ref f21))) (l21:K.lookup f21=some ⟨oc21,od21,.func (fnOf "two_bytes" "two_bytes" (Zt Zjz) (Zo Zjz) (Ze Zjz) .none kV21 dc21 pm21 an21 cd21 ct21),sl21⟩) (c21:codeIn K cd21 "two_bytes"=true) (k21:keepIn K (.ref f21)=true)
    (a22:nsIn K mainGlobals "four_bytes"=some (some (.ref f22))) (l22:K.lookup f22=some ⟨oc22,od22,.func (fnOf "four_bytes" "four_bytes" (Zt Zjy) (Zo Zjy) (Ze Zjy) .none kV22 dc22 pm22 an22 cd22 ct22),sl22⟩) (c22:codeIn K cd22 "four_bytes"=true) (k22:keepIn K (.ref f22)=true)
    (a23:nsIn K mainGlobals "is_right"=some (some (.ref f23))) (l23:K.lookup f23=some ⟨oc23,od23,.func (fnOf "is_right" "is_right" (Zt Zjx) (Zo Zjx) (Ze Zjx) .none kV23 dc23 pm23 an23 cd23 ct23),sl23⟩) (c23:codeIn K cd23 "is_right"=true) (k23:keepIn K (.ref f23)=true)
    (a24:nsIn K mainGlobals "head_of"=some (some (.ref f24))) (l24:K.lookup f24=some ⟨oc24,od24,.func (fnOf "head_of" "head_of" (Zt Zjw) (Zo Zjw) (Ze Zjw) .none kV24 dc24 pm24 an24 cd24 ct24),sl24⟩) (c24:codeIn K cd24 "head_of"=true) (k24:keepIn K (.ref f24)=true)
    (a25:nsIn K mainGlobals "is_right_long_head"=some (some (.ref f25))) (l25:K.lookup f25=some ⟨oc25,od25,.func (fnOf "is_right_long_head" "is_right_long_head" (Zt Zjv) (Zo Zjv) (Ze Zjv) .none kV25 dc25 pm25 an25 cd25 ct25),sl25⟩) (c25:codeIn K cd25 "is_right_long_head"=true) (k25:keepIn K (.ref f25)=true)
    (a26:nsIn K mainGlobals "get"=some (some (.ref f26))) (l26:K.lookup f26=some ⟨oc26,od26,.func (fnOf "get" "get" (Zt Zju) (Zo Zju) (Ze Zju) .none kV26 dc26 pm26 an26 cd26 ct26),sl26⟩) (c26:codeIn K cd26 "get"=true) (k26:keepIn K (.ref f26)=true)
    (a27:nsIn K mainGlobals "two_at"=some (some (.ref f27))) (l27:K.lookup f27=some ⟨oc27,od27,.func (fnOf "two_at" "two_at" (Zt Zjt) (Zo Zjt) (Ze Zjt) .none kV27 dc27 pm27 an27 cd27 ct27),sl27⟩) (c27:codeIn K cd27 "two_at"=true) (k27:keepIn K (.ref f27)=true)
    (a28:nsIn K mainGlobals "four_at"=some (some (.ref f28))) (l28:K.lookup f28=some ⟨oc28,od28,.func (fnOf "four_at" "four_at" (Zt Zjs) (Zo Zjs) (Ze Zjs) .none kV28 dc28 pm28 an28 cd28 ct28),sl28⟩) (c28:codeIn K cd28 "four_at"=true) (k28:keepIn K (.ref f28)=true)
    (a29:nsIn K mainGlobals "reset_for"=some (some (.ref f29))) (l29:K.lookup f29=some ⟨oc29,od29,.func (fnOf "reset_for" "reset_for" (Zt Zjr) (Zo Zjr) (Ze Zjr) .none kV29 dc29 pm29 an29 cd29 ct29),sl29⟩) (c29:codeIn K cd29 "reset_for"=true) (k29:keepIn K (.ref f29)=true)
    (a30:nsIn K mainGlobals "owe_reset_for"=some (some (.ref f30))) (l30:K.lookup f30=some ⟨oc30,od30,.func (fnOf "owe_reset_for" "owe_reset_for" (Zt Zjq) (Zo Zjq) (Ze Zjq) .none kV30 dc30 pm30 an30 cd30 ct30),sl30⟩) (c30:codeIn K cd30 "owe_reset_for"=true) (k30:keepIn K (.ref f30)=true)
    (a31:nsIn K mainGlobals "come_to_closed"=some (some (.ref f31))) (l31:K.lookup f31=some ⟨oc31,od31,.func (fnOf "come_to_closed" "come_to_closed" (Zt Zjp) (Zo Zjp) (Ze Zjp) .none kV31 dc31 pm31 an31 cd31 ct31),sl31⟩) (c31:codeIn K cd31 "come_to_closed"=true) (k31:keepIn K (.ref f31)=true)
    (a32:nsIn K mainGlobals "come_to_listen"=some (some (.ref f32))) (l32:K.lookup f32=some ⟨oc32,od32,.func (fnOf "come_to_listen" "come_to_listen" (Zt Zjo) (Zo Zjo) (Ze Zjo) .none kV32 dc32 pm32 an32 cd32 ct32),sl32⟩) (c32:codeIn K cd32 "come_to_listen"=true) (k32:keepIn K (.ref f32)=true)
    (a33:nsIn K mainGlobals "hear_syn"=some (some (.ref f33))) (l33:K.lookup f33=some ⟨oc33,od33,.func (fnOf "hear_syn" "hear_syn" (Zt Zjn) (Zo Zjn) (Ze Zjn) .none kV33 dc33 pm33 an33 cd33 ct33),sl33⟩) (c33:codeIn K cd33 "hear_syn"=true) (k33:keepIn K (.ref f33)=true)
    (a34:nsIn K mainGlobals "come_to_syn_sent"=some (some (.ref f34))) (l34:K.lookup f34=some ⟨oc34,od34,.func (fnOf "come_to_syn_sent" "come_to_syn_sent" (Zt Zjm) (Zo Zjm) (Ze Zjm) .none kV34 dc34 pm34 an34 cd34 ct34),sl34⟩) (c34:codeIn K cd34 "come_to_syn_sent"=true) (k34:keepIn K (.ref f34)=true)
    (a35:nsIn K mainGlobals "answers_syn"=some (some (.ref f35))) (l35:K.lookup f35=some ⟨oc35,od35,.func (fnOf "answers_syn" "answers_syn" (Zt Zjl) (Zo Zjl) (Ze Zjl) .none kV35 dc35 pm35 an35 cd35 ct35),sl35⟩) (c35:codeIn K cd35 "answers_syn"=true) (k35:keepIn K (.ref f35)=true)
    (a36:nsIn K mainGlobals "refuse"=some (some (.ref f36))) (l36:K.lookup f36=some ⟨oc36,od36,.func (fnOf "refuse" "refuse" (Zt Zjk) (Zo Zjk) (Ze Zjk) .none kV36 dc36 pm36 an36 cd36 ct36),sl36⟩) (c36:codeIn K cd36 "refuse"=true) (k36:keepIn K (.ref f36)=true)
    (a37:nsIn K mainGlobals "go_on_from_syn_sent"=some (some (.ref f37))) (l37:K.lookup f37=some ⟨oc37,od37,.func (fnOf "go_on_from_syn_sent" "go_on_from_syn_sent" (Zt Zjj) (Zo Zjj) (Ze Zjj) .none kV37 dc37 pm37 an37 cd37 ct37),sl37⟩) (c37:codeIn K cd37 "go_on_from_syn_sent"=true) (k37:keepIn K (.ref f37)=true)
    (a38:nsIn K mainGlobals "arrive"=some (some (.ref f38))) (l38:K.lookup f38=some ⟨oc38,od38,.func (fnOf "arrive" "arrive" (Zt Zji) (Zo Zji) (Ze Zji) .none kV38 dc38 pm38 an38 cd38 ct38),sl38⟩) (c38:codeIn K cd38 "arrive"=true) (k38:keepIn K (.ref f38)=true)
    (a39:nsIn K mainGlobals "is_for"=some (some (.ref f39))) (l39:K.lookup f39=some ⟨oc39,od39,.func (fnOf "is_for" "is_for" (Zt Zjh) (Zo Zjh) (Ze Zjh) .none kV39 dc39 pm39 an39 cd39 ct39),sl39⟩) (c39:codeIn K cd39 "is_for"=true) (k39:keepIn K (.ref f39)=true)
    (a40:nsIn K mainGlobals "come_to_stream"=some (some (.ref f40))) (l40:K.lookup f40=some ⟨oc40,od40,.func (fnOf "come_to_stream" "come_to_stream" (Zt Zjg) (Zo Zjg) (Ze Zjg) .none kV40 dc40 pm40 an40 cd40 ct40),sl40⟩) (c40:codeIn K cd40 "come_to_stream"=true) (k40:keepIn K (.ref f40)=true)
    (a41:nsIn K mainGlobals "fits"=some (some (.ref f41))) (l41:K.lookup f41=some ⟨oc41,od41,.func (fnOf "fits" "fits" (Zt Zjf) (Zo Zjf) (Ze Zjf) .none kV41 dc41 pm41 an41 cd41 ct41),sl41⟩) (c41:codeIn K cd41 "fits"=true) (k41:keepIn K (.ref f41)=true)
    (a42:nsIn K mainGlobals "is_in_window"=some (some (.ref f42))) (l42:K.lookup f42=some ⟨oc42,od42,.func (fnOf "is_in_window" "is_in_window" (Zt Zje) (Zo Zje) (Ze Zje) .none kV42 dc42 pm42 an42 cd42 ct42),sl42⟩) (c42:codeIn K cd42 "is_in_window"=true) (k42:keepIn K (.ref f42)=true)
    (a43:nsIn K mainGlobals "turn_away"=some (some (.ref f43))) (l43:K.lookup f43=some ⟨oc43,od43,.func (fnOf "turn_away" "turn_away" (Zt Zjd) (Zo Zjd) (Ze Zjd) .none kV43 dc43 pm43 an43 cd43 ct43),sl43⟩) (c43:codeIn K cd43 "turn_away"=true) (k43:keepIn K (.ref f43)=true)
    (a44:nsIn K mainGlobals "hear_reset"=some (some (.ref f44))) (l44:K.lookup f44=some ⟨oc44,od44,.func (fnOf "hear_reset" "hear_reset" (Zt Zjc) (Zo Zjc) (Ze Zjc) .none kV44 dc44 pm44 an44 cd44 ct44),sl44⟩) (c44:codeIn K cd44 "hear_reset"=true) (k44:keepIn K (.ref f44)=true)
    (a45:nsIn K mainGlobals "goes_on_behind_answer"=some (some (.ref f45))) (l45:K.lookup f45=some ⟨oc45,od45,.func (fnOf "goes_on_behind_answer" "goes_on_behind_answer" (Zt Zjb) (Zo Zjb) (Ze Zjb) .none kV45 dc45 pm45 an45 cd45 ct45),sl45⟩) (c45:codeIn K cd45 "goes_on_behind_answer"=true) (k45:keepIn K (.ref f45)=true)
    (a46:nsIn K mainGlobals "has_answered_syn"=some (some (.ref f46))) (l46:K.lookup f46=some ⟨oc46,od46,.func (fnOf "has_answered_syn" "has_answered_syn" (Zt Zja) (Zo Zja) (Ze Zja) .none kV46 dc46 pm46 an46 cd46 ct46),sl46⟩) (c46:codeIn K cd46 "has_answered_syn"=true) (k46:keepIn K (.ref f46)=true)
    (a47:nsIn K mainGlobals "take_window"=some (some (.ref f47))) (l47:K.lookup f47=some ⟨oc47,od47,.func (fnOf "take_window" "take_window" (Zt Zi9) (Zo Zi9) (Ze Zi9) .none kV47 dc47 pm47 an47 cd47 ct47),sl47⟩) (c47:codeIn K cd47 "take_window"=true) (k47:keepIn K (.ref f47)=true)
    (a48:nsIn K mainGlobals "hear_answer"=some (some (.ref f48))) (l48:K.lookup f48=some ⟨oc48,od48,.func (fnOf "hear_answer" "hear_answer" (Zt Zi8) (Zo Zi8) (Ze Zi8) .none kV48 dc48 pm48 an48 cd48 ct48),sl48⟩) (c48:codeIn K cd48 "hear_answer"=true) (k48:keepIn K (.ref f48)=true)
    (a49:nsIn K mainGlobals "is_newer"=some (some (.ref f49))) (l49:K.lookup f49=some ⟨oc49,od49,.func (fnOf "is_newer" "is_newer" (Zt Zi7) (Zo Zi7) (Ze Zi7) .none kV49 dc49 pm49 an49 cd49 ct49),sl49⟩) (c49:codeIn K cd49 "is_newer"=true) (k49:keepIn K (.ref f49)=true)
    (a50:nsIn K mainGlobals "end_what_is_acknowledged"=some (some (.ref f50))) (l50:K.lookup f50=some ⟨oc50,od50,.func (fnOf "end_what_is_acknowledged" "end_what_is_acknowledged" (Zt Zi6) (Zo Zi6) (Ze Zi6) .none kV50 dc50 pm50 an50 cd50 ct50),sl50⟩) (c50:codeIn K cd50 "end_what_is_acknowledged"=true) (k50:keepIn K (.ref f50)=true)
    (a51:nsIn K mainGlobals "hear_stream"=some (some (.ref f51))) (l51:K.lookup f51=some ⟨oc51,od51,.func (fnOf "hear_stream" "hear_stream" (Zt Zi5) (Zo Zi5) (Ze Zi5) .none kV51 dc51 pm51 an51 cd51 ct51),sl51⟩) (c51:codeIn K cd51 "hear_stream"=true) (k51:keepIn K (.ref f51)=true)
    (a52:nsIn K mainGlobals "keep_data"=some (some (.ref f52))) (l52:K.lookup f52=some ⟨oc52,od52,.func (fnOf "keep_data" "keep_data" (Zt Zi4) (Zo Zi4) (Ze Zi4) .none kV52 dc52 pm52 an52 cd52 ct52),sl52⟩) (c52:codeIn K cd52 "keep_data"=true) (k52:keepIn K (.ref f52)=true)
    (a53:nsIn K mainGlobals "keep_fin"=some (some (.ref f53))) (l53:K.lookup f53=some ⟨oc53,od53,.func (fnOf "keep_fin" "keep_fin" (Zt Zi3) (Zo Zi3) (Ze Zi3) .none kV53 dc53 pm53 an53 cd53 ct53),sl53⟩) (c53:codeIn K cd53 "keep_fin"=true) (k53:keepIn K (.ref f53)=true)
    (a54:nsIn K mainGlobals "draw_in_order"=some (some (.ref f54))) (l54:K.lookup f54=some ⟨oc54,od54,.func (fnOf "draw_in_order" "draw_in_order" (Zt Zi2) (Zo Zi2) (Ze Zi2) .none kV54 dc54 pm54 an54 cd54 ct54),sl54⟩) (c54:codeIn K cd54 "draw_in_order"=true) (k54:keepIn K (.ref f54)=true)
    (a55:nsIn K mainGlobals "hear_fin"=some (some (.ref f55))) (l55:K.lookup f55=some ⟨oc55,od55,.func (fnOf "hear_fin" "hear_fin" (Zt Zi1) (Zo Zi1) (Ze Zi1) .none kV55 dc55 pm55 an55 cd55 ct55),sl55⟩) (c55:codeIn K cd55 "hear_fin"=true) (k55:keepIn K (.ref f55)=true)
    (a56:nsIn K mainGlobals "opened"=some (some (.ref f56))) (l56:K.lookup f56=some ⟨oc56,od56,.func (fnOf "opened" "opened" (Zt Zi0) (Zo Zi0) (Ze Zi0) .none kV56 dc56 pm56 an56 cd56 ct56),sl56⟩) (c56:codeIn K cd56 "opened"=true) (k56:keepIn K (.ref f56)=true)
    (a57:nsIn K mainGlobals "write"=some (some (.ref f57))) (l57:K.lookup f57=some ⟨oc57,od57,.func (fnOf "write" "write" (Zt ZiZ) (Zo ZiZ) (Ze ZiZ) .none kV57 dc57 pm57 an57 cd57 ct57),sl57⟩) (c57:codeIn K cd57 "write"=true) (k57:keepIn K (.ref f57)=true)
    (a58:nsIn K mainGlobals "read"=some (some (.ref f58))) (l58:K.lookup f58=some ⟨oc58,od58,.func (fnOf "read" "read" (Zt ZiY) (Zo ZiY) (Ze ZiY) .none kV58 dc58 pm58 an58 cd58 ct58),sl58⟩) (c58:codeIn K cd58 "read"=true) (k58:keepIn K (.ref f58)=true)
    (a59:nsIn K mainGlobals "send"=some (some (.ref f59))) (l59:K.lookup f59=some ⟨oc59,od59,.func (fnOf "send" "send" (Zt ZiX) (Zo ZiX) (Ze ZiX) .none kV59 dc59 pm59 an59 cd59 ct59),sl59⟩) (c59:codeIn K cd59 "send"=true) (k59:keepIn K (.ref f59)=true)
    (a60:nsIn K mainGlobals "going"=some (some (.ref f60))) (l60:K.lookup f60=some ⟨oc60,od60,.func (fnOf "going" "going" (Zt ZiW) (Zo ZiW) (Ze ZiW) .none kV60 dc60 pm60 an60 cd60 ct60),sl60⟩) (c60:codeIn K cd60 "going"=true) (k60:keepIn K (.ref f60)=true)
    (a61:nsIn K mainGlobals "paid_reset"=some (some (.ref f61))) (l61:K.lookup f61=some ⟨oc61,od61,.func (fnOf "paid_reset" "paid_reset" (Zt ZiV) (Zo ZiV) (Ze ZiV) .none kV61 dc61 pm61 an61 cd61 ct61),sl61⟩) (c61:codeIn K cd61 "paid_reset"=true) (k61:keepIn K (.ref f61)=true)
    (a62:nsIn K mainGlobals "is_due"=some (some (.ref f62))) (l62:K.lookup f62=some ⟨oc62,od62,.func (fnOf "is_due" "is_due" (Zt ZiU) (Zo ZiU) (Ze ZiU) .none kV62 dc62 pm62 an62 cd62 ct62),sl62⟩) (c62:codeIn K cd62 "is_due"=true) (k62:keepIn K (.ref f62)=true)
    (a63:nsIn K mainGlobals "again"=some (some (.ref f63))) (l63:K.lookup f63=some ⟨oc63,od63,.func (fnOf "again" "again" (Zt ZiT) (Zo ZiT) (Ze ZiT) .none kV63 dc63 pm63 an63 cd63 ct63),sl63⟩) (c63:codeIn K cd63 "again"=true) (k63:keepIn K (.ref f63)=true)
    (a64:nsIn K mainGlobals "most_at_once"=some (some (.ref f64))) (l64:K.lookup f64=some ⟨oc64,od64,.func (fnOf "most_at_once" "most_at_once" (Zt ZiS) (Zo ZiS) (Ze ZiS) .none kV64 dc64 pm64 an64 cd64 ct64),sl64⟩) (c64:codeIn K cd64 "most_at_once"=true) (k64:keepIn K (.ref f64)=true)
    (a65:nsIn K mainGlobals "paid_syn"=some (some (.ref f65))) (l65:K.lookup f65=some ⟨oc65,od65,.func (fnOf "paid_syn" "paid_syn" (Zt ZiR) (Zo ZiR) (Ze ZiR) .none kV65 dc65 pm65 an65 cd65 ct65),sl65⟩) (c65:codeIn K cd65 "paid_syn"=true) (k65:keepIn K (.ref f65)=true)
    (a66:nsIn K mainGlobals "segment_of"=some (some (.ref f66))) (l66:K.lookup f66=some ⟨oc66,od66,.func (fnOf "segment_of" "segment_of" (Zt ZiQ) (Zo ZiQ) (Ze ZiQ) .none kV66 dc66 pm66 an66 cd66 ct66),sl66⟩) (c66:codeIn K cd66 "segment_of"=true) (k66:keepIn K (.ref f66)=true)
    (a67:nsIn K mainGlobals "going_as_new"=some (some (.ref f67))) (l67:K.lookup f67=some ⟨oc67,od67,.func (fnOf "going_as_new" "going_as_new" (Zt ZiP) (Zo ZiP) (Ze ZiP) .none kV67 dc67 pm67 an67 cd67 ct67),sl67⟩) (c67:codeIn K cd67 "going_as_new"=true) (k67:keepIn K (.ref f67)=true)
    (a68:nsIn K mainGlobals "new_syn"=some (some (.ref f68))) (l68:K.lookup f68=some ⟨oc68,od68,.func (fnOf "new_syn" "new_syn" (Zt ZiO) (Zo ZiO) (Ze ZiO) .none kV68 dc68 pm68 an68 cd68 ct68),sl68⟩) (c68:codeIn K cd68 "new_syn"=true) (k68:keepIn K (.ref f68)=true)
    (a69:nsIn K mainGlobals "has_more"=some (some (.ref f69))) (l69:K.lookup f69=some ⟨oc69,od69,.func (fnOf "has_more" "has_more" (Zt ZiN) (Zo ZiN) (Ze ZiN) .none kV69 dc69 pm69 an69 cd69 ct69),sl69⟩) (c69:codeIn K cd69 "has_more"=true) (k69:keepIn K (.ref f69)=true)
    (a70:nsIn K mainGlobals "has_new_data"=some (some (.ref f70))) (l70:K.lookup f70=some ⟨oc70,od70,.func (fnOf "has_new_data" "has_new_data" (Zt ZiM) (Zo ZiM) (Ze ZiM) .none kV70 dc70 pm70 an70 cd70 ct70),sl70⟩) (c70:codeIn K cd70 "has_new_data"=true) (k70:keepIn K (.ref f70)=true)
    (a71:nsIn K mainGlobals "unsent"=some (some (.ref f71))) (l71:K.lookup f71=some ⟨oc71,od71,.func (fnOf "unsent" "unsent" (Zt ZiL) (Zo ZiL) (Ze ZiL) .none kV71 dc71 pm71 an71 cd71 ct71),sl71⟩) (c71:codeIn K cd71 "unsent"=true) (k71:keepIn K (.ref f71)=true)
    (a72:nsIn K mainGlobals "has_new_fin"=some (some (.ref f72))) (l72:K.lookup f72=some ⟨oc72,od72,.func (fnOf "has_new_fin" "has_new_fin" (Zt ZiK) (Zo ZiK) (Ze ZiK) .none kV72 dc72 pm72 an72 cd72 ct72),sl72⟩) (c72:codeIn K cd72 "has_new_fin"=true) (k72:keepIn K (.ref f72)=true)
    (a73:nsIn K mainGlobals "new_piece"=some (some (.ref f73))) (l73:K.lookup f73=some ⟨oc73,od73,.func (fnOf "new_piece" "new_piece" (Zt ZiJ) (Zo ZiJ) (Ze ZiJ) .none kV73 dc73 pm73 an73 cd73 ct73),sl73⟩) (c73:codeIn K cd73 "new_piece"=true) (k73:keepIn K (.ref f73)=true)
    (a74:nsIn K mainGlobals "new_data"=some (some (.ref f74))) (l74:K.lookup f74=some ⟨oc74,od74,.func (fnOf "new_data" "new_data" (Zt ZiI) (Zo ZiI) (Ze ZiI) .none kV74 dc74 pm74 an74 cd74 ct74),sl74⟩) (c74:codeIn K cd74 "new_data"=true) (k74:keepIn K (.ref f74)=true)
    (a75:nsIn K mainGlobals "new_fin"=some (some (.ref f75))) (l75:K.lookup f75=some ⟨oc75,od75,.func (fnOf "new_fin" "new_fin" (Zt ZiH) (Zo ZiH) (Ze ZiH) .none kV75 dc75 pm75 an75 cd75 ct75),sl75⟩) (c75:codeIn K cd75 "new_fin"=true) (k75:keepIn K (.ref f75)=true)
    (a76:nsIn K mainGlobals "going_as_probe"=some (some (.ref f76))) (l76:K.lookup f76=some ⟨oc76,od76,.func (fnOf "going_as_probe" "going_as_probe" (Zt ZiG) (Zo ZiG) (Ze ZiG) .none kV76 dc76 pm76 an76 cd76 ct76),sl76⟩) (c76:codeIn K cd76 "going_as_probe"=true) (k76:keepIn K (.ref f76)=true)
    (a77:nsIn K mainGlobals "going_as_answer"=some (some (.ref f77))) (l77:K.lookup f77=some ⟨oc77,od77,.func (fnOf "going_as_answer" "going_as_answer" (Zt ZiF) (Zo ZiF) (Ze ZiF) .none kV77 dc77 pm77 an77 cd77 ct77),sl77⟩) (c77:codeIn K cd77 "going_as_answer"=true) (k77:keepIn K (.ref f77)=true)
    (a78:nsIn K mainGlobals "_law_cell"=some (some (.ref f78))) (l78:K.lookup f78=some ⟨oc78,od78,.func (fnOf "_law_cell" "_law_cell" (Zt ZiE) (Zo ZiE) (Ze ZiE) .none kV78 dc78 pm78 an78 cd78 ct78),sl78⟩) (c78:codeIn K cd78 "_law_cell"=true) (k78:keepIn K (.ref f78)=true)
    (a79:nsIn K mainGlobals "_law_mix"=some (some (.ref f79))) (l79:K.lookup f79=some ⟨oc79,od79,.func (fnOf "_law_mix" "_law_mix" (Zt ZiD) (Zo ZiD) (Ze ZiD) .none kV79 dc79 pm79 an79 cd79 ct79),sl79⟩) (c79:codeIn K cd79 "_law_mix"=true) (k79:keepIn K (.ref f79)=true)
    (a80:nsIn K mainGlobals "_law_first"=some (some (.ref f80))) (l80:K.lookup f80=some ⟨oc80,od80,.func (fnOf "_law_first" "_law_first" (Zt ZiC) (Zo ZiC) (Ze ZiC) .none kV80 dc80 pm80 an80 cd80 ct80),sl80⟩) (c80:codeIn K cd80 "_law_first"=true) (k80:keepIn K (.ref f80)=true)
    (a81:nsIn K mainGlobals "law"=some (some (.ref f81))) (l81:K.lookup f81=some ⟨oc81,od81,.func (fnOf "law" "law" (Zt Zfa) (Zo Zfa) (Ze Zfa) .none kV81 dc81 pm81 an81 cd81 ct81),sl81⟩) (c81:codeIn K cd81 "law"=true) (k81:keepIn K (.ref f81)=true)
    (pg_End:plainGet K C_End Str.empty=true) (hd_End:hasDictIn K C_End=true) (po_End:plainOver K C_End=true) (sa_End:findIn K (.ref C_End) "__setattr__"=some (some (.builtin "object.__setattr__"))) (mk_End:makesIn K C_End=true) (kc_End:keepIn K (.ref C_End)=true)
    (pg_Pile:plainGet K C_Pile Str.empty=true) (hd_Pile:hasDictIn K C_Pile=true) (po_Pile:plainOver K C_Pile=true) (sa_Pile:findIn K (.ref C_Pile) "__setattr__"=some (some (.builtin "object.__setattr__"))) (mk_Pile:makesIn K C_Pile=true) (kc_Pile:keepIn K (.ref C_Pile)=true)
    (zA0:findIn K (.ref C_End) "behind"=some none)
    (zA1:findIn K (.ref C_End) "come"=some none)
    (zA2:findIn K (.ref C_End) "early"=some none)
    (zA3:findIn K (.ref C_End) "early_fin"=some none)
    (zA4:findIn K (.ref C_End) "error"=some none)
    (zA5:findIn K (.ref C_End) "first"=some none)
    (zA6:findIn K (.ref C_End) "has_closed"=some none)
    (zA7:findIn K (.ref C_End) "most"=some none)
    (zA8:findIn K (.ref C_End) "nxt"=some none)
    (zA9:findIn K (.ref C_End) "ours"=some none)
    (zA10:findIn K (.ref C_End) "owed_reset"=some none)
    (zA11:findIn K (.ref C_End) "owes_answer"=some none)
    (zA12:findIn K (.ref C_End) "owes_syn"=some none)
    (zA13:findIn K (.ref C_End) "probes"=some none)
    (zA14:findIn K (.ref C_End) "rcv"=some none)
    (zA15:findIn K (.ref C_End) "since"=some none)
    (zA16:findIn K (.ref C_End) "state"=some none)
    (zA17:findIn K (.ref C_End) "theirs"=some none)
    (zA18:findIn K (.ref C_End) "told"=some none)
    (zA19:findIn K (.ref C_End) "told_by"=some none)
    (zA20:findIn K (.ref C_End) "tries"=some none)
    (zA21:findIn K (.ref C_End) "una"=some none)
    (zA22:findIn K (.ref C_End) "wait"=some none)
    (zA23:findIn K (.ref C_End) "wnd"=some none)
    (zA24:findIn K (.ref C_End) "written"=some none)
    (zA25:findIn K (.ref C_Pile) "row"=some none)
    (zg0:nsIn K mainGlobals "ACK"=some (some (.int 16 zt0)))
    (zg1:nsIn K mainGlobals "ANSWER"=some (some (.int 3 zt1)))
    (zg2:nsIn K mainGlobals "CLOSED"=some (some (.str "closed" zt2)))
    (zg3:nsIn K mainGlobals "CLOSE_WAIT"=some (some (.str "close wait" zt3)))
    (zg4:nsIn K mainGlobals "CLOSING"=some (some (.str "closing" zt4)))
    (zg5:nsIn K mainGlobals "DATA"=some (some (.int 7 zt5)))
    (zg6:nsIn K mainGlobals "FIN"=some (some (.int 1 zt6)))
    (zg7:nsIn K mainGlobals "FIRST_WAIT"=some (some (.int 1000 zt7)))
    (zg8:nsIn K mainGlobals "FLAGS"=some (some (.int 4 zt8)))
    (zg9:nsIn K mainGlobals "GOAL"=some (some (.int 1 zt9)))
    (zg10:nsIn K mainGlobals "GREATEST_DATA"=some (some (.int 16 zt10)))
    (zg11:nsIn K mainGlobals "GREATEST_FLAGS"=some (some (.int 31 zt11)))
    (zg12:nsIn K mainGlobals "GREATEST_WORD"=some (some (.int 65535 zt12)))
    (zg13:nsIn K mainGlobals "HALF_ROUND"=some (some (.int 2147483648 zt13)))
    (zg14:nsIn K mainGlobals "LAST_ACK"=some (some (.str "last ack" zt14)))
    (zg15:nsIn K mainGlobals "LAST_WAIT"=some (some (.int 120000 zt15)))
    (zg16:nsIn K mainGlobals "LEAST_MOST"=some (some (.int 4 zt16)))
    (zg17:nsIn K mainGlobals "LISTEN"=some (some (.str "listen" zt17)))
    (zg18:nsIn K mainGlobals "LONGEST_WAIT"=some (some (.int 16000 zt18)))
    (zg19:nsIn K mainGlobals "LONG_HEAD"=some (some (.int 24 zt19)))
    (zg20:nsIn K mainGlobals "MOST"=some (some (.int 6 zt20)))
    (zg21:nsIn K mainGlobals "MOST_TRIES"=some (some (.int 6 zt21)))
    (zg22:nsIn K mainGlobals "MOST_UNTOLD"=some (some (.int 12 zt22)))
    (zg23:nsIn K mainGlobals "NO_ERROR"=some (some (.str "" zt23)))
    (zg24:nsIn K mainGlobals "NUMBER"=some (some (.int 2 zt24)))
    (zg25:nsIn K mainGlobals "OPEN"=some (some (.str "open" zt25)))
    (zg26:nsIn K mainGlobals "PSH"=some (some (.int 8 zt26)))
    (zg27:nsIn K mainGlobals "REFUSED"=some (some (.str "refused" zt27)))
    (zg28:nsIn K mainGlobals "RESET"=some (some (.str "reset" zt28)))
    (zg29:nsIn K mainGlobals "RIGHT_SUM"=some (some (.int 65535 zt29)))
    (zg30:nsIn K mainGlobals "ROOM"=some (some (.int 64 zt30)))
    (zg31:nsIn K mainGlobals "ROUND"=some (some (.int 4294967296 zt31)))
    (zg32:nsIn K mainGlobals "RST"=some (some (.int 4 zt32)))
    (zg33:nsIn K mainGlobals "SHORT_HEAD"=some (some (.int 20 zt33)))
    (zg34:nsIn K mainGlobals "SOURCE"=some (some (.int 0 zt34)))
    (zg35:nsIn K mainGlobals "SYN"=some (some (.int 2 zt35)))
    (zg36:nsIn K mainGlobals "SYN_COME"=some (some (.str "syn come" zt36)))
    (zg37:nsIn K mainGlobals "SYN_SENT"=some (some (.str "syn sent" zt37)))
    (zg38:nsIn K mainGlobals "TIME"=some (some (.str "time" zt38)))
    (zg39:nsIn K mainGlobals "TIME_WAIT"=some (some (.str "time wait" zt39)))
    (zg40:nsIn K mainGlobals "WAIT_ONE"=some (some (.str "wait one" zt40)))
    (zg41:nsIn K mainGlobals "WAIT_TWO"=some (some (.str "wait two" zt41)))
    (zg42:nsIn K mainGlobals "WINDOW"=some (some (.int 5 zt42)))
    (zg43:nsIn K mainGlobals "WORDS"=some (some (.int 65536 zt43)))
    (z_enumerate:nsIn K mainGlobals "enumerate"=some none)
    (z_len:nsIn K mainGlobals "len"=some none)
    (z_list:nsIn K mainGlobals "list"=some none)
    (z_max:nsIn K mainGlobals "max"=some none)
    (z_min:nsIn K mainGlobals "min"=some none)
    (z_range:nsIn K mainGlobals "range"=some none)
    (z_sum:nsIn K mainGlobals "sum"=some none)
    (z_tuple:nsIn K mainGlobals "tuple"=some none) :
    ∃fd:FuncData,(∀(s:Shared) (v:Value),BindsTo s fd ⟨[v],[]⟩ [("_law_script",v)])∧∀base:Heap,K.In base→base.Ns mainGlobals mg→FnOk l.prog w K mg base CX0 9 fa fd ["_law_script"] (Zlm K):=by
  have e:=hfa.symm.trans (mg_of X G a81)
  cases e
  have eC_End:C_End=zX mg "End":=(ZlT (mg_of X G aC_End)).symm
  have eC_Pile:C_Pile=zX mg "Pile":=(ZlT (mg_of X G aC_Pile)).symm
  subst eC_End
  subst eC_Pile
  have g:Glb K mg:=⟨⟨_,mg_of X G zg0⟩,⟨_,mg_of X G zg1⟩,⟨_,mg_of X G zg2⟩,⟨_,mg_of X G zg3⟩,⟨_,mg_of X G zg4⟩,⟨_,mg_of X G zg5⟩,⟨_,mg_of X G zg6⟩,⟨_,mg_of X G zg7⟩,⟨_,mg_of X G zg8⟩,⟨_,mg_of X G zg9⟩,⟨_,mg_of X G zg10⟩,⟨_,mg_of X G zg11⟩,⟨_,mg_of X G zg12⟩,⟨_,mg_of X G zg13⟩,⟨_,mg_of X G zg14⟩,⟨_,mg_of X G zg15⟩,⟨_,mg_of X G zg16⟩,⟨_,mg_of X G zg17⟩,⟨_,mg_of X G zg18⟩,⟨_,mg_of X G zg19⟩,⟨_,mg_of X G zg20⟩,⟨_,mg_of X G zg21⟩,⟨_,mg_of X G zg22⟩,⟨_,mg_of X G zg23⟩,⟨_,mg_of X G zg24⟩,⟨_,mg_of X G zg25⟩,⟨_,mg_of X G zg26⟩,⟨_,mg_of X G zg27⟩,⟨_,mg_of X G zg28⟩,⟨_,mg_of X G zg29⟩,⟨_,mg_of X G zg30⟩,⟨_,mg_of X G zg31⟩,⟨_,mg_of X G zg32⟩,⟨_,mg_of X G zg33⟩,⟨_,mg_of X G zg34⟩,⟨_,mg_of X G zg35⟩,⟨_,mg_of X G zg36⟩,⟨_,mg_of X G zg37⟩,⟨_,mg_of X G zg38⟩,⟨_,mg_of X G zg39⟩,⟨_,mg_of X G zg40⟩,⟨_,mg_of X G zg41⟩,⟨_,mg_of X G zg42⟩,⟨_,mg_of X G zg43⟩,mg_none_of X G z_enumerate,mg_none_of X G z_len,mg_none_of X G z_list,mg_none_of X G z_max,mg_none_of X G z_min,mg_none_of X G z_range,mg_none_of X G z_sum,mg_none_of X G z_tuple,⟨pg_End,hd_End,po_End,sa_End⟩,⟨pg_Pile,hd_Pile,po_Pile,sa_Pile⟩,zA0,zA1,zA2,zA3,zA4,zA5,zA6,zA7,zA8,zA9,zA10,zA11,zA12,zA13,zA14,zA15,zA16,zA17,zA18,zA19,zA20,zA21,zA22,zA23,zA24,zA25⟩
  have F0:=Zz (st:=zs0) l0 c0 k0
  have b0:=F0.binds (ps:=zP0) fun _ _ _ _ _ _=>us1 fun _=>rfl
  have D0:Mk0 K mg "Pile" "Pile.__init__" zs0 zP0:=⟨_,_,F0,b0,⟨mk_Pile,a0,i0,kc_Pile⟩,mg_of X G aC_Pile⟩
  have F1:=Zz (st:=zs1) l1 c1 k1
  have b1:=F1.binds (ps:=zP1) fun _ _ _ _ _ _=>us1 fun _=>rfl
  have D1:Zn K mg "room" zs1 zP1:=⟨_,_,F1,b1,mg_of X G a1⟩
  have F2:=Zz (st:=zs2) l2 c2 k2
  have b2:=F2.binds (ps:=zP2) fun _ _ _ _ _ _=>us2 fun _ _=>rfl
  have D2:Zn K mg "lay" zs2 zP2:=⟨_,_,F2,b2,mg_of X G a2⟩
  have F3:=Zz (st:=zs3) l3 c3 k3
  have b3:=F3.binds (ps:=zP3) fun _ _ _ _ _ _=>us2 fun _ _=>rfl
  have D3:Zn K mg "take" zs3 zP3:=⟨_,_,F3,b3,mg_of X G a3⟩
  have F4:=Zz (st:=zs4) l4 c4 k4
  have b4:=F4.binds (ps:=zP4) fun _ _ _ _ _ _=>us2 fun _ _=>rfl
  have D4:Zn K mg "plus" zs4 zP4:=⟨_,_,F4,b4,mg_of X G a4⟩
  have F5:=Zz (st:=zs5) l5 c5 k5
  have b5:=F5.binds (ps:=zP5) fun _ _ _ _ _ _=>us2 fun _ _=>rfl
  have D5:Zn K mg "offset" zs5 zP5:=⟨_,_,F5,b5,mg_of X G a5⟩
  have F6:=Zz (st:=zs6) l6 c6 k6
  have b6:=F6.binds (ps:=zP6) fun _ _ _ _ _ _=>us2 fun _ _=>rfl
  have D6:Zn K mg "past" zs6 zP6:=⟨_,_,F6,b6,mg_of X G a6⟩
  have F7:=Zz (st:=zs7) l7 c7 k7
  have b7:=F7.binds (ps:=zP7) fun _ _ _ _ _ _=>us5 fun _ _ _ _ _=>rfl
  have D7:Mk0 K mg "End" "End.__init__" zs7 zP7:=⟨_,_,F7,b7,⟨mk_End,a7,i7,kc_End⟩,mg_of X G aC_End⟩
  have F8:=Zz (st:=zs8) l8 c8 k8
  have b8:=F8.binds (ps:=zP8) fun _ _ _ _ _ _=>us2 fun _ _=>rfl
  have D8:Zn K mg "start_timer" zs8 zP8:=⟨_,_,F8,b8,mg_of X G a8⟩
  have F9:=Zz (st:=zs9) l9 c9 k9
  have b9:=F9.binds (ps:=zP9) fun _ _ _ _ _ _=>us1 fun _=>rfl
  have D9:Zn K mg "state" zs9 zP9:=⟨_,_,F9,b9,mg_of X G a9⟩
  have F10:=Zz (st:=ZjK) l10 c10 k10
  have b10:=F10.binds (ps:=ZnR) fun _ _ _ _ _ _=>us1 fun _=>rfl
  have D10:Zn K mg "our_window" ZjK ZnR:=⟨_,_,F10,b10,mg_of X G a10⟩
  have F11:=Zz (st:=ZjJ) l11 c11 k11
  have b11:=F11.binds (ps:=ZnQ) fun _ _ _ _ _ _=>us1 fun _=>rfl
  have D11:Zn K mg "has_sent_fin" ZjJ ZnQ:=⟨_,_,F11,b11,mg_of X G a11⟩
  have F12:=Zz (st:=ZjI) l12 c12 k12
  have b12:=F12.binds (ps:=ZnP) fun _ _ _ _ _ _=>us1 fun _=>rfl
  have D12:Zn K mg "folded" ZjI ZnP:=⟨_,_,F12,b12,mg_of X G a12⟩
  have F13:=Zz (st:=ZjH) l13 c13 k13
  have b13:=F13.binds (ps:=ZnO) fun _ _ _ _ _ _=>us1 fun _=>rfl
  have D13:Zn K mg "sum_of" ZjH ZnO:=⟨_,_,F13,b13,mg_of X G a13⟩
  have F14:=Zz (st:=ZjG) l14 c14 k14
  have b14:=F14.binds (ps:=ZnN) fun _ _ _ _ _ _=>us1 fun _=>rfl
  have D14:Zn K mg "length" ZjG ZnN:=⟨_,_,F14,b14,mg_of X G a14⟩
  have F15:=Zz (st:=ZjF) l15 c15 k15
  have b15:=F15.binds (ps:=ZnM) fun _ _ _ _ _ _=>us2 fun _ _=>rfl
  have D15:Zn K mg "has" ZjF ZnM:=⟨_,_,F15,b15,mg_of X G a15⟩
  have F16:=Zz (st:=ZjE) l16 c16 k16
  have b16:=F16.binds (ps:=ZnL) fun _ _ _ _ _ _=>us2 fun _ _=>rfl
  have D16:Zn K mg "bears" ZjE ZnL:=⟨_,_,F16,b16,mg_of X G a16⟩
  have F17:=Zz (st:=ZjD) l17 c17 k17
  have b17:=F17.binds (ps:=ZnK) fun _ _ _ _ _ _=>us1 fun _=>rfl
  have D17:Zn K mg "put" ZjD ZnK:=⟨_,_,F17,b17,mg_of X G a17⟩
  have F18:=Zz (st:=ZjC) l18 c18 k18
  have b18:=F18.binds (ps:=ZnJ) fun _ _ _ _ _ _=>us1 fun _=>rfl
  have D18:Zn K mg "bytes_ahead_of_sum" ZjC ZnJ:=⟨_,_,F18,b18,mg_of X G a18⟩
  have F19:=Zz (st:=ZjB) l19 c19 k19
  have b19:=F19.binds (ps:=ZnI) fun _ _ _ _ _ _=>us1 fun _=>rfl
  have D19:Zn K mg "byte_of_head" ZjB ZnI:=⟨_,_,F19,b19,mg_of X G a19⟩
  have F20:=Zz (st:=ZjA) l20 c20 k20
  have b20:=F20.binds (ps:=ZnH) fun _ _ _ _ _ _=>us1 fun _=>rfl
  have D20:Zn K mg "bytes_of_most" ZjA ZnH:=⟨_,_,F20,b20,mg_of X G a20⟩
  have F21:=Zz (st:=Zjz) l21 c21 k21
  have b21:=F21.binds (ps:=ZnG) fun _ _ _ _ _ _=>us1 fun _=>rfl
  have D21:Zn K mg "two_bytes" Zjz ZnG:=⟨_,_,F21,b21,mg_of X G a21⟩
  have F22:=Zz (st:=Zjy) l22 c22 k22
  have b22:=F22.binds (ps:=ZnF) fun _ _ _ _ _ _=>us1 fun _=>rfl
  have D22:Zn K mg "four_bytes" Zjy ZnF:=⟨_,_,F22,b22,mg_of X G a22⟩
  have F23:=Zz (st:=Zjx) l23 c23 k23
  have b23:=F23.binds (ps:=ZnE) fun _ _ _ _ _ _=>us1 fun _=>rfl
  have D23:Zn K mg "is_right" Zjx ZnE:=⟨_,_,F23,b23,mg_of X G a23⟩
  have F24:=Zz (st:=Zjw) l24 c24 k24
  have b24:=F24.binds (ps:=ZnD) fun _ _ _ _ _ _=>us1 fun _=>rfl
  have D24:Zn K mg "head_of" Zjw ZnD:=⟨_,_,F24,b24,mg_of X G a24⟩
  have F25:=Zz (st:=Zjv) l25 c25 k25
  have b25:=F25.binds (ps:=ZnC) fun _ _ _ _ _ _=>us1 fun _=>rfl
  have D25:Zn K mg "is_right_long_head" Zjv ZnC:=⟨_,_,F25,b25,mg_of X G a25⟩
  have F26:=Zz (st:=Zju) l26 c26 k26
  have b26:=F26.binds (ps:=ZnB) fun _ _ _ _ _ _=>us1 fun _=>rfl
  have D26:Zn K mg "get" Zju ZnB:=⟨_,_,F26,b26,mg_of X G a26⟩
  have F27:=Zz (st:=Zjt) l27 c27 k27
  have b27:=F27.binds (ps:=ZnA) fun _ _ _ _ _ _=>us2 fun _ _=>rfl
  have D27:Zn K mg "two_at" Zjt ZnA:=⟨_,_,F27,b27,mg_of X G a27⟩
  have F28:=Zz (st:=Zjs) l28 c28 k28
  have b28:=F28.binds (ps:=Znz) fun _ _ _ _ _ _=>us2 fun _ _=>rfl
  have D28:Zn K mg "four_at" Zjs Znz:=⟨_,_,F28,b28,mg_of X G a28⟩
  have F29:=Zz (st:=Zjr) l29 c29 k29
  have b29:=F29.binds (ps:=Zny) fun _ _ _ _ _ _=>us1 fun _=>rfl
  have D29:Zn K mg "reset_for" Zjr Zny:=⟨_,_,F29,b29,mg_of X G a29⟩
  have F30:=Zz (st:=Zjq) l30 c30 k30
  have b30:=F30.binds (ps:=Znx) fun _ _ _ _ _ _=>us2 fun _ _=>rfl
  have D30:Zn K mg "owe_reset_for" Zjq Znx:=⟨_,_,F30,b30,mg_of X G a30⟩
  have F31:=Zz (st:=Zjp) l31 c31 k31
  have b31:=F31.binds (ps:=Znw) fun _ _ _ _ _ _=>us2 fun _ _=>rfl
  have D31:Zn K mg "come_to_closed" Zjp Znw:=⟨_,_,F31,b31,mg_of X G a31⟩
  have F32:=Zz (st:=Zjo) l32 c32 k32
  have b32:=F32.binds (ps:=Znv) fun _ _ _ _ _ _=>us2 fun _ _=>rfl
  have D32:Zn K mg "come_to_listen" Zjo Znv:=⟨_,_,F32,b32,mg_of X G a32⟩
  have F33:=Zz (st:=Zjn) l33 c33 k33
  have b33:=F33.binds (ps:=Znu) fun _ _ _ _ _ _=>us2 fun _ _=>rfl
  have D33:Zn K mg "hear_syn" Zjn Znu:=⟨_,_,F33,b33,mg_of X G a33⟩
  have F34:=Zz (st:=Zjm) l34 c34 k34
  have b34:=F34.binds (ps:=Znt) fun _ _ _ _ _ _=>us3 fun _ _ _=>rfl
  have D34:Zn K mg "come_to_syn_sent" Zjm Znt:=⟨_,_,F34,b34,mg_of X G a34⟩
  have F35:=Zz (st:=Zjl) l35 c35 k35
  have b35:=F35.binds (ps:=Zns) fun _ _ _ _ _ _=>us2 fun _ _=>rfl
  have D35:Zn K mg "answers_syn" Zjl Zns:=⟨_,_,F35,b35,mg_of X G a35⟩
  have F36:=Zz (st:=Zjk) l36 c36 k36
  have b36:=F36.binds (ps:=Znr) fun _ _ _ _ _ _=>us2 fun _ _=>rfl
  have D36:Zn K mg "refuse" Zjk Znr:=⟨_,_,F36,b36,mg_of X G a36⟩
  have F37:=Zz (st:=Zjj) l37 c37 k37
  have b37:=F37.binds (ps:=Znq) fun _ _ _ _ _ _=>us3 fun _ _ _=>rfl
  have D37:Zn K mg "go_on_from_syn_sent" Zjj Znq:=⟨_,_,F37,b37,mg_of X G a37⟩
  have F38:=Zz (st:=Zji) l38 c38 k38
  have b38:=F38.binds (ps:=Znp) fun _ _ _ _ _ _=>us3 fun _ _ _=>rfl
  have D38:Zn K mg "arrive" Zji Znp:=⟨_,_,F38,b38,mg_of X G a38⟩
  have F39:=Zz (st:=Zjh) l39 c39 k39
  have b39:=F39.binds (ps:=Zno) fun _ _ _ _ _ _=>us2 fun _ _=>rfl
  have D39:Zn K mg "is_for" Zjh Zno:=⟨_,_,F39,b39,mg_of X G a39⟩
  have F40:=Zz (st:=Zjg) l40 c40 k40
  have b40:=F40.binds (ps:=Znn) fun _ _ _ _ _ _=>us3 fun _ _ _=>rfl
  have D40:Zn K mg "come_to_stream" Zjg Znn:=⟨_,_,F40,b40,mg_of X G a40⟩
  have F41:=Zz (st:=Zjf) l41 c41 k41
  have b41:=F41.binds (ps:=Znm) fun _ _ _ _ _ _=>us2 fun _ _=>rfl
  have D41:Zn K mg "fits" Zjf Znm:=⟨_,_,F41,b41,mg_of X G a41⟩
  have F42:=Zz (st:=Zje) l42 c42 k42
  have b42:=F42.binds (ps:=Znl) fun _ _ _ _ _ _=>us2 fun _ _=>rfl
  have D42:Zn K mg "is_in_window" Zje Znl:=⟨_,_,F42,b42,mg_of X G a42⟩
  have F43:=Zz (st:=Zjd) l43 c43 k43
  have b43:=F43.binds (ps:=Znk) fun _ _ _ _ _ _=>us3 fun _ _ _=>rfl
  have D43:Zn K mg "turn_away" Zjd Znk:=⟨_,_,F43,b43,mg_of X G a43⟩
  have F44:=Zz (st:=Zjc) l44 c44 k44
  have b44:=F44.binds (ps:=Znj) fun _ _ _ _ _ _=>us2 fun _ _=>rfl
  have D44:Zn K mg "hear_reset" Zjc Znj:=⟨_,_,F44,b44,mg_of X G a44⟩
  have F45:=Zz (st:=Zjb) l45 c45 k45
  have b45:=F45.binds (ps:=Zni) fun _ _ _ _ _ _=>us3 fun _ _ _=>rfl
  have D45:Zn K mg "goes_on_behind_answer" Zjb Zni:=⟨_,_,F45,b45,mg_of X G a45⟩
  have F46:=Zz (st:=Zja) l46 c46 k46
  have b46:=F46.binds (ps:=Znh) fun _ _ _ _ _ _=>us2 fun _ _=>rfl
  have D46:Zn K mg "has_answered_syn" Zja Znh:=⟨_,_,F46,b46,mg_of X G a46⟩
  have F47:=Zz (st:=Zi9) l47 c47 k47
  have b47:=F47.binds (ps:=Zng) fun _ _ _ _ _ _=>us2 fun _ _=>rfl
  have D47:Zn K mg "take_window" Zi9 Zng:=⟨_,_,F47,b47,mg_of X G a47⟩
  have F48:=Zz (st:=Zi8) l48 c48 k48
  have b48:=F48.binds (ps:=Znf) fun _ _ _ _ _ _=>us3 fun _ _ _=>rfl
  have D48:Zn K mg "hear_answer" Zi8 Znf:=⟨_,_,F48,b48,mg_of X G a48⟩
  have F49:=Zz (st:=Zi7) l49 c49 k49
  have b49:=F49.binds (ps:=Zne) fun _ _ _ _ _ _=>us2 fun _ _=>rfl
  have D49:Zn K mg "is_newer" Zi7 Zne:=⟨_,_,F49,b49,mg_of X G a49⟩
  have F50:=Zz (st:=Zi6) l50 c50 k50
  have b50:=F50.binds (ps:=Znd) fun _ _ _ _ _ _=>us2 fun _ _=>rfl
  have D50:Zn K mg "end_what_is_acknowledged" Zi6 Znd:=⟨_,_,F50,b50,mg_of X G a50⟩
  have F51:=Zz (st:=Zi5) l51 c51 k51
  have b51:=F51.binds (ps:=Znc) fun _ _ _ _ _ _=>us3 fun _ _ _=>rfl
  have D51:Zn K mg "hear_stream" Zi5 Znc:=⟨_,_,F51,b51,mg_of X G a51⟩
  have F52:=Zz (st:=Zi4) l52 c52 k52
  have b52:=F52.binds (ps:=Znb) fun _ _ _ _ _ _=>us2 fun _ _=>rfl
  have D52:Zn K mg "keep_data" Zi4 Znb:=⟨_,_,F52,b52,mg_of X G a52⟩
  have F53:=Zz (st:=Zi3) l53 c53 k53
  have b53:=F53.binds (ps:=Zna) fun _ _ _ _ _ _=>us2 fun _ _=>rfl
  have D53:Zn K mg "keep_fin" Zi3 Zna:=⟨_,_,F53,b53,mg_of X G a53⟩
  have F54:=Zz (st:=Zi2) l54 c54 k54
  have b54:=F54.binds (ps:=Zm9) fun _ _ _ _ _ _=>us1 fun _=>rfl
  have D54:Zn K mg "draw_in_order" Zi2 Zm9:=⟨_,_,F54,b54,mg_of X G a54⟩
  have F55:=Zz (st:=Zi1) l55 c55 k55
  have b55:=F55.binds (ps:=Zm8) fun _ _ _ _ _ _=>us2 fun _ _=>rfl
  have D55:Zn K mg "hear_fin" Zi1 Zm8:=⟨_,_,F55,b55,mg_of X G a55⟩
  have F56:=Zz (st:=Zi0) l56 c56 k56
  have b56:=F56.binds (ps:=Zm7) fun _ _ _ _ _ _=>us4 fun _ _ _ _=>rfl
  have D56:Zn K mg "opened" Zi0 Zm7:=⟨_,_,F56,b56,mg_of X G a56⟩
  have F57:=Zz (st:=ZiZ) l57 c57 k57
  have b57:=F57.binds (ps:=Zm6) fun _ _ _ _ _ _=>us2 fun _ _=>rfl
  have D57:Zn K mg "write" ZiZ Zm6:=⟨_,_,F57,b57,mg_of X G a57⟩
  have F58:=Zz (st:=ZiY) l58 c58 k58
  have b58:=F58.binds (ps:=Zm5) fun _ _ _ _ _ _=>us2 fun _ _=>rfl
  have D58:Zn K mg "read" ZiY Zm5:=⟨_,_,F58,b58,mg_of X G a58⟩
  have F59:=Zz (st:=ZiX) l59 c59 k59
  have b59:=F59.binds (ps:=Zm4) fun _ _ _ _ _ _=>us2 fun _ _=>rfl
  have D59:Zn K mg "send" ZiX Zm4:=⟨_,_,F59,b59,mg_of X G a59⟩
  have F60:=Zz (st:=ZiW) l60 c60 k60
  have b60:=F60.binds (ps:=Zm3) fun _ _ _ _ _ _=>us2 fun _ _=>rfl
  have D60:Zn K mg "going" ZiW Zm3:=⟨_,_,F60,b60,mg_of X G a60⟩
  have F61:=Zz (st:=ZiV) l61 c61 k61
  have b61:=F61.binds (ps:=Zm2) fun _ _ _ _ _ _=>us1 fun _=>rfl
  have D61:Zn K mg "paid_reset" ZiV Zm2:=⟨_,_,F61,b61,mg_of X G a61⟩
  have F62:=Zz (st:=ZiU) l62 c62 k62
  have b62:=F62.binds (ps:=Zm1) fun _ _ _ _ _ _=>us2 fun _ _=>rfl
  have D62:Zn K mg "is_due" ZiU Zm1:=⟨_,_,F62,b62,mg_of X G a62⟩
  have F63:=Zz (st:=ZiT) l63 c63 k63
  have b63:=F63.binds (ps:=Zm0) fun _ _ _ _ _ _=>us2 fun _ _=>rfl
  have D63:Zn K mg "again" ZiT Zm0:=⟨_,_,F63,b63,mg_of X G a63⟩
  have F64:=Zz (st:=ZiS) l64 c64 k64
  have b64:=F64.binds (ps:=ZmZ) fun _ _ _ _ _ _=>us1 fun _=>rfl
  have D64:Zn K mg "most_at_once" ZiS ZmZ:=⟨_,_,F64,b64,mg_of X G a64⟩
  have F65:=Zz (st:=ZiR) l65 c65 k65
  have b65:=F65.binds (ps:=ZmY) fun _ _ _ _ _ _=>us1 fun _=>rfl
  have D65:Zn K mg "paid_syn" ZiR ZmY:=⟨_,_,F65,b65,mg_of X G a65⟩
  have F66:=Zz (st:=ZiQ) l66 c66 k66
  have b66:=F66.binds (ps:=ZmX) fun _ _ _ _ _ _=>us4 fun _ _ _ _=>rfl
  have D66:Zn K mg "segment_of" ZiQ ZmX:=⟨_,_,F66,b66,mg_of X G a66⟩
  have F67:=Zz (st:=ZiP) l67 c67 k67
  have b67:=F67.binds (ps:=ZmW) fun _ _ _ _ _ _=>us2 fun _ _=>rfl
  have D67:Zn K mg "going_as_new" ZiP ZmW:=⟨_,_,F67,b67,mg_of X G a67⟩
  have F68:=Zz (st:=ZiO) l68 c68 k68
  have b68:=F68.binds (ps:=ZmV) fun _ _ _ _ _ _=>us2 fun _ _=>rfl
  have D68:Zn K mg "new_syn" ZiO ZmV:=⟨_,_,F68,b68,mg_of X G a68⟩
  have F69:=Zz (st:=ZiN) l69 c69 k69
  have b69:=F69.binds (ps:=ZmU) fun _ _ _ _ _ _=>us1 fun _=>rfl
  have D69:Zn K mg "has_more" ZiN ZmU:=⟨_,_,F69,b69,mg_of X G a69⟩
  have F70:=Zz (st:=ZiM) l70 c70 k70
  have b70:=F70.binds (ps:=ZmT) fun _ _ _ _ _ _=>us1 fun _=>rfl
  have D70:Zn K mg "has_new_data" ZiM ZmT:=⟨_,_,F70,b70,mg_of X G a70⟩
  have F71:=Zz (st:=ZiL) l71 c71 k71
  have b71:=F71.binds (ps:=ZmS) fun _ _ _ _ _ _=>us1 fun _=>rfl
  have D71:Zn K mg "unsent" ZiL ZmS:=⟨_,_,F71,b71,mg_of X G a71⟩
  have F72:=Zz (st:=ZiK) l72 c72 k72
  have b72:=F72.binds (ps:=ZmR) fun _ _ _ _ _ _=>us1 fun _=>rfl
  have D72:Zn K mg "has_new_fin" ZiK ZmR:=⟨_,_,F72,b72,mg_of X G a72⟩
  have F73:=Zz (st:=ZiJ) l73 c73 k73
  have b73:=F73.binds (ps:=ZmQ) fun _ _ _ _ _ _=>us2 fun _ _=>rfl
  have D73:Zn K mg "new_piece" ZiJ ZmQ:=⟨_,_,F73,b73,mg_of X G a73⟩
  have F74:=Zz (st:=ZiI) l74 c74 k74
  have b74:=F74.binds (ps:=ZmP) fun _ _ _ _ _ _=>us2 fun _ _=>rfl
  have D74:Zn K mg "new_data" ZiI ZmP:=⟨_,_,F74,b74,mg_of X G a74⟩
  have F75:=Zz (st:=ZiH) l75 c75 k75
  have b75:=F75.binds (ps:=ZmO) fun _ _ _ _ _ _=>us1 fun _=>rfl
  have D75:Zn K mg "new_fin" ZiH ZmO:=⟨_,_,F75,b75,mg_of X G a75⟩
  have F76:=Zz (st:=ZiG) l76 c76 k76
  have b76:=F76.binds (ps:=ZmN) fun _ _ _ _ _ _=>us2 fun _ _=>rfl
  have D76:Zn K mg "going_as_probe" ZiG ZmN:=⟨_,_,F76,b76,mg_of X G a76⟩
  have F77:=Zz (st:=ZiF) l77 c77 k77
  have b77:=F77.binds (ps:=ZmM) fun _ _ _ _ _ _=>us1 fun _=>rfl
  have D77:Zn K mg "going_as_answer" ZiF ZmM:=⟨_,_,F77,b77,mg_of X G a77⟩
  have F78:=Zz (st:=ZiE) l78 c78 k78
  have b78:=F78.binds (ps:=ZmL) fun _ _ _ _ _ _=>us2 fun _ _=>rfl
  have D78:Zn K mg "_law_cell" ZiE ZmL:=⟨_,_,F78,b78,mg_of X G a78⟩
  have F79:=Zz (st:=ZiD) l79 c79 k79
  have b79:=F79.binds (ps:=ZmK) fun _ _ _ _ _ _=>us2 fun _ _=>rfl
  have D79:Zn K mg "_law_mix" ZiD ZmK:=⟨_,_,F79,b79,mg_of X G a79⟩
  have F80:=Zz (st:=ZiC) l80 c80 k80
  have b80:=F80.binds (ps:=ZmJ) fun _ _ _ _ _ _=>us1 fun _=>rfl
  have D80:Zn K mg "_law_first" ZiC ZmJ:=⟨_,_,F80,b80,mg_of X G a80⟩
  have F81:=Zz (st:=Zfa) l81 c81 k81
  have b81:=F81.binds (ps:=ZmI) fun _ _ _ _ _ _=>us1 fun _=>rfl
  have D81:Zn K mg "law" Zfa ZmI:=⟨_,_,F81,b81,mg_of X G a81⟩
  refine ⟨fnOf "law" "law" (Zt Zfa) (Zo Zfa) (Ze Zfa) .none kV81 dc81 pm81 an81 cd81 ct81,fun s v=>.of_eq rfl,fun base _ _=>?_⟩
  exact ZqC law_true (ZsQ F81 D0 D1 D2 D3 D4 D5 D6 D7 D8 D9 D10 D11 D12 D13 D14 D15 D16 D17 D18 D19 D20 D21 D22 D23 D24 D25 D26 D27 D28 D29 D30 D31 D32 D33 D34 D35 D36 D37 D38 D39 D40 D41 D42 D43 D44 D45 D46 D47 D48 D49 D50 D51 D52 D53 D54 D55 D56 D57 D58 D59 D60 D61 D62 D63 D64 D65 D66 D67 D68 D69 D70 D71 D72 D73 D74 D75 D76 D77 D78 D79 D80 g)
theorem Zw7 {l:OpenLaw} {q:Program} {loose:List Str} {XP:(Str→Option Value)→Heap→Prop} {YP:World→Heap→Prop} {d:DefRec} {K:Params→Frag} (hn:l.most=some 63) (hdf:d.params.defaults=[])
    (hY:∀(w:World) (h:Heap),YP w h→(K w.params).In h)
    (F:∀(w:World) (mg:Str→Option Value) (fa:Addr) (h:Heap),(K w.params).In h→h.Ns mainGlobals mg→mg d.name=some (.ref fa)→
      ∃fd:FuncData,(∀(s:Shared) (u:Value),BindsTo s fd ⟨[u],[]⟩ [("_law_script",u)])∧∀base:Heap,(K w.params).In base→base.Ns mainGlobals mg→FnOk l.prog w (K w.params) mg base CX0 9 fa fd ["_law_script"] (Zlm (K w.params))) :
    WalkO q loose XP YP l.row.toRowW d [] (fun f vs=>PySem.call f vs):=
  L2.ZpL (n:=63) (k:=9) (x:="_law_script") (CX:=fun _=>CX0) (sp:=fun w=>Zlm (K w.params)) hn (by decide) hdf ⟨rfl,by decide,by decide⟩ hY F (fun _ H a ns hl hO hS=>⟨a,ns,rfl,hO,hS,hl,fun _=>rfl⟩) fun _ _ _ _ _ z=>z
end My
open PySem PySem.W PyProof.Rows
set_option maxRecDepth 100000 in
set_option maxHeartbeats 0 in
theorem PySem.Challenge.cw_wirestream_k14_both_at_once_holds : PySem.Challenge.rw_wirestream_k14_both_at_once.Holds := by
  w_on; o_law; k_head; (case hw=>w_witness2)
  k_fill
  refine My.Zw7 (l:=PySem.Challenge.rw_wirestream_k14_both_at_once) rfl rfl (fun w h Y=>PySem.W.kIn_of Y) ?F
  case F=>
    intro w mg fa h KX G hmg
    refine' My.Ztb KX G hmg ?aC_End ?aC_Pile ?a0 ?i0 ?l0 ?c0 ?k0 ?a1 ?l1 ?c1 ?k1 ?a2 ?l2 ?c2 ?k2 ?a3 ?l3 ?c3 ?k3 ?a4 ?l4 ?c4 ?k4 ?a5 ?l5 ?c5 ?k5 ?a6 ?l6 ?c6 ?k6 ?a7 ?i7 ?l7 ?c7 ?k7 ?a8 ?l8 ?c8 ?k8 ?a9 ?l9 ?c9 ?k9 ?a10 ?l10 ?c10 ?k10 ?a11 ?l11 ?c11 ?k11 ?a12 ?l12 ?c12 ?k12 ?a13 ?l13 ?c13 ?k13 ?a14 ?l14 ?c14 ?k14 ?a15 ?l15 ?c15 ?k15 ?a16 ?l16 ?c16 ?k16 ?a17 ?l17 ?c17 ?k17 ?a18 ?l18 ?c18 ?k18 ?a19 ?l19 ?c19 ?k19 ?a20 ?l20 ?c20 ?k20 ?a21 ?l21 ?c21 ?k21 ?a22 ?l22 ?c22 ?k22 ?a23 ?l23 ?c23 ?k23 ?a24 ?l24 ?c24 ?k24 ?a25 ?l25 ?c25 ?k25 ?a26 ?l26 ?c26 ?k26 ?a27 ?l27 ?c27 ?k27 ?a28 ?l28 ?c28 ?k28 ?a29 ?l29 ?c29 ?k29 ?a30 ?l30 ?c30 ?k30 ?a31 ?l31 ?c31 ?k31 ?a32 ?l32 ?c32 ?k32 ?a33 ?l33 ?c33 ?k33 ?a34 ?l34 ?c34 ?k34 ?a35 ?l35 ?c35 ?k35 ?a36 ?l36 ?c36 ?k36 ?a37 ?l37 ?c37 ?k37 ?a38 ?l38 ?c38 ?k38 ?a39 ?l39 ?c39 ?k39 ?a40 ?l40 ?c40 ?k40 ?a41 ?l41 ?c41 ?k41 ?a42 ?l42 ?c42 ?k42 ?a43 ?l43 ?c43 ?k43 ?a44 ?l44 ?c44 ?k44 ?a45 ?l45 ?c45 ?k45 ?a46 ?l46 ?c46 ?k46 ?a47 ?l47 ?c47 ?k47 ?a48 ?l48 ?c48 ?k48 ?a49 ?l49 ?c49 ?k49 ?a50 ?l50 ?c50 ?k50 ?a51 ?l51 ?c51 ?k51 ?a52 ?l52 ?c52 ?k52 ?a53 ?l53 ?c53 ?k53 ?a54 ?l54 ?c54 ?k54 ?a55 ?l55 ?c55 ?k55 ?a56 ?l56 ?c56 ?k56 ?a57 ?l57 ?c57 ?k57 ?a58 ?l58 ?c58 ?k58 ?a59 ?l59 ?c59 ?k59 ?a60 ?l60 ?c60 ?k60 ?a61 ?l61 ?c61 ?k61 ?a62 ?l62 ?c62 ?k62 ?a63 ?l63 ?c63 ?k63 ?a64 ?l64 ?c64 ?k64 ?a65 ?l65 ?c65 ?k65 ?a66 ?l66 ?c66 ?k66 ?a67 ?l67 ?c67 ?k67 ?a68 ?l68 ?c68 ?k68 ?a69 ?l69 ?c69 ?k69 ?a70 ?l70 ?c70 ?k70 ?a71 ?l71 ?c71 ?k71 ?a72 ?l72 ?c72 ?k72 ?a73 ?l73 ?c73 ?k73 ?a74 ?l74 ?c74 ?k74 ?a75 ?l75 ?c75 ?k75 ?a76 ?l76 ?c76 ?k76 ?a77 ?l77 ?c77 ?k77 ?a78 ?l78 ?c78 ?k78 ?a79 ?l79 ?c79 ?k79 ?a80 ?l80 ?c80 ?k80 ?a81 ?l81 ?c81 ?k81 ?pg_End ?hd_End ?po_End ?sa_End ?mk_End ?kc_End ?pg_Pile ?hd_Pile ?po_Pile ?sa_Pile ?mk_Pile ?kc_Pile ?zA0 ?zA1 ?zA2 ?zA3 ?zA4 ?zA5 ?zA6 ?zA7 ?zA8 ?zA9 ?zA10 ?zA11 ?zA12 ?zA13 ?zA14 ?zA15 ?zA16 ?zA17 ?zA18 ?zA19 ?zA20 ?zA21 ?zA22 ?zA23 ?zA24 ?zA25 ?zg0 ?zg1 ?zg2 ?zg3 ?zg4 ?zg5 ?zg6 ?zg7 ?zg8 ?zg9 ?zg10 ?zg11 ?zg12 ?zg13 ?zg14 ?zg15 ?zg16 ?zg17 ?zg18 ?zg19 ?zg20 ?zg21 ?zg22 ?zg23 ?zg24 ?zg25 ?zg26 ?zg27 ?zg28 ?zg29 ?zg30 ?zg31 ?zg32 ?zg33 ?zg34 ?zg35 ?zg36 ?zg37 ?zg38 ?zg39 ?zg40 ?zg41 ?zg42 ?zg43 ?z_enumerate ?z_len ?z_list ?z_max ?z_min ?z_range ?z_sum ?z_tuple
    case aC_End | aC_Pile | a0 | i0 | l0 | c0 | k0 | a1 | l1 | c1 | k1 | a2 | l2 | c2 | k2 | a3 | l3 | c3 | k3 | a4 | l4 | c4 | k4 | a5 | l5 | c5 | k5 | a6 | l6 | c6 | k6 | a7 | i7 | l7 | c7 | k7 | a8 | l8 | c8 | k8 | a9 | l9 | c9 | k9 | a10 | l10 | c10 | k10 | a11 | l11 | c11 | k11 | a12 | l12 | c12 | k12 | a13 | l13 | c13 | k13 | a14 | l14 | c14 | k14 | a15 | l15 | c15 | k15 | a16 | l16 | c16 | k16 | a17 | l17 | c17 | k17 | a18 | l18 | c18 | k18 | a19 | l19 | c19 | k19 | a20 | l20 | c20 | k20 | a21 | l21 | c21 | k21 | a22 | l22 | c22 | k22 | a23 | l23 | c23 | k23 | a24 | l24 | c24 | k24 | a25 | l25 | c25 | k25 | a26 | l26 | c26 | k26 | a27 | l27 | c27 | k27 | a28 | l28 | c28 | k28 | a29 | l29 | c29 | k29 | a30 | l30 | c30 | k30 | a31 | l31 | c31 | k31 | a32 | l32 | c32 | k32 | a33 | l33 | c33 | k33 | a34 | l34 | c34 | k34 | a35 | l35 | c35 | k35 | a36 | l36 | c36 | k36 | a37 | l37 | c37 | k37 | a38 | l38 | c38 | k38 | a39 | l39 | c39 | k39 | a40 | l40 | c40 | k40 | a41 | l41 | c41 | k41 | a42 | l42 | c42 | k42 | a43 | l43 | c43 | k43 | a44 | l44 | c44 | k44 | a45 | l45 | c45 | k45 | a46 | l46 | c46 | k46 | a47 | l47 | c47 | k47 | a48 | l48 | c48 | k48 | a49 | l49 | c49 | k49 | a50 | l50 | c50 | k50 | a51 | l51 | c51 | k51 | a52 | l52 | c52 | k52 | a53 | l53 | c53 | k53 | a54 | l54 | c54 | k54 | a55 | l55 | c55 | k55 | a56 | l56 | c56 | k56 | a57 | l57 | c57 | k57 | a58 | l58 | c58 | k58 | a59 | l59 | c59 | k59 | a60 | l60 | c60 | k60 | a61 | l61 | c61 | k61 | a62 | l62 | c62 | k62 | a63 | l63 | c63 | k63 | a64 | l64 | c64 | k64 | a65 | l65 | c65 | k65 | a66 | l66 | c66 | k66 | a67 | l67 | c67 | k67 | a68 | l68 | c68 | k68 | a69 | l69 | c69 | k69 | a70 | l70 | c70 | k70 | a71 | l71 | c71 | k71 | a72 | l72 | c72 | k72 | a73 | l73 | c73 | k73 | a74 | l74 | c74 | k74 | a75 | l75 | c75 | k75 | a76 | l76 | c76 | k76 | a77 | l77 | c77 | k77 | a78 | l78 | c78 | k78 | a79 | l79 | c79 | k79 | a80 | l80 | c80 | k80 | a81 | l81 | c81 | k81 | pg_End | hd_End | po_End | sa_End | mk_End | kc_End | pg_Pile | hd_Pile | po_Pile | sa_Pile | mk_Pile | kc_Pile | zA0 | zA1 | zA2 | zA3 | zA4 | zA5 | zA6 | zA7 | zA8 | zA9 | zA10 | zA11 | zA12 | zA13 | zA14 | zA15 | zA16 | zA17 | zA18 | zA19 | zA20 | zA21 | zA22 | zA23 | zA24 | zA25 | zg0 | zg1 | zg2 | zg3 | zg4 | zg5 | zg6 | zg7 | zg8 | zg9 | zg10 | zg11 | zg12 | zg13 | zg14 | zg15 | zg16 | zg17 | zg18 | zg19 | zg20 | zg21 | zg22 | zg23 | zg24 | zg25 | zg26 | zg27 | zg28 | zg29 | zg30 | zg31 | zg32 | zg33 | zg34 | zg35 | zg36 | zg37 | zg38 | zg39 | zg40 | zg41 | zg42 | zg43 | z_enumerate | z_len | z_list | z_max | z_min | z_range | z_sum | z_tuple=>k_is
#print axioms PySem.Challenge.cw_wirestream_k14_both_at_once_holds
