import PyProof.Rows.All
import KE.KDictLaws
import KE.KDictOf
import KE.KFromBytes
import KE.KIsAll
import KE.KItem
import Wide.Meth
import PySem.Challenge.RW_wirestream_k15_what_fits
set_option compiler.extract_closed false
set_option bootstrap.genMatcherCode false
set_option Elab.async false
set_option linter.all false
set_option maxRecDepth 100000
namespace L2
open PySem PySem.Spec PyProof.Rows
abbrev Key:=Sum Int Str
def Zio:Key→Value→Bool
  | .inl k,v=>Value.isInt k v
  | .inr x,v=>Value.isStrOf x v
def Zzd (w:World):Key→Int
  | .inl k=>hashInt k
  | .inr x=>hashStr w x
theorem Zau:∀{k:Key} {v:Value},Zio k v=true→(∃i t,k=Sum.inl i∧v=Value.int i t)∨(∃x t,k=Sum.inr x∧v=Value.str x t)
  | .inl i,v,h=>by
    obtain ⟨t,e⟩:=Value.isInt_shape (k:=i) (v:=v) h
    exact .inl ⟨i,t,rfl,e⟩
  | .inr x,v,h=>by
    obtain ⟨t,e⟩:=Value.isStrOf_shape (x:=x) (v:=v) h
    exact .inr ⟨x,t,rfl,e⟩
theorem Znu (i:Int) (t:Tok):Zio (.inl i) (.int i t)=true:=by simp [Zio,Value.isInt]
theorem Znt (x:Str) (t:Tok):Zio (.inr x) (.str x t)=true:=by simp [Zio,Value.isStrOf]
theorem Zua (a b:Int):decide ((Sum.inl a:Key)=Sum.inl b)=(a == b):=by
  by_cases e:a=b
  · subst e; simp
  · have h:¬(Sum.inl a:Key)=Sum.inl b:=fun q=>e (Sum.inl.inj q)
    rw [decide_eq_false h]
    exact (beq_eq_false_iff_ne.mpr e).symm
theorem Zt7 (a b:Str):decide ((Sum.inr a:Key)=Sum.inr b)=decide (a=b):=by
  by_cases e:a=b
  · subst e; simp
  · have h:¬(Sum.inr a:Key)=Sum.inr b:=fun q=>e (Sum.inr.inj q)
    rw [decide_eq_false h,decide_eq_false e]
theorem Zt9 (a:Int) (b:Str):decide ((Sum.inl a:Key)=Sum.inr b)=false:=decide_eq_false (fun q=>nomatch q)
theorem Zt8 (a:Str) (b:Int):decide ((Sum.inr a:Key)=Sum.inl b)=false:=decide_eq_false (fun q=>nomatch q)
def Zas (prog:Program) (w:World):PySem.KeyKind prog w Key where
  is:=Zio
  hash:=Zzd w
  inj:=fun v a b ha hb=>by
    rcases Zau ha with ⟨i,t,rfl,rfl⟩ | ⟨x,t,rfl,rfl⟩
    · rcases Zau hb with ⟨j,u,rfl,e⟩ | ⟨y,u,rfl,e⟩
      · injection e with e1 _; rw [e1]
      · exact nomatch e
    · rcases Zau hb with ⟨j,u,rfl,e⟩ | ⟨y,u,rfl,e⟩
      · exact nomatch e
      · injection e with e1 _; rw [e1]
  byValue:=fun k v h=>by
    rcases Zau h with ⟨i,t,rfl,rfl⟩ | ⟨x,t,rfl,rfl⟩<;>rfl
  pyHash:=fun hv h=>by
    rcases Zau hv with ⟨i,t,rfl,rfl⟩ | ⟨x,t,rfl,rfl⟩
    · exact wpAny_pyHash_int h
    · exact wpAny_pyHash_str h
  eqBool:=fun hu hv h=>by
    rcases Zau hu with ⟨i,t,rfl,rfl⟩ | ⟨x,t,rfl,rfl⟩
    · rcases Zau hv with ⟨j,u,rfl,rfl⟩ | ⟨y,u,rfl,rfl⟩
      · rw [Zua] at h; exact wpAny_eqBool_int h
      · rw [Zt9] at h; exact SeqAt.EqAt.int_str i t y u _ _ _ _ h
    · rcases Zau hv with ⟨j,u,rfl,rfl⟩ | ⟨y,u,rfl,rfl⟩
      · rw [Zt8] at h; exact SeqAt.EqAt.str_int x t j u _ _ _ _ h
      · rw [Zt7] at h; exact wpAny_eqBool_str h
  «strs»:=fun k x t v h=>by
    rcases Zau h with ⟨i,u,rfl,e⟩ | ⟨y,u,rfl,e⟩
    · exact nomatch e
    · injection e with e1 _
      subst e1
      cases v<;>rfl
theorem Zk4 (prog:Program) (w:World) (i:Int) (t:Tok):(Zas prog w).is (.inl i) (.int i t)=true:=Znu i t
theorem Zk3 (prog:Program) (w:World) (x:Str) (t:Tok):(Zas prog w).is (.inr x) (.str x t)=true:=Znt x t
end L2
namespace L2
open PySem PySem.Spec PyProof.Rows
inductive V where
  | non | bl (b:Bool) | int (i:Int) | str (x:Str) | byt (b:Array UInt8) | flt (b:UInt64) | ref (a:Addr) | ty (n:String)
  deriving DecidableEq
def RelV:V→Value→Prop
  | .non,u=>u=Value.none
  | .bl b,u=>u=Value.bool b
  | .int i,u=>∃t,u=Value.int i t
  | .str x,u=>∃t,u=Value.str x t
  | .byt b,u=>∃t,u=Value.bytes b t
  | .flt b,u=>∃t,u=Value.float b t
  | .ref a,u=>u=Value.ref a
  | .ty n,u=>u=Value.type n
abbrev Vals:List V→List Value→Prop:=Paired RelV
theorem Vals.length {xs:List V} {us:List Value} (r:Vals xs us):xs.length=us.length:=Paired.length r
theorem Vals.get:∀{xs:List V} {us:List Value} {i:Nat} {x:V},Vals xs us→xs[i]?=some x→∃u,us[i]?=some u∧RelV x u
  | _,_,_,_,.nil,e=>by simp at e
  | _,_,0,_,.cons r _,e=>by simp at e; subst e; exact ⟨_,rfl,r⟩
  | _,_,i+1,x,.cons _ t,e=>by
    obtain ⟨u,h1,h2⟩:=Vals.get (i:=i) (x:=x) t (by simpa using e)
    exact ⟨u,by simpa using h1,h2⟩
theorem Vals.append:∀{xs ys:List V} {us ws:List Value},Vals xs us→Vals ys ws→Vals (xs++ys) (us++ws)
  | _,_,_,_,.nil,s=>s
  | _,_,_,_,.cons r t,s=>.cons r (Vals.append t s)
theorem Vals.take:∀{xs:List V} {us:List Value} (n:Nat),Vals xs us→Vals (xs.take n) (us.take n)
  | _,_,0,_=>.nil
  | _,_,_+1,.nil=>.nil
  | _,_,n+1,.cons r t=>.cons r (Vals.take n t)
theorem Vals.drop:∀{xs:List V} {us:List Value} (n:Nat),Vals xs us→Vals (xs.drop n) (us.drop n)
  | _,_,0,r=>r
  | _,_,_+1,.nil=>.nil
  | _,_,n+1,.cons _ t=>Vals.drop n t
theorem Vals.none_of:∀{xs:List V} {us:List Value} {i:Nat},Vals xs us→xs[i]?=none→us[i]?=none:=fun {xs us i} r e=>by
  have h1:=r.length
  have h2:xs.length≤i:=List.getElem?_eq_none_iff.mp e
  exact List.getElem?_eq_none_iff.mpr (by omega)
def RelO:Option V→Option Value→Prop
  | some v,some u=>RelV v u
  | none,none=>True
  | _,_=>False
def KV {κ:Type}:List (κ×V)→List (κ×Value)→Prop:=Paired fun (p:κ×V) (q:κ×Value)=>p.1=q.1∧RelV p.2 q.2
def kV:Key→V
  | .inl i=>.int i
  | .inr x=>.str x
inductive HO where
  | lst (xs:List V)
  | tup (xs:List V)
  | dK (kvs:List (Key×V)) | dT (kvs:List (List Key×V))
  | set (S:Int→Bool) (n:Nat)
  | ins (C dx:Addr) (fs:List (Str×V))
  | own (x:Addr)
  | xd (fs:List (Str×V))
  | met (f x:Addr)
  | rng (lo hi:Int)
  | frz (o:Obj) (u:HO)
  | tbl (ps:Array Value)
  | ext (φ:Heap→Prop)
abbrev Hp:=Addr→Option HO
def upd (H:Hp) (a:Addr) (o:HO):Hp:=fun b=>if b=a then some o else H b
theorem zy {H:Hp} {a:Addr} {o:HO}:upd H a o a=some o:=by unfold upd; rw [if_pos rfl]
theorem ZS {H:Hp} {a b:Addr} {o:HO} (h:b≠a):upd H a o b=H b:=by unfold upd; rw [if_neg h]
theorem ZvP {H:Hp} {a b:Addr} {o u:HO} (h:H a=some o) (h':H b=some u) (d:o≠u):a≠b:=by
  intro e; subst e; rw [h] at h'; exact d (Option.some.inj h')
theorem zi {H:Hp} {a b:Addr} {o:HO} (h:H a=some o) (h':H b=none):a≠b:=by
  intro e; subst e; rw [h] at h'; cases h'
section
variable (P:Program) (w:World)
def ObjOk (H:Hp) (h:Heap) (a:Addr):HO→Prop
  | .lst xs=>xs.length≤sizeLine∧∃(its:List Value) (n:Nat),Vals xs its∧h.get? a=some { cls:=.type "list",data:=.seq its.toArray n }
  | .tup xs=>xs.length≤sizeLine∧∃its:List Value,Vals xs its∧IsTup h a its.toArray
  | .dK kvs=>kvs.length≤sizeLine∧(a == sysModules)=false∧∃vs,KV kvs vs∧h.DictOf (Zas P w) a vs
  | .dT kvs=>kvs.length≤sizeLine∧(a == sysModules)=false∧∃xs:List (List Key×Addr×Value),
      Paired (fun (p:List Key×V) (q:List Key×Addr×Value)=>p.1=q.1∧H q.2.1=some (.tup (p.1.map kV))∧RelV p.2 q.2.2) kvs xs∧
      ∃o es ep,h.get? a=some o∧o.ExactDict∧o.data=.dict es ep∧es.toList=xs.map (entryOfKey (tupleKind (Zas P w)))∧(xs.map (·.1)).Nodup
  | .set S n=>h.SetOf (intKind P w) a S n
  | .ins C dx fs=>H dx=some (.own a)∧fs.length≤1000∧dx≠a∧h.get? a=some (PySem.W.instObj C dx)∧
      ∃mA,h.Ns1 dx mA∧(∀f,RelO (fs.lookup f) (mA f))∧PySem.Within mA (fs.map (·.1))
  | .own _=>∃o,h.get? a=some o
  | .xd fs=>∃mA,h.Ns1 a mA∧∀f,RelO (fs.lookup f) (mA f)
  | .rng lo hi=>∃t u v,h.get? a=some { cls:=.type "range",data:=.fields #[.int lo t,.int hi u,.int 1 v] }
  | .frz o u=>h.get? a=some o∧ObjOk H h a u
  | .tbl ps=>h.get? a=some { cls:=.none,data:=.fields ps }
  | .met f x=>h.get? a=some (PySem.W.methodObj (.ref f) (.ref x))
  | .ext φ=>φ h∧(∃o,h.get? a=some o)∧∀h1 h2:Heap,φ h1→(∀o,h1.get? a=some o→h2.get? a=some o)→φ h2
def HOk (H:Hp) (h:Heap):Prop:=∀a o,H a=some o→ObjOk P w H h a o
end
section
variable {P:Program} {w:World} {H H':Hp} {h h':Heap} {a:Addr} {o:HO}
theorem ObjOk.lt (x:ObjOk P w H h a o):a<h.objs.size:=by
  cases o with
  | lst xs=>obtain ⟨_,_,_,_,e⟩:=x; exact Heap.lt_size e
  | tup xs=>obtain ⟨_,_,_,p⟩:=x; exact p.lt
  | dK kvs=>obtain ⟨_,_,_,_,o,_,_,e,_⟩:=x; exact Heap.lt_size e
  | dT kvs=>obtain ⟨_,_,_,_,o,_,_,e,_⟩:=x; exact Heap.lt_size e
  | set S n=>obtain ⟨o,_,_,_,e,_⟩:=x; exact Heap.lt_size e
  | ins C dx fs=>obtain ⟨_,_,_,e,_⟩:=x; exact Heap.lt_size e
  | own y=>obtain ⟨_,e⟩:=x; exact Heap.lt_size e
  | xd fs=>obtain ⟨_,⟨_,_,_,e,_⟩,_⟩:=x; exact Heap.lt_size e
  | rng lo hi=>obtain ⟨_,_,_,e⟩:=x; exact Heap.lt_size e
  | frz ob u=>obtain ⟨e,_⟩:=x; exact Heap.lt_size e
  | tbl ps=>exact Heap.lt_size (show h.get? a=some _ from x)
  | met f y=>exact Heap.lt_size (show h.get? a=some _ from x)
  | ext φ=>obtain ⟨_,⟨_,e⟩,_⟩:=x; exact Heap.lt_size e
theorem Paired.mapP {α β:Type} {F G:α→β→Prop}:∀{l₁:List α} {l₂:List β},Paired F l₁ l₂→(∀a b,F a b→G a b)→Paired G l₁ l₂
  | _,_,.nil,_=>.nil
  | _,_,.cons r t,f=>.cons (f _ _ r) (Paired.mapP t f)
theorem ObjOk.stay (x:ObjOk P w H h a o) (k:∀b u,(b=a∨H b=some (.own a))→h.get? b=some u→h'.get? b=some u)
    (ho:∀b,H b=some (.own a)→H' b=some (.own a)) (ht:∀b xs,H b=some (.tup xs)→H' b=some (.tup xs)):ObjOk P w H' h' a o:=by
  induction o with
  | lst xs=>obtain ⟨z,its,n,r,e⟩:=x; exact ⟨z,its,n,r,k _ _ (.inl rfl) e⟩
  | tup xs=>obtain ⟨z,its,r,ob,e,c⟩:=x; exact ⟨z,its,r,ob,k _ _ (.inl rfl) e,c⟩
  | dK kvs=>obtain ⟨z,y,vs,r,ob,es,ep,e,c⟩:=x; exact ⟨z,y,vs,r,ob,es,ep,k _ _ (.inl rfl) e,c⟩
  | dT kvs=>
    obtain ⟨z,y,xs,r,ob,es,ep,e,c⟩:=x
    exact ⟨z,y,xs,Paired.mapP r fun p q z=>⟨z.1,ht _ _ z.2.1,z.2.2⟩,ob,es,ep,k _ _ (.inl rfl) e,c⟩
  | set S n=>obtain ⟨ob,es,ep,t,e,c⟩:=x; exact ⟨ob,es,ep,t,k _ _ (.inl rfl) e,c⟩
  | ins C dx fs=>
    obtain ⟨d,z,ne,e,mA,⟨od,es,ep,e2,c⟩,r⟩:=x
    exact ⟨ho _ d,z,ne,k _ _ (.inl rfl) e,mA,⟨od,es,ep,k _ _ (.inr d) e2,c⟩,r⟩
  | own y=>obtain ⟨ob,e⟩:=x; exact ⟨ob,k _ _ (.inl rfl) e⟩
  | xd fs=>obtain ⟨mA,⟨od,es,ep,e,c⟩,r⟩:=x; exact ⟨mA,⟨od,es,ep,k _ _ (.inl rfl) e,c⟩,r⟩
  | rng lo hi=>obtain ⟨t,u,v,e⟩:=x; exact ⟨t,u,v,k _ _ (.inl rfl) e⟩
  | frz ob u ih=>obtain ⟨e,q⟩:=x; exact ⟨k _ _ (.inl rfl) e,ih q⟩
  | tbl ps=>
    have e:h.get? a=some { cls:=.none,data:=.fields ps }:=x
    show h'.get? a=some { cls:=.none,data:=.fields ps }
    exact k a _ (.inl rfl) e
  | met f y=>
    have e:h.get? a=some (PySem.W.methodObj (.ref f) (.ref y)):=x
    show h'.get? a=some (PySem.W.methodObj (.ref f) (.ref y))
    exact k a _ (.inl rfl) e
  | ext φ=>obtain ⟨p,⟨o,e⟩,st⟩:=x; exact ⟨st _ _ p fun o q=>k _ _ (.inl rfl) q,⟨o,k _ _ (.inl rfl) e⟩,st⟩
theorem HOk.lt (x:HOk P w H h) (e:H a=some o):a<h.objs.size:=(x a o e).lt
theorem HOk.fresh (x:HOk P w H h) (e:h.objs.size≤a):H a=none:=by
  cases q:H a with
  | none=>rfl
  | some u=>exact absurd (Nat.lt_of_lt_of_le (x.lt q) e) (Nat.lt_irrefl _)
theorem HOk.kept (x:HOk P w H h) (k:∀b u,h.get? b=some u→h'.get? b=some u):HOk P w H h':=fun a o e=>
  (x a o e).stay (fun b u _ q=>k b u q) (fun _ q=>q) fun _ _ q=>q
theorem HOk.laid (x:HOk P w H h) (k:∀b u,h.get? b=some u→h'.get? b=some u) (hp:h.objs.size≤a) (new:ObjOk P w (upd H a o) h' a o):HOk P w (upd H a o) h':=fun b u e=>by
  have hn:=x.fresh hp
  by_cases hb:b=a
  · subst hb; rw [zy] at e; cases e; exact new
  · rw [ZS hb] at e
    exact (x b u e).stay (fun c v _ q=>k c v q) (fun c q=>by rw [ZS (zi q hn)]; exact q) fun c xs q=>by rw [ZS (zi q hn)]; exact q
end
def Rd (H:Hp) (a:Addr) (u:HO):Prop:=H a=some u∨∃o,H a=some (.frz o u)
theorem Rd.ok {P:Program} {w:World} {H:Hp} {h:Heap} {a:Addr} {u:HO} (r:Rd H a u) (x:HOk P w H h):ObjOk P w H h a u:=by
  rcases r with r | ⟨o,r⟩
  · exact x a u r
  · obtain ⟨_,q⟩:=x a _ r
    exact q
def Mut:Option HO→Prop
  | some (.lst _)=>True
  | some (.dK _)=>True
  | some (.dT _)=>True
  | some (.set _ _)=>True
  | some (.ins _ _ _)=>True
  | some (.ext _)=>True
  | _=>False
section
variable {P:Program} {w:World} {H:Hp} {h h':Heap} {x e:Addr} {o':HO}
theorem HOk.write (ok:HOk P w H h) (mu:Mut (H x)) (he:e=x∨H e=some (.own x)) (k:∀b u,b≠e→h.get? b=some u→h'.get? b=some u) (heo:∃u,h'.get? e=some u)
    (new:ObjOk P w (upd H x o') h' x o'):HOk P w (upd H x o') h':=fun b u q=>by
  have nown:∀c y,H c=some (.own y)→c≠x:=fun c y r z=>by subst z; rw [r] at mu; exact mu
  have ntup:∀c xs,H c=some (.tup xs)→c≠x:=fun c xs r z=>by subst z; rw [r] at mu; exact mu
  by_cases hb:b=x
  · subst hb; rw [zy] at q; cases q; exact new
  · rw [ZS hb] at q
    by_cases hbe:b=e
    · have q':H b=some (.own x):=by
        rcases he with z | z
        · exact absurd (hbe.trans z) hb
        · rw [hbe]; exact z
      rw [q] at q'; cases q'
      obtain ⟨v,hv⟩:=heo
      exact ⟨v,by rw [hbe]; exact hv⟩
    · refine (ok b u q).stay (fun c v hc r=>k c v ?_ r) (fun c r=>by rw [ZS (nown c b r)]; exact r) fun c xs r=>by rw [ZS (ntup c xs r)]; exact r
      rcases hc with rfl | hc
      · exact hbe
      · rintro rfl
        rcases he with z | z
        · exact nown c b hc z
        · rw [hc] at z; cases z; exact hb rfl
end
structure Un (fs ex:List Addr) (H H':Hp) (h h':Heap):Prop where
  keep:∀b o,h.get? b=some o→H b=none→b∉fs→b∉ex→h'.get? b=some o
  slot:∀b o,h.get? b=some o→H b=none→b∈fs→b∉ex→∃sl,h'.get? b=some { o with slots:=sl }
  free:∀b o,h.get? b=some o→H b=none→b∉ex→H' b=none
  there:∀b o,h.get? b=some o→b∉ex→∃o',h'.get? b=some o'
  tups:∀b xs,H b=some (.tup xs)→H' b=some (.tup xs)
  frzs:∀b o u,H b=some (.frz o u)→H' b=some (.frz o u)
  tbls:∀b ps,H b=some (.tbl ps)→∃more,H' b=some (.tbl (ps++more))
section
variable {fs fs' ex ex':List Addr} {H H1 H2:Hp} {h h1 h2 h':Heap} {a x e:Addr} {o:HO}
theorem Un.any (u:Un fs ex H H1 h h1) {b:Addr} {ob:Obj} (q:h.get? b=some ob) (n:H b=none) (hx:b∉ex):∃sl,h1.get? b=some { ob with slots:=sl }:=by
  by_cases hb:b∈fs
  · exact u.slot b ob q n hb hx
  · exact ⟨ob.slots,u.keep b ob q n hb hx⟩
theorem Un.kept (k:∀b u,h.get? b=some u→h'.get? b=some u):Un fs ex H H h h':=
  ⟨fun b ob q _ _ _=>k b ob q,fun b ob q _ _ _=>⟨ob.slots,k b ob q⟩,fun _ _ _ n _=>n,fun b ob q _=>⟨ob,k b ob q⟩,fun _ _ q=>q,fun _ _ _ q=>q,fun _ ps q=>⟨#[],by rw [q]; simp⟩⟩
theorem Un.refl:Un fs ex H H h h:=Un.kept fun _ _ q=>q
theorem Un.laid (k:∀b u,h.get? b=some u→h'.get? b=some u) (hp:h.objs.size≤a) (hn:H a=none):Un fs ex H (upd H a o) h h' where
  keep:=fun b u q _ _ _=>k b u q
  slot:=fun b u q _ _ _=>⟨u.slots,k b u q⟩
  free:=fun b u q n _=>by rw [ZS (Nat.ne_of_lt (Nat.lt_of_lt_of_le (Heap.lt_size q) hp))]; exact n
  there:=fun b u q _=>⟨u,k b u q⟩
  tups:=fun b xs q=>by rw [ZS (zi q hn)]; exact q
  frzs:=fun b u xs q=>by rw [ZS (zi q hn)]; exact q
  tbls:=fun b ps q=>⟨#[],by rw [ZS (zi q hn),q]; simp⟩
theorem Un.write (mu:Mut (H x)) (he:e=x∨H e=some (.own x)) (k:∀b u,b≠e→h.get? b=some u→h'.get? b=some u) (heo:∃u,h'.get? e=some u):Un fs ex H (upd H x o) h h':=by
  have hx:∀b,H b=none→b≠x:=fun b n z=>by subst z; rw [n] at mu; exact mu
  have hb:∀b,H b=none→b≠e:=fun b n z=>by
    subst z
    rcases he with r | r
    · exact hx b n r
    · rw [n] at r; cases r
  have hm:∀b u,H b=some u→¬Mut (some u)→b≠x:=fun b u q nm z=>by subst z; rw [q] at mu; exact nm mu
  refine ⟨fun b u q n _ _=>k b u (hb b n) q,fun b u q n _ _=>⟨u.slots,k b u (hb b n) q⟩,fun b u q n _=>by rw [ZS (hx b n)]; exact n,fun b u q _=>?_,
    fun b xs q=>by rw [ZS (hm b _ q fun z=>z)]; exact q,fun b u xs q=>by rw [ZS (hm b _ q fun z=>z)]; exact q,fun b ps q=>⟨#[],by rw [ZS (hm b _ q fun z=>z),q]; simp⟩⟩
  by_cases hbe:b=e
  · subst hbe; exact heo
  · exact ⟨u,k b u hbe q⟩
end
def trk (h:Heap) (H:Hp):List Addr:=(List.range h.objs.size).filter fun a=>(H a).isSome
def Zi5 (h:Heap) (H:Hp):Heap:=PySem.W.hideAll h (trk h H)
theorem Zny (h:Heap) (H:Hp):(Zi5 h H).objs.size=h.objs.size:=PySem.W.hideAll_size _ _
theorem Zqp {h:Heap} {H:Hp} {b:Addr} {o:Obj} (e:h.get? b=some o) (n:H b=none):(Zi5 h H).get? b=some o:=
  PySem.W.hideAll_get _ e fun hm=>by
    have q:(H b).isSome=true:=(List.mem_filter.mp hm).2
    rw [n] at q; simp at q
theorem ZrP {h:Heap} {H:Hp} {b:Addr} {o:Obj} (e:(Zi5 h H).get? b=some o):h.get? b=some o∧H b=none:=by
  have e':h.get? b=some o:=PySem.W.of_hideAll (trk h H) e
  refine ⟨e',?_⟩
  cases q:H b with
  | none=>rfl
  | some x=>
    have hm:b∈trk h H:=List.mem_filter.mpr ⟨List.mem_range.mpr (Heap.lt_size e'),by simp [q]⟩
    have z:(Zi5 h H).get? b=none:=PySem.W.hideAll_none (trk h H) hm
    rw [z] at e; cases e
def Zsl (g h:Heap) (L:Addr):List (Addr×Obj):=(List.range h.objs.size).filterMap fun a=>if a=L∨(g.get? a).isSome=true then none else (h.get? a).map fun o=>(a,o)
def rest (g h:Heap) (L d:Addr):List (Addr×Obj):=(Zsl g h L).filter fun p=>decide (p.1≠d)
end L2
namespace L2
open PySem PySem.Spec PyProof.Rows
structure Mod (K:PySem.W.Frag) (mg:Str→Option Value) (base:Heap):Prop where
  kin:K.In base
  glob:base.Ns mainGlobals mg
  blt:∃mb,base.Ns builtinsNs mb∧∀x:Str,x≠"__name__"→mb x=bootBuiltins x
  nolimit:base.NoLimit
structure Cx where
  prog:Program
  w:World
  K:PySem.W.Frag
  mg:Str→Option Value
  base:Heap
  A:Around
  N:List Str
  s₀:Shared
  H₀:Hp
  env:Env
  outer:List Env
  stack:List Env
  ex:List Addr
  fn:Str→Bool
  calm:Bool
  pn:List (Addr×Obj)
  xe:Value→Shared→Prop
def frs (l:List Env):List Addr:=l.filterMap (·.frame)
abbrev Cx.fs (X:Cx):List Addr:=frs X.outer
def Vis (sc:Scope) (x:Str):Prop:=sc.names.lookup x=some .local∨sc.names.lookup x=some .cell∨sc.names.lookup x=some .free
def Loc (sc:Scope) (x:Str):Prop:=sc.names.lookup x=some .local∨sc.names.lookup x=some .cell
def ZzC (env:Env) (h:Heap) (m:Str→Option Value) (x:Str) (u:Value):Prop:=
  (env.kindOf x=some .local∧m x=some u)∨((env.kindOf x=some .cell∨env.kindOf x=some .free)∧∃c,env.cells.lookup x=some c∧h.IsCell c (some u))
structure Cx.Ok (X:Cx):Prop where
  mod:Mod X.K X.mg X.base
  kind:X.env.scope.kind=.function
  glob:X.env.globals=mainGlobals
  blt:X.env.builtins=builtinsNs
  above:X.s₀.heap.objs.size≤X.env.locals
  inj:∀x y c,X.env.cells.lookup x=some c→X.env.cells.lookup y=some c→x=y
  has:∀x,(X.env.kindOf x=some .cell∨X.env.kindOf x=some .free)→∃c,X.env.cells.lookup x=some c
  cab:∀x c,X.fn x=true→X.env.cells.lookup x=some c→X.s₀.heap.objs.size≤c
  hd:X.calm=true→X.A.handled=none
  frames:X.A.frames=some X.stack
  stk:X.stack=X.outer∨(X.stack=X.env::X.outer∧X.env.frame=some X.env.locals)
  exf:∀b∈X.ex,b≠X.env.locals∧∀x c,X.env.cells.lookup x=some c→c≠b
  bs:∀b o,X.base.get? b=some o→X.s₀.heap.get? b=some o∧X.H₀ b=none
  bsz:X.base.objs.size≤X.s₀.heap.objs.size
  noex:∀b o,X.base.get? b=some o→b∉X.ex
  exfs:∀b∈X.ex,b∉X.fs
  funs:X.s₀.heap.FunFrames X.base X.outer
  frf:∀b∈X.fs,X.H₀ b=none
structure Inv (X:Cx) (pins:List (Addr×Obj)) (σ:List (Option V)) (H:Hp) (s:Shared):Prop where
  ok:X.Ok
  os:s.os=X.s₀.os
  bare:AllBare s.gens
  base:Un X.fs X.ex X.H₀ H X.s₀.heap s.heap
  loc:∃m,s.heap.Ns X.env.locals m∧∀(i:Nat) (x:Str) (v:V),X.N[i]?=some x→σ[i]?=some (some v)→Vis X.env.scope x→∃u,RelV v u∧ZzC X.env s.heap m x u
  cell:∀x c,X.env.cells.lookup x=some c→∃v,s.heap.IsCell c v
  free:H X.env.locals=none
  freeC:∀x c,X.env.cells.lookup x=some c→H c=none
  pin:∀p∈X.pn++pins,s.heap.get? p.1=some p.2∧H p.1=none∧p.1≠X.env.locals∧p.1∉X.fs∧∀v,p.2.data≠.cell v
  hok:HOk X.prog X.w H s.heap
  len:σ.length=X.N.length
section
variable {X:Cx} {pins:List (Addr×Obj)} {σ:List (Option V)} {H H':Hp} {s:Shared} {h':Heap}
theorem Cx.Ok.nofr (ok:X.Ok) {b:Addr} {o:Obj} (e:X.base.get? b=some o):b∉X.fs:=fun hb=>by
  have:=(ok.funs.mem hb).1
  rw [e] at this; cases this
theorem Inv.bs (I:Inv X pins σ H s):∀b o,X.base.get? b=some o→s.heap.get? b=some o∧H b=none:=fun b o e=>
  ⟨I.base.keep b o (I.ok.bs b o e).1 (I.ok.bs b o e).2 (I.ok.nofr e) (I.ok.noex b o e),I.base.free b o (I.ok.bs b o e).1 (I.ok.bs b o e).2 (I.ok.noex b o e)⟩
theorem Inv.bk (I:Inv X pins σ H s):∀b o,X.base.get? b=some o→s.heap.get? b=some o:=fun b o e=>(I.bs b o e).1
theorem Inv.mod (I:Inv X pins σ H s):Mod X.K X.mg X.base:=I.ok.mod
theorem Inv.kIn (I:Inv X pins σ H s):X.K.In s.heap:=I.ok.mod.kin.keeps I.bk
theorem Inv.lt (I:Inv X pins σ H s):X.env.locals<s.heap.objs.size:=let ⟨_,hn,_⟩:=I.loc; hn.lt
theorem Inv.sz (I:Inv X pins σ H s):X.s₀.heap.objs.size≤s.heap.objs.size:=Nat.le_trans I.ok.above (Nat.le_of_lt I.lt)
theorem Inv.nofs (I:Inv X pins σ H s) {a:Addr} (h:s.heap.objs.size≤a):a∉X.fs:=fun hb=>by
  obtain ⟨_,o,ho,_⟩:=I.ok.funs.mem hb
  exact absurd (Nat.lt_of_lt_of_le (Heap.lt_size ho) (Nat.le_trans I.sz h)) (Nat.lt_irrefl _)
theorem Inv.cne (I:Inv X pins σ H s):∀x c,X.env.cells.lookup x=some c→c≠X.env.locals:=fun x c e z=>by
  obtain ⟨v,o,ho,hd⟩:=I.cell x c e
  obtain ⟨m,⟨o',es,ep,ho',hd',_⟩,_⟩:=I.loc
  rw [z,ho'] at ho; cases ho; rw [hd'] at hd; cases hd
theorem Inv.funs (I:Inv X pins σ H s):s.heap.FunFrames X.base X.outer:=by
  have all:∀(l:List Env),(∀b∈frs l,b∈X.fs)→X.s₀.heap.FunFrames X.base l→s.heap.FunFrames X.base l:=by
    intro l
    induction l with
    | nil=>intro _ _; trivial
    | cons env r ih=>
      intro hs hl
      obtain ⟨hk,⟨L,o,hf,hn,ho,hd⟩,hr⟩:=hl
      have hL:L∈X.fs:=hs L (by unfold frs; rw [List.filterMap_cons,hf]; exact List.mem_cons_self)
      obtain ⟨sl,e⟩:=I.base.slot L o ho (I.ok.frf L hL) hL fun z=>I.ok.exfs L z hL
      exact ⟨hk,⟨L,_,hf,hn,e,hd⟩,ih (fun b hb=>hs b (by unfold frs; rw [List.filterMap_cons,hf]; exact List.mem_cons_of_mem _ hb)) hr⟩
  exact all X.outer (fun _ hb=>hb) I.ok.funs
theorem Inv.stack (I:Inv X pins σ H s):s.heap.FunFrames X.base X.stack:=by
  rcases I.ok.stk with e | ⟨e,hf⟩
  · rw [e]; exact I.funs
  · rw [e]
    obtain ⟨m,hn,_⟩:=I.loc
    refine .cons (by rw [I.ok.kind]; decide) hf hn ?_ I.funs
    exact Heap.get?_none_of_le (Nat.le_trans I.ok.bsz I.ok.above)
theorem Inv.stkSub (I:Inv X pins σ H s):∀b∈frs X.stack,b∈X.env.locals::X.fs:=fun b hb=>by
  rcases I.ok.stk with e | ⟨e,hf⟩
  · rw [e] at hb; exact List.mem_cons_of_mem _ hb
  · rw [e] at hb
    unfold frs at hb
    rw [List.filterMap_cons,hf] at hb
    exact hb
theorem Inv.stkFree (I:Inv X pins σ H s):∀b∈frs X.stack,H b=none:=fun b hb=>by
  rcases List.mem_cons.mp (I.stkSub b hb) with e | hb
  · rw [e]; exact I.free
  · obtain ⟨_,o,ho,_⟩:=I.ok.funs.mem hb
    exact I.base.free b o ho (I.ok.frf b hb) fun z=>I.ok.exfs b z hb
theorem Inv.step {g':Array GenState} {t':Nat} {d':Drawn} {ch:List Addr} (I:Inv X pins σ H s)
    (hch:∀b∈ch,(b∈X.ex∨X.s₀.heap.objs.size≤b)∧b≠X.env.locals∧(∀x c,X.env.cells.lookup x=some c→c≠b)∧∀p∈X.pn++pins,p.1≠b)
    (keep:∀b o,b≠X.env.locals→b∉X.fs→b∉ch→s.heap.get? b=some o→H b=none→h'.get? b=some o)
    (slot:∀b o,b≠X.env.locals→b∈X.fs→b∉ch→s.heap.get? b=some o→H b=none→∃sl,h'.get? b=some { o with slots:=sl }) (free:∀b o,b∉ch→s.heap.get? b=some o→H b=none→H' b=none)
    (there:∀b o,b∉ch→s.heap.get? b=some o→∃o',h'.get? b=some o')
    (tups:∀b xs,H b=some (.tup xs)→H' b=some (.tup xs)) (frzs:∀b o u,H b=some (.frz o u)→H' b=some (.frz o u)) (tbls:∀b ps,H b=some (.tbl ps)→∃more,H' b=some (.tbl (ps++more)))
    (ns:∀m,s.heap.Ns X.env.locals m→h'.Ns X.env.locals m) (hok:HOk X.prog X.w H' h') (hg:AllBare g') :
    Inv X pins σ H' { s with heap:=h',gens:=g',drawn:=d',toks:=t' }:=by
  have neL:∀b o,X.s₀.heap.get? b=some o→b≠X.env.locals:=fun b o e=>Nat.ne_of_lt (Nat.lt_of_lt_of_le (Heap.lt_size e) I.ok.above)
  have neC:∀b o,X.s₀.heap.get? b=some o→b∉X.ex→b∉ch:=fun b o e hx hb=>by
    rcases (hch b hb).1 with z | z
    · exact hx z
    · exact absurd (Nat.lt_of_lt_of_le (Heap.lt_size e) z) (Nat.lt_irrefl _)
  have cellK:∀x c,X.env.cells.lookup x=some c→∀v,s.heap.IsCell c v→h'.IsCell c v:=fun x c e v ⟨o,ho,hd⟩=>by
    have nch:c∉ch:=fun z=>(hch c z).2.2.1 x c e rfl
    by_cases hc:c∈X.fs
    · obtain ⟨sl,q⟩:=slot c o (I.cne x c e) hc nch ho (I.freeC x c e)
      exact ⟨_,q,hd⟩
    · exact ⟨o,keep c o (I.cne x c e) hc nch ho (I.freeC x c e),hd⟩
  refine ⟨I.ok,I.os,hg,⟨fun b o e n hb hx=>?_,fun b o e n hb hx=>?_,fun b o e n hx=>?_,fun b o e hx=>?_,fun b xs e=>tups b xs (I.base.tups b xs e),fun b o xs e=>frzs b o xs (I.base.frzs b o xs e),fun b ps e=>?_⟩,?_,fun x c e=>?_,?_,fun x c e=>?_,fun p hp=>?_,hok,I.len⟩
  · exact keep b o (neL b o e) hb (neC b o e hx) (I.base.keep b o e n hb hx) (I.base.free b o e n hx)
  · obtain ⟨sl,e1⟩:=I.base.slot b o e n hb hx
    obtain ⟨sl',e2⟩:=slot b _ (neL b o e) hb (neC b o e hx) e1 (I.base.free b o e n hx)
    exact ⟨sl',e2⟩
  · obtain ⟨o',e1⟩:=I.base.there b o e hx
    exact free b o' (neC b o e hx) e1 (I.base.free b o e n hx)
  · obtain ⟨o',e1⟩:=I.base.there b o e hx
    exact there b o' (neC b o e hx) e1
  · obtain ⟨m1,e1⟩:=I.base.tbls b ps e
    obtain ⟨m2,e2⟩:=tbls b _ e1
    exact ⟨m1++m2,by rw [e2,Array.append_assoc]⟩
  · obtain ⟨m,hn,hl⟩:=I.loc
    refine ⟨m,ns m hn,fun i x v e1 e2 e3=>?_⟩
    obtain ⟨u,r,l⟩:=hl i x v e1 e2 e3
    refine ⟨u,r,?_⟩
    rcases l with l | ⟨k,c,e,z⟩
    · exact .inl l
    · exact .inr ⟨k,c,e,cellK x c e _ z⟩
  · obtain ⟨v,z⟩:=I.cell x c e
    exact ⟨v,cellK x c e v z⟩
  · obtain ⟨m,⟨o,_,_,ho,_⟩,_⟩:=I.loc
    exact free _ o (fun z=>(hch _ z).2.1 rfl) ho I.free
  · obtain ⟨v,o,ho,hd⟩:=I.cell x c e
    exact free c o (fun z=>(hch c z).2.2.1 x c e rfl) ho (I.freeC x c e)
  · obtain ⟨e,n,ne,nf,d⟩:=I.pin p hp
    have nch:p.1∉ch:=fun z=>(hch p.1 z).2.2.2 p hp rfl
    exact ⟨keep p.1 p.2 ne nf nch e n,free p.1 p.2 nch e n,ne,nf,d⟩
theorem Inv.un {t':Nat} (I:Inv X pins σ H s) (u:Un X.fs [] H H' s.heap h') (hok:HOk X.prog X.w H' h'):Inv X pins σ H' { s with heap:=h',toks:=t' }:=by
  obtain ⟨m,⟨o,es,ep,ho,r⟩,_⟩:=id I.loc
  obtain ⟨sl,hL⟩:=u.any ho I.free (by simp)
  exact I.step (g':=s.gens) (d':=s.drawn) (ch:=[]) (fun _ z=>nomatch z) (fun b o _ hb _ e n=>u.keep b o e n hb (by simp)) (fun b o _ hb _ e n=>u.slot b o e n hb (by simp)) (fun b o _ e n=>u.free b o e n (by simp)) (fun b o _ e=>u.there b o e (by simp)) u.tups u.frzs u.tbls (fun m' hm=>by
    obtain ⟨o',es',ep',ho',r'⟩:=hm
    rw [ho] at ho'; cases ho'
    exact ⟨_,es',ep',hL,r'⟩) hok I.bare
theorem Inv.call {g':Array GenState} {t':Nat} {d':Drawn} {ch:List Addr} (I:Inv X pins σ H s) (u:Un (frs X.stack) ch H H' s.heap h') (hok:HOk X.prog X.w H' h') (hg:AllBare g')
    (hch:∀b∈ch,(b∈X.ex∨X.s₀.heap.objs.size≤b)∧b≠X.env.locals∧(∀x c,X.env.cells.lookup x=some c→c≠b)∧∀p∈X.pn++pins,p.1≠b) :
    Inv X pins σ H' { s with heap:=h',gens:=g',drawn:=d',toks:=t' }:=by
  obtain ⟨m,⟨o,es,ep,ho,r⟩,_⟩:=id I.loc
  obtain ⟨sl,hL⟩:=u.any ho I.free fun z=>(hch _ z).2.1 rfl
  exact I.step (ch:=ch) hch (fun b o hL hb hc e n=>u.keep b o e n (fun z=>(List.mem_cons.mp (I.stkSub b z)).elim hL hb) hc) (fun b o _ _ hc e n=>u.any e n hc) (fun b o hc e n=>u.free b o e n hc) (fun b o hc e=>u.there b o e hc) u.tups u.frzs u.tbls (fun m' hm=>by
    obtain ⟨o',es',ep',ho',r'⟩:=hm
    rw [ho] at ho'; cases ho'
    exact ⟨_,es',ep',hL,r'⟩) hok hg
theorem Inv.turned {t':Nat} {it:Addr} (I:Inv X pins σ H s) (k:∀b o,b≠it→s.heap.get? b=some o→h'.get? b=some o) (hn:H it=none) (hL:it≠X.env.locals)
    (h1:it∈X.ex∨X.s₀.heap.objs.size≤it) (h2:∀x c,X.env.cells.lookup x=some c→c≠it) (h3:∀p∈X.pn++pins,p.1≠it):Inv X pins σ H { s with heap:=h',toks:=t' }:=by
  have nit:∀b u,H b=some u→b≠it:=fun b u e z=>by rw [z,hn] at e; cases e
  refine I.step (g':=s.gens) (d':=s.drawn) (ch:=[it]) (fun b hb=>?_) (fun b o _ _ hc e _=>k b o (fun z=>hc (by simp [z])) e) (fun b o _ _ hc e _=>⟨o.slots,k b o (fun z=>hc (by simp [z])) e⟩) (fun _ _ _ _ n=>n)
    (fun b o hc e=>⟨o,k b o (fun z=>hc (by simp [z])) e⟩) (fun _ _ e=>e) (fun _ _ _ e=>e) (fun b ps e=>⟨#[],by rw [e]; simp⟩) (fun m hm=>?_) (fun b u e=>?_) I.bare
  · have e:b=it:=by simpa using hb
    subst e
    exact ⟨h1,hL,h2,h3⟩
  · obtain ⟨o,es,ep,ho,r⟩:=hm
    exact ⟨o,es,ep,k _ o (Ne.symm hL) ho,r⟩
  · refine (I.hok b u e).stay (fun c v hc q=>k c v ?_ q) (fun _ q=>q) fun _ _ q=>q
    rcases hc with z | z
    · rw [z]; exact nit b u e
    · exact nit c _ z
theorem Inv.tok (I:Inv X pins σ H s) (t:Nat):Inv X pins σ H { s with toks:=t }:=I.un (h':=s.heap) (t':=t) Un.refl I.hok
theorem Inv.kept {t':Nat} (I:Inv X pins σ H s) (k:∀b u,s.heap.get? b=some u→h'.get? b=some u):Inv X pins σ H { s with heap:=h',toks:=t' }:=I.un (Un.kept k) (I.hok.kept k)
theorem Inv.laid {a:Addr} {o:HO} {t':Nat} (I:Inv X pins σ H s) (k:∀b u,s.heap.get? b=some u→h'.get? b=some u) (hp:s.heap.objs.size≤a) (new:ObjOk X.prog X.w (upd H a o) h' a o) :
    Inv X pins σ (upd H a o) { s with heap:=h',toks:=t' }:=I.un (Un.laid k hp (I.hok.fresh hp)) (I.hok.laid k hp new)
theorem Inv.write {x e:Addr} {o:HO} {t':Nat} (I:Inv X pins σ H s) (mu:Mut (H x)) (he:e=x∨H e=some (.own x)) (k:∀b u,b≠e→s.heap.get? b=some u→h'.get? b=some u) (heo:∃u,h'.get? e=some u)
    (new:ObjOk X.prog X.w (upd H x o) h' x o):Inv X pins σ (upd H x o) { s with heap:=h',toks:=t' }:=I.un (Un.write mu he k heo) (I.hok.write mu he k heo new)
theorem Inv.pins_of {pins':List (Addr×Obj)} (I:Inv X pins σ H s) (h:∀p∈pins',s.heap.get? p.1=some p.2∧H p.1=none∧p.1≠X.env.locals∧p.1∉X.fs∧∀v,p.2.data≠.cell v):Inv X pins' σ H s:=
  ⟨I.ok,I.os,I.bare,I.base,I.loc,I.cell,I.free,I.freeC,fun p hp=>(List.mem_append.mp hp).elim (fun z=>I.pin p (List.mem_append_left _ z)) (h p),I.hok,I.len⟩
theorem Zk1 {N:List Str} (hN:N.Nodup) {i j:Nat} {x:Str} (a:N[i]?=some x) (b:N[j]?=some x):i=j:=by
  obtain ⟨h1,e1⟩:=List.getElem?_eq_some_iff.mp a
  obtain ⟨h2,e2⟩:=List.getElem?_eq_some_iff.mp b
  exact (List.getElem_inj hN).mp (e1.trans e2.symm)
theorem Zne {M:Model} {A:Around} {E:Value→Shared→Prop} {i:Nat} {x:Str} {v:V} {u:Value} {Q:Unit→Shared→Prop} (I:Inv X pins σ H s) (hN:X.N.Nodup) (hi:X.N[i]?=some x) (hx:Loc X.env.scope x) (r:RelV v u)
    (h:∀s',Inv X pins (σ.set i (some v)) H s'→(∃a,Heap.SameBut a s.heap s'.heap∧(a=X.env.locals∨X.env.cells.lookup x=some a))→Q () s') (hf:X.fn x=true∨X.env.scope.names.lookup x=some .local:=by first | exact .inl rfl | exact .inr rfl | assumption):wpAny M A (storeName X.env x u) Q E s:=by
  obtain ⟨m,hn,hl⟩:=id I.loc
  have hcls:(X.env.scope.kind == .class || (X.env.scope.kind == .module && X.env.locals != X.env.globals))=false:=by rw [I.ok.kind]; rfl
  have hiσ:i < σ.length:=by rw [I.len]; exact (List.getElem?_eq_some_iff.mp hi).1
  have cne:=I.cne
  have tracked:∀{a:Addr} {h':Heap},(∃o,s.heap.get? a=some o∧H a=none)→Heap.SameBut a s.heap h'→HOk X.prog X.w H h':=fun {a h'} ha hs b ob e=>by
    obtain ⟨_,_,hfree⟩:=ha
    refine (I.hok b ob e).stay (fun c w' hc q=>(hs.2 c ?_).trans q) (fun _ q=>q) fun _ _ q=>q
    rintro rfl
    rcases hc with rfl | hc
    · rw [hfree] at e; cases e
    · rw [hfree] at hc; cases hc
  rcases hx with hk | hk
  · refine wpAny_storeName_local hk hn (fun h' hn' hs=>?_) hcls
    obtain ⟨oL,_,_,hoL,_⟩:=id hn
    refine h _ ⟨I.ok,I.os,I.bare,⟨fun b o e n hb hx=>?_,fun b o e n hb hx=>?_,I.base.free,fun b o e hx=>?_,I.base.tups,I.base.frzs,I.base.tbls⟩,⟨_,hn',fun j y v' e1 e2 e3=>?_⟩,fun y c e=>?_,I.free,I.freeC,fun p hp=>?_,tracked ⟨oL,hoL,I.free⟩ hs,by simpa using I.len⟩ ⟨_,hs,.inl rfl⟩
    · exact (hs.2 b (Nat.ne_of_lt (Nat.lt_of_lt_of_le (Heap.lt_size e) I.ok.above))).trans (I.base.keep b o e n hb hx)
    · obtain ⟨sl,e1⟩:=I.base.slot b o e n hb hx
      exact ⟨sl,(hs.2 b (Nat.ne_of_lt (Nat.lt_of_lt_of_le (Heap.lt_size e) I.ok.above))).trans e1⟩
    · obtain ⟨o',e1⟩:=I.base.there b o e hx
      exact ⟨o',(hs.2 b (Nat.ne_of_lt (Nat.lt_of_lt_of_le (Heap.lt_size e) I.ok.above))).trans e1⟩
    · by_cases hj:j=i
      · subst hj
        rw [hi] at e1; cases e1
        rw [List.getElem?_set_self hiσ] at e2
        cases e2
        exact ⟨u,r,.inl ⟨hk,by simp⟩⟩
      · rw [List.getElem?_set_ne (Ne.symm hj)] at e2
        obtain ⟨u',r',q⟩:=hl j y v' e1 e2 e3
        refine ⟨u',r',?_⟩
        rcases q with ⟨k,e⟩ | ⟨k,c,e,z⟩
        · refine .inl ⟨k,?_⟩
          have:y≠x:=fun e=>hj (Zk1 hN e1 (e ▸ hi))
          simp [this,e]
        · exact .inr ⟨k,c,e,z.sameBut hs (cne y c e)⟩
    · obtain ⟨w',z⟩:=I.cell y c e
      exact ⟨w',z.sameBut hs (cne y c e)⟩
    · obtain ⟨e,n,ne,nf,d⟩:=I.pin p hp
      exact ⟨(hs.2 p.1 ne).trans e,n,ne,nf,d⟩
  · have hfn:X.fn x=true:=by
      rcases hf with z | z
      · exact z
      · rw [z] at hk; cases hk
    obtain ⟨c,hc⟩:=I.ok.has x (.inl hk)
    obtain ⟨w',z⟩:=I.cell x c hc
    refine wpAny_storeName_cell I.ok.kind hk hc z (fun h' hc' hs=>?_)
    obtain ⟨oc,hoc,hocd⟩:=id z
    refine h { s with heap:=h' } ⟨I.ok,I.os,I.bare,⟨fun b o e n hb hx=>?_,fun b o e n hb hx=>?_,I.base.free,fun b o e hx=>?_,I.base.tups,I.base.frzs,I.base.tbls⟩,⟨m,hn.sameBut hs (Ne.symm (cne x c hc)),fun j y v' e1 e2 e3=>?_⟩,fun y c' e=>?_,I.free,I.freeC,fun p hp=>?_,tracked ⟨oc,hoc,I.freeC x c hc⟩ hs,by simpa using I.len⟩ ⟨c,hs,.inr hc⟩
    · exact (hs.2 b (Nat.ne_of_lt (Nat.lt_of_lt_of_le (Heap.lt_size e) (I.ok.cab x c hfn hc)))).trans (I.base.keep b o e n hb hx)
    · obtain ⟨sl,e1⟩:=I.base.slot b o e n hb hx
      exact ⟨sl,(hs.2 b (Nat.ne_of_lt (Nat.lt_of_lt_of_le (Heap.lt_size e) (I.ok.cab x c hfn hc)))).trans e1⟩
    · obtain ⟨o',e1⟩:=I.base.there b o e hx
      exact ⟨o',(hs.2 b (Nat.ne_of_lt (Nat.lt_of_lt_of_le (Heap.lt_size e) (I.ok.cab x c hfn hc)))).trans e1⟩
    · by_cases hj:j=i
      · subst hj
        rw [hi] at e1; cases e1
        rw [List.getElem?_set_self hiσ] at e2
        cases e2
        exact ⟨u,r,.inr ⟨.inl hk,c,hc,hc'⟩⟩
      · rw [List.getElem?_set_ne (Ne.symm hj)] at e2
        obtain ⟨u',r',q⟩:=hl j y v' e1 e2 e3
        refine ⟨u',r',?_⟩
        rcases q with q | ⟨k,c',e,z'⟩
        · exact .inl q
        · refine .inr ⟨k,c',e,z'.sameBut hs ?_⟩
          rintro rfl
          exact hj (Zk1 hN e1 (I.ok.inj _ _ _ e hc ▸ hi))
    · by_cases hcc:c'=c
      · subst hcc; exact ⟨_,hc'⟩
      · obtain ⟨w2,z2⟩:=I.cell y c' e
        exact ⟨w2,z2.sameBut hs hcc⟩
    · obtain ⟨e,n,ne,nf,d⟩:=I.pin p hp
      refine ⟨(hs.2 p.1 ?_).trans e,n,ne,nf,d⟩
      intro q
      rw [q,hoc] at e
      have q':oc=p.2:=Option.some.inj e
      exact d w' (by rw [←q']; exact hocd)
theorem ZkI {M:Model} {A:Around} {E:Value→Shared→Prop} {i:Nat} {x:Str} {v:V} {u:Value} {Q:Unit→Shared→Prop} (I:Inv X pins σ H s) (hN:X.N.Nodup) (hi:X.N[i]?=some x) (hx:Loc X.env.scope x) (r:RelV v u)
    (h:∀s',Inv X pins (σ.set i (some v)) H s'→Q () s') (hf:X.fn x=true∨X.env.scope.names.lookup x=some .local:=by first | exact .inl rfl | exact .inr rfl | assumption):wpAny M A (storeName X.env x u) Q E s:=
  Zne I hN hi hx r (fun s' I' _=>h s' I') hf
theorem Inv.call' {s':Shared} {ch:List Addr} (I:Inv X pins σ H s) (ho:s'.os=s.os) (u:Un (frs X.stack) ch H H' s.heap s'.heap) (hok:HOk X.prog X.w H' s'.heap) (hg:AllBare s'.gens)
    (hch:∀b∈ch,(b∈X.ex∨X.s₀.heap.objs.size≤b)∧b≠X.env.locals∧(∀x c,X.env.cells.lookup x=some c→c≠b)∧∀p∈X.pn++pins,p.1≠b):Inv X pins σ H' s':=by
  obtain ⟨h',g',d',t',o'⟩:=s'
  have e:o'=s.os:=ho
  subst e
  exact I.call (g':=g') (t':=t') (d':=d') u hok hg hch
end
abbrev XK:=Value→Option Addr→Hp→Prop
abbrev St:=List (Option V)
abbrev VK:=V→Hp→Prop
abbrev TE:=St→Hp→VK→Prop
abbrev TT:=St→Hp→(Bool→Hp→Prop)→Prop
abbrev TA:=St→Hp→(List V→Hp→Prop)→Prop
structure Zfd where
  nx:St→Hp→Prop
  rt:VK
  bk:St→Hp→Prop:=fun _ _=>False
  ct:St→Hp→Prop:=fun _ _=>False
abbrev TS:=Zfd→St→Hp→Prop
def EP (X:Cx) (pins:List (Addr×Obj)) (σ:St) (Q:VK) (u:Value) (s':Shared):Prop:=∃v H',Inv X pins σ H' s'∧RelV v u∧Q v H'
def TP (X:Cx) (pins:List (Addr×Obj)) (σ:St) (Q:Bool→Hp→Prop) (b:Bool) (s':Shared):Prop:=∃H',Inv X pins σ H' s'∧Q b H'
def AP (X:Cx) (pins:List (Addr×Obj)) (σ:St) (Q:List V→Hp→Prop) (us:List Value) (s':Shared):Prop:=∃vs H',Inv X pins σ H' s'∧Vals vs us∧Q vs H'
def SP (X:Cx) (pins:List (Addr×Obj)) (D:Zfd) (f:Flow) (s':Shared):Prop:=
  match f with
  | .next=>∃σ' H',Inv X pins σ' H' s'∧D.nx σ' H'
  | .brk=>∃σ' H',Inv X pins σ' H' s'∧D.bk σ' H'
  | .cont=>∃σ' H',Inv X pins σ' H' s'∧D.ct σ' H'
  | .ret u=>∃v σ' H',Inv X pins σ' H' s'∧RelV v u∧D.rt v H'
def PE (X:Cx) (e:Expr) (t:TE):Prop:=
  ∀(pins:List (Addr×Obj)) (s:Shared) (σ:St) (H:Hp) (Q:VK),Inv X pins σ H s→t σ H Q→wpAny (model X.prog X.w) X.A (eval e X.env) (EP X pins σ Q) X.xe s
def PT (X:Cx) (e:Expr) (t:TT):Prop:=
  ∀(pins:List (Addr×Obj)) (s:Shared) (σ:St) (H:Hp) (Q:Bool→Hp→Prop),Inv X pins σ H s→t σ H Q→wpAny (model X.prog X.w) X.A (isTrue e X.env (eval e X.env)) (TP X pins σ Q) X.xe s
def PW (X:Cx) (e:Expr) (t:TT):Prop:=
  ∀(whole:Sem Value) (pins:List (Addr×Obj)) (s:Shared) (σ:St) (H:Hp) (Q:Bool→Hp→Prop),Inv X pins σ H s→t σ H Q→wpAny (model X.prog X.w) X.A (isTrue e X.env whole) (TP X pins σ Q) X.xe s
theorem PW.pt {X:Cx} {e:Expr} {t:TT} (h:PW X e t):PT X e t:=h _
def PA (X:Cx) (es:List Expr) (t:TA):Prop:=
  ∀(pos:Pos) (pins:List (Addr×Obj)) (s:Shared) (σ:St) (H:Hp) (Q:List V→Hp→Prop),Inv X pins σ H s→t σ H Q→wpAny (model X.prog X.w) X.A (spliced (backTo pos (starEach es X.env))) (AP X pins σ Q) X.xe s
def PS (X:Cx) (st:Stmt) (t:TS):Prop:=
  ∀(pins:List (Addr×Obj)) (s:Shared) (σ:St) (H:Hp) (D:Zfd),Inv X pins σ H s→t D σ H→wpAny (model X.prog X.w) X.A (exec st X.env) (SP X pins D) X.xe s
def PSs (X:Cx) (st:List Stmt) (t:TS):Prop:=
  ∀(pins:List (Addr×Obj)) (s:Shared) (σ:St) (H:Hp) (D:Zfd),Inv X pins σ H s→t D σ H→wpAny (model X.prog X.w) X.A (execs st X.env) (SP X pins D) X.xe s
theorem thn {α:Type} {t:Sem α} {Q Q':α→Shared→Prop} {M:Model} {A:Around} {E:Value→Shared→Prop} {s:Shared} (h:wpAny M A t Q E s) (hQ:∀a s,Q a s→Q' a s):wpAny M A t Q' E s:=wpAny_mono h hQ fun _ _ x=>x
end L2
namespace L2
open PySem PySem.Spec PyProof.Rows
section
variable {X:Cx}
theorem bin {a b:Expr} {ta tb:TE} (ha:PE X a ta) (hb:PE X b tb) {pins:List (Addr×Obj)} {s:Shared} {σ:St} {H:Hp} {R:V→V→Hp→Prop} (I:Inv X pins σ H s) (h:ta σ H fun x H1=>tb σ H1 fun y H2=>R x y H2)
    {α:Type} {Q:α→Shared→Prop} {f:Value→Value→Sem α}
    (hf:∀v u s2 x y H2,Inv X pins σ H2 s2→RelV x v→RelV y u→R x y H2→wpAny (model X.prog X.w) X.A (f v u) Q X.xe s2) :
    wpAny (model X.prog X.w) X.A (eval a X.env) (fun v s₁=>wpAny (model X.prog X.w) X.A (eval b X.env) (fun u s₂=>wpAny (model X.prog X.w) X.A (f v u) Q X.xe s₂) X.xe s₁) X.xe s:=by
  refine thn (ha pins s σ H _ I h) fun v s1 ⟨x,H1,I1,r1,q1⟩=>?_
  refine thn (hb pins s1 σ H1 _ I1 q1) fun u s2 ⟨y,H2,I2,r2,q2⟩=>?_
  exact hf v u s2 x y H2 I2 r1 r2 q2
def ZyP (i:Nat):TE:=fun σ H Q=>∃v,σ[i]?=some (some v)∧Q v H
def tC (v:V):TE:=fun _ H Q=>Q v H
theorem ZpE {i:Nat} {x:Str} {pos:Pos} (hN:X.N[i]?=some x) (hv:Vis X.env.scope x) (hd:(x == ("__debug__":Str))=false:=by decide) (hcd:(x == ("__classdict__":Str))=false:=by decide):PE X (.Name x pos) (ZyP i):=by
  intro pins s σ H Q I h
  obtain ⟨v,e,h⟩:=h
  obtain ⟨m,hn,hl⟩:=I.loc
  obtain ⟨u,r,l⟩:=hl i x v hN e hv
  have fin:EP X pins σ Q u s:=⟨v,H,I,r,h⟩
  rcases l with ⟨hk,hm⟩ | ⟨hk,c,hc,hcell⟩
  · exact wpAny_Name (wpAny_loadName_local I.ok.kind hk hn hm fin) hd
  · rcases hk with hk | hk
    · exact wpAny_Name (wpAny_loadName_cell I.ok.kind hk hc hcell fin) hd
    · exact wpAny_Name (wpAny_loadName_free I.ok.kind hk hc hcell fin hcd) hd
theorem ZtP {i j pos}:PE X (.Constant (.int i) j pos) (tC (.int i)):=fun _ _ _ H _ I h=>wpAny_Constant_int ⟨.int i,H,I.tok _,⟨_,rfl⟩,h⟩
theorem ZvD {b j pos}:PE X (.Constant (.bool b) j pos) (tC (.bl b)):=fun _ _ _ H _ I h=>Constant_bool ⟨.bl b,H,I,rfl,h⟩
theorem ZtO {j pos}:PE X (.Constant .none j pos) (tC .non):=fun _ _ _ H _ I h=>Constant_none ⟨.non,H,I,rfl,h⟩
theorem ZtM {x j pos}:PE X (.Constant (.str x) j pos) (tC (.str x)):=fun _ _ _ H _ I h=>Calls.Constant_str ⟨.str x,H,I.tok _,⟨_,rfl⟩,h⟩
def Gl (X:Cx) (x:Str):Prop:=X.env.kindOf x=some .globalImplicit
theorem Zg0 {E:Value→Shared→Prop} {pins:List (Addr×Obj)} {s:Shared} {σ:St} {H:Hp} {x:Str} {u:Value} {pos:Pos} {Q:Value→Shared→Prop} (I:Inv X pins σ H s) (hg:Gl X x) (hm:X.mg x=some u) (h:Q u s)
    (hd:(x == ("__debug__":Str))=false:=by decide):wpAny (model X.prog X.w) X.A (eval (.Name x pos) X.env) Q E s:=
  Calls.Name_function_global I.ok.kind hg (Calls.loadGlobal_global (by rw [I.ok.glob]; exact I.mod.glob.keeps I.bk) hm h) hd
theorem Zhl {E:Value→Shared→Prop} {pins:List (Addr×Obj)} {s:Shared} {σ:St} {H:Hp} {x:Str} {u:Value} {pos:Pos} {Q:Value→Shared→Prop} (I:Inv X pins σ H s) (hg:Gl X x) (hm:X.mg x=none) (hv:bootBuiltins x=some u) (h:Q u s)
    (hn:x≠"__name__":=by decide) (hd:(x == ("__debug__":Str))=false:=by decide):wpAny (model X.prog X.w) X.A (eval (.Name x pos) X.env) Q E s:=by
  obtain ⟨mb,h1,h2⟩:=I.mod.blt
  exact Calls.Name_function_global I.ok.kind hg (Calls.loadGlobal_builtin (by rw [I.ok.glob]; exact I.mod.glob.keeps I.bk) hm (by rw [I.ok.blt]; exact h1.keeps I.bk) ((h2 x hn).trans hv) h) hd
theorem Zms {x:Str} {v:V} {u:Value} {pos:Pos} (hg:Gl X x) (hm:X.mg x=some u) (r:RelV v u) (hd:(x == ("__debug__":Str))=false:=by decide):PE X (.Name x pos) (tC v):=
  fun _ _ _ H _ I h=>Zg0 I hg hm ⟨v,H,I,r,h⟩ hd
theorem ZrM {x:Str} {v:V} {u:Value} {pos:Pos} (hg:Gl X x) (hm:X.mg x=none) (hv:bootBuiltins x=some u) (r:RelV v u) (hn:x≠"__name__":=by decide) (hd:(x == ("__debug__":Str))=false:=by decide):PE X (.Name x pos) (tC v):=
  fun _ _ _ H _ I h=>Zhl I hg hm hv ⟨v,H,I,r,h⟩ hn hd
variable {a b:Expr} {ta tb:TE} {pos:Pos}
def PC (X:Cx) (op:CmpOp) (a b:Expr) (t:TE):Prop:=
  ∀(pins:List (Addr×Obj)) (s:Shared) (σ:St) (H:Hp) (Q:VK),Inv X pins σ H s→t σ H Q→
    wpAny (model X.prog X.w) X.A (eval a X.env) (fun v s₁=>wpAny (model X.prog X.w) X.A (eval b X.env) (fun u s₂=>wpAny (model X.prog X.w) X.A (compareOp op v u) (EP X pins σ Q) X.xe s₂) X.xe s₁) X.xe s
theorem ZpZ (b:Expr) {op:CmpOp} (h:op≠.In) (h2:op≠.NotIn):behindInMarks op b=false:=by
  have e1:(op == CmpOp.In)=false:=by cases op<;>first | rfl | exact absurd rfl h
  have e2:(op == CmpOp.NotIn)=false:=by cases op<;>first | rfl | exact absurd rfl h2
  cases b<;>simp [behindInMarks,e1,e2]
def tB (t:TE):TT:=fun σ H Q=>t σ H fun x H1=>∃c,x=.bl c∧Q c H1
theorem ZtC {op:CmpOp} {t:TE} (h:PC X op a b t) (h1:behindInMarks op b=false:=by first | exact ZpZ _ (by decide) (by decide) | rfl):PT X (.Compare a [op] [b] pos) (tB t):=by
  intro pins s σ H Q I hw
  refine wpAny_isTrue_Compare1 (thn (h pins s σ H _ I hw) fun v s1 h1=>thn h1 fun u s2 h2=>thn h2 fun c s3 ⟨x,H1,I1,r1,q1⟩=>?_) h1
  obtain ⟨d,rfl,q⟩:=q1
  cases r1
  exact wpAny_truthy_bool ⟨H1,I1,q⟩
variable {tA tB':TT} {rest:List Expr}
def Zy0 (t u:TT):TT:=fun σ H Q=>t σ H fun c H1=>if c=true then u σ H1 Q else Q false H1
def tOr (t u:TT):TT:=fun σ H Q=>t σ H fun c H1=>if c=true then Q true H1 else u σ H1 Q
def ZyV (t:TT):TT:=fun σ H Q=>t σ H fun c H1=>Q (!c) H1
theorem Zru (ha:PT X a tA):PW X (.BoolOp .And [a] pos) tA:=by
  intro wh pins s σ H Q I h
  refine isTrue_and (thn (ha pins s σ H Q I h) fun c s1 e=>?_)
  cases c with
  | true=>exact isTrue_and_nil e
  | false=>exact e
theorem Zty (ha:PT X a tA):PW X (.BoolOp .Or [a] pos) tA:=by
  intro wh pins s σ H Q I h
  refine isTrue_or (thn (ha pins s σ H Q I h) fun c s1 e=>?_)
  cases c with
  | false=>exact isTrue_or_nil e
  | true=>exact e
theorem Ztz (ha:PT X a tA) (hb:PW X (.BoolOp .And (b::rest) pos) tB'):PW X (.BoolOp .And (a::b::rest) pos) (Zy0 tA tB'):=by
  intro wh pins s σ H Q I h
  refine isTrue_and (thn (ha pins s σ H _ I h) fun c s1 ⟨H1,I1,q1⟩=>?_)
  cases c with
  | true=>exact hb wh pins s1 σ H1 Q I1 q1
  | false=>exact ⟨H1,I1,q1⟩
theorem Zvq (ha:PT X a tA) (hb:PW X (.BoolOp .Or (b::rest) pos) tB'):PW X (.BoolOp .Or (a::b::rest) pos) (tOr tA tB'):=by
  intro wh pins s σ H Q I h
  refine isTrue_or (thn (ha pins s σ H _ I h) fun c s1 ⟨H1,I1,q1⟩=>?_)
  cases c with
  | true=>exact ⟨H1,I1,q1⟩
  | false=>exact hb wh pins s1 σ H1 Q I1 q1
theorem ZtB (ha:PT X a tA):PT X (.UnaryOp .Not a pos) (ZyV tA):=by
  intro pins s σ H Q I h
  exact isTrue_not (ha pins s σ H (fun c H1=>Q (!c) H1) I h)
def Zvf (ta tb:TE):TE:=fun σ H Q=>ta σ H fun x H1=>∃c,x=.bl c∧if c=true then tb σ H1 Q else Q (.bl false) H1
def ZyU (ta tb:TE):TE:=fun σ H Q=>ta σ H fun x H1=>∃c,x=.bl c∧if c=true then Q (.bl true) H1 else tb σ H1 Q
theorem ZtN {op} {t:TE} (h:PE X a t):PE X (.BoolOp op [a] pos) t:=fun pins s σ H Q I hw=>BoolOp_one (h pins s σ H Q I hw)
theorem ZtR (ha:PE X a ta) (hb:PE X (.BoolOp .And (b::rest) pos) tb):PE X (.BoolOp .And (a::b::rest) pos) (Zvf ta tb):=by
  intro pins s σ H Q I h
  refine BoolOp_and (thn (ha pins s σ H _ I h) fun v s1 ⟨x,H1,I1,r1,q1⟩=>?_)
  obtain ⟨c,rfl,q1⟩:=q1
  cases r1
  refine wpAny_truthy_bool ?_
  cases c with
  | true=>exact hb pins s1 σ H1 Q I1 q1
  | false=>exact ⟨.bl false,H1,I1,rfl,q1⟩
theorem Zvz (ha:PE X a ta) (hb:PE X (.BoolOp .Or (b::rest) pos) tb):PE X (.BoolOp .Or (a::b::rest) pos) (ZyU ta tb):=by
  intro pins s σ H Q I h
  refine BoolOp_or (thn (ha pins s σ H _ I h) fun v s1 ⟨x,H1,I1,r1,q1⟩=>?_)
  obtain ⟨c,rfl,q1⟩:=q1
  cases r1
  refine wpAny_truthy_bool ?_
  cases c with
  | false=>exact hb pins s1 σ H1 Q I1 q1
  | true=>exact ⟨.bl true,H1,I1,rfl,q1⟩
def tIf (t:TT) (ta tb:TE):TE:=fun σ H Q=>t σ H fun c H1=>if c=true then ta σ H1 Q else tb σ H1 Q
theorem ZpI {c:Expr} (hc:PT X c tA) (ha:PE X a ta) (hb:PE X b tb):PE X (.IfExp c a b pos) (tIf tA ta tb):=by
  intro pins s σ H Q I h
  refine wpAny_IfExp (thn (hc pins s σ H _ I h) fun d s1 ⟨H1,I1,q1⟩=>?_)
  cases d with
  | true=>exact ha pins s1 σ H1 Q I1 q1
  | false=>exact hb pins s1 σ H1 Q I1 q1
end
end L2
namespace L2
open PySem PySem.Spec PyProof.Rows
def SqL (K:PySem.W.Frag) (H:Hp) (a:Addr) (xs:List V):Prop:=
  Rd H a (.lst xs)∨
    ∃(o:Obj) (its:Array Value) (n:Nat),K.lookup a=some o∧o.cls=.type "list"∧o.dict=none∧o.data=.seq its n∧its.size≤sizeLine∧Vals xs its.toList
def SqT (K:PySem.W.Frag) (H:Hp) (a:Addr) (xs:List V):Prop:=
  Rd H a (.tup xs)∨
    ∃(o:Obj) (its:Array Value) (n:Nat),K.lookup a=some o∧o.cls=.type "tuple"∧o.data=.seq its n∧its.size≤sizeLine∧Vals xs its.toList
def Zzz:Value→Option V
  | .none=>some .non
  | .bool b=>some (.bl b)
  | .int i _=>some (.int i)
  | .str x _=>some (.str x)
  | .bytes b _=>some (.byt b)
  | .float b _=>some (.flt b)
  | .ref a=>some (.ref a)
  | .type n=>some (.ty n)
  | _=>none
theorem RelV.abs {x:V} {u:Value} (r:RelV x u):Zzz u=some x:=by
  cases x with
  | non=>cases r; rfl
  | bl _=>cases r; rfl
  | int _=>obtain ⟨t,rfl⟩:=r; rfl
  | str _=>obtain ⟨t,rfl⟩:=r; rfl
  | byt _=>obtain ⟨t,rfl⟩:=r; rfl
  | flt _=>obtain ⟨t,rfl⟩:=r; rfl
  | ref _=>cases r; rfl
  | ty _=>cases r; rfl
theorem RelV.inj {x y:V} {u:Value} (r:RelV x u) (q:RelV y u):x=y:=Option.some.inj (r.abs.symm.trans q.abs)
theorem Vals.inj:∀{xs ys:List V} {us:List Value},Vals xs us→Vals ys us→xs=ys
  | _,_,_,.nil,.nil=>rfl
  | _,_,_,.cons r t,.cons r' t'=>by rw [r.inj r',Vals.inj t t']
section
variable {X:Cx} {pins:List (Addr×Obj)} {σ:St} {H:Hp} {s:Shared} {a:Addr} {xs ys:List V}
theorem SqL.of {K:PySem.W.Frag} (h:H a=some (.lst xs)):SqL K H a xs:=.inl (.inl h)
theorem SqT.of {K:PySem.W.Frag} (h:H a=some (.tup xs)):SqT K H a xs:=.inl (.inl h)
theorem Inv.list (I:Inv X pins σ H s) (h:SqL X.K H a xs):∃its:List Value,Vals xs its∧PlainL s.heap a its.toArray∧xs.length≤sizeLine:=by
  rcases h with h | ⟨o,its,n,hk,hc,hd,hs,hz,r⟩
  · obtain ⟨z,its,n,r,e⟩:=h.ok I.hok
    exact ⟨its,r,⟨_,n,e,rfl,rfl,rfl⟩,z⟩
  · refine ⟨its.toList,r,⟨o,n,I.kIn a o hk,hc,hd,by simpa using hs⟩,?_⟩
    have e:=r.length
    simp only [Array.length_toList] at e
    omega
theorem Inv.tuple (I:Inv X pins σ H s) (h:SqT X.K H a xs):∃its:List Value,Vals xs its∧IsTup s.heap a its.toArray∧xs.length≤sizeLine:=by
  rcases h with h | ⟨o,its,n,hk,hc,hs,hz,r⟩
  · obtain ⟨z,its,r,p⟩:=h.ok I.hok
    exact ⟨its,r,p,z⟩
  · refine ⟨its.toList,r,⟨o,I.kIn a o hk,hc,n,by simpa using hs⟩,?_⟩
    have e:=r.length
    simp only [Array.length_toList] at e
    omega
theorem Inv.list_inj (I:Inv X pins σ H s) (h:SqL X.K H a xs) (h':SqL X.K H a ys):xs=ys:=by
  obtain ⟨its,r,⟨o,n,e,_,_,d⟩,_⟩:=I.list h
  obtain ⟨its',r',⟨o',n',e',_,_,d'⟩,_⟩:=I.list h'
  rw [e] at e'; cases e'
  rw [d] at d'
  injection d' with d1 _
  have:its=its':=by simpa using congrArg Array.toList d1
  subst this
  exact r.inj r'
theorem Inv.tuple_inj (I:Inv X pins σ H s) (h:SqT X.K H a xs) (h':SqT X.K H a ys):xs=ys:=by
  obtain ⟨its,r,⟨o,e,_,n,d⟩,_⟩:=I.tuple h
  obtain ⟨its',r',⟨o',e',_,n',d'⟩,_⟩:=I.tuple h'
  rw [e] at e'; cases e'
  rw [d] at d'
  injection d' with d1 _
  have:its=its':=by simpa using congrArg Array.toList d1
  subst this
  exact r.inj r'
end
abbrev Cx.wish (X:Cx) (E:Value→Shared→Prop):Cx:={ X with xe:=E }
abbrev Cx.nox (X:Cx):Cx:=X.wish fun _ _=>False
theorem Cx.Ok.wish {X:Cx} (ok:X.Ok) (E:Value→Shared→Prop):(X.wish E).Ok:=
  ⟨ok.mod,ok.kind,ok.glob,ok.blt,ok.above,ok.inj,ok.has,ok.cab,ok.hd,ok.frames,ok.stk,ok.exf,ok.bs,ok.bsz,ok.noex,ok.exfs,ok.funs,ok.frf⟩
theorem Cx.Ok.unwish {X:Cx} {E:Value→Shared→Prop} (ok:(X.wish E).Ok):X.Ok:=
  ⟨ok.mod,ok.kind,ok.glob,ok.blt,ok.above,ok.inj,ok.has,ok.cab,ok.hd,ok.frames,ok.stk,ok.exf,ok.bs,ok.bsz,ok.noex,ok.exfs,ok.funs,ok.frf⟩
section
variable {X:Cx} {pins:List (Addr×Obj)} {σ:St} {H:Hp} {s:Shared} {E:Value→Shared→Prop}
theorem Inv.wish (I:Inv X pins σ H s) (E:Value→Shared→Prop):Inv (X.wish E) pins σ H s:=⟨I.ok.wish E,I.os,I.bare,I.base,I.loc,I.cell,I.free,I.freeC,I.pin,I.hok,I.len⟩
theorem Inv.unwish (I:Inv (X.wish E) pins σ H s):Inv X pins σ H s:=⟨I.ok.unwish,I.os,I.bare,I.base,I.loc,I.cell,I.free,I.freeC,I.pin,I.hok,I.len⟩
theorem SP.unwish {D:Zfd} {f:Flow} {s':Shared} (h:SP (X.wish E) pins D f s'):SP X pins D f s':=by
  cases f with
  | next=>obtain ⟨σ',H',I,q⟩:=h; exact ⟨σ',H',I.unwish,q⟩
  | brk=>obtain ⟨σ',H',I,q⟩:=h; exact ⟨σ',H',I.unwish,q⟩
  | cont=>obtain ⟨σ',H',I,q⟩:=h; exact ⟨σ',H',I.unwish,q⟩
  | ret u=>obtain ⟨v,σ',H',I,r,q⟩:=h; exact ⟨v,σ',H',I.unwish,r,q⟩
theorem PSs.nox {st:List Stmt} {t:TS} (h:PSs X.nox st t):PSs X st t:=fun pins s σ H D I hw=>
  wpAny_mono (h pins s σ H D (I.wish _) hw) (fun _ _ q=>q.unwish) fun _ _ z=>False.elim z
end
section
variable {X:Cx} {st:Stmt} {rest:List Stmt} {t u:TS} {e:Expr} {te:TE} {pos:Pos}
def Zvb:TS:=fun D σ H=>D.nx σ H
def ZyS (t u:TS):TS:=fun D σ H=>t { D with nx:=u D } σ H
theorem Zrz:PSs X [] Zvb:=fun _ _ σ H _ I h=>wpAny_execs_nil ⟨σ,H,I,h⟩
theorem Zpy (h1:PS X st t) (h2:PSs X rest u):PSs X (st::rest) (ZyS t u):=by
  intro pins s σ H D I h
  refine wpAny_execs_cons (thn (h1 pins s σ H { D with nx:=u D } I h) fun f s1 q=>?_)
  cases f with
  | next=>
    obtain ⟨σ',H',I',q⟩:=q
    exact h2 pins s1 σ' H' D I' q
  | ret v=>exact q
  | brk=>exact q
  | cont=>exact q
theorem Zry (h1:PS X st t):PSs X [st] t:=by
  intro pins s σ H D I h
  refine wpAny_execs_cons (thn (h1 pins s σ H D I h) fun f s1 q=>?_)
  cases f with
  | next=>exact wpAny_execs_nil q
  | ret v=>exact q
  | brk=>exact q
  | cont=>exact q
theorem Inv.quiet {pins:List (Addr×Obj)} {σ:St} {H:Hp} {s:Shared} (I:Inv X pins σ H s):interactive X.env=false:=by simp [interactive,I.ok.kind]
def Zvc (te:TE):TS:=fun D σ H=>te σ H fun _ H1=>D.nx σ H1
theorem Zmq (he:PE X e te) (hs:swapsWith e none pos.line X.env=pure false:=by rfl):PS X (.Expr e pos) (Zvc te):=by
  intro pins s σ H D I h
  exact wpAny_Expr_any (thn (he pins s σ H _ I h) fun v s1 ⟨x,H1,I1,r1,q1⟩=>⟨σ,H1,I1,q1⟩) I.quiet hs
def ZyT (te:TE):TS:=fun D σ H=>te σ H D.rt
theorem ZtD (he:PE X e te):PS X (.Return (some e) pos) (ZyT te):=by
  intro pins s σ H D I h
  exact wpAny_Return_some (thn (he pins s σ H _ I h) fun v s1 ⟨x,H1,I1,r1,q1⟩=>⟨x,σ,H1,I1,r1,q1⟩)
def Zu9:TS:=fun D _ H=>D.rt .non H
theorem ZrA:PS X (.Return none pos) Zu9:=fun _ _ σ H _ I h=>wpAny_Return_none ⟨.non,σ,H,I,rfl,h⟩
def ZyX (c:TT) (t u:TS):TS:=fun D σ H=>c σ H fun b H1=>if b=true then t D σ H1 else u D σ H1
theorem Zvs {c:Expr} {a b:List Stmt} {tc:TT} (hc:PT X c tc) (ha:PSs X a t) (hb:PSs X b u):PS X (.If c a b pos) (ZyX tc t u):=by
  intro pins s σ H D I h
  refine wpAny_If (thn (hc pins s σ H _ I h) fun d s1 ⟨H1,I1,q1⟩=>?_)
  cases d with
  | true=>exact ha pins s1 σ H1 D I1 q1
  | false=>exact hb pins s1 σ H1 D I1 q1
end
abbrev TG:=V→St→Hp→(St→Hp→Prop)→Prop
abbrev TGs:=List V→St→Hp→(St→Hp→Prop)→Prop
def PG (X:Cx) (target:Expr) (t:TG):Prop:=
  ∀(pins:List (Addr×Obj)) (s:Shared) (σ:St) (H:Hp) (v:V) (u:Value) (Q:St→Hp→Prop),Inv X pins σ H s→RelV v u→t v σ H Q→
    wpAny (model X.prog X.w) X.A (assign target X.env u) (fun _ s'=>∃σ' H',Inv X pins σ' H' s'∧Q σ' H') X.xe s
def PGs (X:Cx) (ts:List Expr) (t:TGs):Prop:=
  ∀(pins:List (Addr×Obj)) (s:Shared) (σ:St) (H:Hp) (vs:List V) (us:List Value) (Q:St→Hp→Prop),Inv X pins σ H s→Vals vs us→t vs σ H Q→
    wpAny (model X.prog X.w) X.A (assignInOrder ((assignEach ts X.env).map (·.2)) us) (fun _ s'=>∃σ' H',Inv X pins σ' H' s'∧Q σ' H') X.xe s
section
variable {X:Cx} {pos:Pos}
def Zlf (i:Nat):TG:=fun v σ H Q=>Q (σ.set i (some v)) H
theorem ZfG {i:Nat} {x:Str} (hN:X.N.Nodup) (hi:X.N[i]?=some x) (hx:Loc X.env.scope x) (hf:X.fn x=true∨X.env.scope.names.lookup x=some .local:=by first | exact .inl rfl | exact .inr rfl | assumption):PG X (.Name x pos) (Zlf i):=by
  intro pins s σ H v u Q I r h
  exact wpAny_assign_Name (ZkI I hN hi hx r (fun s' I'=>⟨_,H,I',h⟩) hf)
def Zzt:TGs:=fun vs σ H Q=>vs=[]∧Q σ H
def Zv1 (t:TG) (u:TGs):TGs:=fun vs σ H Q=>∃v r,vs=v::r∧t v σ H fun σ' H'=>u r σ' H' Q
theorem ZrH:PGs X [] Zzt:=by
  intro pins s σ H vs us Q I r h
  obtain ⟨e,h⟩:=h
  subst e
  cases r
  exact assignInOrder_nil ⟨σ,H,I,h⟩
theorem ZkR {e:Expr} {es:List Expr} {t:TG} {u:TGs} (h1:PG X e t) (h2:PGs X es u)
    (hs:(assignEach (e::es) X.env).map (·.2)=assign e X.env::(assignEach es X.env).map (·.2):=by rfl):PGs X (e::es) (Zv1 t u):=by
  intro pins s σ H vs us Q I r h
  obtain ⟨v,vr,e1,h⟩:=h
  subst e1
  cases r with
  | cons r rr=>
    rw [hs]
    refine assignInOrder_cons (thn (h1 pins s σ H _ _ _ I r h) fun _ s1 ⟨σ1,H1,I1,q1⟩=>?_)
    exact h2 pins s1 σ1 H1 _ _ Q I1 rr q1
def Zzs (K:PySem.W.Frag) (n:Nat) (t:TGs):TG:=fun v σ H Q=>∃a xs,v=.ref a∧SqT K H a xs∧xs.length=n∧t xs σ H Q
theorem ZtK {es:List Expr} {k:Nat} {t:TGs} {n:Nat} (hc:X.calm=true) (h:PGs X es t)
    (hn:(assignEach es X.env).length=n:=by rfl) (hst:(assignEach es X.env).findIdx? (·.1)=none:=by rfl):PG X (.Tuple es k pos) (Zzs X.K n t):=by
  intro pins s σ H v u Q I r hw
  obtain ⟨a,xs,e1,hq,hl,hw⟩:=hw
  subst e1
  cases r
  obtain ⟨its,rv,ht,hz⟩:=I.tuple hq
  refine assign_Tuple_tuple (I.ok.hd hc) ht (by simp [hn,←hl,rv.length]) hst fun h' hx=>?_
  have I1:Inv X pins σ H { s with heap:=h' }:=I.kept (t':=s.toks) fun b o e=>hx b o (Nat.ne_of_lt (Heap.lt_size e)) e
  exact h pins _ σ H xs _ Q I1 (by simpa using rv) hw
def Zve (te:TE) (g:TG):TS:=fun D σ H=>te σ H fun x H1=>g x σ H1 D.nx
theorem ZpA {i:Nat} {x:Str} {e:Expr} {te:TE} {pos':Pos} (hN:X.N.Nodup) (hi:X.N[i]?=some x) (hx:Loc X.env.scope x) (he:PE X e te) (hs:swapsWith e (some (.Name x pos')) pos.line X.env=pure false:=by rfl) (hf:X.fn x=true∨X.env.scope.names.lookup x=some .local:=by first | exact .inl rfl | exact .inr rfl | assumption) :
    PS X (.Assign [.Name x pos'] e pos) (Zve te (Zlf i)):=by
  intro pins s σ H D I h
  refine wpAny_Assign_Name (thn (he pins s σ H _ I h) fun v s1 ⟨y,H1,I1,r1,q1⟩=>?_) hs
  exact ZkI I1 hN hi hx r1 (fun s2 I2=>⟨_,H1,I2,q1⟩) hf
end
section
variable {X:Cx} {pos:Pos}
def Ztm (c:TT) (tb:TS):TS:=fun D σ H=>∃W:Nat→St→Hp→Prop,(∃m,W m σ H)∧∀m σ H,W m σ H→
  c σ H fun b H1=>if b=true then ∃N:St→Hp→Prop,(∀σ' H',N σ' H'→∃m',m'<m∧W m' σ' H')∧tb { D with nx:=N,ct:=N,bk:=D.nx } σ H1 else D.nx σ H1
theorem Zpz {c:Expr} {body:List Stmt} {tc:TT} {tb:TS} (hp:PassesOwn (model X.prog X.w) X.A X.env X.xe) (hc:PT X c tc) (hb:PSs X body tb):PS X (.While c body [] pos) (Ztm tc tb):=by
  intro pins s σ H D I h
  obtain ⟨W,⟨m0,w0⟩,turn⟩:=h
  refine wpAny_While (codeAny_whileLoop (fun n s'=>∃σ' H',Inv X pins σ' H' s'∧W n σ' H') ?_ m0 ⟨σ,H,I,w0⟩)
  rintro n s1 ⟨σ1,H1,I1,w1⟩
  refine wpAny_passesOwn hp (thn (hc pins s1 σ1 H1 _ I1 (turn n σ1 H1 w1)) fun b s2 ⟨H2,I2,q2⟩=>?_)
  cases b with
  | true=>
    obtain ⟨N,hN,q2⟩:=q2
    rw [if_pos rfl]
    refine wpAny_passesOwn hp (thn (hb pins s2 σ1 H2 _ I2 q2) fun f s3 q3=>?_)
    cases f with
    | next=>
      obtain ⟨σ3,H3,I3,n3⟩:=q3
      obtain ⟨m',hm,w3⟩:=hN σ3 H3 n3
      exact ⟨m',hm,σ3,H3,I3,w3⟩
    | cont=>
      obtain ⟨σ3,H3,I3,n3⟩:=q3
      obtain ⟨m',hm,w3⟩:=hN σ3 H3 n3
      exact ⟨m',hm,σ3,H3,I3,w3⟩
    | brk=>exact q3
    | ret v=>exact q3
  | false=>
    rw [if_neg Bool.false_ne_true]
    exact wpAny_execs_nil ⟨σ1,H2,I2,q2⟩
end
structure It where
  go:Nat→Hp→Prop
  yld:Nat→Hp→V→Hp→Prop
  stop:Nat→Hp→Prop
def ZhY (X:Cx) (pins:List (Addr×Obj)) (H:Hp) (b:Addr):Prop:=
  H b=none∧b≠X.env.locals∧b∉X.fs∧(b∈X.ex∨X.s₀.heap.objs.size≤b)∧(∀x c,X.env.cells.lookup x=some c→c≠b)∧∀p∈X.pn++pins,p.1≠b
theorem Inv.fpOk {X:Cx} {pins:List (Addr×Obj)} {σ:St} {H H':Hp} {s:Shared} {b:Addr} (I:Inv X pins σ H s) (hb:s.heap.objs.size≤b) (hn:H' b=none):ZhY X pins H' b:=by
  refine ⟨hn,Nat.ne_of_gt (Nat.lt_of_lt_of_le I.lt hb),I.nofs hb,.inr (Nat.le_trans I.sz hb),fun x c e z=>?_,fun p hp z=>?_⟩
  · obtain ⟨v,q⟩:=I.cell x c e
    exact absurd (Nat.lt_of_lt_of_le q.lt (by rw [z]; exact hb)) (Nat.lt_irrefl _)
  · exact absurd (Nat.lt_of_lt_of_le (Heap.lt_size (I.pin p hp).1) (by rw [z]; exact hb)) (Nat.lt_irrefl _)
structure ZnK (P:Program) (w:World) (K:PySem.W.Frag) (tg:Expr) (J:It) (fp:List Addr) (it:Addr) (tn:Nat→Heap→Prop):Prop where
  mem:it∈fp
  obj:∀i h,tn i h→∀b∈fp,∃o,h.get? b=some o∧∀v,o.data≠.cell v
  keep:∀i h h',tn i h→(∀b∈fp,∀o,h.get? b=some o→h'.get? b=some o)→tn i h'
  item:∀(X:Cx),X.prog=P→X.w=w→X.K=K→X.calm=true→∀(i:Nat) (pins:List (Addr×Obj)) (s:Shared) (σ:St) (H:Hp) (E:Value→Shared→Prop),Inv X pins σ H s→(∀b∈fp,ZhY X pins H b)→tn i s.heap→J.go i H→
    wpAny (model P w) X.A (pyNext (.ref it)) (fun r s1=>∃u,r=some u∧
      wpAny (model P w) X.A (letOwnedTupleGo tg (.ref it) u) (fun _ s2=>∃x H',Inv X pins σ H' s2∧RelV x u∧J.yld i H x H'∧tn (i+1) s2.heap∧∀b∈fp,H' b=none) E s1) E s
  done:∀(X:Cx),X.prog=P→X.w=w→X.K=K→X.calm=true→∀(i:Nat) (pins:List (Addr×Obj)) (s:Shared) (σ:St) (H:Hp) (E:Value→Shared→Prop),Inv X pins σ H s→(∀b∈fp,ZhY X pins H b)→tn i s.heap→J.stop i H→
    wpAny (model P w) X.A (pyNext (.ref it)) (fun r s1=>r=none∧Inv X pins σ H s1) E s
  self:∀(A:Around) (i:Nat) (s:Shared) (Q:Value→Shared→Prop) (E:Value→Shared→Prop),tn i s.heap→Q (.ref it) s→wpAny (model P w) A (pyIter (.ref it)) Q E s
abbrev TI:=St→Hp→(It→Hp→Prop)→Prop
def PIE (X:Cx) (pins:List (Addr×Obj)) (σ:St) (tg:Expr) (R:It→Hp→Prop) (itv:Value) (s2:Shared):Prop:=
  ∃(it:Addr) (fp:List Addr) (tn:Nat→Heap→Prop) (J:It) (H':Hp),itv=.ref it∧Inv X pins σ H' s2∧ZnK X.prog X.w X.K tg J fp it tn∧tn 0 s2.heap∧(∀b∈fp,ZhY X pins H' b)∧R J H'
def PI (X:Cx) (tg iter:Expr) (wi:TI):Prop:=
  ∀(pins:List (Addr×Obj)) (s:Shared) (σ:St) (H:Hp) (R:It→Hp→Prop),Inv X pins σ H s→wi σ H R→
    wpAny (model X.prog X.w) X.A (eval iter X.env) (fun v s1=>wpAny (model X.prog X.w) X.A (pyIter v) (PIE X pins σ tg R) X.xe s1) X.xe s
theorem Zqr {M:Model} {A:Around} {E:Value→Shared→Prop} {s:Shared} {tg:Expr} {it:Addr} {u:Value} {o:Obj} {n:String} {vs:Array Value} {Q:Unit→Shared→Prop} (ho:s.heap.get? it=some o) (hc:o.cls=.type n) (hd:o.data=.fields vs)
    (hn:["enumerate","zip","dict_itemiterator","dict_reverseitemiterator","odict_iterator","itertools.zip_longest","itertools.pairwise"].contains n=false) (hQ:Q () s):wpAny M A (letOwnedTupleGo tg (.ref it) u) Q E s:=by
  unfold letOwnedTupleGo
  cases tg<;>first
    | exact wpAny_pure hQ
    | (cases u<;>first
        | exact wpAny_pure hQ
        | (refine wpAny_bind (wpAny_load ho ?_)
           rw [hc,hd]
           show wpAny M A (if (["enumerate","zip","dict_itemiterator","dict_reverseitemiterator","odict_iterator","itertools.zip_longest","itertools.pairwise"].contains n && vs[0]? == some (rawInt _))=true then _ else _) Q E s
           rw [if_neg (by intro h; rw [hn,Bool.false_and] at h; cases h)]
           exact wpAny_pure hQ))
def Itl (K:PySem.W.Frag) (a:Addr):It:=
  ⟨fun i H=>∃xs x,SqL K H a xs∧xs[i]?=some x,fun i H x H'=>H'=H∧∀xs,SqL K H a xs→xs[i]?=some x,fun i H=>∃xs,SqL K H a xs∧xs.length≤i⟩
def Itt (K:PySem.W.Frag) (a:Addr):It:=
  ⟨fun i H=>∃xs x,SqT K H a xs∧xs[i]?=some x,fun i H x H'=>H'=H∧∀xs,SqT K H a xs→xs[i]?=some x,fun i H=>∃xs,SqT K H a xs∧xs.length≤i⟩
def Itr (lo:Int) (n:Nat):It:=⟨fun i _=>i<n,fun i H x H'=>H'=H∧x=.int (lo+i),fun i _=>n≤i⟩
theorem Zm9 {P:Program} {w:World} {K:PySem.W.Frag} {tg:Expr} (a it:Addr):ZnK P w K tg (Itl K a) [it] it (fun i h=>h.IsListIter it a i) where
  mem:=by simp
  obj:=fun i h st b hb=>by
    have e:b=it:=by simpa using hb
    subst e
    obtain ⟨o,e,c,d⟩:=st
    exact ⟨o,e,fun v z=>by rw [d] at z; cases z⟩
  keep:=fun i h h' st k=>st.at fun o e=>k it (by simp) o e
  item:=by
    intro X hP hw hK hc i pins s σ H E I hf st hg
    subst hP hw hK
    obtain ⟨xs,x,hq,hx⟩:=hg
    obtain ⟨its,rv,p,hz⟩:=I.list hq
    obtain ⟨u,hu,ru⟩:=rv.get hx
    obtain ⟨f0,f1,f2,f3,f4,f5⟩:=hf it (by simp)
    refine wpAny_pyNext_list_item st p.isList (x:=u) (by simpa using hu) fun h' st' sb=>?_
    have I1:Inv X pins σ H { s with heap:=h' }:=I.turned (t':=s.toks) (fun b o hb e=>(sb.2 b hb).trans e) f0 f1 f3 f4 f5
    obtain ⟨o,e,c,d⟩:=id st'
    exact ⟨u,rfl,Zqr (s:={ s with heap:=h' }) e c d (by decide) ⟨x,H,I1,ru,⟨rfl,fun ys hy=>by rw [I.list_inj hy hq]; exact hx⟩,st',fun b hb=>(hf b hb).1⟩⟩
  done:=by
    intro X hP hw hK hc i pins s σ H E I hf st hg
    subst hP hw hK
    obtain ⟨xs,hq,hx⟩:=hg
    obtain ⟨its,rv,p,hz⟩:=I.list hq
    obtain ⟨f0,f1,f2,f3,f4,f5⟩:=hf it (by simp)
    have hl:=rv.length
    exact wpAny_pyNext_list_end (I.ok.hd hc) st p.isList (by simp; omega) fun h' eb=>⟨rfl,I.turned (t':=s.toks) (fun b o hb e=>eb b o hb e) f0 f1 f3 f4 f5⟩
  self:=fun _ _ _ _ _ st h=>wpAny_pyIter_listiter st h
theorem ZlB {P:Program} {w:World} {K:PySem.W.Frag} {tg:Expr} (a it:Addr):ZnK P w K tg (Itt K a) [it] it (fun i h=>h.IsTupleIter it a i) where
  mem:=by simp
  obj:=fun i h st b hb=>by
    have e:b=it:=by simpa using hb
    subst e
    obtain ⟨o,e,c,d⟩:=st
    exact ⟨o,e,fun v z=>by rw [d] at z; cases z⟩
  keep:=fun i h h' st k=>st.at fun o e=>k it (by simp) o e
  item:=by
    intro X hP hw hK hc i pins s σ H E I hf st hg
    subst hP hw hK
    obtain ⟨xs,x,hq,hx⟩:=hg
    obtain ⟨its,rv,p,hz⟩:=I.tuple hq
    obtain ⟨u,hu,ru⟩:=rv.get hx
    obtain ⟨f0,f1,f2,f3,f4,f5⟩:=hf it (by simp)
    refine wpAny_pyNext_tuple_item st (show s.heap.IsTuple a its.toArray from p) (x:=u) (by simpa using hu) fun h' st' sb=>?_
    have I1:Inv X pins σ H { s with heap:=h' }:=I.turned (t':=s.toks) (fun b o hb e=>(sb.2 b hb).trans e) f0 f1 f3 f4 f5
    obtain ⟨o,e,c,d⟩:=id st'
    exact ⟨u,rfl,Zqr (s:={ s with heap:=h' }) e c d (by decide) ⟨x,H,I1,ru,⟨rfl,fun ys hy=>by rw [I.tuple_inj hy hq]; exact hx⟩,st',fun b hb=>(hf b hb).1⟩⟩
  done:=by
    intro X hP hw hK hc i pins s σ H E I hf st hg
    subst hP hw hK
    obtain ⟨xs,hq,hx⟩:=hg
    obtain ⟨its,rv,p,hz⟩:=I.tuple hq
    obtain ⟨f0,f1,f2,f3,f4,f5⟩:=hf it (by simp)
    have hl:=rv.length
    exact wpAny_pyNext_tuple_end (I.ok.hd hc) st (show s.heap.IsTuple a its.toArray from p) (by simp; omega) fun h' eb=>⟨rfl,I.turned (t':=s.toks) (fun b o hb e=>eb b o hb e) f0 f1 f3 f4 f5⟩
  self:=fun _ _ _ _ _ st h=>wpAny_pyIter_tupleiter st h
theorem ZlC {P:Program} {w:World} {K:PySem.W.Frag} {tg:Expr} (it:Addr) (lo:Int) (n:Nat):ZnK P w K tg (Itr lo n) [it] it (fun i h=>IsRangeIter h it (lo+(i:Nat)*1) ((n:Int)-(i:Nat)) 1) where
  mem:=by simp
  obj:=fun i h st b hb=>by
    have e:b=it:=by simpa using hb
    subst e
    exact ⟨_,st,fun v z=>by
      have z':Data.fields _=Data.cell v:=z
      cases z'⟩
  keep:=fun i h h' st k=>k it (by simp) _ st
  item:=by
    intro X hP hw hK hc i pins s σ H E I hf st hg
    subst hP hw hK
    obtain ⟨f0,f1,f2,f3,f4,f5⟩:=hf it (by simp)
    have W:=Walks.range (prog:=X.prog) (w:=X.w) (I.ok.hd hc) it lo 1 n
    refine W.item i s _ _ hg st fun v h' tk hv st' kk=>?_
    obtain ⟨t,rfl⟩:=hv
    have I1:Inv X pins σ H { s with heap:=h',toks:=tk }:=I.turned (fun b o hb e=>kk b o (by simpa using hb) e) f0 f1 f3 f4 f5
    refine ⟨_,rfl,Zqr (s:={ s with heap:=h',toks:=tk }) (n:="range_iterator") st' rfl rfl (by decide) ⟨.int (lo+i),H,I1,⟨t,?_⟩,⟨rfl,rfl⟩,st',fun b hb=>(hf b hb).1⟩⟩
    rw [Int.mul_one]
  done:=by
    intro X hP hw hK hc i pins s σ H E I hf st hg
    subst hP hw hK
    obtain ⟨f0,f1,f2,f3,f4,f5⟩:=hf it (by simp)
    exact wpAny_pyNext_range_end (I.ok.hd hc) st (by have:n≤i:=hg; omega) fun h' eb=>⟨rfl,I.turned (t':=s.toks) (fun b o hb e=>eb b o hb e) f0 f1 f3 f4 f5⟩
  self:=fun _ _ _ _ _ st h=>wpAny_pyIter_rangeiter st h
end L2
namespace L2
open PySem PySem.Spec PyProof.Rows
section
variable {X:Cx} {tg:Expr}
theorem Zpt {pins:List (Addr×Obj)} {σ:St} {H:Hp} {s:Shared} {R:It→Hp→Prop} {E:Value→Shared→Prop} {lo hi:Int} {t u v:Tok} {tk:Nat} (I:Inv X pins σ H s) (h1 : -(2 ^ 62)≤lo) (h2:lo<2 ^ 62) (h3 : -(2 ^ 62)≤hi) (h4:hi<2 ^ 62)
    (q:R (Itr lo (hi-lo).toNat) H):wpAny (model X.prog X.w) X.A (pyIter (.ref s.heap.objs.size)) (PIE X pins σ tg R) E { s with heap:=s.heap.push { cls:=.type "range",data:=.fields #[.int lo t,.int hi u,.int 1 v] },toks:=tk }:=by
  refine wpAny_pyIter_range (IsRange.new ..) (small_one h1 h2 h3 h4) ?_
  have I1:Inv X pins σ H { s with heap:=s.heap.push { cls:=.type "range",data:=.fields #[.int lo t,.int hi u,.int 1 v] },toks:=tk }:=I.kept fun b o e=>Heap.get?_push_of_some _ e
  refine ⟨(s.heap.push { cls:=.type "range",data:=.fields #[.int lo t,.int hi u,.int 1 v] }).objs.size,[(s.heap.push { cls:=.type "range",data:=.fields #[.int lo t,.int hi u,.int 1 v] }).objs.size],_,_,H,rfl,
    I1.kept (t':=tk) fun b o e=>Heap.get?_push_of_some _ e,ZlC _ lo (hi-lo).toNat,?_,fun b hb=>?_,q⟩
  · have e1:lo+((0:Nat):Int)*1=lo:=by simp
    have e2:(((hi-lo).toNat:Nat):Int)-((0:Nat):Int)=Builtin.Range.rangeSize lo hi 1:=by rw [rangeSize_one]; split<;>omega
    show IsRangeIter _ _ (lo+((0:Nat):Int)*1) ((((hi-lo).toNat:Nat):Int)-((0:Nat):Int)) 1
    rw [e1,e2]
    exact Heap.get?_push_size _ rfl
  · have e:b=(s.heap.push { cls:=.type "range",data:=.fields #[.int lo t,.int hi u,.int 1 v] }).objs.size:=by simpa using hb
    subst e
    exact I1.fpOk (Nat.le_refl _) (I1.hok.fresh (Nat.le_refl _))
def ZvX (ta:TA):TI:=fun σ H R=>ta σ H fun vs H1=>∃j:Int,vs=[.int j]∧-(2 ^ 62)≤j∧j<2 ^ 62∧R (Itr 0 j.toNat) H1
theorem Znl {a:Expr} {ta:TA} {p pos:Pos} (hg:Gl X "range") (hm:X.mg "range"=none) (ha:PA X [a] ta) (hs:starEach [a] X.env=[(false,eval a X.env)]:=by rfl):PI X tg (.Call (.Name "range" p) [a] [] pos) (ZvX ta):=by
  intro pins s σ H R I h
  refine Call_ (Zhl I hg hm boot_range (PyProof.Rows.callWith_type1 (thn (ha pos pins s σ H _ I h) fun us s1 ⟨vs,H1,I1,r1,q1⟩=>?_) hs rfl))
  obtain ⟨j,e,q1,q2,q⟩:=q1
  subst e
  cases r1 with
  | cons r rr=>
    cases rr
    obtain ⟨t,rfl⟩:=r
    exact call_range_1 (Zpt I1 (by omega) (by omega) q1 q2 (by simpa using q))
def ZyY (wi:TI) (g:TG) (tb:TS):TS:=fun D σ H=>wi σ H fun J H1=>∃W:Nat→Nat→St→Hp→Prop,(∃m,W 0 m σ H1)∧∀i m σ H,W i m σ H→
  (J.stop i H∧D.nx σ H)∨(J.go i H∧∃N:St→Hp→Prop,(∀σ' H',N σ' H'→∃m',m'<m∧W (i+1) m' σ' H')∧∀x H',J.yld i H x H'→g x σ H' fun σ2 H2=>tb { D with nx:=N,ct:=N,bk:=D.nx } σ2 H2)
def ZiS (fp:List Addr) (h:Heap):List (Addr×Obj):=fp.filterMap fun b=>(h.get? b).map fun o=>(b,o)
theorem ZdX {fp:List Addr} {h:Heap} {b:Addr} {o:Obj} (hb:b∈fp) (e:h.get? b=some o):(b,o)∈ZiS fp h:=List.mem_filterMap.mpr ⟨b,hb,by rw [e]; rfl⟩
theorem Znp {fp:List Addr} {h:Heap} {p:Addr×Obj} (hp:p∈ZiS fp h):p.1∈fp∧h.get? p.1=some p.2:=by
  obtain ⟨b,hb,e⟩:=List.mem_filterMap.mp hp
  cases q:h.get? b with
  | none=>rw [q] at e; cases e
  | some o=>
    rw [q] at e
    have e':(b,o)=p:=Option.some.inj e
    subst e'
    exact ⟨hb,q⟩
theorem Inv.pinned {pins:List (Addr×Obj)} {σ:St} {H:Hp} {s:Shared} {fp:List Addr} (I:Inv X pins σ H s) (hf:∀b∈fp,ZhY X pins H b) (ho:∀b∈fp,∃o,s.heap.get? b=some o∧∀v,o.data≠.cell v):Inv X (pins++ZiS fp s.heap) σ H s:=
  I.pins_of fun p hp=>(List.mem_append.mp hp).elim (fun z=>I.pin p (List.mem_append_right _ z)) fun z=>by
    obtain ⟨hb,e⟩:=Znp z
    obtain ⟨f0,f1,f2,_⟩:=hf p.1 hb
    obtain ⟨o,e',d⟩:=ho p.1 hb
    rw [e] at e'; cases e'
    exact ⟨e,f0,f1,f2,d⟩
theorem Inv.unpinned {pins pl:List (Addr×Obj)} {σ:St} {H:Hp} {s:Shared} (I:Inv X (pins++pl) σ H s):Inv X pins σ H s:=I.pins_of fun p hp=>I.pin p (List.mem_append_right _ (List.mem_append_left _ hp))
theorem ZpB {iter:Expr} {body:List Stmt} {wi:TI} {g:TG} {tb:TS} {pos:Pos} (hp:PassesOwn (model X.prog X.w) X.A X.env X.xe) (hc:X.calm=true) (hi:PI X tg iter wi) (hg:PG X tg g) (hb:PSs X body tb)
    (hs:∀x,foldedSetIterable iter X.env x=pure x:=by intro _; rfl):PS X (.For tg iter body [] pos) (ZyY wi g tb):=by
  intro pins s σ H D I h
  refine wpAny_For (thn (hi pins s σ H _ I h) fun v s1 h1=>thn h1 fun itv s2 h2=>?_) hs
  obtain ⟨it,fp,tn,J,H2,e,I2,T,st2,f2,W,⟨m0,w0⟩,turn⟩:=h2
  subst e
  have stat:∀{H':Hp},(∀b∈fp,H' b=none)→∀b∈fp,ZhY X pins H' b:=fun hn b hb=>⟨hn b hb,(f2 b hb).2⟩
  refine codeAny_forLoop_any (fun n s'=>∃i σ' H',Inv X pins σ' H' s'∧tn i s'.heap∧(∀b∈fp,H' b=none)∧W i n σ' H') ?_ m0 ⟨0,σ,H2,I2,st2,fun b hb=>(f2 b hb).1,w0⟩
  rintro n s3 ⟨i,σ3,H3,I3,st3,fr3,w3⟩
  rcases turn i n σ3 H3 w3 with ⟨stop,qn⟩ | ⟨go,N,hN,step⟩
  · refine wpAny_passesOwn hp (thn (T.done X rfl rfl rfl hc i pins s3 σ3 H3 X.xe I3 (stat fr3) st3 stop) fun r s4 ⟨hr,I4⟩=>?_)
    subst hr
    exact wpAny_execs_nil ⟨σ3,H3,I4,qn⟩
  · refine wpAny_passesOwn hp (thn (T.item X rfl rfl rfl hc i pins s3 σ3 H3 X.xe I3 (stat fr3) st3 go) fun r s4 ⟨u,hr,h4⟩=>?_)
    subst hr
    refine wpAny_passesOwn hp (thn h4 fun _ s5 ⟨x,H5,I5,r5,y5,st5,fr5⟩=>?_)
    have I5':=I5.pinned (stat fr5) (T.obj _ _ st5)
    refine wpAny_passesOwn hp (thn (hg _ s5 σ3 H5 x u _ I5' r5 (step x H5 y5)) fun _ s6 ⟨σ6,H6,I6,q6⟩=>?_)
    refine wpAny_passesOwn hp (thn (hb _ s6 σ6 H6 _ I6 q6) fun f s7 q7=>?_)
    have again:∀{σ7:St} {H7:Hp},Inv X (pins++ZiS fp s5.heap) σ7 H7 s7→N σ7 H7→∃m,m<n∧∃i σ' H',Inv X pins σ' H' s7∧tn i s7.heap∧(∀b∈fp,H' b=none)∧W i m σ' H':=fun {σ7 H7} I7 n7=>by
      obtain ⟨m',hm,w7⟩:=hN σ7 H7 n7
      refine ⟨m',hm,i+1,σ7,H7,I7.unpinned,T.keep _ _ _ st5 fun b hb o e=>(I7.pin (b,o) (List.mem_append_right _ (List.mem_append_right _ (ZdX hb e)))).1,fun b hb=>?_,w7⟩
      obtain ⟨o,e,d⟩:=T.obj _ _ st5 b hb
      exact (I7.pin (b,o) (List.mem_append_right _ (List.mem_append_right _ (ZdX hb e)))).2.1
    cases f with
    | next=>obtain ⟨σ7,H7,I7,n7⟩:=q7; exact again I7 n7
    | cont=>obtain ⟨σ7,H7,I7,n7⟩:=q7; exact again I7 n7
    | brk=>obtain ⟨σ7,H7,I7,q7⟩:=q7; exact ⟨σ7,H7,I7.unpinned,q7⟩
    | ret v=>obtain ⟨x7,σ7,H7,I7,r7,q7⟩:=q7; exact ⟨x7,σ7,H7,I7.unpinned,r7,q7⟩
end
end L2
namespace L2
open PySem PySem.Spec PyProof.Rows
abbrev R2:=V→V→Hp→VK→Prop
def OpR (X:Cx) (f:Value→Value→Sem Value) (r:R2):Prop:=
  ∀(pins:List (Addr×Obj)) (s:Shared) (σ:St) (H:Hp) (x y:V) (v u:Value) (Q:VK),Inv X pins σ H s→RelV x v→RelV y u→r x y H Q→
    wpAny (model X.prog X.w) X.A (f v u) (EP X pins σ Q) X.xe s
def UnR (X:Cx) (f:Value→Sem Value) (r:V→Hp→VK→Prop):Prop:=
  ∀(pins:List (Addr×Obj)) (s:Shared) (σ:St) (H:Hp) (x:V) (v:Value) (Q:VK),Inv X pins σ H s→RelV x v→r x H Q→
    wpAny (model X.prog X.w) X.A (f v) (EP X pins σ Q) X.xe s
def CallR (X:Cx) (f:Value) (r:List V→Hp→VK→Prop):Prop:=
  ∀(pins:List (Addr×Obj)) (s:Shared) (σ:St) (H:Hp) (xs:List V) (us:List Value) (Q:VK),Inv X pins σ H s→Vals xs us→r xs H Q→
    wpAny (model X.prog X.w) X.A (call f us) (EP X pins σ Q) X.xe s
def ZzA (X:Cx) (r:V→Hp→(Bool→Hp→Prop)→Prop):Prop:=
  ∀(pins:List (Addr×Obj)) (s:Shared) (σ:St) (H:Hp) (x:V) (v:Value) (Q:Bool→Hp→Prop),Inv X pins σ H s→RelV x v→r x H Q→
    wpAny (model X.prog X.w) X.A (truthy v) (TP X pins σ Q) X.xe s
def tOp (r:R2) (ta tb:TE):TE:=fun σ H Q=>ta σ H fun x H1=>tb σ H1 fun y H2=>r x y H2 Q
def tUn (r:V→Hp→VK→Prop) (ta:TE):TE:=fun σ H Q=>ta σ H fun x H1=>r x H1 Q
def rI (C:Int→Int→Prop) (g:Int→Int→V):R2:=fun x y H Q=>∃i j,x=.int i∧y=.int j∧C i j∧Q (g i j) H
def rI0 (g:Int→Int→V):R2:=fun x y H Q=>∃i j,x=.int i∧y=.int j∧Q (g i j) H
def rU (g:Int→V):V→Hp→VK→Prop:=fun x H Q=>∃i,x=.int i∧Q (g i) H
section
variable {X:Cx} {a b c:Expr} {ta tb tc:TE} {pos:Pos}
theorem Zuk (ha:PE X a ta) (hb:PE X b tb) {pins:List (Addr×Obj)} {s:Shared} {σ:St} {H:Hp} {R:V→V→Hp→Prop} (I:Inv X pins σ H s)
    (h:ta σ H fun x H1=>tb σ H1 fun y H2=>R x y H2) {Q:Value→Shared→Prop} {f:Value→Value→Sem Value}
    (hf:∀v u s2 x y H2,Inv X pins σ H2 s2→RelV x v→RelV y u→R x y H2→wpAny (model X.prog X.w) X.A (f v u) Q X.xe s2) :
    wpAny (model X.prog X.w) X.A (eval a X.env) (fun v s₁=>wpAny (model X.prog X.w) X.A (eval b X.env) (fun u s₂=>wpAny (model X.prog X.w) X.A (f v u) Q X.xe s₂) X.xe s₁) X.xe s:=by
  refine thn (ha pins s σ H _ I h) fun v s1 ⟨x,H1,I1,r1,q1⟩=>?_
  refine thn (hb pins s1 σ H1 _ I1 q1) fun u s2 ⟨y,H2,I2,r2,q2⟩=>?_
  exact hf v u s2 x y H2 I2 r1 r2 q2
theorem ZvA {op:Operator} {r:R2} (ho:OpR X (binaryOp op) r) (ha:PE X a ta) (hb:PE X b tb):PE X (.BinOp a op b pos) (tOp r ta tb):=by
  intro pins s σ H Q I h
  exact wpAny_BinOp (Zuk ha hb I h fun v u s2 x y H2 I2 rx ry q=>ho pins s2 σ H2 x y v u Q I2 rx ry q)
theorem Zvx {op:UnaryOp} {r:V→Hp→VK→Prop} (ho:UnR X (unaryOp op) r) (ha:PE X a ta):PE X (.UnaryOp op a pos) (tUn r ta):=by
  intro pins s σ H Q I h
  exact UnaryOp_ (thn (ha pins s σ H _ I h) fun v s1 ⟨x,H1,I1,r1,q1⟩=>ho pins s1 σ H1 x v Q I1 r1 q1)
theorem opI {f:Value→Value→Sem Value} {C:Int→Int→Prop} {g:Int→Int→Int}
    (rule:∀(i j:Int) (t u:Tok) (s:Shared) (Q:Value→Shared→Prop) (E:Value→Shared→Prop),C i j→Q (.int (g i j) s.toks) { s with toks:=s.toks+1 }→wpAny (model X.prog X.w) X.A (f (.int i t) (.int j u)) Q E s) :
    OpR X f (rI C fun i j=>.int (g i j)):=by
  intro pins s σ H x y v u Q I rx ry h
  obtain ⟨i,j,rfl,rfl,hc,q⟩:=h
  obtain ⟨t,rfl⟩:=rx
  obtain ⟨t',rfl⟩:=ry
  exact rule i j t t' s _ _ hc ⟨.int (g i j),H,I.tok _,⟨_,rfl⟩,q⟩
theorem Zt2 {f:Value→Value→Sem Value} {g:Int→Int→Int}
    (rule:∀(i j:Int) (t u:Tok) (s:Shared) (Q:Value→Shared→Prop) (E:Value→Shared→Prop),Q (.int (g i j) s.toks) { s with toks:=s.toks+1 }→wpAny (model X.prog X.w) X.A (f (.int i t) (.int j u)) Q E s) :
    OpR X f (rI0 fun i j=>.int (g i j)):=by
  intro pins s σ H x y v u Q I rx ry h
  obtain ⟨i,j,rfl,rfl,q⟩:=h
  obtain ⟨t,rfl⟩:=rx
  obtain ⟨t',rfl⟩:=ry
  exact rule i j t t' s _ _ ⟨.int (g i j),H,I.tok _,⟨_,rfl⟩,q⟩
theorem ZrO {f:Value→Value→Sem Value} {g:Int→Int→Bool}
    (rule:∀(i j:Int) (t u:Tok) (s:Shared) (Q:Value→Shared→Prop) (E:Value→Shared→Prop),Q (.bool (g i j)) s→wpAny (model X.prog X.w) X.A (f (.int i t) (.int j u)) Q E s) :
    OpR X f (rI0 fun i j=>.bl (g i j)):=by
  intro pins s σ H x y v u Q I rx ry h
  obtain ⟨i,j,rfl,rfl,q⟩:=h
  obtain ⟨t,rfl⟩:=rx
  obtain ⟨t',rfl⟩:=ry
  exact rule i j t t' s _ _ ⟨.bl (g i j),H,I,rfl,q⟩
def CMul (i j:Int):Prop:=(-(2 ^ 64)<i∧i<2 ^ 64)∨(-(2 ^ 64)<j∧j<2 ^ 64)
theorem CMul.ok {i j:Int} (h:CMul i j):IntMulOk i j:=by
  rcases h with ⟨h1,h2⟩ | ⟨h1,h2⟩
  · exact .of_left (intBits_le_64 h1 h2)
  · exact .of_right (intBits_le_64 h1 h2)
theorem op_add:OpR X (binaryOp .Add) (rI0 fun i j=>.int (i+j)):=Zt2 fun _ _ _ _ _ _ _ q=>add_int q
theorem ZtU:OpR X (binaryOp .Sub) (rI0 fun i j=>.int (i-j)):=Zt2 fun _ _ _ _ _ _ _ q=>sub_int q
theorem op_mul:OpR X (binaryOp .Mult) (rI CMul fun i j=>.int (i*j)):=opI fun _ _ _ _ _ _ _ hc q=>mul_int q hc.ok
theorem ZtX:OpR X (binaryOp .Mod) (rI (fun _ j=>0<j) fun i j=>.int (i % j)):=opI fun i j _ _ _ _ _ hc q=>by
  have h1:(0:Int)<j:=hc
  exact mod_int' (by omega) (by rw [Int.fmod_eq_emod_of_nonneg i (by omega)]; exact q)
theorem Zt1:OpR X (binaryOp .BitAnd) (rI0 fun i j=>.int (Builtin.bitAnd i j)):=Zt2 fun _ _ _ _ _ _ _ q=>and_int q
theorem unI {f:Value→Sem Value} {g:Int→Int}
    (rule:∀(i:Int) (t:Tok) (s:Shared) (Q:Value→Shared→Prop) (E:Value→Shared→Prop),Q (.int (g i) s.toks) { s with toks:=s.toks+1 }→wpAny (model X.prog X.w) X.A (f (.int i t)) Q E s) :
    UnR X f (rU fun i=>.int (g i)):=by
  intro pins s σ H x v Q I rx h
  obtain ⟨i,rfl,q⟩:=h
  obtain ⟨t,rfl⟩:=rx
  exact rule i t s _ _ ⟨.int (g i),H,I.tok _,⟨_,rfl⟩,q⟩
theorem Zs4:UnR X (unaryOp .USub) (rU fun i=>.int (-i)):=unI fun _ _ _ _ _ q=>neg_int q
end
section
variable {X:Cx} {a b c:Expr} {ta tb tc:TE} {pos:Pos}
theorem Zqt {pins:List (Addr×Obj)} {σ:St} {H:Hp} {s:Shared} {Q:VK} {k k':Bool} (I:Inv X pins σ H s) (q:Q (.bl k) H) (e:k=k'):EP X pins σ Q (.bool k') s:=by
  subst e
  exact ⟨.bl k,H,I,rfl,q⟩
theorem ZvI:OpR X (compareOp .Lt) (rI0 fun i j=>.bl (decide (i<j))):=ZrO fun _ _ _ _ _ _ _ q=>lt_int q
theorem ZvJ:OpR X (compareOp .LtE) (rI0 fun i j=>.bl (decide (i≤j))):=ZrO fun _ _ _ _ _ _ _ q=>le_int q
theorem ZvK:OpR X (compareOp .Gt) (rI0 fun i j=>.bl (decide (j<i))):=ZrO fun _ _ _ _ _ _ _ q=>gt_int q
theorem ZvL:OpR X (compareOp .GtE) (rI0 fun i j=>.bl (decide (j≤i))):=ZrO fun _ _ _ _ _ _ _ q=>ge_int q
theorem op_isN:OpR X (compareOp .Is) (fun x y H Q=>y=.non∧Q (.bl (decide (x=.non))) H):=by
  intro pins s σ H x y v u Q I rx ry h
  obtain ⟨rfl,q⟩:=h
  cases ry
  refine is_none_gen (Zqt I q ?_)
  cases x<;>first
    | (cases rx; rfl)
    | (obtain ⟨t,rfl⟩:=rx; rfl)
theorem op_notN:OpR X (compareOp .IsNot) (fun x y H Q=>y=.non∧Q (.bl (!decide (x=.non))) H):=by
  intro pins s σ H x y v u Q I rx ry h
  obtain ⟨rfl,q⟩:=h
  cases ry
  refine isnot_none_gen (Zqt I q ?_)
  cases x<;>first
    | (cases rx; rfl)
    | (obtain ⟨t,rfl⟩:=rx; rfl)
theorem OpR.or {f:Value→Value→Sem Value} {r r':R2} (h:OpR X f r) (h':OpR X f r'):OpR X f (fun x y H Q=>r x y H Q∨r' x y H Q):=by
  intro pins s σ H x y v u Q I rx ry q
  rcases q with q | q
  · exact h pins s σ H x y v u Q I rx ry q
  · exact h' pins s σ H x y v u Q I rx ry q
theorem ZpY (b:Expr) {op:CmpOp} (h:op≠.In:=by decide) (h2:op≠.NotIn:=by decide):behindInMarks op b=false:=by
  have e1:(op == CmpOp.In)=false:=by cases op<;>first | rfl | exact absurd rfl h
  have e2:(op == CmpOp.NotIn)=false:=by cases op<;>first | rfl | exact absurd rfl h2
  cases b<;>simp [behindInMarks,e1,e2]
theorem ZrK {op:CmpOp} {r:R2} (ho:OpR X (compareOp op) r) (ha:PE X a ta) (hb:PE X b tb) (hm:behindInMarks op b=false):PE X (.Compare a [op] [b] pos) (tOp r ta tb):=by
  intro pins s σ H Q I h
  exact wpAny_Compare1 (Zuk ha hb I h fun v u s2 x y H2 I2 rx ry q=>ho pins s2 σ H2 x y v u Q I2 rx ry q) hm
def Zsx (t:TE):TT:=fun σ H Q=>t σ H fun x H'=>∃k,x=.bl k∧Q k H'
theorem Zrx {op:CmpOp} {r:R2} (ho:OpR X (compareOp op) r) (ha:PE X a ta) (hb:PE X b tb) (hm:behindInMarks op b=false):PT X (.Compare a [op] [b] pos) (Zsx (tOp r ta tb)):=by
  intro pins s σ H Q I h
  refine wpAny_isTrue_Compare1 (thn (ha pins s σ H _ I h) fun v s1 ⟨x,H1,I1,r1,q1⟩=>thn (hb pins s1 σ H1 _ I1 q1) fun u s2 ⟨y,H2,I2,r2,q2⟩=>
    thn (ho pins s2 σ H2 x y v u _ I2 r1 r2 q2) fun c s3 ⟨z,H3,I3,r3,k,e,q3⟩=>?_) hm
  subst e
  cases r3
  exact wpAny_truthy_bool ⟨H3,I3,q3⟩
def ZlG (r r':R2) (ta tb tc:TE):TE:=fun σ H Q=>ta σ H fun x H1=>tb σ H1 fun y H2=>r x y H2 fun z H3=>∃k,z=.bl k∧
  (if k=true then tc σ H3 fun w' H4=>r' y w' H4 Q else Q (.bl false) H3)
theorem ZpM {op op':CmpOp} {r r':R2} (ho:OpR X (compareOp op) r) (ho':OpR X (compareOp op') r') (ha:PE X a ta) (hb:PE X b tb) (hc:PE X c tc)
    (hm:lastMarks [op,op'] [b,c]=false:=by with_unfolding_all rfl):PE X (.Compare a [op,op'] [b,c] pos) (ZlG r r' ta tb tc):=by
  intro pins s σ H Q I h
  refine Compare_chain (thn (ha pins s σ H _ I h) fun v s1 ⟨x,H1,I1,r1,q1⟩=>chain_link (thn (hb pins s1 σ H1 _ I1 q1) fun u s2 ⟨y,H2,I2,r2,q2⟩=>
    thn (ho pins s2 σ H2 x y v u _ I2 r1 r2 q2) fun d s3 ⟨z,H3,I3,r3,k,e,q3⟩=>?_)) hm
  subst e
  cases r3
  refine wpAny_truthy_bool ?_
  cases k with
  | false=>exact ite_ff ⟨.bl false,H3,I3,rfl,q3⟩
  | true=>exact ite_tt (chain_last (thn (hc pins s3 σ H3 _ I3 q3) fun w' s4 ⟨z',H4,I4,r4,q4⟩=>ho' pins s4 σ H4 y z' u w' Q I4 r2 r4 q4))
theorem Zpx {op op':CmpOp} {r r':R2} (ho:OpR X (compareOp op) r) (ho':OpR X (compareOp op') r') (ha:PE X a ta) (hb:PE X b tb) (hc:PE X c tc)
    (hm:lastMarks [op,op'] [b,c]=false:=by with_unfolding_all rfl):PT X (.Compare a [op,op'] [b,c] pos) (Zsx (ZlG r r' ta tb tc)):=by
  intro pins s σ H Q I h
  refine isTrue_chain (thn (ha pins s σ H _ I h) fun v s1 ⟨x,H1,I1,r1,q1⟩=>test_link (thn (hb pins s1 σ H1 _ I1 q1) fun u s2 ⟨y,H2,I2,r2,q2⟩=>
    thn (ho pins s2 σ H2 x y v u _ I2 r1 r2 q2) fun d s3 ⟨z,H3,I3,r3,k,e,q3⟩=>?_)) hm
  subst e
  cases r3
  refine wpAny_truthy_bool ?_
  cases k with
  | false=>
    obtain ⟨k',e',q'⟩:=q3
    cases e'
    exact ite_ff ⟨H3,I3,q'⟩
  | true=>
    refine ite_tt (test_last (thn (hc pins s3 σ H3 _ I3 q3) fun w' s4 ⟨z',H4,I4,r4,q4⟩=>thn (ho' pins s4 σ H4 y z' u w' _ I4 r2 r4 q4) fun d' s5 ⟨z2,H5,I5,r5,k2,e2,q5⟩=>?_))
    subst e2
    cases r5
    exact wpAny_truthy_bool ⟨H5,I5,q5⟩
def TruV (K:PySem.W.Frag) (x:V) (H:Hp) (k:Bool):Prop:=
  match x with
  | .non=>k=false
  | .bl b=>k=b
  | .int i=>k=(i != 0)
  | .str y=>y.length≤sizeLine∧k=((y.length:Int) != 0)
  | .byt y=>y.size≤sizeLine∧k=((y.size:Int) != 0)
  | .ref p=>(∃xs,SqL K H p xs∧k=!xs.isEmpty)∨(∃xs,SqT K H p xs∧k=!xs.isEmpty)∨∃kvs,H p=some (.dK kvs)∧k=!kvs.isEmpty
  | _=>False
theorem ZlW {κ:Type} {kvs:List (κ×V)} {vs:List (κ×Value)} (r:KV kvs vs):(!vs.isEmpty)=!kvs.isEmpty:=by
  cases r<;>rfl
theorem Zho {xs:List V} {its:List Value} (r:Vals xs its):(!its.toArray.isEmpty)=!xs.isEmpty:=by
  cases r<;>simp
theorem Zgj:(sizeLine:Nat)<2 ^ 63:=by rw [sizeLine_eq]; decide
theorem Zpf:ZzA X (fun x H Q=>∃k,TruV X.K x H k∧Q k H):=by
  intro pins s σ H x v Q I rx h
  obtain ⟨k,e,q⟩:=h
  have hl:=Zgj
  have hs:sizeLine=16777216:=sizeLine_eq
  cases x with
  | non=>
    cases rx
    have e':k=false:=e
    subst e'
    exact truthy_none ⟨H,I,q⟩
  | bl b=>
    cases rx
    have e':k=b:=e
    subst e'
    exact wpAny_truthy_bool ⟨H,I,q⟩
  | int i=>
    obtain ⟨t,rfl⟩:=rx
    have e':k=(i != 0):=e
    subst e'
    exact PySem.P.truthy_int ⟨H,I,q⟩
  | str y=>
    obtain ⟨t,rfl⟩:=rx
    obtain ⟨hy,e'⟩:y.length≤sizeLine∧k=((y.length:Int) != 0):=e
    subst e'
    exact PySem.P.truthy_str (by omega) ⟨H,I.tok _,q⟩
  | byt y=>
    obtain ⟨t,rfl⟩:=rx
    obtain ⟨hy,e'⟩:y.size≤sizeLine∧k=((y.size:Int) != 0):=e
    subst e'
    exact PySem.W.truthy_bytes (by omega) ⟨H,I.tok _,q⟩
  | ref p=>
    cases rx
    have e':(∃xs,SqL X.K H p xs∧k=!xs.isEmpty)∨(∃xs,SqT X.K H p xs∧k=!xs.isEmpty)∨∃kvs,H p=some (.dK kvs)∧k=!kvs.isEmpty:=e
    rcases e' with ⟨xs,hx,e'⟩ | ⟨xs,hx,e'⟩ | ⟨kvs,hx,e'⟩
    · subst e'
      obtain ⟨its,r,pl,hz⟩:=I.list hx
      have hlen:=r.length
      exact wpAny_truthy_list pl.isList (by simp only [List.size_toArray]; omega) ⟨H,I.tok _,by rw [Zho r]; exact q⟩
    · subst e'
      obtain ⟨its,r,pl,hz⟩:=I.tuple hx
      have hlen:=r.length
      exact truthy_tuple pl (by simp only [List.size_toArray]; omega) ⟨H,I.tok _,by rw [Zho r]; exact q⟩
    · subst e'
      obtain ⟨hz,hS,vs,r,m⟩:kvs.length≤sizeLine∧(p == sysModules)=false∧∃vs,KV kvs vs∧s.heap.DictOf (Zas X.prog X.w) p vs:=I.hok p _ hx
      have hlen:kvs.length=vs.length:=Paired.length r
      exact wpAny_truthy_dict hS m (by omega) ⟨H,I.tok _,by rw [ZlW r]; exact q⟩
  | _=>exact (show False from e).elim
theorem Zpw (ha:PE X a ta) (he:∀whole,isTrue a X.env whole=(do let v ←whole; standAt a.pos; holding [v] (truthy v))) :
    PT X a (fun σ H Q=>ta σ H fun x H'=>∃k,TruV X.K x H' k∧Q k H'):=by
  intro pins s σ H Q I h
  exact isTrue_plain (thn (ha pins s σ H _ I h) fun v s1 ⟨x,H1,I1,r1,q1⟩=>Zpf pins s1 σ H1 x v Q I1 r1 q1) (he _)
theorem op_add_str:OpR X (binaryOp .Add) (fun x y H Q=>∃i j,x=.str i∧y=.str j∧i.length+j.length≤sizeLine∧Q (.str (i++j)) H):=by
  intro pins s σ H x y v u Q I rx ry h
  obtain ⟨i,j,rfl,rfl,hz,q⟩:=h
  obtain ⟨t,rfl⟩:=rx
  obtain ⟨t',rfl⟩:=ry
  exact add_str (fun t' tk=>⟨.str (i++j),H,I.tok _,⟨_,rfl⟩,q⟩) hz
theorem Zfw {x:V} {us:List Value} (r:Vals [x] us):∃u,us=[u]∧RelV x u:=by
  cases r with
  | cons r1 r2=>cases r2; exact ⟨_,rfl,r1⟩
theorem Zpc {x y:V} {us:List Value} (r:Vals [x,y] us):∃u w',us=[u,w']∧RelV x u∧RelV y w':=by
  cases r with
  | cons r1 r2=>
    cases r2 with
    | cons r3 r4=>cases r4; exact ⟨_,_,rfl,r1,r3⟩
theorem ZnH (hc:X.calm=true):CallR X (.builtin "max") (fun xs H Q=>∃i j,xs=[.int i,.int j]∧Q (.int (if j > i then j else i)) H):=by
  intro pins s σ H xs us Q I r h
  obtain ⟨i,j,rfl,q⟩:=h
  obtain ⟨u,w',rfl,⟨t,rfl⟩,⟨t',rfl⟩⟩:=Zpc r
  refine max_two_ints (I.ok.hd hc) fun h' tk k=>⟨_,H,I.kept k,?_,q⟩
  by_cases hj:j > i
  · rw [if_pos hj,if_pos hj]; exact ⟨_,rfl⟩
  · rw [if_neg hj,if_neg hj]; exact ⟨_,rfl⟩
theorem ZnG (hc:X.calm=true):CallR X (.builtin "min") (fun xs H Q=>∃i j,xs=[.int i,.int j]∧Q (.int (if j<i then j else i)) H):=by
  intro pins s σ H xs us Q I r h
  obtain ⟨i,j,rfl,q⟩:=h
  obtain ⟨u,w',rfl,⟨t,rfl⟩,⟨t',rfl⟩⟩:=Zpc r
  refine min_two_ints (I.ok.hd hc) fun h' tk k=>⟨_,H,I.kept k,?_,q⟩
  by_cases hj:j<i
  · rw [if_pos hj,if_pos hj]; exact ⟨_,rfl⟩
  · rw [if_neg hj,if_neg hj]; exact ⟨_,rfl⟩
theorem ZnI:CallR X (.type "int") (fun xs H Q=>(∃i,xs=[.int i]∧Q (.int i) H)∨∃k,xs=[.bl k]∧Q (.int (if k then 1 else 0)) H):=by
  intro pins s σ H xs us Q I r h
  rcases h with ⟨i,rfl,q⟩ | ⟨k,rfl,q⟩
  · obtain ⟨u,rfl,t,rfl⟩:=Zfw r
    exact call_int_int ⟨.int i,H,I,⟨_,rfl⟩,q⟩
  · obtain ⟨u,rfl,r1⟩:=Zfw r
    cases r1
    exact call_int_bool ⟨.int (if k then 1 else 0),H,I.tok _,⟨_,rfl⟩,q⟩
end
end L2
namespace L2
open PySem PySem.Spec PyProof.Rows
structure ObjM (h:Heap) (x dx C:Addr) (mA:Str→Option Value):Prop where
  obj:h.get? x=some (PySem.W.instObj C dx)
  ns:h.Ns1 dx mA
  ne:dx≠x
theorem Zns {h:Heap} {dx:Addr} {mA:Str→Option Value} (n:h.Ns1 dx mA):∃od,h.get? dx=some od∧∀name,PySem.W.lookIn name od=some (mA name):=by
  obtain ⟨o,es,ep,ho,hd,hk,_,hm⟩:=n
  refine ⟨o,ho,fun name=>?_⟩
  have e:=hm name
  unfold nsFind findBy at e
  rw [←Array.find?_toList] at e
  unfold PySem.W.lookIn
  rw [hd]
  dsimp only
  split
  · rename_i y q
    rw [q] at e
    exact congrArg some e
  · rename_i q
    rw [q] at e
    have a:es.toList.any (·.refKey)=false:=by
      rw [List.any_eq_false]
      intro y hy
      obtain ⟨z,t,hkey⟩:=hk y (Array.mem_toList_iff.mp hy)
      simp [DictEntry.refKey,hkey]
    have a':¬es.toList.any (·.refKey)=true:=by rw [a]; exact Bool.false_ne_true
    rw [if_neg a']
    exact congrArg some e
theorem ObjM.look {h:Heap} {x dx C:Addr} {mA:Str→Option Value} (I:ObjM h x dx C mA):∃od,PySem.W.InstAt h x (PySem.W.instObj C dx) C (some od)∧∀name,PySem.W.lookIn name od=some (mA name):=
  let ⟨od,ho,hl⟩:=Zns I.ns
  ⟨od,⟨I.obj,rfl,rfl,ho⟩,hl⟩
section
variable {prog:Program} {w:World} {A:Around} {E:Value→Shared→Prop} {s:Shared} {K:PySem.W.Frag} {x dx C f:Addr} {mA:Str→Option Value} {name:Str} {v:Value}
theorem Zr5 {expr:Bool} {Q:Value→Shared→Prop} (X:K.In s.heap) (I:ObjM s.heap x dx C mA) (hg:PySem.W.plainGet K C name=true) (hh:PySem.W.hasDictIn K C=true)
    (ha:PySem.W.findIn K (.ref C) name=some none) (hv:mA name=some v) (hv':PySem.W.handedIn v=true) (h:Q v { s with toks:=s.toks+1 }) :
    wpAny (model prog w) A (getAttr (.ref x) name expr) Q E s:=by
  obtain ⟨od,J,hl⟩:=I.look
  exact PySem.W.get_value X J (PySem.W.plainGet_of hg).1 (PySem.W.findObj_own hh ha rfl (by rw [hl,hv])) hv' h
theorem Zro {ns:List Str} {Q:Unit→Shared→Prop} (X:K.In s.heap) (I:ObjM s.heap x dx C mA)
    (hs:PySem.W.findIn K (.ref C) "__setattr__"=some (some (.builtin "object.__setattr__"))) (hp:PySem.W.plainOver K C=true) (ht:PySem.W.takerIn K C name=some none) (hh:PySem.W.hasDictIn K C=true)
    (hw:PySem.Within mA ns) (hsz:ns.length≤sizeLine)
    (h:∀h',ObjM h' x dx C (fun y=>if y=name then some v else mA y)→Heap.SameBut dx s.heap h'→Q () { s with heap:=h',toks:=s.toks+2 }) :
    wpAny (model prog w) A (setAttr (.ref x) name v) Q E s:=by
  obtain ⟨od,J,hl⟩:=I.look
  refine PySem.W.set_plain X J hs (PySem.W.osa_open (s:={ s with toks:=s.toks+1 }) (r:=none) X J hp ht fun b=>?_)
  obtain ⟨cd,hc,hd'⟩:=PySem.W.any_some hh
  have hx:s.heap.get? x=some ⟨.ref C,some dx,.plain,#[]⟩:=I.obj
  refine wpAny_bind (wpAny_pure (wpAny_bind (wpAny_bind (wpAny_loadPart hx (wpAny_bind (PySem.W.Looks.here (s:={ s with toks:=s.toks+1 }) (PySem.W.looks_clsIn X hc) ?_))))))
  rw [hd']
  refine wpAny_pure (a:=some dx) (wpAny_bind (wpAny_pure (wpAny_bind ?_)))
  refine wpAny_nsSet1 (s:={ s with toks:=s.toks+1 }) I.ns fun h' hn2 hs2=>?_
  obtain ⟨oD,esD,epD,hoD,hdD,hcD⟩:=hn2.count (PySem.Within.cons name v hw)
  refine wpAny_bind (wpAny_lookBehind hoD (by rw [hdD]; exact pastItsLine_dict (Nat.le_trans hcD (by rw [List.length_cons]; omega))) ?_)
  exact wpAny_pure (h _ ⟨(hs2.2 _ (Ne.symm I.ne)).trans I.obj,hn2,I.ne⟩ hs2)
theorem Zqb {R:Result→Shared→Prop} {vs:List Value} {kw:List (Str×Value)} (X:K.In s.heap) (hm:PySem.W.makesIn K C=true)
    (hi:PySem.W.findIn K (.ref C) "__init__"=some (some (.ref f))) (hf:PySem.W.typeIn K (.ref f)=some (.type "function"))
    (h:codeAny (model prog w) (A.under (.builtin "type.__call__" ⟨.ref C::vs,kw⟩)) (.call (.ref f) ⟨.ref (s.heap.objs.size+1)::vs,kw⟩) (PySem.W.InitBack (s.heap.objs.size+1) R)
      { s with heap:=(s.heap.push PySem.W.emptyDict).push (PySem.W.instObj C s.heap.objs.size) }) :
    codeAny (model prog w) A (.call (.ref C) ⟨vs,kw⟩) R s:=by
  obtain ⟨hh,g,d,t,os⟩:=s
  exact PySem.W.make_core (PySem.W.makes_of X hm) (PySem.W.looks_findIn X hi) (fun self=>PySem.W.bind_fn X self hf) (.inl rfl) h
end
def ZdE (f:Str) (v:V):List (Str×V)→List (Str×V)
  | []=>[(f,v)]
  | (g,x)::r=>if g=f then (g,v)::r else (g,x)::ZdE f v r
theorem Zgz (f g:Str) (v:V):∀fs:List (Str×V),(ZdE f v fs).lookup g=if g=f then some v else fs.lookup g
  | []=>by
    show List.lookup g [(f,v)]=_
    by_cases h:g=f
    · have hb:(g == f)=true:=beq_iff_eq.mpr h
      simp only [List.lookup,hb,if_pos h]
    · have hb:(g == f)=false:=beq_eq_false_iff_ne.mpr h
      simp only [List.lookup,hb,if_neg h]
  | (k,x)::r=>by
    have ih:=Zgz f g v r
    rw [show ZdE f v ((k,x)::r)=(if k=f then (k,v)::r else (k,x)::ZdE f v r) from rfl]
    by_cases hk:k=f
    · rw [if_pos hk]
      by_cases h:g=k
      · have hb:(g == k)=true:=beq_iff_eq.mpr h
        simp only [List.lookup,hb,if_pos (h.trans hk)]
      · have hb:(g == k)=false:=beq_eq_false_iff_ne.mpr h
        simp only [List.lookup,hb,if_neg (fun e:g=f=>h (e.trans hk.symm))]
    · rw [if_neg hk]
      by_cases h:g=k
      · have hb:(g == k)=true:=beq_iff_eq.mpr h
        simp only [List.lookup,hb,if_neg (fun e:g=f=>hk (h.symm.trans e))]
      · have hb:(g == k)=false:=beq_eq_false_iff_ne.mpr h
        simp only [List.lookup,hb]
        exact ih
theorem Zgo (f:Str) (v:V):∀fs:List (Str×V),f∈(ZdE f v fs).map (·.1)∧∀g,g∈fs.map (·.1)→g∈(ZdE f v fs).map (·.1)
  | []=>⟨by simp [ZdE],fun g h=>by simp at h⟩
  | (k,x)::r=>by
    obtain ⟨i1,i2⟩:=Zgo f v r
    rw [show ZdE f v ((k,x)::r)=(if k=f then (k,v)::r else (k,x)::ZdE f v r) from rfl]
    by_cases hk:k=f
    · rw [if_pos hk]
      subst hk
      exact ⟨by simp,fun g h=>by simpa using h⟩
    · rw [if_neg hk]
      refine ⟨?_,fun g h=>?_⟩
      · rw [List.map_cons]
        exact List.mem_cons_of_mem _ i1
      · rw [List.map_cons] at h ⊢
        rcases List.mem_cons.mp h with e | e
        · exact List.mem_cons.mpr (.inl e)
        · exact List.mem_cons_of_mem _ (i2 g e)
theorem ZgA (f:Str) (v:V):∀fs:List (Str×V),(ZdE f v fs).length≤fs.length+1
  | []=>by simp [ZdE]
  | (k,x)::r=>by
    have ih:=ZgA f v r
    rw [show ZdE f v ((k,x)::r)=(if k=f then (k,v)::r else (k,x)::ZdE f v r) from rfl]
    by_cases hk:k=f
    · rw [if_pos hk,List.length_cons,List.length_cons]; omega
    · rw [if_neg hk,List.length_cons,List.length_cons]; omega
theorem RelO.some_of {v:V} {o:Option Value} (r:RelO (some v) o):∃u,o=some u∧RelV v u:=by
  cases o with
  | none=>exact (show False from r).elim
  | some u=>exact ⟨u,rfl,r⟩
theorem RelO.none_of {o:Option Value} (r:RelO none o):o=none:=by
  cases o with
  | none=>rfl
  | some u=>exact (show False from r).elim
theorem Znz {v:V} {u:Value} (r:RelV v u):PySem.W.handedIn u=true:=by
  cases v with
  | non=>cases (show u=Value.none from r); rfl
  | bl b=>cases (show u=Value.bool b from r); rfl
  | int i=>obtain ⟨t,e⟩:=(show ∃t,u=Value.int i t from r); cases e; rfl
  | str x=>obtain ⟨t,e⟩:=(show ∃t,u=Value.str x t from r); cases e; rfl
  | byt b=>obtain ⟨t,e⟩:=(show ∃t,u=Value.bytes b t from r); cases e; rfl
  | flt b=>obtain ⟨t,e⟩:=(show ∃t,u=Value.float b t from r); cases e; rfl
  | ref a=>cases (show u=Value.ref a from r); rfl
  | ty n=>cases (show u=Value.type n from r); rfl
section
variable {P:Program} {w:World} {H H':Hp} {h h':Heap} {a C dx:Addr} {fs fs':List (Str×V)}
theorem Zi3 (hok:HOk P w H h) (e:H a=some (.ins C dx fs)):∃mA,ObjM h a dx C mA∧(∀f,RelO (fs.lookup f) (mA f))∧PySem.Within mA (fs.map (·.1))∧fs.length≤1000∧H dx=some (.own a):=by
  obtain ⟨d,z,ne,ob,mA,n,r,q⟩:=(show ObjOk P w H h a (.ins C dx fs) from hok a _ e)
  exact ⟨mA,⟨ob,n,ne⟩,r,q,z,d⟩
end
structure Cls (K:PySem.W.Frag) (C:Addr):Prop where
  pg:PySem.W.plainGet K C Str.empty=true
  hd:PySem.W.hasDictIn K C=true
  po:PySem.W.plainOver K C=true
  sa:PySem.W.findIn K (.ref C) "__setattr__"=some (some (.builtin "object.__setattr__"))
theorem Cls.get {K:PySem.W.Frag} {C:Addr} (c:Cls K C) (f:Str):PySem.W.plainGet K C f=true:=c.pg
def NoAttr (K:PySem.W.Frag) (C:Addr) (f:Str):Prop:=PySem.W.findIn K (.ref C) f=some none
theorem NoAttr.taker {K:PySem.W.Frag} {C:Addr} {f:Str} (n:NoAttr K C f):PySem.W.takerIn K C f=some none:=by
  unfold PySem.W.takerIn
  rw [show PySem.W.findIn K (.ref C) f=some none from n]
  rfl
structure Con (K:PySem.W.Frag) (C:Addr) (f:Str) (v:V) (u:Value):Prop where
  at_:PySem.W.findIn K (.ref C) f=some (some u)
  rel:RelV v u
  get:PySem.W.specialIn K u "__get__"=some none
  cp:PySem.W.copiedNames.contains f=false
structure ZzB (K:PySem.W.Frag) (C:Addr) (m:Str) (f:Addr):Prop where
  at_:PySem.W.findIn K (.ref C) m=some (some (.ref f))
  fn:PySem.W.isFn K (.ref f)=true
  kp:PySem.W.keepIn K (.ref f)=true
section
variable {X:Cx} {pins:List (Addr×Obj)} {σ:St} {H:Hp} {s:Shared} {a C dx:Addr} {fs:List (Str×V)} {f:Str} {v:V} {A:Around} {E:Value→Shared→Prop}
theorem ZlY {b:Bool} {Q:Value→Shared→Prop} (I:Inv X pins σ H s) (e:H a=some (.ins C dx fs)) (c:Cls X.K C) (n:NoAttr X.K C f) (l:fs.lookup f=some v)
    (h:∀u s',Inv X pins σ H s'→RelV v u→Q u s'):wpAny (model X.prog X.w) A (getAttr (.ref a) f b) Q E s:=by
  obtain ⟨mA,O,r,_,_,_⟩:=Zi3 I.hok e
  obtain ⟨u,hu,ru⟩:=RelO.some_of (v:=v) (o:=mA f) (by rw [←l]; exact r f)
  exact Zr5 I.kIn O (c.get f) c.hd n hu (Znz ru) (h u _ (I.tok _) ru)
theorem ZlH {y:V} {u:Value} {Q:Unit→Shared→Prop} (I:Inv X pins σ H s) (e:H a=some (.ins C dx fs)) (c:Cls X.K C) (n:NoAttr X.K C f) (hl:fs.length<1000) (ry:RelV y u)
    (h:∀s',Inv X pins σ (upd H a (.ins C dx (ZdE f y fs))) s'→Q () s'):wpAny (model X.prog X.w) A (setAttr (.ref a) f u) Q E s:=by
  obtain ⟨mA,O,r,wi,_,ho⟩:=Zi3 I.hok e
  have hz:(fs.map (·.1)).length≤sizeLine:=by rw [List.length_map,sizeLine_eq]; omega
  refine Zro I.kIn O c.sa c.po n.taker c.hd wi hz fun h' O' sb=>h _ ?_
  have hd:∃o,h'.get? dx=some o:=let ⟨o,_,_,e',_⟩:=O'.ns; ⟨o,e'⟩
  refine I.write (x:=a) (e:=dx) (by rw [e]; exact True.intro) (.inr ho) (fun b q hb z=>(sb.2 b hb).trans z) hd ?_
  refine ⟨by rw [ZS O.ne]; exact ho,?_,O.ne,O'.obj,_,O'.ns,fun g=>?_,fun g hg=>?_⟩
  · have:=ZgA f y fs; omega
  · show RelO ((ZdE f y fs).lookup g) (if g=f then some u else mA g)
    rw [Zgz]
    by_cases q:g=f
    · rw [if_pos q,if_pos q]; exact ry
    · rw [if_neg q,if_neg q]; exact r g
  · by_cases q:g=f
    · rw [q]; exact (Zgo f y fs).1
    · refine (Zgo f y fs).2 g (wi g fun z=>hg ?_)
      show (if g=f then some u else mA g)=none
      rw [if_neg q]; exact z
theorem Inv.made (I:Inv X pins σ H s):Inv X pins σ (upd (upd H s.heap.objs.size (.own (s.heap.objs.size+1))) (s.heap.objs.size+1) (.ins C s.heap.objs.size []))
    { s with heap:=(s.heap.push PySem.W.emptyDict).push (PySem.W.instObj C s.heap.objs.size) }:=by
  have e1:(s.heap.push PySem.W.emptyDict).get? s.heap.objs.size=some PySem.W.emptyDict:=Heap.get?_push_size s.heap rfl
  have e2:((s.heap.push PySem.W.emptyDict).push (PySem.W.instObj C s.heap.objs.size)).get? (s.heap.objs.size+1)=some (PySem.W.instObj C s.heap.objs.size):=by
    have:=Heap.get?_push_size (s.heap.push PySem.W.emptyDict) (o:=PySem.W.instObj C s.heap.objs.size) rfl
    rwa [Heap.size_push] at this
  have e3:(s.heap.push PySem.W.emptyDict).Ns s.heap.objs.size (fun _=>none):=⟨PySem.W.emptyDict,#[],_,e1,rfl,(fun e he=>absurd he (by simp)),fun _=>rfl⟩
  have I1:=I.laid (a:=s.heap.objs.size) (o:=.own (s.heap.objs.size+1)) (h':=s.heap.push PySem.W.emptyDict) (t':=s.toks) (fun b u q=>Heap.get?_push_of_some _ q) (Nat.le_refl _) ⟨_,e1⟩
  refine I1.laid (a:=s.heap.objs.size+1) (o:=.ins C s.heap.objs.size []) (t':=s.toks) (fun b u q=>Heap.get?_push_of_some _ q) (Nat.le_of_eq (Heap.size_push _ _)) ?_
  have ne:s.heap.objs.size≠s.heap.objs.size+1:=Nat.ne_of_lt (Nat.lt_succ_self _)
  refine ⟨by rw [ZS ne,zy],Nat.zero_le _,ne,e2,fun _=>none,(Heap.Ns1.of_empty e3).at fun o q=>Heap.get?_push_of_some _ q,fun _=>True.intro,fun y hy=>absurd rfl hy⟩
theorem Zsh {prog:Program} {w:World} {env:Env} {e:Expr} {f:Str} {pos:Pos} {s:Shared} {Q:Value→Shared→Prop} (hb:attributeBase e f env (eval e env)=eval e env)
    (h:wpAny (model prog w) A (eval e env) (fun o s₁=>wpAny (model prog w) A (getAttr o f true) Q E s₁) E s):wpAny (model prog w) A (eval (.Attribute e f pos) env) Q E s:=
  Attribute_any_ h (by rw [arm_eval_Attribute,hb])
end
def ZyZ (K:PySem.W.Frag) (ta:TE) (f:Str):TE:=fun σ H Q=>ta σ H fun x H1=>∃a C dx fs v,x=.ref a∧H1 a=some (.ins C dx fs)∧Cls K C∧NoAttr K C f∧fs.lookup f=some v∧Q v H1
def Zy6 (K:PySem.W.Frag) (ta tv:TE) (f:Str):TS:=fun D σ H=>tv σ H fun y H1=>ta σ H1 fun x H2=>∃a C dx fs,x=.ref a∧H2 a=some (.ins C dx fs)∧Cls K C∧NoAttr K C f∧fs.length<1000∧
  D.nx σ (upd H2 a (.ins C dx (ZdE f y fs)))
section
variable {X:Cx} {o e value:Expr} {f:Str} {pos pos' tpos:Pos} {ta tv:TE}
theorem ZtQ (he:PE X e ta) (hb:attributeBase e f X.env (eval e X.env)=eval e X.env):PE X (.Attribute e f pos) (ZyZ X.K ta f):=by
  intro pins s σ H Q I h
  refine Zsh hb (thn (he pins s σ H _ I h) fun u s1 ⟨x,H1,I1,rx,a,C,dx,fs,v,ex,ea,c,n,l,q⟩=>?_)
  subst ex
  obtain rfl:u=Value.ref a:=rx
  exact ZlY I1 ea c n l fun u' s2 I2 ru=>⟨v,H1,I2,ru,q⟩
theorem ZtE (ha:PE X o ta) (hv:PE X value tv) (hs:swapsWith value (some (.Attribute o f pos')) pos.line X.env=pure false):PS X (.Assign [.Attribute o f pos'] value pos) (Zy6 X.K ta tv f):=by
  intro pins s σ H D I h
  refine plainObj_wpAny_Assign_Attribute (thn (hv pins s σ H _ I h) fun u s1 ⟨y,H1,I1,ry,q⟩=>thn (ha pins s1 σ H1 _ I1 q) fun ov s2 ⟨x,H2,I2,rx,a,C,dx,fs,ex,ea,c,n,l,q2⟩=>?_) hs
  subst ex
  obtain rfl:ov=Value.ref a:=rx
  exact ZlH I2 ea c n l ry fun s3 I3=>⟨σ,_,I3,q2⟩
end
section
variable {X:Cx} {pins:List (Addr×Obj)} {σ:St} {H:Hp} {s:Shared} {A:Around} {E:Value→Shared→Prop} {Q:Value→Shared→Prop} {c:Value} {b:Bool}
inductive Zf5 (K:PySem.W.Frag) (H:Hp):V→Value→Prop where
  | non:Zf5 K H .non (.type "NoneType")
  | bl (x:Bool):Zf5 K H (.bl x) (.type "bool")
  | int (i:Int):Zf5 K H (.int i) (.type "int")
  | str (x:Str):Zf5 K H (.str x) (.type "str")
  | flt (x:UInt64):Zf5 K H (.flt x) (.type "float")
  | lst {a:Addr} {xs:List V} (e:H a=some (.lst xs)):Zf5 K H (.ref a) (.type "list")
  | frz {a:Addr} {o:Obj} {xs:List V} (e:H a=some (.frz o (.lst xs))):Zf5 K H (.ref a) (.type "list")
  | tup {a:Addr} {xs:List V} (e:H a=some (.tup xs)):Zf5 K H (.ref a) (.type "tuple")
  | dK {a:Addr} {kvs:List (Key×V)} (e:H a=some (.dK kvs)):Zf5 K H (.ref a) (.type "dict")
  | dT {a:Addr} {kvs:List (List Key×V)} (e:H a=some (.dT kvs)):Zf5 K H (.ref a) (.type "dict")
  | ins {a C dx:Addr} {fs:List (Str×V)} (e:H a=some (.ins C dx fs)) (cl:Cls K C) (ha:PySem.W.findIn K (.ref C) "__class__"=some (some (.builtin "object.__class__")))
      (hn:PySem.W.specialIn K (.builtin "object.__class__") "__get__"=some (some (.builtin "getset_descriptor.__get__"))) (htk:PySem.W.takesIn K (.builtin "object.__class__")=some true)
      (hm:PySem.W.mroIn K C (.type "object")=some true):Zf5 K H (.ref a) (.ref C)
theorem Znv {x:V} {u t:Value} (I:Inv X pins σ H s) (rx:RelV x u) (ty:Zf5 X.K H x t) (e:PySem.W.kitOne X.K t c=some b) (h:∀tk,Q (.bool b) { s with toks:=tk }) :
    wpAny (model X.prog X.w) A (call (.builtin "isinstance") [u,c]) Q E s:=by
  cases ty with
  | non=>cases (show u=Value.none from rx); exact PySem.W.kia_one PySem.W.kitx_none I.kIn True.intro e (fun z=>nomatch z) h
  | bl y=>cases (show u=Value.bool y from rx); exact PySem.W.kia_one PySem.W.kitx_bool I.kIn True.intro e (fun z=>nomatch z) h
  | int i=>obtain ⟨t,q⟩:=(show ∃t,u=Value.int i t from rx); cases q; exact PySem.W.kia_one PySem.W.kitx_int I.kIn True.intro e (fun z=>nomatch z) h
  | str y=>obtain ⟨t,q⟩:=(show ∃t,u=Value.str y t from rx); cases q; exact PySem.W.kia_one PySem.W.kitx_str I.kIn True.intro e (fun z=>nomatch z) h
  | flt y=>obtain ⟨t,q⟩:=(show ∃t,u=Value.float y t from rx); cases q; exact PySem.W.kia_one PySem.W.kitx_float I.kIn True.intro e (fun z=>nomatch z) h
  | @lst a xs ea=>
    cases (show u=Value.ref a from rx)
    obtain ⟨_,_,n,_,h1⟩:=(show ObjOk X.prog X.w H s.heap a (.lst xs) from I.hok a _ ea)
    exact PySem.W.kia_one PySem.W.kitx_list I.kIn ⟨_,h1,rfl⟩ e (fun z=>nomatch z) h
  | @frz a ob xs ea=>
    cases (show u=Value.ref a from rx)
    obtain ⟨_,_,_,n,_,h1⟩:=(show ObjOk X.prog X.w H s.heap a (.frz ob (.lst xs)) from I.hok a _ ea)
    exact PySem.W.kia_one PySem.W.kitx_list I.kIn ⟨_,h1,rfl⟩ e (fun z=>nomatch z) h
  | @tup a xs ea=>
    cases (show u=Value.ref a from rx)
    obtain ⟨_,_,_,p⟩:=(show ObjOk X.prog X.w H s.heap a (.tup xs) from I.hok a _ ea)
    obtain ⟨o,h1,h2,_⟩:=p
    exact PySem.W.kia_one PySem.W.kitx_tuple I.kIn ⟨o,h1,h2⟩ e (fun z=>nomatch z) h
  | @dK a kvs ea=>
    cases (show u=Value.ref a from rx)
    obtain ⟨_,_,vs,_,p⟩:=(show ObjOk X.prog X.w H s.heap a (.dK kvs) from I.hok a _ ea)
    obtain ⟨o,es,ep,h1,h2,_⟩:=p
    exact PySem.W.kia_one PySem.W.kitx_dict I.kIn ⟨o,h1,h2.1⟩ e (fun z=>nomatch z) h
  | @dT a kvs ea=>
    cases (show u=Value.ref a from rx)
    obtain ⟨_,_,xs,_,o,es,ep,h1,h2,_⟩:=(show ObjOk X.prog X.w H s.heap a (.dT kvs) from I.hok a _ ea)
    exact PySem.W.kia_one PySem.W.kitx_dict I.kIn ⟨o,h1,h2.1⟩ e (fun z=>nomatch z) h
  | @ins a C dx fs ea cl ha hn htk hm=>
    cases (show u=Value.ref a from rx)
    obtain ⟨mA,O,_⟩:=Zi3 I.hok ea
    obtain ⟨od,J,_⟩:=O.look
    exact PySem.W.kia_one (PySem.W.kitx_own (cl.get _) cl.hd ha hn htk hm) I.kIn J e (fun z=>nomatch z) h
end
end L2
namespace L2
open PySem PySem.Spec PyProof.Rows
structure Room (k:Nat) (A:Around):Prop where
  hd:A.handled=none
  dp:A.depth+3*k+5<recursionLimit
  un:A.units+16*k+200<cLine
theorem Room.mono {j k:Nat} {A:Around} (r:Room k A) (h:j≤k):Room j A:=⟨r.hd,by have:=r.dp; omega,by have:=r.un; omega⟩
theorem Room.deeper {k:Nat} {A:Around} (r:Room (k+1) A) (env:Env):Room k (A.deeper env):=
  ⟨r.hd,by have:=r.dp; show A.depth+1+3*k+5<_; omega,by have:=r.un; show A.units+3+16*k+200<_; omega⟩
theorem ZlP {A:Around} {C:Addr} {us:List Value} {kw:List (Str×Value)}:(A.under (.builtin "type.__call__" ⟨.ref C::us,kw⟩)).depth=A.depth+1:=by
  first | rfl | simp [Around.under,Code.weight,Code.isCreation,Code.isGuard,Code.isCaller,Code.frames,Code.isFrame,guardIds]
theorem ZlO {A:Around} {C:Addr} {us:List Value} {kw:List (Str×Value)}:(A.under (.builtin "type.__call__" ⟨.ref C::us,kw⟩)).units=A.units+1:=by
  first | rfl | simp [Around.under,Code.cUnits,Code.frames,Code.isFrame]
theorem Room.make {k:Nat} {A:Around} (r:Room (k+1) A) (C:Addr) (us:List Value) (kw:List (Str×Value)):Room k (A.under (.builtin "type.__call__" ⟨.ref C::us,kw⟩)):=
  ⟨r.hd,by have:=r.dp; rw [ZlP]; omega,by have:=r.un; rw [ZlO]; omega⟩
theorem Room.depth {k:Nat} {A:Around} (r:Room k A):A.depth<recursionLimit:=by have:=r.dp; omega
theorem Room.units {k:Nat} {A:Around} (r:Room k A):A.units+64<cLine:=by have:=r.un; omega
def Ztn:TA:=fun _ H Q=>Q [] H
def ZsA (ta:TE) (tr:TA):TA:=fun σ H Q=>ta σ H fun x H1=>tr σ H1 fun xs H2=>Q (x::xs) H2
section
variable {X:Cx} {e:Expr} {es:List Expr} {te:TE} {t:TA} {pos:Pos}
theorem ZlL:PA X [] Ztn:=fun _ _ _ _ H Q I h=>Calls.spliced_nil ⟨[],H,I,.nil,h⟩
theorem ZiT (ha:PE X e te) (hr:PA X es t) (hs:starEach (e::es) X.env=(false,eval e X.env)::starEach es X.env:=by rfl):PA X (e::es) (ZsA te t):=by
  intro pos pins s σ H Q I h
  rw [hs]
  show wpAny _ _ (spliced ((false,eval e X.env)::backTo pos (starEach es X.env))) _ _ s
  refine Calls.spliced_cons (thn (ha pins s σ H _ I h) fun u s1 ⟨x,H1,I1,r1,q1⟩=>?_)
  exact thn (hr pos pins s1 σ H1 _ I1 q1) fun us s2 ⟨xs,H2,I2,r2,q2⟩=>⟨x::xs,H2,I2,.cons r1 r2,q2⟩
def ZyQ (t:TA):TE:=fun σ H Q=>t σ H fun xs H1=>xs.length≤sizeLine∧∀p,H1 p=none→Q (.ref p) (upd H1 p (.tup xs))
def ZyW (t:TA):TE:=fun σ H Q=>t σ H fun xs H1=>xs.length≤sizeLine∧∀p,H1 p=none→Q (.ref p) (upd H1 p (.lst xs))
theorem ZtL {x1} (h:PA X es t):PE X (.Tuple es x1 pos) (ZyQ t):=by
  intro pins s σ H Q I hq
  refine wpAny_Tuple_spliced (thn (h pos pins s σ H _ I hq) fun us s1 ⟨xs,H1,I1,r,z,q⟩=>⟨by rw [←r.length]; exact z,?_⟩)
  have hf:H1 s1.heap.objs.size=none:=I1.hok.fresh (Nat.le_refl _)
  refine ⟨.ref s1.heap.objs.size,upd H1 s1.heap.objs.size (.tup xs),I1.laid (t':=s1.toks) (fun b u e=>Heap.get?_push_of_some _ e) (Nat.le_refl _) ?_,rfl,q _ hf⟩
  exact ⟨z,us,r,⟨_,Heap.get?_push_size _ rfl,rfl,_,rfl⟩⟩
theorem ZpH (h:PA X es t):PE X (.List es pos) (ZyW t):=by
  intro pins s σ H Q I hq
  refine wpAny_List_spliced (thn (h pos pins s σ H _ I hq) fun us s1 ⟨xs,H1,I1,r,z,q⟩=>⟨by rw [←r.length]; exact z,?_⟩)
  have hf:H1 s1.heap.objs.size=none:=I1.hok.fresh (Nat.le_refl _)
  refine ⟨.ref s1.heap.objs.size,upd H1 s1.heap.objs.size (.lst xs),I1.laid (t':=s1.toks) (fun b u e=>Heap.get?_push_of_some _ e) (Nat.le_refl _) ?_,rfl,q _ hf⟩
  exact ⟨z,us,0,r,Heap.get?_push_size _ rfl⟩
end
abbrev Sp:=List V→Hp→VK→XK→Prop
abbrev CXT:=List Env→Hp→Shared→XK→Value→Shared→Prop
structure Env0 (P:Program) (w:World) (K:PySem.W.Frag) (mg:Str→Option Value) (base:Heap) (A:Around) (outer:List Env) (s:Shared) (H:Hp):Prop where
  frames:A.frames=some outer
  mod:Mod K mg base
  bs:∀b o,base.get? b=some o→s.heap.get? b=some o∧H b=none
  bsz:base.objs.size≤s.heap.objs.size
  funs:s.heap.FunFrames base outer
  frf:∀b∈frs outer,H b=none
  hok:HOk P w H s.heap
  bare:AllBare s.gens
def CE (outer:List Env) (P:Program) (w:World) (H:Hp) (s:Shared) (Q:VK) (u:Value) (s':Shared):Prop:=
  ∃v H',s'.os=s.os∧AllBare s'.gens∧Un (frs outer) [] H H' s.heap s'.heap∧HOk P w H' s'.heap∧RelV v u∧Q v H'
def CR (CX:CXT) (outer:List Env) (P:Program) (w:World) (H:Hp) (s:Shared) (Q:VK) (E:XK) (r:Result) (s':Shared):Prop:=
  match r with
  | .ok (.ret u)=>CE outer P w H s Q u s'
  | .ok _=>False
  | .error e=>CX outer H s E e s'
structure FnOk (P:Program) (w:World) (K:PySem.W.Frag) (mg:Str→Option Value) (base:Heap) (CX:CXT) (k:Nat) (f:Addr) (fd:FuncData) (ps:List Str) (sp:Sp):Prop where
  len:∀vs H Q E,sp vs H Q E→vs.length=ps.length
  run:∀(A:Around) (outer:List Env) (s:Shared) (H:Hp) (args:Args) (us:List Value) (vs:List V) (Q:VK) (E:XK),Room k A→Env0 P w K mg base A outer s H→BindsTo s fd args (ps.zip us)→Vals vs us→sp vs H Q E→
    codeAny (model P w) A (.call (.ref f) args) (CR CX outer P w H s Q E) s
theorem FnOk.imp {P:Program} {w:World} {K:PySem.W.Frag} {mg:Str→Option Value} {base:Heap} {CX:CXT} {k:Nat} {f:Addr} {fd:FuncData} {ps:List Str} {sp sp':Sp} (F:FnOk P w K mg base CX k f fd ps sp)
    (h:∀vs H Q E,sp' vs H Q E→sp vs H Q E):FnOk P w K mg base CX k f fd ps sp':=
  ⟨fun vs H Q E q=>F.len vs H Q E (h _ _ _ _ q),fun A outer s H args us vs Q E hr he hb hv hs=>F.run A outer s H args us vs Q E hr he hb hv (h _ _ _ _ hs)⟩
theorem Env0.make {P:Program} {w:World} {K:PySem.W.Frag} {mg:Str→Option Value} {base:Heap} {A:Around} {outer:List Env} {s:Shared} {H:Hp} (e:Env0 P w K mg base A outer s H) (C:Addr) (us:List Value) (kw:List (Str×Value)) :
    Env0 P w K mg base (A.under (.builtin "type.__call__" ⟨.ref C::us,kw⟩)) outer s H:=⟨by first | exact e.frames | (simpa [Around.under,Code.envs,Code.isFrame,pushEnvs] using e.frames),e.mod,e.bs,e.bsz,e.funs,e.frf,e.hok,e.bare⟩
section
variable {X:Cx} {pins:List (Addr×Obj)} {σ:St} {H:Hp} {s s':Shared}
theorem Inv.env0 (I:Inv X pins σ H s):Env0 X.prog X.w X.K X.mg X.base X.A X.stack s H:=
  ⟨I.ok.frames,I.ok.mod,I.bs,Nat.le_trans I.ok.bsz I.sz,I.stack,I.stkFree,I.hok,I.bare⟩
theorem Inv.after {Q:VK} {u:Value} (I:Inv X pins σ H s) (h:CE X.stack X.prog X.w H s Q u s'):EP X pins σ Q u s':=by
  obtain ⟨v,H',os,bare,un,hok,r,q⟩:=h
  obtain ⟨hh,g,d,t,os'⟩:=s'
  obtain rfl:os'=s.os:=os
  exact ⟨v,H',I.call (h':=hh) (g':=g) (d':=d) (t':=t) (ch:=[]) un hok bare (fun b z=>absurd z (by simp)),r,q⟩
end
def ZsB (sp:Sp) (dvs:List V) (E:XK) (t:TA):TE:=fun σ H Q=>t σ H fun vs H1=>sp (vs++dvs) H1 Q E
def Zsy (C:Addr) (sp:Sp) (dvs:List V) (E:XK) (t:TA):TE:=fun σ H Q=>t σ H fun vs H1=>∀x dx,H1 x=none→H1 dx=none→dx≠x→
  sp (.ref x::(vs++dvs)) (upd (upd H1 dx (.own x)) x (.ins C dx [])) (fun v H2=>v=.non∧Q (.ref x) H2) E
def Binds (K:PySem.W.Frag) (fd:FuncData) (ps:List Str) (ds:List Value):Prop:=
  ∀(s:Shared) (us:List Value),K.In s.heap→(us++ds).length=ps.length→BindsTo s fd ⟨us,[]⟩ (ps.zip (us++ds))
theorem Binds.all {K:PySem.W.Frag} {fd:FuncData} {ps:List Str} (h:∀us:List Value,us.length=ps.length→bindArgs fd ⟨us,[]⟩=pure (ps.zip us)):Binds K fd ps []:=fun s us _ hl=>by
  rw [List.append_nil] at hl ⊢
  exact .of_eq (h us hl)
def Zgw (CX:CXT) (X:Cx) (E:XK):Prop:=∀(pins:List (Addr×Obj)) (σ:St) (H:Hp) (s:Shared) (e:Value) (s':Shared),Inv X pins σ H s→CX X.stack H s E e s'→X.xe e s'
section
variable {X:Cx} {CX:CXT} {k:Nat} {f C:Addr} {fd:FuncData} {ps:List Str} {sp:Sp} {dvs:List V} {ds:List Value} {E:XK} {x m:Str} {p pos apos:Pos} {e o:Expr} {es:List Expr} {ta:TE} {t:TA}
theorem Ztv {pins:List (Addr×Obj)} {σ:St} {H:Hp} {s:Shared} {Q:VK} {us:List Value} {vs:List V} (F:FnOk X.prog X.w X.K X.mg X.base CX k f fd ps sp) (hr:Room k X.A) (hb:Binds X.K fd ps ds) (hd:Vals dvs ds) (hx:Zgw CX X E)
    (I:Inv X pins σ H s) (r:Vals vs us) (h:sp (vs++dvs) H Q E):wpAny (model X.prog X.w) X.A (call (.ref f) us) (EP X pins σ Q) X.xe s:=by
  have r2:Vals (vs++dvs) (us++ds):=r.append hd
  have hl:(us++ds).length=ps.length:=by rw [←r2.length]; exact F.len _ _ _ _ h
  refine wpAny_call (codeAny_mono (F.run X.A X.stack s H ⟨us,[]⟩ (us++ds) (vs++dvs) Q E hr I.env0 (hb s us I.kIn hl) r2 h) fun r s' hq=>?_)
  cases r with
  | error e=>exact hx pins σ H s e s' I hq
  | ok fl=>
    cases fl with
    | ret u=>exact I.after hq
    | next=>exact False.elim hq
    | brk=>exact False.elim hq
    | cont=>exact False.elim hq
theorem ZrL (F:FnOk X.prog X.w X.K X.mg X.base CX k f fd ps sp) (hr:Room k X.A) (hg:Gl X x) (hm:X.mg x=some (.ref f)) (hk:PySem.W.keepIn X.K (.ref f)=true) (hb:Binds X.K fd ps ds) (hd:Vals dvs ds) (hx:Zgw CX X E)
    (ha:PA X (e::es) t) (hdb:(x == ("__debug__":Str))=false:=by decide) (he:starEach (e::es) X.env=(false,eval e X.env)::starEach es X.env:=by rfl) (hpl:(backTo pos (starEach es X.env)).any (·.1)=false:=by rfl) :
    PE X (.Call (.Name x p) (e::es) [] pos) (ZsB sp dvs E t):=by
  intro pins s σ H Q I h
  refine wpAny_Call_Name_kw (Zg0 I hg hm ?_ hdb)
  refine PySem.W.callWith_K (h₀:=X.base) I.ok.mod.kin hk (thn (ha pos pins s σ H _ I h) fun us s1 ⟨vs,H1,I1,r,q⟩=>⟨I1.kIn,?_⟩) he hpl
  exact Ztv F hr hb hd hx I1 r q
structure Mk (K:PySem.W.Frag) (C f:Addr):Prop where
  makes:PySem.W.makesIn K C=true
  init:PySem.W.findIn K (.ref C) "__init__"=some (some (.ref f))
  fn:PySem.W.isFn K (.ref f)=true
  kp:PySem.W.keepIn K (.ref C)=true
theorem ZkO {pins:List (Addr×Obj)} {σ:St} {H:Hp} {s:Shared} {Q:VK} {us:List Value} {vs:List V} (M:Mk X.K C f) (F:FnOk X.prog X.w X.K X.mg X.base CX k f fd ps sp) (hr:Room (k+1) X.A) (hb:Binds X.K fd ps ds) (hd:Vals dvs ds)
    (hx:Zgw CX X E) (I:Inv X pins σ H s) (r:Vals vs us)
    (h:∀x dx,H x=none→H dx=none→dx≠x→sp (.ref x::(vs++dvs)) (upd (upd H dx (.own x)) x (.ins C dx [])) (fun v H2=>v=.non∧Q (.ref x) H2) E) :
    wpAny (model X.prog X.w) X.A (call (.ref C) us) (EP X pins σ Q) X.xe s:=by
  have hq:=h (s.heap.objs.size+1) s.heap.objs.size (I.hok.fresh (Nat.le_succ _)) (I.hok.fresh (Nat.le_refl _)) (Nat.ne_of_lt (Nat.lt_succ_self _))
  have I2:=Inv.made (C:=C) I
  have r2:Vals (V.ref (s.heap.objs.size+1)::(vs++dvs)) (Value.ref (s.heap.objs.size+1)::(us++ds)):=.cons rfl (r.append hd)
  have hl:(Value.ref (s.heap.objs.size+1)::us++ds).length=ps.length:=by
    have e:=r2.length
    rw [F.len _ _ _ _ hq] at e
    exact e.symm
  refine wpAny_call (Zqb (f:=f) I.kIn M.makes M.init (beq_iff_eq.mp M.fn) (codeAny_mono (F.run _ X.stack _ _ ⟨Value.ref (s.heap.objs.size+1)::us,[]⟩ (Value.ref (s.heap.objs.size+1)::(us++ds)) _ _ E (hr.make C us [])
    (I2.env0.make C us []) (hb _ (Value.ref (s.heap.objs.size+1)::us) I2.kIn hl) r2 hq) fun r s' hq'=>?_))
  cases r with
  | error e=>exact hx pins σ _ _ e s' I2 hq'
  | ok fl=>
    cases fl with
    | ret u=>
      obtain ⟨v,H',I3,rv,ev,q3⟩:=I2.after hq'
      subst ev
      exact ⟨rv,⟨V.ref (s.heap.objs.size+1),H',I3,rfl,q3⟩⟩
    | next=>exact False.elim hq'
    | brk=>exact False.elim hq'
    | cont=>exact False.elim hq'
theorem ZrI (M:Mk X.K C f) (F:FnOk X.prog X.w X.K X.mg X.base CX k f fd ps sp) (hr:Room (k+1) X.A) (hg:Gl X x) (hm:X.mg x=some (.ref C)) (hb:Binds X.K fd ps ds) (hd:Vals dvs ds) (hx:Zgw CX X E)
    (ha:PA X (e::es) t) (hdb:(x == ("__debug__":Str))=false:=by decide) (he:starEach (e::es) X.env=(false,eval e X.env)::starEach es X.env:=by rfl) (hpl:(backTo pos (starEach es X.env)).any (·.1)=false:=by rfl) :
    PE X (.Call (.Name x p) (e::es) [] pos) (Zsy C sp dvs E t):=by
  intro pins s σ H Q I h
  refine wpAny_Call_Name_kw (Zg0 I hg hm ?_ hdb)
  refine PySem.W.callWith_K (h₀:=X.base) I.ok.mod.kin M.kp (thn (ha pos pins s σ H _ I h) fun us s1 ⟨vs,H1,I1,r,q⟩=>⟨I1.kIn,?_⟩) he hpl
  exact ZkO M F hr hb hd hx I1 r q
theorem ZpG (M:Mk X.K C f) (F:FnOk X.prog X.w X.K X.mg X.base CX k f fd ps sp) (hr:Room (k+1) X.A) (hg:Gl X x) (hm:X.mg x=some (.ref C)) (hb:Binds X.K fd ps ds) (hd:Vals dvs ds) (hx:Zgw CX X E)
    (hdb:(x == ("__debug__":Str))=false:=by decide):PE X (.Call (.Name x p) [] [] pos) (Zsy C sp dvs E Ztn):=by
  intro pins s σ H Q I h
  refine wpAny_Call_Name_kw (Zg0 I hg hm ?_ hdb)
  exact PySem.W.callWith_K0 I.kIn M.kp (ZkO (us:=[]) M F hr hb hd hx I .nil h)
end
section
variable {X:Cx} {CX:CXT} {k:Nat} {f C:Addr} {fd:FuncData} {ps ks:List Str} {sp:Sp} {E:XK} {x m:Str} {p pos apos kpos:Pos} {e o:Expr} {es:List Expr} {kws:List Keyword} {te ta:TE} {t tk:TA} {nm:Option Str}
structure ZzD (K:PySem.W.Frag) (fd:FuncData) (ps ks:List Str) (g:List Value→List Value→List Value) (gV:List V→List V→List V):Prop where
  to:∀(s:Shared) (us ws:List Value),K.In s.heap→(g us ws).length=ps.length→BindsTo s fd ⟨us,ks.zip ws⟩ (ps.zip (g us ws))
  rel:∀{vs:List V} {us:List Value} {zs:List V} {ws:List Value},Vals vs us→Vals zs ws→Vals (gV vs zs) (g us ws)
variable {g:List Value→List Value→List Value} {gV:List V→List V→List V}
end
structure Zq (N P:List Str) (sc:Scope):Prop where
  kind:sc.kind=.function
  co:sc.isCoroutine=false
  gen:sc.isGenerator=false
  nd:N.Nodup
  pre:N.take P.length=P
  par:∀x∈P,sc.names.lookup x=some .local∨sc.names.lookup x=some .cell
  nofree:∀y∈sc.names,y.2≠.free
theorem ZiB {kindOf:Str→Option NameKind} {x:Str}:∀{binds:List (Str×Value)} {m:Str→Option Value},(∀v,(x,v)∉binds)→bindL kindOf binds m x=m x
  | [],_,_=>rfl
  | (n,v)::r,m,h=>by
    unfold bindL
    rw [ZiB fun w hw=>h w (List.mem_cons_of_mem _ hw)]
    split
    · have:x≠n:=by rintro rfl; exact h v List.mem_cons_self
      simp [this]
    · rfl
theorem ZiD {kindOf:Str→Option NameKind} {x:Str}:∀{binds:List (Str×Value)} {m:Str→Option Value},(∀v,(x,v)∉binds)→bindC kindOf binds m x=m x
  | [],_,_=>rfl
  | (n,v)::r,m,h=>by
    unfold bindC
    rw [ZiD fun w hw=>h w (List.mem_cons_of_mem _ hw)]
    split
    · rfl
    · have:x≠n:=by rintro rfl; exact h v List.mem_cons_self
      simp [this]
theorem ZiC {kindOf:Str→Option NameKind} {x:Str} {v:Value}:∀{P:List Str} {vs:List Value} {i:Nat} {m:Str→Option Value},P.Nodup→P[i]?=some x→vs[i]?=some v→kindOf x=some .local→
    bindL kindOf (P.zip vs) m x=some v
  | [],_,_,_,_,h,_,_=>by simp at h
  | _::_,[],_,_,_,_,h,_=>by simp at h
  | p::P,w::vs,0,m,nd,h1,h2,hk=>by
    simp at h1 h2; subst h1; subst h2
    show bindL kindOf ((p,w)::P.zip vs) m p=_
    unfold bindL
    rw [ZiB fun v hv=>(List.nodup_cons.mp nd).1 (List.of_mem_zip hv).1,if_pos hk]
    simp
  | p::P,w::vs,i+1,m,nd,h1,h2,hk=>by
    show bindL kindOf ((p,w)::P.zip vs) m x=_
    unfold bindL
    exact ZiC (i:=i) (List.nodup_cons.mp nd).2 (by simpa using h1) (by simpa using h2) hk
theorem ZiE {kindOf:Str→Option NameKind} {x:Str} {v:Value}:∀{P:List Str} {vs:List Value} {i:Nat} {m:Str→Option Value},P.Nodup→P[i]?=some x→vs[i]?=some v→kindOf x≠some .local→
    bindC kindOf (P.zip vs) m x=some v
  | [],_,_,_,_,h,_,_=>by simp at h
  | _::_,[],_,_,_,_,h,_=>by simp at h
  | p::P,w::vs,0,m,nd,h1,h2,hk=>by
    simp at h1 h2; subst h1; subst h2
    show bindC kindOf ((p,w)::P.zip vs) m p=_
    unfold bindC
    rw [ZiD fun v hv=>(List.nodup_cons.mp nd).1 (List.of_mem_zip hv).1,if_neg hk]
    simp
  | p::P,w::vs,i+1,m,nd,h1,h2,hk=>by
    show bindC kindOf ((p,w)::P.zip vs) m x=_
    unfold bindC
    exact ZiE (i:=i) (List.nodup_cons.mp nd).2 (by simpa using h1) (by simpa using h2) hk
def Zed (N:List Str) (vs:List V):St:=vs.map some++List.replicate (N.length-vs.length) none
def Zhu (CX:CXT) (P:Program) (w:World) (K:PySem.W.Frag) (mg:Str→Option Value) (base:Heap) (N:List Str) (qual:Str) (scope:Scope) (f:Addr) (cd:Value) (A:Around) (outer:List Env) (s:Shared) (H:Hp) (E:XK):Cx where
  prog:=P
  w:=w
  K:=K
  mg:=mg
  base:=base
  A:=A.deeper (envOfC qual scope s.heap.objs.size f cd)
  N:=N
  s₀:=s
  H₀:=H
  env:=envOfC qual scope s.heap.objs.size f cd
  outer:=outer
  stack:=envOfC qual scope s.heap.objs.size f cd::outer
  ex:=[]
  calm:=true
  fn:=fun _=>true
  pn:=[]
  xe:=fun e s'=>wpAny (model P w) (A.deeper (envOfC qual scope s.heap.objs.size f cd)) (leaving (envOfC qual scope s.heap.objs.size f cd) e) (fun _ s''=>CX outer H s E e s'') (fun e' s''=>CX outer H s E e' s'') s'
theorem Zlp {sc:Scope} {n:Nat} {x:Str} (h:sc.names.lookup x=some .cell):∃c,(cellsFrom n sc.names []).lookup x=some c:=by
  have q:=PySem.W.cellsFrom_some sc.names n [] (.inl h)
  exact Option.isSome_iff_exists.mp q
theorem Znw {CX:CXT} {P:Program} {w:World} {K:PySem.W.Frag} {mg:Str→Option Value} {base:Heap} {N ps:List Str} {qual:Str} {scope:Scope} {f:Addr} {cd:Value} {A:Around} {outer:List Env} {s s1:Shared} {H:Hp} {E:XK} {us:List Value} {vs:List V}
    (S:Zq N ps scope) (hd:A.handled=none) (e0:Env0 P w K mg base A outer s H) (hl:vs.length=ps.length) (r:Vals vs us)
    (x:InCallC s s.heap.objs.size (bindL (envOfC qual scope s.heap.objs.size f cd).kindOf (ps.zip us) fun _=>none) (cellsFrom (s.heap.objs.size+1) scope.names []) (bindC (envOfC qual scope s.heap.objs.size f cd).kindOf (ps.zip us) fun _=>none) s1) :
    Inv (Zhu CX P w K mg base N qual scope f cd A outer s H E) [] (Zed N vs) H s1:=by
  have hpl:ps.length≤N.length:=by have:=congrArg List.length S.pre; rw [List.length_take] at this; omega
  obtain ⟨h1,tk,rfl,hk⟩:=x.done
  have noA:∀b:Addr,b∉(Zhu CX P w K mg base N qual scope f cd A outer s H E).ex:=fun b z=>absurd (show b∈([]:List Addr) from z) (by simp)
  refine ⟨⟨e0.mod,S.kind,rfl,rfl,Nat.le_refl _,fun y z c h1 h2=>?_,fun y hy=>?_,fun y c _ h=>?_,fun _=>hd,Around.frames_deeper e0.frames,.inr ⟨rfl,rfl⟩,fun b z=>absurd z (noA b),e0.bs,e0.bsz,fun b _ _=>noA b,fun b z=>absurd z (noA b),e0.funs,e0.frf⟩,
    rfl,e0.bare,Un.kept hk,⟨_,x.toInCall.ns,fun i y v h1 h2 h3=>?_⟩,fun y c h=>⟨_,x.cell y c h⟩,e0.hok.fresh (Nat.le_refl _),fun y c h=>?_,fun p hp=>absurd (show p∈([]:List (Addr×Obj)) from hp) (by simp),e0.hok.kept hk,?_⟩
  · exact name_of_addr x.apart (PySem.mem_of_lookup h1) (PySem.mem_of_lookup h2)
  · have hy:scope.names.lookup y=some .cell∨scope.names.lookup y=some .free:=hy
    rcases hy with hy | hy
    · exact Zlp hy
    · exact absurd rfl (S.nofree _ (PySem.mem_of_lookup hy))
  · exact Nat.le_of_lt (x.above y c (PySem.mem_of_lookup h))
  · have hi:i<vs.length:=by
      unfold Zed at h2
      by_cases hi:i<vs.length
      · exact hi
      · rw [List.getElem?_append_right (by simpa using hi)] at h2
        rw [List.getElem?_replicate] at h2
        split at h2<;>cases h2
    have ha:vs[i]?=some v:=by
      unfold Zed at h2
      rw [List.getElem?_append_left (by simpa using hi),List.getElem?_map] at h2
      cases e:vs[i]? with
      | none=>rw [e] at h2; cases h2
      | some a=>rw [e] at h2; cases h2; rfl
    obtain ⟨u,hu,rv⟩:=r.get ha
    have hp:ps[i]?=some y:=by
      rw [←S.pre,List.getElem?_take_of_lt (by omega)]; exact h1
    have ndP:ps.Nodup:=by rw [←S.pre]; exact S.nd.sublist (List.take_sublist _ _)
    refine ⟨u,rv,?_⟩
    rcases S.par y (List.mem_of_getElem? hp) with k | k
    · exact .inl ⟨k,ZiC ndP hp hu k⟩
    · obtain ⟨c,e⟩:=Zlp (n:=s.heap.objs.size+1) k
      refine .inr ⟨.inl k,c,e,?_⟩
      have q:=x.cell y c e
      rw [ZiE ndP hp hu (by show scope.names.lookup y≠_; rw [k]; decide)] at q
      exact q
  · exact e0.hok.fresh (Nat.le_of_lt (x.above y c (PySem.mem_of_lookup h)))
  · unfold Zed
    show _=N.length
    rw [List.length_append,List.length_map,List.length_replicate]
    omega
theorem Zv3 {CX:CXT} {P:Program} {w:World} {K:PySem.W.Frag} {mg:Str→Option Value} {base:Heap} {k:Nat} {f:Addr} {name qual:Str} {params:Arguments} {body:List Stmt} {scope:Scope} {dV kV doc pm cdv ct oc:Value} {an od:Option Addr}
    {osl:Array (Option Value)} {N ps:List Str} {sp:Sp} (lk:K.lookup f=some ⟨oc,od,.func (PySem.W.fnOf name qual params body scope dV kV doc pm an cdv ct),osl⟩) (hcd:PySem.W.codeIn K cdv qual=true) (S:Zq N ps scope)
    (len:∀vs H Q E,sp vs H Q E→vs.length=ps.length)
    (hbody:∀(A:Around) (outer:List Env) (s:Shared) (H:Hp) (vs:List V) (Q:VK) (E:XK),Room k (A.deeper (envOfC qual scope s.heap.objs.size f cdv))→sp vs H Q E→
      ∃t,PSs (Zhu CX P w K mg base N qual scope f cdv A outer s H E) body t∧t { nx:=fun _ H'=>Q .non H',rt:=Q } (Zed N vs) H) :
    FnOk P w K mg base CX (k+1) f (PySem.W.fnOf name qual params body scope dV kV doc pm an cdv ct) ps sp:=by
  refine ⟨len,fun A outer s H args us vs Q E hr e0 hb r hsp=>?_⟩
  have hl:=len _ _ _ _ hsp
  have KX:K.In s.heap:=e0.mod.kin.keeps fun b o e=>(e0.bs b o e).1
  have lim:s.heap.NoLimit:=e0.mod.nolimit.keeps fun b o e=>(e0.bs b o e).1
  have hkind:∀y∈ps.zip us,scope.names.lookup y.1=some .local∨(scope.names.lookup y.1=some .cell∧((cellsFrom (s.heap.objs.size+1) scope.names []).lookup y.1).isSome=true):=fun ⟨n,v⟩ hy=>by
    rcases S.par n (List.of_mem_zip hy).1 with q | q
    · exact .inl q
    · exact .inr ⟨q,PySem.W.cellsFrom_some _ _ _ (.inl q)⟩
  refine codeAny_call_function hr.depth (KX _ _ lk) rfl S.co S.gen rfl (PySem.W.codeRec_of KX hcd) (hb _ _ _ _ ?_)
  refine wpAny_newFunctionEnv_cells S.kind hkind fun env he s1 x=>?_
  subst he
  refine ⟨lim.keeps x.toInCall.keep,codeAny_func ?_⟩
  obtain ⟨t,ht,hq⟩:=hbody A outer s H vs Q E (hr.deeper _) hsp
  have I:Inv (Zhu CX P w K mg base N qual scope f cdv A outer s H E) [] (Zed N vs) H s1:=Znw S hr.hd e0 hl r x
  refine wpAny_mono (ht [] s1 (Zed N vs) H _ I hq) (fun fl s' hs=>?_) fun e s' hs=>hs
  have fin:∀{σ':St} {H':Hp} {v:V} {u:Value},Inv (Zhu CX P w K mg base N qual scope f cdv A outer s H E) [] σ' H' s'→RelV v u→Q v H'→CE outer P w H s Q u s':=
    fun {σ' H' v u} J rv q=>⟨v,H',J.os,J.bare,J.base,J.hok,rv,q⟩
  cases fl with
  | ret u=>
    obtain ⟨v,σ',H',J,rv,q⟩:=hs
    exact fin J rv q
  | next=>
    obtain ⟨σ',H',J,q⟩:=hs
    exact fin (v:=V.non) (u:=Value.none) J rfl q
  | brk=>
    obtain ⟨_,_,_,q⟩:=hs
    exact False.elim q
  | cont=>
    obtain ⟨_,_,_,q⟩:=hs
    exact False.elim q
end L2
namespace L2
open PySem PySem.Spec PyProof.Rows
section
variable {X:Cx} {x:Str} {p pos:Pos} {e:Expr} {es:List Expr} {t:TA} {id T:String} {r:List V→Hp→VK→Prop}
def tCB (r:List V→Hp→VK→Prop) (t:TA):TE:=fun σ H Q=>t σ H fun vs H1=>r vs H1 Q
theorem ZpO (hc:CallR X (.builtin id) r) (hg:Gl X x) (hm:X.mg x=none) (hv:bootBuiltins x=some (.builtin id)) (ha:PA X (e::es) t) (hn:x≠"__name__":=by decide) (hdb:(x == ("__debug__":Str))=false:=by decide)
    (he:starEach (e::es) X.env=(false,eval e X.env)::starEach es X.env:=by rfl) (hpl:(backTo pos (starEach es X.env)).any (·.1)=false:=by rfl):PE X (.Call (.Name x p) (e::es) [] pos) (tCB r t):=by
  intro pins s σ H Q I h
  refine wpAny_Call_Name_kw (Zhl I hg hm hv ?_ hn hdb)
  exact PyProof.Rows.callWith_builtin1 (thn (ha pos pins s σ H _ I h) fun us s1 ⟨vs,H1,I1,r1,q1⟩=>hc pins s1 σ H1 vs us Q I1 r1 q1) he hpl
theorem Znn (hc:CallR X (.type T) r) (hg:Gl X x) (hm:X.mg x=none) (hv:bootBuiltins x=some (.type T)) (ha:PA X (e::es) t) (hn:x≠"__name__":=by decide) (hdb:(x == ("__debug__":Str))=false:=by decide)
    (he:starEach (e::es) X.env=(false,eval e X.env)::starEach es X.env:=by rfl) (hpl:(backTo pos (starEach es X.env)).any (·.1)=false:=by rfl):PE X (.Call (.Name x p) (e::es) [] pos) (tCB r t):=by
  intro pins s σ H Q I h
  refine wpAny_Call_Name_kw (Zhl I hg hm hv ?_ hn hdb)
  exact PyProof.Rows.callWith_type1 (thn (ha pos pins s σ H _ I h) fun us s1 ⟨vs,H1,I1,r1,q1⟩=>hc pins s1 σ H1 vs us Q I1 r1 q1) he hpl
end
end L2
namespace HT
open PySem PyProof.Rows
section
open PySem.SeqAt
open PySem.AutoSeq1 (wpAny_loadPart')
open PySem.MeetsSeq PySem.MeetsSeq2 PySem.MeetsSeq3
end
section
variable {prog:Program} {w:World} {A:Around} {E:Value→Shared→Prop} {s:Shared}
theorem cat_tup {t b:Addr} {vs ws:List Value} {Q:Value→Shared→Prop} (ht:IsTup s.heap t vs.toArray) (hb:IsTup s.heap b ws.toArray) (hv:vs≠[])
    (h1:ws=[]→Q (.ref t) s) (h2:ws≠[]→Q (.ref s.heap.objs.size) { s with heap:=s.heap.push { cls:=.type "tuple",data:=.seq (vs++ws).toArray } })
    (hsz:vs.length+ws.length≤sizeLine):wpAny (model prog w) A (binaryOp .Add (.ref t) (.ref b)) Q E s:=by
  obtain ⟨⟨cls,dd,data,sl⟩,ho,hc,n,hd⟩:=id ht
  obtain ⟨⟨cls2,dd2,data2,sl2⟩,ho2,hc2,n2,hd2⟩:=id hb
  simp only at hc hd hc2 hd2
  subst hc hd hc2 hd2
  have e:vs.toArray++ws.toArray=(vs++ws).toArray:=by simp
  by_cases hw:ws=[]
  · exact concat_meets ⟨_,ho,rfl⟩ ⟨_,ho2,rfl⟩ noFill_tuple_add seq_tuple_add PySem.F.slot_tuple_add PySem.F.entry_tuple_add (PySem.F.args_tuple_add_2 _ _)
      (tuple_addW1 t b vs.toArray ws.toArray n n2 dd dd2 sl sl2 (by simpa using hv) (by simp [hw])) ⟨ho,ho2,h1 hw⟩
  · refine concat_meets ⟨_,ho,rfl⟩ ⟨_,ho2,rfl⟩ noFill_tuple_add seq_tuple_add PySem.F.slot_tuple_add PySem.F.entry_tuple_add (PySem.F.args_tuple_add_2 _ _)
      (tuple_addW2 t b vs.toArray ws.toArray n n2 dd dd2 sl sl2 (by simpa using hv) (by simpa using hw) (by rw [List.size_toArray,List.size_toArray]; exact hsz)) ⟨ho,ho2,?_⟩
    rw [e]
    exact h2 hw
def sIx (n d:Nat):Option Int→Nat
  | none=>d
  | some v=>if v<0 then (v+(n:Int)).toNat else min v.toNat n
theorem sIx_none (n d:Nat):sIx n d none=d:=rfl
theorem sIx_nat (n d k:Nat):sIx n d (some (k:Int))=min k n:=by
  show (if (k:Int)<0 then ((k:Int)+(n:Int)).toNat else min (k:Int).toNat n)=min k n
  rw [if_neg (by omega),Int.toNat_natCast]
theorem Ztu (n d:Nat) (hd:d≤n) (o:Option Int):sIx n d o≤n:=by
  cases o with
  | none=>exact hd
  | some v=>
    show (if v<0 then (v+(n:Int)).toNat else min v.toNat n)≤n
    by_cases hv:v<0
    · rw [if_pos hv]; omega
    · rw [if_neg hv]; exact Nat.min_le_right _ _
theorem ZmW (v:Int) (n d:Nat):(if v<0 then max (v+(n:Int)) 0 else min v (n:Int))=((sIx n d (some v):Nat):Int):=by
  show (if v<0 then max (v+(n:Int)) 0 else min v (n:Int))=(((if v<0 then (v+(n:Int)).toNat else min v.toNat n):Nat):Int)
  by_cases hv:v<0
  · simp only [if_pos hv]; omega
  · simp only [if_neg hv]; omega
theorem Zl6 (lo hi:Option Int) (n:Nat):Builtin.Slice.sliceAdjust lo hi 1 (n:Int)=(((sIx n 0 lo:Nat):Int),((sIx n n hi:Nat):Int)):=by
  have h1:¬((1:Int)<0):=by omega
  unfold Builtin.Slice.sliceAdjust
  simp only [h1,if_false]
  refine Prod.ext ?_ ?_
  · cases lo with
    | none=>rfl
    | some v=>exact ZmW v n 0
  · cases hi with
    | none=>rfl
    | some v=>exact ZmW v n n
theorem ZlK (i j:Nat):Builtin.Slice.slicePlaces (i:Int) (j:Int) 1=j-i:=by
  unfold Builtin.Slice.slicePlaces
  have h1:(1:Int) > 0:=by omega
  simp only [h1,if_true,Int.ediv_one]
  split<;>omega
theorem Zhd {v:Value} {o:Option Int} {Q:Option Int→Shared→Prop} (p:IsPart v o) (h:Q o s):wpAny (model prog w) A (Builtin.Slice.slicePartIndex v) Q E s:=by
  cases p with
  | none=>exact slicePart_none h
  | int i t=>exact slicePart_int h
theorem Zgb {sl:Addr} {vl vu:Value} {lo hi:Option Int} {n:Nat} {Q:Int×Int×Nat→Shared→Prop} (hs:s.heap.IsSliceOf sl vl vu .none) (pl:IsPart vl lo) (pu:IsPart vu hi)
    (h:Q (((sIx n 0 lo:Nat):Int),1,sIx n n hi-sIx n 0 lo) s):wpAny (model prog w) A (Builtin.Slice.sliceApplied (.ref sl) (pure (n:Int))) Q E s:=by
  obtain ⟨os,hos,hcs,hds⟩:=id hs
  unfold Builtin.Slice.sliceApplied Builtin.Slice.sliceFields
  refine wpAny_bind (wpAny_bind (wpAny_field hos hds (x:=vl) rfl (wpAny_bind (wpAny_field hos hds (x:=vu) rfl (wpAny_bind (wpAny_field hos hds (x:=.none) rfl (wpAny_pure ?_)))))))
  refine wpAny_bind (slicePart_none ?_)
  show wpAny _ _ (if ((1:Int) == 0)=true then _ else _) _ _ s
  rw [if_neg (by decide)]
  refine wpAny_bind (Zhd pl (wpAny_bind (Zhd pu (wpAny_bind (wpAny_pure ?_)))))
  show wpAny _ _ (match Builtin.Slice.sliceAdjust lo hi 1 (n:Int) with | (lo,hi)=>pure (lo,(1:Int),Builtin.Slice.slicePlaces lo hi 1)) _ _ s
  rw [Zl6 lo hi n]
  show wpAny _ _ (pure (((sIx n 0 lo:Nat):Int),(1:Int),Builtin.Slice.slicePlaces ((sIx n 0 lo:Nat):Int) ((sIx n n hi:Nat):Int) 1)) _ _ s
  rw [ZlK]
  exact wpAny_pure h
theorem ZpD (xs:Array Value) (i k:Nat):((List.range k).filterMap fun (m:Nat)=>xs[((i:Int)+(m:Int)*1).toNat]?).toArray=((xs.toList.drop i).take k).toArray:=by
  have e:(fun (m:Nat)=>xs[((i:Int)+(m:Int)*1).toNat]?)=fun m=>xs[i+m]?:=by
    funext m
    have:((i:Int)+(m:Int)*1).toNat=i+m:=by omega
    rw [this]
  rw [e]
  have:=pick_run xs i k
  rw [List.filterMap_map] at this
  have e2:((fun x=>xs[x]?)∘fun x=>i+x)=fun m=>xs[i+m]?:=rfl
  rw [e2] at this
  rw [this]
theorem getItem_tuple_cut {t sl:Addr} {items:Array Value} {vl vu:Value} {lo hi:Option Int} {Q:Value→Shared→Prop} (ht:IsTup s.heap t items) (hs:s.heap.IsSliceOf sl vl vu .none) (pl:IsPart vl lo) (pu:IsPart vu hi)
    (hw:¬(sIx items.size 0 lo=0∧sIx items.size items.size hi=items.size))
    (h:Q (.ref s.heap.objs.size) { s with heap:=s.heap.push { cls:=.type "tuple",data:=.seq ((items.toList.drop (sIx items.size 0 lo)).take (sIx items.size items.size hi-sIx items.size 0 lo)).toArray } })
    (hsz:items.size≤sizeLine):wpAny (model prog w) A (getItem (.ref t) (.ref sl)) Q E s:=by
  have htake:sizeOk (.seq ((items.toList.drop (sIx items.size 0 lo)).take (sIx items.size items.size hi-sIx items.size 0 lo)).toArray):=by
    show ((items.toList.drop (sIx items.size 0 lo)).take (sIx items.size items.size hi-sIx items.size 0 lo)).toArray.size≤sizeLine
    rw [List.size_toArray,List.length_take,List.length_drop,Array.length_toList]
    omega
  have hj:sIx items.size items.size hi≤items.size:=Ztu _ _ (Nat.le_refl _) hi
  obtain ⟨os,hos,hcs,hds⟩:=id hs
  have hTs:s.TypeIs (.ref sl) "slice":=⟨os,hos,hcs⟩
  unfold getItem
  try with_reducible refine wpAny_holding ?_
  first | refine wpAny_bind (wpAny_pure ?_) | skip
  refine wpAny_bind (wpAny_sequenceKey ht.typeIs (by decide) ?_)
  refine wpAny_bind (wpAny_callSpecial?_slot (name:=Str.ofString "__getitem__") ht.typeIs PyProof.Rows.slot_tuple_getitem
    (wpAny_call_entry PyProof.Rows.slot_tuple_getitem ht.typeIs entry_tuple_getitem ?_ (args_tuple_getitem _ _)))
  show wpAny _ _ (Builtin.Tuple.tupleItemsOf (.ref t) >>= _) _ _ s
  refine wpAny_bind (tupleItemsOf_ ht ?_)
  refine wpAny_bind (wpAny_typeOf hTs ?_)
  rw [if_pos (by decide)]
  refine wpAny_bind (Zgb hs pl pu ?_)
  have hno:¬((((sIx items.size 0 lo:Nat):Int) == 0 && (1:Int) == 1 && (sIx items.size items.size hi-sIx items.size 0 lo) == items.size)=true):=by
    intro q
    rw [Bool.and_eq_true,Bool.and_eq_true] at q
    have q1:((sIx items.size 0 lo:Nat):Int)=0:=eq_of_beq q.1.1
    have q2:sIx items.size items.size hi-sIx items.size 0 lo=items.size:=eq_of_beq q.2
    exact hw ⟨by omega,by omega⟩
  show wpAny _ _ (if (((sIx items.size 0 lo:Nat):Int) == 0 && (1:Int) == 1 && (sIx items.size items.size hi-sIx items.size 0 lo) == items.size)=true then _ else _) _ _ s
  rw [if_neg hno,ZpD]
  first
    | exact wpAny_bind (m:=Builtin.Tuple.tupleExact _) (wpAny_newObj_type (wpAny_pure ⟨_,rfl,wpAny_pure h⟩) htake)
    | exact wpAny_bind (m:=Builtin.Tuple.tupleExact _) (wpAny_newObj_type (wpAny_bind (wpAny_pure (wpAny_pure ⟨_,rfl,wpAny_pure h⟩))) htake)
    | exact wpAny_bind (wpAny_bind (m:=Builtin.Tuple.tupleExact _) (wpAny_newObj_type (wpAny_pure (wpAny_pure ⟨_,rfl,wpAny_pure h⟩)) htake))
    | exact wpAny_bind (wpAny_bind (m:=Builtin.Tuple.tupleExact _) (wpAny_newObj_type (wpAny_pure ⟨_,rfl,wpAny_pure h⟩) htake))
end
end HT
namespace L2
open PySem PySem.Spec PyProof.Rows
abbrev TO:=St→Hp→(Option Int→Hp→Prop)→Prop
def PO (X:Cx) (e:Option Expr) (t:TO):Prop:=
  ∀(pins:List (Addr×Obj)) (s:Shared) (σ:St) (H:Hp) (Q:Option Int→Hp→Prop),Inv X pins σ H s→t σ H Q→
    wpAny (model X.prog X.w) X.A (evalPart e X.env) (fun u s'=>∃o H',Inv X pins σ H' s'∧IsPart u o∧Q o H') X.xe s
def Zrn:TO:=fun _ H Q=>Q none H
def Zva (t:TE):TO:=fun σ H Q=>t σ H fun x H1=>∃i,x=.int i∧Q (some i) H1
section
variable {X:Cx} {e:Expr} {te:TE} {lo hi:Option Expr} {tl th:TO} {pos p2:Pos}
theorem ZrE:PO X none Zrn:=by
  intro pins s σ H Q I h
  rw [evalPart_none]
  exact wpAny_pure ⟨none,H,I,.none,h⟩
theorem ZrD (h:PE X e te):PO X (some e) (Zva te):=by
  intro pins s σ H Q I hw
  rw [evalPart_some]
  refine thn (h pins s σ H _ I hw) fun u s1 ⟨x,H1,I1,r1,q1⟩=>?_
  obtain ⟨i,rfl,q⟩:=q1
  obtain ⟨t,rfl⟩:=r1
  exact ⟨some i,H1,I1,.int i t,q⟩
def SlR (X:Cx) (r:V→Option Int→Option Int→Hp→VK→Prop):Prop:=
  ∀(pins:List (Addr×Obj)) (s:Shared) (σ:St) (H:Hp) (x:V) (v vl vu:Value) (lo hi:Option Int) (sl:Addr) (Q:VK),Inv X pins σ H s→RelV x v→s.heap.IsSliceOf sl vl vu .none→IsPart vl lo→IsPart vu hi→r x lo hi H Q→
    ∃T id,typeLookup (.type T) "__getitem__"=pure (some (.builtin id))∧s.TypeIs v T∧wpAny (model X.prog X.w) X.A (getItem v (.ref sl)) (EP X pins σ Q) X.xe s
theorem SlR.or {r r':V→Option Int→Option Int→Hp→VK→Prop} (h:SlR X r) (h':SlR X r'):SlR X (fun x lo hi H Q=>r x lo hi H Q∨r' x lo hi H Q):=by
  intro pins s σ H x v vl vu lo hi sl Q I rx hs pl pu q
  rcases q with q | q
  · exact h pins s σ H x v vl vu lo hi sl Q I rx hs pl pu q
  · exact h' pins s σ H x v vl vu lo hi sl Q I rx hs pl pu q
def tSl (r:V→Option Int→Option Int→Hp→VK→Prop) (te:TE) (tl th:TO):TE:=fun σ H Q=>te σ H fun x H1=>tl σ H1 fun l H2=>th σ H2 fun u H3=>r x l u H3 Q
theorem ZpF {r:V→Option Int→Option Int→Hp→VK→Prop} (hr:SlR X r) (he:PE X e te) (hl:PO X lo tl) (hu:PO X hi th):PE X (.Subscript e (.Slice lo hi none p2) pos) (tSl r te tl th):=by
  intro pins s σ H Q I h
  refine Subscript_ (thn (he pins s σ H _ I h) fun v s1 ⟨x,H1,I1,r1,q1⟩=>?_)
  refine wpAny_Slice (thn (hl pins s1 σ H1 _ I1 q1) fun vl s2 ⟨l,H2,I2,pl,q2⟩=>thn (hu pins s2 σ H2 _ I2 q2) fun vu s3 ⟨u,H3,I3,pu,q3⟩=>?_)
  rw [evalPart_none]
  refine wpAny_pure ?_
  have I4:Inv X pins σ H3 { s3 with heap:=s3.heap.push { cls:=.type "slice",data:=.fields #[vl,vu,.none] } }:=I3.kept (t':=s3.toks) fun b ob q=>Heap.get?_push_of_some _ q
  obtain ⟨T,id,hT,ht,hg⟩:=hr pins { s3 with heap:=s3.heap.push { cls:=.type "slice",data:=.fields #[vl,vu,.none] } } σ H3 x v vl vu l u s3.heap.objs.size Q I4 r1 (Heap.IsSliceOf.new ..) pl pu q3
  show wpAny (model X.prog X.w) X.A (subscriptTail e (.Slice lo hi none p2) v (.ref s3.heap.objs.size)) (EP X pins σ Q) X.xe { s3 with heap:=s3.heap.push { cls:=.type "slice",data:=.fields #[vl,vu,.none] } }
  exact tail_any (ops:=[.ref s3.heap.objs.size,v]) ht hT hg (by with_unfolding_all rfl)
def Zll (xs:List V) (lo hi:Option Int):List V:=(xs.drop (HT.sIx xs.length 0 lo)).take (HT.sIx xs.length xs.length hi-HT.sIx xs.length 0 lo)
theorem ZgE (xs:List V) (lo hi:Option Int):(Zll xs lo hi).length≤xs.length:=by
  unfold Zll
  rw [List.length_take,List.length_drop]
  omega
def Zy7 (K:PySem.W.Frag):V→Option Int→Option Int→Hp→VK→Prop:=fun x lo hi H Q=>∃a xs,x=.ref a∧SqT K H a xs∧
  ¬(HT.sIx xs.length 0 lo=0∧HT.sIx xs.length xs.length hi=xs.length)∧∀p,H p=none→Q (.ref p) (upd H p (.tup (Zll xs lo hi)))
theorem Ztr:SlR X (Zy7 X.K):=by
  intro pins s σ H x v vl vu lo hi sl Q I rx hs pl pu h
  obtain ⟨a,xs,rfl,hx,hw,q⟩:=h
  cases rx
  obtain ⟨its,r,ht,hz⟩:=I.tuple hx
  have hlen:its.toArray.size=xs.length:=by rw [List.size_toArray]; exact r.length.symm
  refine ⟨"tuple",_,PyProof.Rows.slot_tuple_getitem.lookup,ht.typeIs,?_⟩
  refine HT.getItem_tuple_cut ht hs pl pu (by rw [hlen]; exact hw) ?_ (by rw [hlen]; exact hz)
  rw [hlen]
  refine ⟨.ref s.heap.objs.size,_,I.laid (t':=s.toks) (o:=.tup (Zll xs lo hi)) (fun b ob q=>Heap.get?_push_of_some _ q) (Nat.le_refl _) ?_,rfl,q _ (I.hok.fresh (Nat.le_refl _))⟩
  exact ⟨Nat.le_trans (ZgE xs lo hi) hz,_,(r.drop (HT.sIx xs.length 0 lo)).take (HT.sIx xs.length xs.length hi-HT.sIx xs.length 0 lo),IsTup.new _ _⟩
def Zvp (K:PySem.W.Frag):R2:=fun x y H Q=>∃a b xs ys,x=.ref a∧y=.ref b∧SqT K H a xs∧SqT K H b ys∧xs≠[]∧xs.length+ys.length≤sizeLine∧
  (ys=[]→Q (.ref a) H)∧(ys≠[]→∀p,H p=none→Q (.ref p) (upd H p (.tup (xs++ys))))
theorem Vals.nil_iff {xs:List V} {us:List Value} (r:Vals xs us):us=[]↔xs=[]:=by
  cases r with
  | nil=>simp
  | cons _ _=>simp
theorem op_catT:OpR X (binaryOp .Add) (Zvp X.K):=by
  intro pins s σ H x y v u Q I rx ry h
  obtain ⟨a,b,xs,ys,rfl,rfl,ha,hb,hx,hz,q1,q2⟩:=h
  cases rx
  cases ry
  obtain ⟨its,r1,p1,_⟩:=I.tuple ha
  obtain ⟨its2,r2,p2,_⟩:=I.tuple hb
  refine HT.cat_tup p1 p2 (fun z=>hx (r1.nil_iff.mp z)) (fun z=>⟨.ref a,H,I,rfl,q1 (r2.nil_iff.mp z)⟩) (fun z=>?_) (by rw [←r1.length,←r2.length]; exact hz)
  refine ⟨.ref s.heap.objs.size,_,I.laid (t':=s.toks) (o:=.tup (xs++ys)) (fun b ob q=>Heap.get?_push_of_some _ q) (Nat.le_refl _) ?_,rfl,q2 (fun w=>z (r2.nil_iff.mpr w)) _ (I.hok.fresh (Nat.le_refl _))⟩
  exact ⟨by rw [List.length_append]; exact hz,_,r1.append r2,IsTup.new _ _⟩
end
end L2
namespace L2
open PySem PySem.Spec PyProof.Rows
def ixN (n:Nat) (i:Int):Option Nat:=if 0≤i then (if i<n then some i.toNat else none) else if -(n:Int)≤i then some (i+n).toNat else none
def atI {α:Type} (xs:List α) (i:Int):Option α:=(ixN xs.length i).bind fun j=>xs[j]?
theorem Zr3 {n:Nat} {i:Int} {j:Nat} (h:ixN n i=some j):seqIndex? i n=some j∧j<n∧-(n:Int)≤i∧i<n:=by
  unfold ixN at h
  by_cases h0:0≤i
  · rw [if_pos h0] at h
    by_cases h1:i<n
    · rw [if_pos h1] at h
      have e:i.toNat=j:=Option.some.inj h
      exact ⟨by rw [seqIndex_of h0 h1,e],by omega,by omega,h1⟩
    · rw [if_neg h1] at h; cases h
  · rw [if_neg h0] at h
    by_cases h1 : -(n:Int)≤i
    · rw [if_pos h1] at h
      have e:(i+n).toNat=j:=Option.some.inj h
      exact ⟨by rw [seqIndex_neg (by omega) h1,e],by omega,h1,by omega⟩
    · rw [if_neg h1] at h; cases h
theorem Zjd {α:Type} {xs:List α} {i:Int} {v:α} (h:atI xs i=some v):∃j,seqIndex? i xs.length=some j∧xs[j]?=some v∧j<xs.length∧-(xs.length:Int)≤i∧i<xs.length:=by
  unfold atI at h
  cases e:ixN xs.length i with
  | none=>rw [e] at h; cases h
  | some j=>
    rw [e] at h
    obtain ⟨h1,h2,h3,h4⟩:=Zr3 e
    exact ⟨j,h1,h,h2,h3,h4⟩
theorem Zfa {α:Type} {xs:List α} {j:Nat} {v:α} (h:xs[j]?=some v):atI xs (j:Int)=some v:=by
  have hj:j<xs.length:=(List.getElem?_eq_some_iff.mp h).1
  have e:ixN xs.length (j:Int)=some j:=by
    unfold ixN
    rw [if_pos (by omega),if_pos (by omega)]; simp
  unfold atI; rw [e]; exact h
def Zm7 (b:Expr):Prop:=∀o i,subscripted b false o i=operate [o,i] (getItem o i)
def IxR (X:Cx) (r:R2):Prop:=
  ∀(value slice:Expr) (pins:List (Addr×Obj)) (s:Shared) (σ:St) (H:Hp) (x y:V) (v u:Value) (Q:VK),Inv X pins σ H s→RelV x v→RelV y u→r x y H Q→
    subscripted slice false v u=operate [v,u] (getItem v u)→wpAny (model X.prog X.w) X.A (subscriptTail value slice v u) (EP X pins σ Q) X.xe s
def MtR (X:Cx) (id:String) (r:V→List V→Hp→VK→Prop):Prop:=
  ∀(pins:List (Addr×Obj)) (s:Shared) (σ:St) (H:Hp) (x:V) (xs:List V) (v:Value) (us:List Value) (Q:VK),Inv X pins σ H s→RelV x v→Vals xs us→r x xs H Q→
    wpAny (model X.prog X.w) X.A (call (.builtin id) (v::us)) (EP X pins σ Q) X.xe s
section
variable {X:Cx} {a b:Expr} {ta tb:TE} {pos:Pos}
theorem IxR.or {r r':R2} (h:IxR X r) (h':IxR X r'):IxR X (fun x y H Q=>r x y H Q∨r' x y H Q):=by
  intro value slice pins s σ H x y v u Q I rx ry q hs
  rcases q with q | q
  · exact h value slice pins s σ H x y v u Q I rx ry q hs
  · exact h' value slice pins s σ H x y v u Q I rx ry q hs
theorem ZvC {r:R2} (hr:IxR X r) (ha:PE X a ta) (hb:PE X b tb) (hs:Zm7 b):PE X (.Subscript a b pos) (tOp r ta tb):=by
  intro pins s σ H Q I h
  exact Subscript_ (Zuk ha hb I h fun v u s2 x y H2 I2 rx ry q=>hr a b pins s2 σ H2 x y v u Q I2 rx ry q (hs _ _))
def Zvo (K:PySem.W.Frag):R2:=fun x y H Q=>∃p xs i v,x=.ref p∧y=.int i∧SqL K H p xs∧atI xs i=some v∧Q v H
def Zvm (K:PySem.W.Frag):R2:=fun x y H Q=>∃p xs i v,x=.ref p∧y=.int i∧SqT K H p xs∧atI xs i=some v∧Q v H
def Zvn:R2:=fun x y H Q=>∃z i c,x=.str z∧y=.int i∧z.length≤sizeLine∧atI z.cps.toList i=some c∧Q (.str ⟨#[c]⟩) H
theorem ix_list:IxR X (Zvo X.K):=by
  intro value slice pins s σ H x y v u Q I rx ry h hs
  obtain ⟨p,xs,i,z,rfl,rfl,hq,he,q⟩:=h
  cases rx
  obtain ⟨t,rfl⟩:=ry
  obtain ⟨its,r,pl,hz⟩:=I.list hq
  obtain ⟨j,h1,h2,h3,h4,h5⟩:=Zjd he
  obtain ⟨w,ew,rw'⟩:=r.get h2
  have hl:=r.length
  have hn:=Zgj
  have fin:EP X pins σ Q w s:=⟨z,H,I,rw',q⟩
  by_cases h0:0≤i
  · have hj:i.toNat=j:=by
      rw [seqIndex_of h0 h5] at h1
      exact Option.some.inj h1
    exact item_listR pl.isList h0 (by omega) (by rw [hj]; simpa using ew) fin hs
  · have hj:(i+(its.toArray.size:Int)).toNat=j:=by
      rw [seqIndex_neg (by omega) h4] at h1
      rw [List.size_toArray,←hl]
      exact Option.some.inj h1
    exact subscriptTail_builtinR (x:=w) pl.isList.typeIs slot_list_getitem.lookup
      (wpAny_getItem_list_neg (Q:=fun r s'=>r=w∧EP X pins σ Q r s') pl.isList (by omega) (by rw [List.size_toArray]<;>omega) (by omega) (by rw [hj]; simpa using ew) ⟨rfl,fin⟩) hs
theorem ix_tup:IxR X (Zvm X.K):=by
  intro value slice pins s σ H x y v u Q I rx ry h hs
  obtain ⟨p,xs,i,z,rfl,rfl,hq,he,q⟩:=h
  cases rx
  obtain ⟨t,rfl⟩:=ry
  obtain ⟨its,r,pl,hz⟩:=I.tuple hq
  obtain ⟨j,h1,h2,h3,h4,h5⟩:=Zjd he
  obtain ⟨w,ew,rw'⟩:=r.get h2
  have hl:=r.length
  have hn:=Zgj
  have fin:EP X pins σ Q w s:=⟨z,H,I,rw',q⟩
  exact subscriptTail_builtinR (x:=w) pl.typeIs slot_tuple_getitem.lookup
    (getItem_tuple (j:=j) (Q:=fun r s'=>r=w∧EP X pins σ Q r s') pl (by omega) (by omega) (by rw [List.size_toArray,←hl]; exact h1) (by simpa using ew) ⟨rfl,fin⟩) hs
theorem Zub:IxR X Zvn:=by
  intro value slice pins s σ H x y v u Q I rx ry h hs
  obtain ⟨z,i,c,rfl,rfl,hz,he,q⟩:=h
  obtain ⟨t,rfl⟩:=rx
  obtain ⟨t',rfl⟩:=ry
  obtain ⟨j,h1,h2,h3,h4,h5⟩:=Zjd he
  have hl:z.cps.toList.length=z.length:=by simp [Str.length]
  rw [hl] at h1 h4 h5
  have hn:=Zgj
  exact tail_any (typeIs_str s z t) slot_str_getitem.lookup (getItem_str (c:=c) (by
    have e1:decide (i < -(2 ^ 63:Int))=false:=decide_eq_false (by omega)
    have e2:decide (i≥2 ^ 63)=false:=decide_eq_false (by omega)
    rw [e1,e2,Bool.or_false]) (by rw [h1]; simpa using h2) ⟨.str ⟨#[c]⟩,H,I.tok _,⟨_,rfl⟩,q⟩) hs
def rIx (K:PySem.W.Frag):R2:=fun x y H Q=>Zvo K x y H Q∨Zvm K x y H Q∨Zvn x y H Q
theorem Zuc:IxR X (rIx X.K):=ix_list.or (ix_tup.or Zub)
theorem ZiN (lo hi:Option Int) (n:Nat):(sliceBounds lo hi none n).1=((HT.sIx n 0 lo:Nat):Int)∧(sliceBounds lo hi none n).2.1=((HT.sIx n n hi:Nat):Int)∧(sliceBounds lo hi none n).2.2=1:=by
  refine ⟨?_,?_,rfl⟩
  · cases lo with
    | none=>simp [sliceBounds,HT.sIx]
    | some i=>
      simp only [sliceBounds,HT.sIx,Option.getD_none,show (1:Int) > 0 by decide,if_true]
      by_cases h:i<0
      · simp only [h,if_true]<;>omega
      · simp only [h,if_false]<;>omega
  · cases hi with
    | none=>simp [sliceBounds,HT.sIx]
    | some i=>
      simp only [sliceBounds,HT.sIx,Option.getD_none,show (1:Int) > 0 by decide,if_true]
      by_cases h:i<0
      · simp only [h,if_true]<;>omega
      · simp only [h,if_false]<;>omega
theorem ZhT (its:List Value) (lo hi:Option Int):slicePick its.toArray lo hi none=((its.drop (HT.sIx its.length 0 lo)).take (HT.sIx its.length its.length hi-HT.sIx its.length 0 lo)).toArray:=by
  obtain ⟨h1,h2,h3⟩:=ZiN lo hi its.toArray.size
  unfold slicePick
  rw [h1,h2,h3]
  simp only [sliceRange_one,pick_run,List.size_toArray]<;>rfl
def Zvk (K:PySem.W.Frag):V→Option Int→Option Int→Hp→VK→Prop:=fun x lo hi H Q=>∃a xs,x=.ref a∧SqL K H a xs∧∀p,H p=none→Q (.ref p) (upd H p (.lst (Zll xs lo hi)))
theorem sl_list:SlR X (Zvk X.K):=by
  intro pins s σ H x v vl vu lo hi sl Q I rx hs pl pu h
  obtain ⟨a,xs,rfl,hx,q⟩:=h
  cases rx
  obtain ⟨its,r,ht,hz⟩:=I.list hx
  have hlen:=r.length
  refine ⟨"list",_,slot_list_getitem.lookup,ht.isList.typeIs,?_⟩
  refine wpAny_getItem_list_slice ht.isList hs pl pu .none (by simp) ?_ (by rw [List.size_toArray]<;>omega)
  rw [ZhT,←hlen]
  refine ⟨.ref s.heap.objs.size,_,I.laid (t':=s.toks) (o:=.lst (Zll xs lo hi)) (fun b ob q=>Heap.get?_push_of_some _ q) (Nat.le_refl _) ?_,rfl,q _ (I.hok.fresh (Nat.le_refl _))⟩
  exact ⟨Nat.le_trans (ZgE xs lo hi) hz,_,0,(r.drop (HT.sIx xs.length 0 lo)).take (HT.sIx xs.length xs.length hi-HT.sIx xs.length 0 lo),Heap.get?_push_size _ rfl⟩
def Zdo:V→Bool
  | .non=>true
  | .bl _=>true
  | .int _=>true
  | .str _=>true
  | _=>false
def eqV:V→V→Bool
  | .non,.non=>true
  | .bl a,.bl b=>a == b
  | .bl a,.int b=>(if a then 1 else 0) == b
  | .int a,.bl b=>a == (if b then 1 else 0)
  | .int a,.int b=>a == b
  | .str a,.str b=>a == b
  | _,_=>false
theorem Zug {A:Around} {s:Shared} {y x:V} {u v:Value} (ry:RelV y u) (rx:RelV x v) (fy:Zdo y=true) (fx:Zdo x=true):SeqAt.EqAt A s u v (eqV y x):=by
  cases y with
  | non=>
    cases ry
    cases x with
    | non=>cases rx; exact SeqAt.EqAt.same _
    | bl b=>cases rx; exact SeqAt.EqAt.none_bool b
    | int b=>obtain ⟨t,rfl⟩:=rx; exact SeqAt.EqAt.none_int b t
    | str b=>obtain ⟨t,rfl⟩:=rx; exact SeqAt.EqAt.none_str b t
    | _=>exact absurd (show false=true from fx) Bool.false_ne_true
  | bl a=>
    cases ry
    cases x with
    | non=>cases rx; exact SeqAt.EqAt.bool_none a
    | bl b=>cases rx; exact SeqAt.EqAt.bool_bool a b
    | int b=>obtain ⟨t,rfl⟩:=rx; exact SeqAt.EqAt.bool_int a b t
    | str b=>obtain ⟨t,rfl⟩:=rx; exact SeqAt.EqAt.bool_str a b t
    | _=>exact absurd (show false=true from fx) Bool.false_ne_true
  | int a=>
    obtain ⟨t',rfl⟩:=ry
    cases x with
    | non=>cases rx; exact SeqAt.EqAt.int_none a t'
    | bl b=>cases rx; exact SeqAt.EqAt.int_bool a t' b
    | int b=>obtain ⟨t,rfl⟩:=rx; exact SeqAt.EqAt.int_int a t' b t
    | str b=>obtain ⟨t,rfl⟩:=rx; exact SeqAt.EqAt.int_str a t' b t
    | _=>exact absurd (show false=true from fx) Bool.false_ne_true
  | str a=>
    obtain ⟨t',rfl⟩:=ry
    cases x with
    | non=>cases rx; exact SeqAt.EqAt.str_none a t'
    | bl b=>cases rx; exact SeqAt.EqAt.str_bool a t' b
    | int b=>obtain ⟨t,rfl⟩:=rx; exact SeqAt.EqAt.str_int a t' b t
    | str b=>obtain ⟨t,rfl⟩:=rx; exact SeqAt.EqAt.str_str a t' b t
    | _=>exact absurd (show false=true from fx) Bool.false_ne_true
  | _=>exact absurd (show false=true from fy) Bool.false_ne_true
def eqU (x:V) (u:Value):Bool:=match u with
  | .none=>eqV .non x
  | .bool b=>eqV (.bl b) x
  | .int i _=>eqV (.int i) x
  | .str z _=>eqV (.str z) x
  | _=>false
theorem Zqu {x y:V} {u:Value} (r:RelV y u) (f:Zdo y=true):eqU x u=eqV y x:=by
  cases y with
  | non=>cases r; rfl
  | bl b=>cases r; rfl
  | int i=>obtain ⟨t,rfl⟩:=r; rfl
  | str z=>obtain ⟨t,rfl⟩:=r; rfl
  | _=>exact absurd (show false=true from f) Bool.false_ne_true
theorem Zf4 {x:V}:∀{xs:List V} {us:List Value},Vals xs us→xs.all Zdo=true→us.any (eqU x)=xs.any fun y=>eqV y x
  | _,_,.nil,_=>rfl
  | y::xs,u::us,.cons r t,f=>by
    rw [List.all_cons,Bool.and_eq_true] at f
    rw [List.any_cons,List.any_cons,Zqu r f.1,Zf4 t f.2]
theorem ZeA {A:Around} {s:Shared} {x:V} {v:Value} (rx:RelV x v) (fx:Zdo x=true):∀{xs:List V} {us:List Value},Vals xs us→xs.all Zdo=true→∀u∈us,SeqAt.EqAt A s u v (eqU x u)
  | _,_,.nil,_=>fun u hu=>by cases hu
  | y::xs,u::us,.cons r t,f=>fun u' hu=>by
    rw [List.all_cons,Bool.and_eq_true] at f
    rcases List.mem_cons.mp hu with rfl | hu
    · rw [Zqu r f.1]; exact Zug r rx f.1 fx
    · exact ZeA rx fx t f.2 u' hu
def inV (x:V) (xs:List V):Bool:=xs.any fun y=>eqV y x
def rIn (K:PySem.W.Frag) (neg:Bool):R2:=fun x y H Q=>∃p xs,y=.ref p∧(SqL K H p xs∨SqT K H p xs)∧Zdo x=true∧xs.all Zdo=true∧Q (.bl (if neg then !inV x xs else inV x xs)) H
theorem Zno:OpR X (compareOp .In) (rIn X.K false):=by
  intro pins s σ H x y v u Q I rx ry h
  obtain ⟨p,xs,rfl,hq,fx,fs,q⟩:=h
  cases ry
  rcases hq with hq | hq
  · obtain ⟨its,r,pl,hz⟩:=I.list hq
    refine SeqAt.in_listAt (eqU x) pl.isList (fun w hw=>ZeA rx fx r fs w (by simpa using hw)) ⟨.bl _,H,I,rfl,?_⟩
    rw [show its.toArray.any (eqU x)=its.any (eqU x) by simp,Zf4 r fs]
    exact q
  · obtain ⟨its,r,pl,hz⟩:=I.tuple hq
    refine SeqAt.in_tupleAt (eqU x) pl (fun w hw=>ZeA rx fx r fs w (by simpa using hw)) ⟨.bl _,H,I,rfl,?_⟩
    rw [show its.toArray.any (eqU x)=its.any (eqU x) by simp,Zf4 r fs]
    exact q
theorem ZiU:OpR X (compareOp .NotIn) (rIn X.K true):=by
  intro pins s σ H x y v u Q I rx ry h
  obtain ⟨p,xs,rfl,hq,fx,fs,q⟩:=h
  cases ry
  rcases hq with hq | hq
  · obtain ⟨its,r,pl,hz⟩:=I.list hq
    refine SeqAt.notIn_listAt (eqU x) pl.isList (fun w hw=>ZeA rx fx r fs w (by simpa using hw)) ⟨.bl _,H,I,rfl,?_⟩
    rw [show its.toArray.any (eqU x)=its.any (eqU x) by simp,Zf4 r fs]
    exact q
  · obtain ⟨its,r,pl,hz⟩:=I.tuple hq
    refine SeqAt.notIn_tupleAt (eqU x) pl (fun w hw=>ZeA rx fx r fs w (by simpa using hw)) ⟨.bl _,H,I,rfl,?_⟩
    rw [show its.toArray.any (eqU x)=its.any (eqU x) by simp,Zf4 r fs]
    exact q
theorem Zja:CallR X (.builtin "len") (fun xs H Q=>∃p ys,xs=[.ref p]∧(SqL X.K H p ys∨SqT X.K H p ys)∧Q (.int ys.length) H):=by
  intro pins s σ H xs us Q I r h
  obtain ⟨p,ys,rfl,hq,q⟩:=h
  obtain ⟨u,rfl,rx⟩:=Zfw r
  cases rx
  have hn:=Zgj
  rcases hq with hq | hq
  · obtain ⟨its,r',pl,hz⟩:=I.list hq
    have hlen:=r'.length
    exact Calls.call_len_list pl.isList (by simp only [List.size_toArray]<;>omega) ⟨.int ys.length,H,I.tok _,⟨s.toks+1,by rw [List.size_toArray,hlen]⟩,q⟩
  · obtain ⟨its,r',pl,hz⟩:=I.tuple hq
    have hlen:=r'.length
    exact len_tuple pl (by simp only [List.size_toArray]<;>omega) ⟨.int ys.length,H,I.tok _,⟨s.toks+1,by rw [List.size_toArray,hlen]⟩,q⟩
theorem call_len_str:CallR X (.builtin "len") (fun xs H Q=>∃z,xs=[.str z]∧z.length≤sizeLine∧Q (.int z.length) H):=by
  intro pins s σ H xs us Q I r h
  obtain ⟨z,rfl,hz,q⟩:=h
  obtain ⟨u,rfl,t,rfl⟩:=Zfw r
  have hn:=Zgj
  exact len_str (by omega) ⟨.int z.length,H,I.tok _,⟨_,rfl⟩,q⟩
theorem CallR.or {f:Value} {r r':List V→Hp→VK→Prop} (h:CallR X f r) (h':CallR X f r'):CallR X f (fun xs H Q=>r xs H Q∨r' xs H Q):=by
  intro pins s σ H xs us Q I rs q
  rcases q with q | q
  · exact h pins s σ H xs us Q I rs q
  · exact h' pins s σ H xs us Q I rs q
theorem Zi9:CallR X (.type "list") (fun xs H Q=>∃p ys,xs=[.ref p]∧(SqL X.K H p ys∨SqT X.K H p ys)∧∀l,H l=none→Q (.ref l) (upd H l (.lst ys))):=by
  intro pins s σ H xs us Q I r h
  obtain ⟨p,ys,rfl,hq,q⟩:=h
  obtain ⟨u,rfl,rx⟩:=Zfw r
  cases rx
  have fin:∀(its:List Value),Vals ys its→ys.length≤sizeLine→∀(h':Heap) (c':Nat),(∀b o',s.heap.get? b=some o'→h'.get? b=some o')→
      h'.get? s.heap.objs.size=some { cls:=.type "list",dict:=none,data:=.seq its.toArray c',slots:=#[] }→EP X pins σ Q (.ref s.heap.objs.size) { s with heap:=h' }:=fun its r' hz h' c' kp e=>
    ⟨.ref s.heap.objs.size,_,I.laid (t':=s.toks) kp (Nat.le_refl _) (show ObjOk X.prog X.w _ h' _ (.lst ys) from ⟨hz,its,c',r',e⟩),rfl,q _ (I.hok.fresh (Nat.le_refl _))⟩
  rcases hq with hq | hq
  · obtain ⟨its,r',pl,hz⟩:=I.list hq
    have hlen:=r'.length
    obtain ⟨o,ho,hc,n,hd⟩:=pl.isList
    exact call_list_seq p (.inl rfl) ho hc hd (fun h' c' kp e=>fin its r' hz h' c' kp e) (by simp only [List.size_toArray]<;>omega)
  · obtain ⟨its,r',pl,hz⟩:=I.tuple hq
    have hlen:=r'.length
    obtain ⟨o,ho,hc,n,hd⟩:=pl
    exact call_list_seq p (.inr rfl) ho hc hd (fun h' c' kp e=>fin its r' hz h' c' kp e) (by simp only [List.size_toArray]<;>omega)
theorem ZhX:CallR X (.type "tuple") (fun xs H Q=>∃p ys,xs=[.ref p]∧((SqL X.K H p ys∧∀l,H l=none→Q (.ref l) (upd H l (.tup ys)))∨(SqT X.K H p ys∧Q (.ref p) H))):=by
  intro pins s σ H xs us Q I r h
  obtain ⟨p,ys,rfl,h⟩:=h
  obtain ⟨u,rfl,rx⟩:=Zfw r
  cases rx
  rcases h with ⟨hq,q⟩ | ⟨hq,q⟩
  · obtain ⟨its,r',pl,hz⟩:=I.list hq
    have hlen:=r'.length
    refine call_tuple_list pl.isList (fun h' kp=>?_) (by simp only [List.size_toArray]<;>omega)
    have I1:Inv X pins σ H { s with heap:=h' }:=I.kept (t':=s.toks) kp
    have I2:Inv X pins σ (upd H h'.objs.size (.tup ys)) { s with heap:=h'.push { cls:=.type "tuple",data:=.seq its.toArray } }:=
      I1.laid (t':=s.toks) (fun b o e=>Heap.get?_push_of_some _ e) (Nat.le_refl _) (show ObjOk X.prog X.w _ _ _ (.tup ys) from ⟨hz,its,r',IsTup.new _ _⟩)
    exact ⟨.ref h'.objs.size,_,I2,rfl,q _ (I1.hok.fresh (Nat.le_refl _))⟩
  · obtain ⟨its,r',pl,hz⟩:=I.tuple hq
    exact call_tuple_same pl ⟨.ref p,H,I,rfl,q⟩
def tyV (K:PySem.W.Frag) (T:String) (x:V) (H:Hp):Prop:=match x with
  | .str _=>T = "str"
  | .int _=>T = "int"
  | .ref p=>(T = "list"∧∃xs,SqL K H p xs)∨(T = "tuple"∧∃o,K.lookup p=some o∧o.cls=.type "tuple"∧o.dict=none)∨
      (T = "dict"∧((∃kvs,H p=some (.dK kvs))∨∃kvs,H p=some (.dT kvs)))∨(T = "set"∧∃S n,H p=some (.set S n))
  | _=>False
theorem Zs5 {pins:List (Addr×Obj)} {σ:St} {H:Hp} {s:Shared} {T:String} {x:V} {v:Value} (I:Inv X pins σ H s) (r:RelV x v) (ty:tyV X.K T x H) :
    s.TypeIs v T∧∀a,v=.ref a→∃ob,s.heap.get? a=some ob∧ob.dict=none:=by
  cases x with
  | str z=>
    obtain ⟨t,rfl⟩:=r
    cases (show T = "str" from ty)
    exact ⟨typeIs_str s z t,fun _ e=>nomatch e⟩
  | int i=>
    obtain ⟨t,rfl⟩:=r
    cases (show T = "int" from ty)
    exact ⟨typeIs_int s i t,fun _ e=>nomatch e⟩
  | ref p=>
    cases r
    rcases ty with ⟨rfl,xs,hq⟩ | ⟨rfl,o,hk,hc,hd⟩ | ⟨rfl,hk⟩ | ⟨rfl,S,n,hk⟩
    · obtain ⟨its,_,pl,_⟩:=I.list hq
      refine ⟨pl.isList.typeIs,fun a e=>?_⟩
      cases e
      obtain ⟨o,n,e,c,hd,_⟩:=pl
      exact ⟨o,e,hd⟩
    · refine ⟨⟨o,I.kIn p o hk,hc⟩,fun a e=>?_⟩
      cases e
      exact ⟨o,I.kIn _ o hk,hd⟩
    · have z:∃o,s.heap.get? p=some o∧o.ExactDict:=by
        rcases hk with ⟨kvs,hk⟩ | ⟨kvs,hk⟩
        · obtain ⟨_,_,_,_,o,_,_,e,ex,_⟩:=I.hok p _ hk
          exact ⟨o,e,ex⟩
        · obtain ⟨_,_,_,_,o,_,_,e,ex,_⟩:=I.hok p _ hk
          exact ⟨o,e,ex⟩
      obtain ⟨o,e,ex⟩:=z
      refine ⟨⟨o,e,ex.1⟩,fun a e2=>?_⟩
      cases e2
      exact ⟨o,e,ex.2.1⟩
    · obtain ⟨o,_,_,_,e,ex,_⟩:=I.hok p _ hk
      refine ⟨⟨o,e,ex.1⟩,fun a e2=>?_⟩
      cases e2
      exact ⟨o,e,ex.2.1⟩
  | _=>exact False.elim ty
def tBM (K:PySem.W.Frag) (T:String) (r:V→List V→Hp→VK→Prop) (to:TE) (t:TA):TE:=fun σ H Q=>to σ H fun x H1=>tyV K T x H1∧t σ H1 fun xs H2=>r x xs H2 Q
variable {o e:Expr} {es:List Expr} {to:TE} {t:TA} {name:Str} {apos cpos:Pos} {T id:String} {r:V→List V→Hp→VK→Prop}
theorem ZsH (pa:PlainAttrs T) (slot:Slot T name id) (hty:typeOf (.builtin id)=pure (.type "method_descriptor")) (hm:MtR X id r) (ho:PE X o to) (ha:PA X (e::es) t)
    (hbase:attributeBase o name X.env (eval o X.env)=eval o X.env:=by rfl)
    (hfew:((backTo cpos (starEach (e::es) X.env)).all (fun x=>!x.1) && (backToKw cpos (keywordEach [] X.env)).all (fun x=>x.1.isSome)
      && decide ((e::es).length+([]:List Keyword).length+(if ([]:List Keyword).isEmpty then 0 else 1)<30))=true:=by rfl)
    (hline:(apos.endLine == cpos.line)=true:=by rfl) (hs:starEach (e::es) X.env=(false,eval e X.env)::starEach es X.env:=by rfl) (hplain:(backTo cpos (starEach es X.env)).any (·.1)=false:=by rfl) :
    PE X (.Call (.Attribute o name apos) (e::es) [] cpos) (tBM X.K T r to t):=by
  intro pins s σ H Q I h
  refine wpAny_Call_method_late hbase hfew hline rfl (thn (ho pins s σ H _ I h) fun v s1 ⟨x,H1,I1,r1,ty,q1⟩=>?_)
  obtain ⟨h1,h2⟩:=Zs5 I1 r1 ty
  refine ⟨T,id,pa,slot,hty,h1,h2,?_⟩
  have hA:=ha cpos pins s1 σ H1 _ I1 q1
  rw [hs] at hA ⊢
  refine Calls.callWith_builtin (by show (false || (backTo cpos (starEach es X.env)).any (·.1))=false; rw [hplain]<;>rfl) (Calls.evalArgs_plain ?_)
  exact thn hA fun us s2 ⟨vs,H2,I2,r2,q2⟩=>hm pins s2 σ H2 x vs v us Q I2 r1 r2 q2
end
end L2
namespace L2
open PySem PySem.Spec PyProof.Rows
def MtM (X:Cx) (id:String) (r:V→List V→Hp→VK→Prop):Prop:=
  ∀(pins:List (Addr×Obj)) (s:Shared) (σ:St) (H:Hp) (x:V) (xs:List V) (v:Value) (us:List Value) (Q:VK),Inv X pins σ H s→RelV x v→Vals xs us→r x xs H Q→
    wpAny (model X.prog X.w) X.A (call (.builtin id) (v::us)) (EP X pins σ Q) X.xe s
theorem Vals.one:∀{x:V} {us:List Value},Vals [x] us→∃u,us=[u]∧RelV x u
  | _,_,.cons r .nil=>⟨_,rfl,r⟩
theorem Vals.rep {xs:List V} {us:List Value} (h:Vals xs us):∀k:Nat,Vals (List.replicate k xs).flatten (List.replicate k us).flatten
  | 0=>.nil
  | k+1=>by
    rw [List.replicate_succ,List.replicate_succ,List.flatten_cons,List.flatten_cons]
    exact Vals.append h (Vals.rep h k)
theorem Ze3 (its:List Value):∀(k:Nat) (acc:List Value),
    List.foldl (fun x1 x2=>x1++x2) acc.toArray (List.replicate k its.toArray)=(acc++(List.replicate k its).flatten).toArray
  | 0,acc=>by simp
  | k+1,acc=>by
    have e:acc.toArray++its.toArray=(acc++its).toArray:=by simp
    have e2:(acc++its)++(List.replicate k its).flatten=acc++(List.replicate (k+1) its).flatten:=by
      rw [List.replicate_succ,List.flatten_cons,List.append_assoc]
    rw [←e2,←Ze3 its k (acc++its),←e,List.replicate_succ,List.foldl_cons]
section
variable {X:Cx} {pins:List (Addr×Obj)} {σ:St} {H:Hp} {s:Shared} {l b:Addr} {xs ys zs:List V}
theorem Inv.lset {its its':List Value} {n:Nat} {f:Array Value→Array Value} {t':Nat} (I:Inv X pins σ H s) (hH:H l=some (.lst xs))
    (e:s.heap.get? l=some { cls:=.type "list",data:=.seq its.toArray n }) (hf:f its.toArray=its'.toArray) (hv:Vals ys its') (hz:ys.length≤sizeLine) :
    Inv X pins σ (upd H l (.lst ys)) { s with heap:=s.heap.update l (Obj.mapSeq f),toks:=t' }:=by
  have q:=PySem.IsL.update e f
  rw [hf] at q
  refine I.write (x:=l) (e:=l) (by rw [hH]; exact trivial) (.inl rfl) (fun b' u hb hu=>(Heap.get?_update_other s.heap (Obj.mapSeq f) (Ne.symm hb)).trans hu) ⟨_,q⟩ ?_
  exact ⟨hz,its',_,hv,q⟩
theorem Inv.lnew {its:List Value} {t':Nat} (I:Inv X pins σ H s) (hv:Vals ys its) (hz:ys.length≤sizeLine) :
    Inv X pins σ (upd H s.heap.objs.size (.lst ys)) { s with heap:=s.heap.push { cls:=.type "list",data:=.seq its.toArray },toks:=t' }:=
  I.laid (fun _ _ q=>Heap.get?_push_of_some _ q) (Nat.le_refl _) ⟨hz,its,0,hv,Heap.get?_push_size _ rfl⟩
theorem Inv.fresh (I:Inv X pins σ H s):H s.heap.objs.size=none:=I.hok.fresh (Nat.le_refl _)
theorem Inv.lstM (I:Inv X pins σ H s) (hH:H l=some (.lst xs)):xs.length≤sizeLine∧∃(its:List Value) (n:Nat),Vals xs its∧xs.length=its.length∧s.heap.get? l=some { cls:=.type "list",data:=.seq its.toArray n }:=by
  obtain ⟨z,its,n,r,e⟩:=I.hok l _ hH
  exact ⟨z,its,n,r,r.length,e⟩
theorem ZfL {n:Nat} (h:n≤sizeLine):Builtin.List.listTooLong n=false:=by
  unfold Builtin.List.listTooLong
  exact decide_eq_false (by omega)
end
section
variable {X:Cx}
def Zmn:V→List V→Hp→VK→Prop:=fun x vs H Q=>∃l xs y,x=.ref l∧vs=[y]∧H l=some (.lst xs)∧xs.length<sizeLine∧Q .non (upd H l (.lst (xs++[y])))
theorem Zii:MtM X "list.append" Zmn:=by
  intro pins s σ H x vs v us Q I rx rv h
  obtain ⟨l,xs,y,rfl,rfl,hH,hz,q⟩:=h
  cases rx
  obtain ⟨u,rfl,ru⟩:=rv.one
  obtain ⟨z,its,n,r,hl,e⟩:=I.lstM hH
  refine call_meets F.slot_list_append ⟨_,e,rfl⟩ F.entry_list_append (F.args_list_append_2 _ _) (PySem.list_append l its.toArray n u (by rw [List.size_toArray]; omega)) ⟨e,?_⟩
  refine ⟨.non,_,I.lset (its':=its++[u]) hH e (by simp) (r.append (.cons ru .nil)) ?_,rfl,q⟩
  rw [List.length_append,List.length_singleton]
  omega
def Zrt:V→List V→Hp→VK→Prop:=fun x vs H Q=>∃l b xs zs,x=.ref l∧vs=[.ref b]∧H l=some (.lst xs)∧H b=some (.lst zs)∧xs.length+zs.length≤sizeLine∧Q .non (upd H l (.lst (xs++zs)))
theorem ZuH:MtM X "list.extend" Zrt:=by
  intro pins s σ H x vs v us Q I rx rv h
  obtain ⟨l,b,xs,zs,rfl,rfl,hH,hB,hz,q⟩:=h
  cases rx
  obtain ⟨u,rfl,ru⟩:=rv.one
  cases ru
  obtain ⟨z,its,n,r,hl,e⟩:=I.lstM hH
  obtain ⟨z2,its2,n2,r2,hl2,e2⟩:=I.lstM hB
  have hsz:its.toArray.size+its2.toArray.size≤sizeLine:=by rw [List.size_toArray,List.size_toArray]; omega
  have hlong:¬(!its.toArray.isEmpty && Builtin.List.listTooLong (its.toArray.size+its2.toArray.size))=true:=by
    rw [ZfL hsz,Bool.and_false]
    exact Bool.false_ne_true
  refine call_meets F.slot_list_extend ⟨_,e,rfl⟩ F.entry_list_extend (F.args_list_extend_2 _ _)
    (AutoSeq1.list_extend_list_list_0 l its.toArray n b its2.toArray n2 hlong (by rw [List.size_toArray]; omega) (by omega)) ⟨e,e2,?_⟩
  refine ⟨.non,_,I.lset (its':=its++its2) hH e (by simp) (r.append r2) ?_,rfl,q⟩
  rw [List.length_append]
  omega
def Zy9:R2:=fun x y H Q=>∃l b xs zs,x=.ref l∧y=.ref b∧H l=some (.lst xs)∧H b=some (.lst zs)∧xs.length+zs.length≤sizeLine∧∀p,H p=none→Q (.ref p) (upd H p (.lst (xs++zs)))
theorem Zt0:OpR X (binaryOp .Add) Zy9:=by
  intro pins s σ H x y v u Q I rx ry h
  obtain ⟨l,b,xs,zs,rfl,rfl,hH,hB,hz,q⟩:=h
  cases rx
  cases ry
  obtain ⟨z,its,n,r,hl,e⟩:=I.lstM hH
  obtain ⟨z2,its2,n2,r2,hl2,e2⟩:=I.lstM hB
  refine PySem.P.add_list e e2 ?_ (by rw [List.size_toArray,List.size_toArray]; omega)
  have ea:its.toArray++its2.toArray=(its++its2).toArray:=by simp
  rw [ea]
  exact ⟨.ref _,_,I.lnew (t':=s.toks) (r.append r2) (by rw [List.length_append]; omega),rfl,q _ I.fresh⟩
def Zy8:R2:=fun x y H Q=>∃l k xs,x=.ref l∧y=.int k∧H l=some (.lst xs)∧-(2 ^ 63)≤k∧k<2 ^ 63∧xs.length*k.toNat≤sizeLine∧
  ∀p,H p=none→Q (.ref p) (upd H p (.lst (List.replicate k.toNat xs).flatten))
theorem ZiZ {α:Type} (xs:List α) (k:Nat):(List.replicate k xs).flatten.length=k*xs.length:=by
  induction k with
  | zero=>simp
  | succ k ih=>rw [List.replicate_succ,List.flatten_cons,List.length_append,ih,Nat.succ_mul,Nat.add_comm]
theorem ZtV:OpR X (binaryOp .Mult) Zy8:=by
  intro pins s σ H x y v u Q I rx ry h
  obtain ⟨l,k,xs,rfl,rfl,hH,h1,h2,hz,q⟩:=h
  cases rx
  obtain ⟨t,rfl⟩:=ry
  obtain ⟨z,its,n,r,hl,e⟩:=I.lstM hH
  have hlen:its.toArray.size*k.toNat≤sizeLine:=by rw [List.size_toArray,←hl]; exact hz
  have hcap:¬its.toArray.size*k.toNat > (2 ^ 63-1)/8:=by
    have:(sizeLine:Nat)≤(2 ^ 63-1)/8:=by decide
    omega
  have hfit:¬(!Builtin.List.listFitsIndex k)=true:=by
    rw [fitsIndex_both h1 h2]
    exact Bool.false_ne_true
  have hlong:¬Builtin.List.listTooLong (its.toArray.size*k.toNat)=true:=by
    rw [ZfL hlen]
    exact Bool.false_ne_true
  have hnew:List.foldl (fun x1 x2=>x1++x2) #[] (List.replicate (if its.toArray.isEmpty=true then 0 else k.toNat) its.toArray)=(List.replicate k.toNat its).flatten.toArray:=by
    have f0:∀m:Nat,List.foldl (fun x1 x2=>x1++x2) #[] (List.replicate m its.toArray)=(List.replicate m its).flatten.toArray:=fun m=>by
      have:=Ze3 its m []
      rw [List.nil_append] at this
      exact this
    rw [f0]
    cases its with
    | nil=>simp
    | cons a r'=>rw [if_neg (by simp)]
  refine wpAny_binaryOp_repeat_ref (T:="list") (U:="int") (by decide) ⟨_,e,rfl⟩ (fun s'=>typeIs_int s' k t) noFill_list_mul F.fills_int_mul F.slot_int_rmul repeat_list F.slot_int_index.lookup
    (call_meets F.slot_int_rmul (typeIs_int s k t) F.entry_int_rmul (F.args_int_rmul_2 _ _) (int___rmul___int_list k t l its.toArray n)
      ⟨e,rfl,⟨_,e,rfl⟩,call_meets F.slot_list_mul ⟨_,e,rfl⟩ F.entry_list_mul (F.args_list_mul_2 _ _) (AutoListH.list___mul___list_int_3 l its.toArray n k t hfit hcap hlong) ⟨e,?_⟩⟩)
  rw [hnew]
  exact ⟨.ref _,_,I.lnew (t':=s.toks) (r.rep k.toNat) (by rw [ZiZ,Nat.mul_comm]; exact hz),rfl,q _ I.fresh⟩
end
section
variable {prog:Program} {w:World} {A:Around} {E:Value→Shared→Prop} {s:Shared}
theorem Zl5 {a c n:Nat} (hac:a≤c) (hc:c≤n):sliceBounds (some (a:Int)) (some (c:Int)) none n=((a:Int),(c:Int),1):=by
  simp only [sliceBounds,Option.getD_none]
  have h1:¬((a:Int)<0):=by omega
  have h2:¬((c:Int)<0):=by omega
  simp only [h1,h2,if_false,show (1:Int) > 0 by decide,if_true]
  congr 1
  · omega
  · congr 1; omega
set_option maxRecDepth 100000 in
theorem Zq3 {l b sl:Addr} {items new:Array Value} {n n2:Nat} {vl vu:Value} {a c:Nat} {Q:Unit→Shared→Prop}
    (e:s.heap.get? l=some { cls:=.type "list",data:=.seq items n }) (e2:s.heap.get? b=some { cls:=.type "list",data:=.seq new n2 }) (hne:l≠b)
    (hs:s.heap.IsSliceOf sl vl vu .none) (pl:IsPart vl (some (a:Int))) (pu:IsPart vu (some (c:Int))) (hac:a≤c) (hc:c≤items.size)
    (hsz:items.size+new.size≤sizeLine) (h:Q () { s with heap:=s.heap.update l (Obj.mapSeq fun xs=>xs.extract 0 a++new++xs.extract c xs.size) }) :
    wpAny (model prog w) A (setItem (.ref l) (.ref sl) (.ref b)) Q E s:=by
  have hl:s.heap.IsList l items:=PySem.IsL.isList e
  have hb:s.heap.IsList b new:=PySem.IsL.isList e2
  obtain ⟨os,hos,hcs,hds⟩:=id hs
  have hTs:s.TypeIs (.ref sl) "slice":=⟨os,hos,hcs⟩
  have hstep:¬((rawPart none == rawInt 0)=true):=Bool.false_ne_true
  have hsame:Builtin.List.listSameRef (.ref l) (.ref b)=false:=by
    unfold Builtin.List.listSameRef
    exact beq_eq_false_iff_ne.mpr hne
  have hmax:(max (a:Int) (c:Int)).toNat=c:=by omega
  have hz':((fun xs:Array Value=>xs.extract 0 a++new++xs.extract c xs.size) items).size≤sizeLine+1:=by
    simp only [Array.size_append,Array.size_extract]
    omega
  unfold setItem
  try with_reducible refine wpAny_holding ?_
  first | refine wpAny_bind (wpAny_pure ?_) | skip
  refine wpAny_bind (wpAny_sequenceKey hl.typeIs (by decide) ?_)
  refine wpAny_bind (wpAny_callSpecial?_slot (name:=Str.ofString "__setitem__") hl.typeIs slot_list_setitem
    (wpAny_call_entry slot_list_setitem hl.typeIs entry_list_setitem ?_ (args_list_setitem _ _ _)))
  show wpAny _ _ (Builtin.List.listSubscript? (.ref sl) >>= _) _ _ s
  refine wpAny_bind ?_
  unfold Builtin.List.listSubscript?
  refine wpAny_bind (wpAny_specialOf hTs slice_no_index ?_)
  simp only [Option.isNone_none,if_true]
  refine wpAny_pure ?_
  show wpAny _ _ (typeOf (.ref sl) >>= _) _ _ s
  refine wpAny_bind (wpAny_typeOf hTs ?_)
  first
    | rw [if_neg (by decide)]
    | refine PySem.W.KFB.if_not (by decide) ?_
  rw [listSliceParts_eq]
  refine wpAny_bind (wpAny_bind (wpAny_field hos hds (x:=.none) rfl (wpAny_bind (wpAny_listPart .none ?_))))
  rw [if_neg hstep]
  refine wpAny_bind (wpAny_field hos hds (x:=vl) rfl (wpAny_bind (wpAny_listPart pl ?_)))
  refine wpAny_bind (wpAny_field hos hds (x:=vu) rfl (wpAny_bind (wpAny_listPart pu (wpAny_pure ?_))))
  first
    | simp only [hsame,Bool.false_eq_true,if_false]
    | refine PySem.W.KFB.if_not hsame ?_
    | (dsimp only
       rw [if_neg (by rw [hsame]; exact Bool.false_ne_true)])
  refine wpAny_bind (m:=Builtin.List.listAllItems (.ref b) "must assign iterable to extended slice") ?_
  unfold Builtin.List.listAllItems
  refine wpAny_bind (wpAny_typeOf hb.typeIs ?_)
  first
    | refine PySem.W.KFB.if_so (by decide) ?_
    | rw [if_pos (by decide)]
    | simp only [beq_self_eq_true,Bool.true_or,if_true]
  unfold Builtin.List.listItems
  refine wpAny_bind (wpAny_seqItems e2 rfl (wpAny_pure ?_))
  refine wpAny_bind (wpAny_bind (wpAny_seqItems e rfl (wpAny_pure ?_)))
  refine wpAny_bind (wpAny_of_eq ((sliceIndices_raw (some (a:Int)) (some (c:Int)) none items.size (by simp)).trans (congrArg (pure:Int×Int×Int→Sem (Int×Int×Int)) (Zl5 hac hc))) ?_)
  show wpAny _ _ (if ((1:Int) == 1)=true then _ else _) _ _ s
  rw [if_pos (by decide)]
  refine wpAny_bind (wpAny_rule ?_)
  first
    | simp only [ZfL hsz,Bool.false_eq_true,if_false]
    | refine PySem.W.KFB.if_not (ZfL hsz) ?_
  first | refine wpAny_bind (wpAny_pure ?_) | skip
  show wpAny _ _ (updateSeq l (fun xs=>xs.extract 0 ((a:Int)).toNat++new++xs.extract (max (a:Int) (c:Int)).toNat xs.size) >>= _) _ _ s
  rw [hmax,Int.toNat_natCast]
  refine wpAny_bind (wpAny_updateSeq (hz:=Nat.le_trans (Nat.le_add_right _ _) hsz) (_hz':=hz') e rfl ?_)
  refine wpAny_bind (wpAny_letGo ?_)
  first
    | exact wpAny_bind (wpAny_pure (wpAny_pure ⟨.none,rfl,wpAny_pure h⟩))
    | exact wpAny_pure ⟨.none,rfl,wpAny_pure h⟩
end
section
variable {X:Cx}
end
end L2
namespace Att
open PySem PySem.W PySem.Calls PyProof.Rows
theorem ZgT {P:Params} {h:Heap}:∀(ns:List Int) (vs:List Value),WellAll P h vs (ns.map WData.int)→IntsAre vs ns:=by
  intro ns
  induction ns with
  | nil=>
    intro vs w
    rw [List.map_nil] at w
    cases w
    exact .nil
  | cons n ns ih=>
    intro vs w
    rw [List.map_cons] at w
    cases w with
    | cons a b=>
      cases a
      exact .cons _ _ (ih _ b)
theorem Zni {l:OpenLaw} {n:Nat} (hn:l.most=some n) {P:Params} {h:Heap} {args:List WData} {vals:List Value}
    (hpre:l.row.toRowW.claim.pre args=true) (hwl:WellAll P h vals args) :
    ∃a vs ns,vals=[Value.ref a]∧args=[WData.list (ns.map WData.int)]∧h.get? a=some { cls:=.type "list",data:=.seq vs.toArray }∧IntsAre vs ns∧ns.length≤n:=by
  have hsh:WShape.hasAll [] args [.list .int]=true:=(pre_splitW hpre).1
  have hc:l.pre.holds [] { args:=args }=true:=(pre_splitW hpre).2
  obtain ⟨d,r,rfl,h1,h2⟩:=hasAllW_cons hsh
  obtain rfl:=hasAllW_nil h2
  obtain ⟨xs,rfl,h3⟩:=hasW_list h1
  obtain ⟨ns,rfl⟩:=items_int h3
  have hlen:ns.length≤n:=by
    unfold OpenLaw.pre at hc
    have h4:(WTm.not (.lt (.lit (.int (n:Int))) (.len (.arg 0)))).holds [] { args:=[.list (ns.map .int)] }=true:=by
      have h4:=(holds_andW hc).1
      rw [hn] at h4
      exact h4
    have h5:=condW_of h4 (w_not (w_lt w_lit (w_len_list (w_arg rfl))))
    rw [List.length_map] at h5
    refine Nat.le_of_not_lt fun q=>?_
    have q':(n:Int)<((ns.length:Nat):Int):=by omega
    first
      | (rw [decide_eq_true q'] at h5; exact absurd h5 (by decide))
      | (simp at h5; omega)
  cases hwl with
  | cons w1 w2=>
    cases w2
    cases w1 with
    | list ho hall=>exact ⟨_,_,ns,rfl,rfl,ho,ZgT ns _ hall,hlen⟩
theorem Znj (l:OpenLaw) (args:List WData):l.row.toRowW.claim.post args (.bool true) args=true:=
  postW_of (r:=l.row.toRowW) (X:=(true == true))
    (show WShape.has [] (.bool true) .bool=true by first | rfl | decide | simp [WShape.has,WShape.arms,WShape.armsAll])
    (show (WTm.eq .res (.lit (.bool true))).value [] { args:=args,res:=some (.bool true),after:=args }=some (.bool (true == true)) from w_eq_bool (w_res rfl) w_lit) rfl
theorem attach_call {l:OpenLaw} {n:Nat} {q:Program} {loose:List Str} {XP:(Str→Option Value)→Heap→Prop} {YP:World→Heap→Prop} {d:DefRec}
    (hn:l.most=some n) (hdf:d.params.defaults=[])
    (call:∀(w:World) (s₀ s₁:Shared) (mg mb:Str→Option Value) (fa:Addr) (o:Obj) (pm cd doc:Value) (a:Addr) (vs:List Value) (ns:List Int),
      Ground q loose [] XP w s₀ mg mb s₁.heap→YP w s₁.heap→
      s₁.heap.get? fa=some o→o.data=.func (docDef d.name d.params d.body d.scope pm cd doc)→s₁.heap.CodeRec cd d.name→mg d.name=some (.ref fa)→
      s₁.heap.get? a=some { cls:=.type "list",data:=.seq vs.toArray }→IntsAre vs ns→ns.length≤n→s₁.gens=#[]→
      codeAny (model l.prog w) callerA (.call (.ref fa) ⟨[.ref a],[]⟩) (fun r s'=>r=.ok (.ret (.bool true))∧OldK s₁.heap s'.heap∧s'.os=s₁.os∧AllBare s'.gens) s₁) :
    WalkO q loose XP YP l.row.toRowW d [] (fun f vs=>PySem.call f vs):=by
  intro w s₀ s₁ mg mb G Y fa o pm cd doc dV kV ho hd hcd hD hmg hg args vals as hpre hlay hrd hwl hlo
  obtain rfl:dV=.none:=Dflts.none hD hdf
  obtain rfl:kV=.none:=Dflts.noKw hD
  obtain ⟨a,vs,ns,rfl,rfl,hobj,hints,hlen⟩:=Zni hn hpre hwl
  refine enter_call (codeAny_mono (call w s₀ s₁ mg mb fa o pm cd doc a vs ns G Y ho (fd_plain hd) hcd hmg hobj hints hlen hg) fun r s' hq=>?_)
  obtain ⟨rfl,h2,h3,h4⟩:=hq
  exact ⟨.inl ⟨.bool true,.bool true,[],rfl,fun _=>rfl,.bool true,Znj l _,fun _=>⟨List.Pairwise.nil,fun _ hm=>(nomatch hm)⟩⟩,h2,h3,h4⟩
section
variable {prog:Program} {w:World} {A:Around} {E:Value→Shared→Prop} {s:Shared} {K:Frag}
end
end Att
namespace L2
open PySem PySem.Spec PyProof.Rows
theorem ZhZ:∀{vs:List Value} {ns:List Int},IntsAre vs ns→Vals (ns.map V.int) vs
  | _,_,.nil=>.nil
  | _,_,.cons n t h=>.cons ⟨t,rfl⟩ (ZhZ h)
def Zsm (H:Hp):Prop:=∀b,H b=none∨∃o xs,H b=some (.frz o (.lst xs))
theorem Zqg {P:Program} {w:World} {K:PySem.W.Frag} {mg mb:Str→Option Value} {CX:CXT} {k:Nat} {fa a:Addr} {fd:FuncData} {x:Str} {sp:Sp} {s₁:Shared} {vs:List Value} {ns:List Int}
    (KX:K.In s₁.heap) (hns:s₁.heap.Ns mainGlobals mg) (hb:s₁.heap.Ns builtinsNs mb) (hbb:∀x:Str,x≠"__name__"→mb x=bootBuiltins x) (hlim:s₁.heap.NoLimit) (hg:s₁.gens=#[])
    (ha:s₁.heap.get? a=some { cls:=.type "list",data:=.seq vs.toArray }) (hi:IntsAre vs ns) (hl:ns.length≤sizeLine) (hr:Room k callerA)
    (F:∀base:Heap,K.In base→base.Ns mainGlobals mg→FnOk P w K mg base CX k fa fd [x] sp) (hbind:∀(s:Shared) (u:Value),BindsTo s fd ⟨[u],[]⟩ [(x,u)])
    (hsp:∀H:Hp,Zsm H→SqL K H a (ns.map V.int)→sp [.ref a] H (fun v _=>v=.bl true) fun _ _ _=>False)
    (hCX:∀H e s',CX [] H s₁ (fun _ _ _=>False) e s'→False) :
    codeAny (model P w) callerA (.call (.ref fa) ⟨[.ref a],[]⟩) (fun r s'=>r=.ok (.ret (.bool true))∧OldK s₁.heap s'.heap∧s'.os=s₁.os∧AllBare s'.gens) s₁:=by
  have rv:=ZhZ hi
  have lenV:=hi.length
  have core:∀H:Hp,Zsm H→SqL K H a (ns.map V.int)→HOk P w H s₁.heap→(∀b,H b≠none→b=a)→(H a≠none→K.lookup a=none)→
      codeAny (model P w) callerA (.call (.ref fa) ⟨[.ref a],[]⟩) (fun r s'=>r=.ok (.ret (.bool true))∧OldK s₁.heap s'.heap∧s'.os=s₁.os∧AllBare s'.gens) s₁:=by
    intro H hO hS hok hA hK
    have base_of:∀{b:Addr} {o:Obj},s₁.heap.get? b=some o→H b=none→(Zi5 s₁.heap H).get? b=some o:=fun e n=>Zqp e n
    have noA:∀{b:Addr} {o:Obj} {es:Array DictEntry} {ep:Nat},s₁.heap.get? b=some o→o.data=.dict es ep→H b=none:=fun {b o es ep} e d=>by
      cases q:H b with
      | none=>rfl
      | some u=>
        have e':b=a:=hA b (by rw [q]; simp)
        subst e'
        rw [ha] at e; cases e
        have d':Data.seq vs.toArray _=Data.dict es ep:=d
        cases d'
    have nsK:∀{b:Addr} {m:Str→Option Value},s₁.heap.Ns b m→(Zi5 s₁.heap H).Ns b m:=fun {b m} ⟨o,es,ep,e,d,r⟩=>⟨o,es,ep,base_of e (noA e d),d,r⟩
    have hKb:K.In (Zi5 s₁.heap H):=fun b o e=>base_of (KX b o e) (by
      cases q:H b with
      | none=>rfl
      | some u=>
        have e':b=a:=hA b (by rw [q]; simp)
        subst e'
        rw [hK (by rw [q]; simp)] at e; cases e)
    have hM:Mod K mg (Zi5 s₁.heap H):=⟨hKb,nsK hns,⟨mb,nsK hb,hbb⟩,let ⟨mc,h1,h2⟩:=hlim; ⟨mc,nsK h1,h2⟩⟩
    have e0:Env0 P w K mg (Zi5 s₁.heap H) callerA [] s₁ H:=⟨rfl,hM,fun b o e=>ZrP e,Nat.le_of_eq (Zny _ _),trivial,fun b hb=>absurd (show b∈([]:List Addr) from hb) (by simp),hok,.of_eq hg⟩
    refine codeAny_mono ((F _ hKb (nsK hns)).run callerA [] s₁ H ⟨[.ref a],[]⟩ [.ref a] [.ref a] _ _ hr e0 (hbind s₁ (.ref a)) (.cons rfl .nil) (hsp H hO hS)) fun r s' h=>?_
    cases r with
    | error e=>exact (hCX H e s' h).elim
    | ok fl=>
      cases fl with
      | next=>exact False.elim h
      | brk=>exact False.elim h
      | cont=>exact False.elim h
      | ret u=>
        obtain ⟨v,H',os,bare,un,hok',r',q⟩:=h
        have q':v=.bl true:=q
        subst q'
        obtain rfl:u=Value.bool true:=r'
        refine ⟨rfl,OldK.of_keep fun b o e=>?_,os,bare⟩
        cases q:H b with
        | none=>exact un.keep b o e q (by intro z; exact absurd (show b∈([]:List Addr) from z) (by simp)) (by simp)
        | some u=>
          rcases hO b with z | ⟨ob,xs,z⟩
          · rw [q] at z; cases z
          · have z2:=un.frzs b ob _ z
            obtain ⟨e1,_⟩:=hok b _ z
            obtain ⟨e2,_⟩:=hok' b _ z2
            rw [e] at e1; cases e1
            exact e2
  cases hk:K.lookup a with
  | some o=>
    have e:=KX a o hk
    rw [ha] at e
    cases e
    refine core (fun _=>none) (fun _=>.inl rfl) (.inr ⟨_,vs.toArray,_,hk,rfl,rfl,rfl,by rw [List.size_toArray,lenV]; exact hl,by simpa using rv⟩) (fun b u z=>by have z':(none:Option HO)=some u:=z; cases z') (fun b z=>absurd rfl z) fun z=>absurd rfl z
  | none=>
    refine core (fun b=>if b=a then some (.frz { cls:=.type "list",data:=.seq vs.toArray } (.lst (ns.map V.int))) else none) (fun b=>?_) (.inl (.inr ⟨{ cls:=.type "list",data:=.seq vs.toArray },if_pos rfl⟩)) (fun b u z=>?_) (fun b z=>?_) fun _=>hk
    · by_cases hb:b=a
      · exact .inr ⟨_,_,if_pos hb⟩
      · exact .inl (if_neg hb)
    · by_cases hb:b=a
      · have z':=(if_pos hb).symm.trans z
        cases z'
        subst hb
        exact ⟨ha,by rw [List.length_map]; exact hl,vs,_,rv,ha⟩
      · have z':=(if_neg hb).symm.trans z
        cases z'
    · by_cases hb:b=a
      · exact hb
      · exact absurd (if_neg hb) z
end L2
namespace L2
open PySem PySem.Spec PyProof.Rows
theorem Zq6 {l:PySem.W.OpenLaw} {n k:Nat} {q:Program} {loose:List Str} {XP:(Str→Option Value)→Heap→Prop} {YP:World→Heap→Prop} {d:DefRec} {K:Params→PySem.W.Frag} {CX:World→CXT} {sp:World→Sp} {x:Str}
    (hn:l.most=some n) (hn2:n≤sizeLine) (hdf:d.params.defaults=[]) (hr:Room k callerA)
    (hY:∀(w:World) (h:Heap),YP w h→(K w.params).In h)
    (F:∀(w:World) (mg:Str→Option Value) (fa:Addr) (h:Heap),(K w.params).In h→h.Ns mainGlobals mg→mg d.name=some (.ref fa)→
      ∃fd:FuncData,(∀(s:Shared) (u:Value),BindsTo s fd ⟨[u],[]⟩ [(x,u)])∧
        ∀base:Heap,(K w.params).In base→base.Ns mainGlobals mg→FnOk l.prog w (K w.params) mg base (CX w) k fa fd [x] (sp w))
    (hsp:∀(w:World) (H:Hp) (a:Addr) (ns:List Int),ns.length≤n→Zsm H→SqL (K w.params) H a (ns.map V.int)→sp w [.ref a] H (fun v _=>v=.bl true) fun _ _ _=>False)
    (hCX:∀(w:World) (H:Hp) (s:Shared) (e:Value) (s':Shared),CX w [] H s (fun _ _ _=>False) e s'→False) :
    PySem.W.WalkO q loose XP YP l.row.toRowW d [] (fun f vs=>PySem.call f vs):=by
  refine Att.attach_call hn hdf fun w s₀ s₁ mg mb fa o pm cd doc a vs ns G Y ho hd hcd hmg hobj hints hlen hg=>?_
  have KX:=hY w _ Y
  obtain ⟨fd,hb,hF⟩:=F w mg fa _ KX G.T.g hmg
  exact Zqg KX G.T.g G.T.b G.T.builtins G.T.nolimit hg hobj hints (Nat.le_trans hlen hn2) hr hF hb (fun H hO hS=>hsp w H a ns hlen hO hS) fun H e s'=>hCX w H s₁ e s'
end L2
namespace L2
open PySem PySem.Spec PyProof.Rows
def ZmL (s:Stmt) (j:Nat):Stmt:=match s with
  | .ClassDef _ _ _ body _ _ _ _ _ _ _=>body.getD j (.Pass ⟨0,0,0,0⟩)
  | _=>.Pass ⟨0,0,0,0⟩
def Zs (s:Stmt):Arguments:=match s with
  | .FunctionDef _ a _ _ _ _ _ _ _ _=>a
  | _=>{ posonlyargs:=[],args:=[],vararg:=none,kwonlyargs:=[],kw_defaults:=[],kwarg:=none,defaults:=[] }
def Zp (s:Stmt):List Stmt:=match s with
  | .FunctionDef _ _ b _ _ _ _ _ _ _=>b
  | _=>[]
def Zg (s:Stmt):Scope:=match s with
  | .FunctionDef _ _ _ _ _ _ sc _ _ _=>sc
  | _=>{ kind:=.function,names:=[],isGenerator:=false,isCoroutine:=false }
abbrev CX0:CXT:=fun _ _ _ _ _ _=>False
abbrev E0:XK:=fun _ _ _=>False
theorem ZpP {X:Cx}:Zgw CX0 X E0:=fun _ _ _ _ _ _ _ h=>h.elim
structure Fun (K:PySem.W.Frag) (x qual:Str) (st:Stmt) (f:Addr) (fd:FuncData):Prop where
  ex:∃(oc:Value) (od:Option Addr) (kV doc pm:Value) (an:Option Addr) (cdv ct:Value) (osl:Array (Option Value)),
    fd=PySem.W.fnOf x qual (Zs st) (Zp st) (Zg st) .none kV doc pm an cdv ct∧K.lookup f=some ⟨oc,od,.func fd,osl⟩∧PySem.W.codeIn K cdv qual=true
  kp:PySem.W.keepIn K (.ref f)=true
section
variable {P:Program} {w:World} {K:PySem.W.Frag} {mg:Str→Option Value} {base:Heap}
theorem Fun.ok {x qual:Str} {st:Stmt} {f:Addr} {fd:FuncData} {N ps:List Str} {k:Nat} {sp:Sp} (F:Fun K x qual st f fd) (S:Zq N ps (Zg st)) (len:∀vs H Q E,sp vs H Q E→vs.length=ps.length)
    (hbody:∀(cdv:Value) (A:Around) (outer:List Env) (s:Shared) (H:Hp) (vs:List V) (Q:VK) (E:XK),Room k (A.deeper (envOfC qual (Zg st) s.heap.objs.size f cdv))→sp vs H Q E→
      ∃t,PSs (Zhu CX0 P w K mg base N qual (Zg st) f cdv A outer s H E).nox (Zp st) t∧t { nx:=fun _ H'=>Q .non H',rt:=Q } (Zed N vs) H):FnOk P w K mg base CX0 (k+1) f fd ps sp:=by
  obtain ⟨oc,od,kV,doc,pm,an,cdv,ct,osl,rfl,lk,hcd⟩:=F.ex
  refine Zv3 lk hcd S len fun A outer s H vs Q E hr hsp=>?_
  obtain ⟨t,h,q⟩:=hbody cdv A outer s H vs Q E hr hsp
  exact ⟨t,h.nox,q⟩
theorem Fun.binds {x qual:Str} {st:Stmt} {f:Addr} {fd:FuncData} {ps:List Str} (F:Fun K x qual st f fd)
    (h:∀(kV doc pm:Value) (an:Option Addr) (cdv ct:Value) (us:List Value),us.length=ps.length→bindArgs (PySem.W.fnOf x qual (Zs st) (Zp st) (Zg st) .none kV doc pm an cdv ct) ⟨us,[]⟩=pure (ps.zip us)):Binds K fd ps []:=by
  obtain ⟨oc,od,kV,doc,pm,an,cdv,ct,osl,rfl,lk,hcd⟩:=F.ex
  exact .all (h kV doc pm an cdv ct)
theorem Zy {x qual:Str} {st:Stmt} {f:Addr} {oc:Value} {od an:Option Addr} {osl:Array (Option Value)} {kV doc pm cdv ct:Value} (l:K.lookup f=some ⟨oc,od,.func (PySem.W.fnOf x qual (Zs st) (Zp st) (Zg st) .none kV doc pm an cdv ct),osl⟩)
    (c:PySem.W.codeIn K cdv qual=true) (k:PySem.W.keepIn K (.ref f)=true):Fun K x qual st f (PySem.W.fnOf x qual (Zs st) (Zp st) (Zg st) .none kV doc pm an cdv ct):=⟨⟨oc,od,kV,doc,pm,an,cdv,ct,osl,rfl,l,c⟩,k⟩
end
section
variable {X:Cx}
end
end L2
namespace L2
open PySem PySem.Spec PyProof.Rows
section
variable {P:Program} {w:World} {K:PySem.W.Frag} {mg:Str→Option Value} {base:Heap}
def Zm (K:PySem.W.Frag) (mg:Str→Option Value) (x:Str) (st:Stmt) (ps:List Str):Prop:=
  ∃(f:Addr) (fd:FuncData),Fun K x x st f fd∧Binds K fd ps []∧mg x=some (.ref f)
def Def (P:Program) (w:World) (K:PySem.W.Frag) (mg:Str→Option Value) (base:Heap) (k:Nat) (x:Str) (ps:List Str) (sp:Sp):Prop:=
  ∃(f:Addr) (fd:FuncData),FnOk P w K mg base CX0 k f fd ps sp∧Binds K fd ps []∧PySem.W.keepIn K (.ref f)=true∧mg x=some (.ref f)
end
section
variable {X:Cx} {k:Nat} {x:Str} {ps:List Str} {sp:Sp} {p pos:Pos} {e:Expr} {es:List Expr} {t:TA}
theorem ZpN {j:Nat} (D:Def X.prog X.w X.K X.mg X.base k x ps sp) (hr:Room j X.A) (hj:k≤j) (ha:PA X (e::es) t) (hg:Gl X x:=by rfl) (hdb:(x == ("__debug__":Str))=false:=by decide)
    (he:starEach (e::es) X.env=(false,eval e X.env)::starEach es X.env:=by rfl) (hpl:(backTo pos (starEach es X.env)).any (·.1)=false:=by rfl):PE X (.Call (.Name x p) (e::es) [] pos) (ZsB sp [] E0 t):=by
  obtain ⟨f,fd,F,b,kp,m⟩:=D
  exact ZrL F (hr.mono hj) hg m kp b .nil ZpP ha hdb he hpl
theorem ZrJ {i:Int} (h:∃t,X.mg x=some (.int i t)) (hg:Gl X x:=by rfl) (hd:(x == ("__debug__":Str))=false:=by decide):PE X (.Name x pos) (tC (.int i)):=by
  obtain ⟨t,h⟩:=h
  exact Zms hg h ⟨t,rfl⟩ hd
def Zwh (_ j:Int):Prop:=0<j∧j.natAbs.log2<9000
theorem ZpQ:OpR X (binaryOp .FloorDiv) (rI Zwh fun i j=>.int (i/j)):=opI fun i j _ _ _ _ _ hc q=>by
  have h1:(0:Int)<j:=hc.1
  exact floordiv_int (by omega) (by rw [Int.fdiv_eq_ediv_of_nonneg i (by omega)]; exact q) (.inl (PyProof.noPylong_of_log2 hc.2))
theorem Zlq:CallR X (.builtin "isinstance") (fun xs H Q=>∃(x:V) (n:String) (t:Value) (b:Bool),xs=[x,.ty n]∧Zf5 X.K H x t∧PySem.W.kitOne X.K t (.type n)=some b∧Q (.bl b) H):=by
  intro pins s σ H xs us Q I r h
  obtain ⟨x,n,t,b,rfl,ty,e,q⟩:=h
  cases r with
  | cons rx rr=>
    cases rr with
    | cons ry rr=>
      cases rr
      cases ry
      exact Znv I rx ty e fun tk=>⟨.bl b,H,I.tok tk,rfl,q⟩
theorem Zvy {x:Str} {n:String} {pos:Pos} (hm:X.mg x=none) (hv:bootBuiltins x=some (.type n)) (hg:Gl X x:=by rfl) (hn:x≠"__name__":=by decide) (hd:(x == ("__debug__":Str))=false:=by decide):PE X (.Name x pos) (tC (.ty n)):=
  ZrM hg hm hv rfl hn hd
end
end L2
set_option maxHeartbeats 4000000
namespace L2
open PySem PySem.Spec PyProof.Rows
theorem ZfW {scope:Scope} {env:Env} (h:∀x∈scope.names,x.2=.free→∃c,env.cells.lookup x.1=some c) :
    ∃cl:List (Str×Addr),closureFor scope env=pure cl∧(∀n c,(n,c)∈cl→env.cells.lookup n=some c)∧∀x∈scope.names,x.2=.free→∃c,(x.1,c)∈cl:=by
  have key:∀(names:List (Str×NameKind)) (acc:List (Str×Addr)),(∀x∈names,x.2=.free→∃c,env.cells.lookup x.1=some c)→(∀n c,(n,c)∈acc→env.cells.lookup n=some c)→
      ∃cl:List (Str×Addr),(forIn names acc fun (x:Str×NameKind) (cs:List (Str×Addr))=>if (x.2 == NameKind.free)=true then (do let c ←cellOf env x.1; pure (ForInStep.yield ((x.1,c)::cs)):Sem _) else pure (ForInStep.yield cs))=(pure cl:Sem _)∧
        (∀n c,(n,c)∈cl→env.cells.lookup n=some c)∧(∀p∈acc,p∈cl)∧∀x∈names,x.2=.free→∃c,(x.1,c)∈cl:=by
    intro names
    induction names with
    | nil=>intro acc _ ha; exact ⟨acc,rfl,ha,fun _ p=>p,fun x hx=>nomatch hx⟩
    | cons y r ih=>
      intro acc hx ha
      obtain ⟨n,k⟩:=y
      by_cases hk:k=.free
      · subst hk
        obtain ⟨c,hc⟩:=hx (n,.free) List.mem_cons_self rfl
        obtain ⟨cl,e,h1,h2,h3⟩:=ih ((n,c)::acc) (fun x z=>hx x (List.mem_cons_of_mem _ z)) (fun m d z=>by
          rcases List.mem_cons.mp z with z | z
          · cases z; exact hc
          · exact ha m d z)
        refine ⟨cl,?_,h1,fun p z=>h2 p (List.mem_cons_of_mem _ z),fun x z zf=>?_⟩
        · have ec:cellOf env n=pure c:=by unfold cellOf; rw [hc]
          rw [List.forIn_cons]
          simp only [beq_self_eq_true,if_true,ec,pure_bind]
          exact e
        · rcases List.mem_cons.mp z with z | z
          · cases z; exact ⟨c,h2 _ List.mem_cons_self⟩
          · exact h3 x z zf
      · obtain ⟨cl,e,h1,h2,h3⟩:=ih acc (fun x z=>hx x (List.mem_cons_of_mem _ z)) ha
        refine ⟨cl,?_,h1,h2,fun x z zf=>?_⟩
        · have hb:(k == NameKind.free)=false:=by simpa using hk
          rw [List.forIn_cons]
          simp only [hb,Bool.false_eq_true,if_false,pure_bind]
          exact e
        · rcases List.mem_cons.mp z with z | z
          · cases z; exact absurd zf hk
          · exact h3 x z zf
  obtain ⟨cl,e,h1,_,h3⟩:=key scope.names [] h (fun n c z=>nomatch z)
  refine ⟨cl,?_,h1,h3⟩
  simp only [closureFor]
  rw [e]
  rfl
def Cx.comp (X:Cx) (scope:Scope) (N':List Str) (cl:List (Str×Addr)) (C:Addr) (s₀:Shared) (H₀:Hp) (fp:List Addr):Cx where
  prog:=X.prog
  w:=X.w
  K:=X.K
  mg:=X.mg
  base:=X.base
  A:=X.A
  N:=N'
  s₀:=s₀
  H₀:=H₀
  env:=compEnvC scope cl C X.env
  outer:=X.stack
  stack:=X.stack
  ex:=fp
  fn:=fun _=>false
  calm:=X.calm
  pn:=[]
  xe:=fun _ _=>False
def inner (src:List Nat) (σ:St) (x:Option V):St:=x::src.map fun j=>(σ[j]?).join
theorem Zhk {α:Type} {l:List (Str×α)} {n:Str} {c:α} (h:(n,c)∈l):∃d,l.lookup n=some d:=by
  induction l with
  | nil=>cases h
  | cons y r ih=>
    obtain ⟨m,d⟩:=y
    by_cases e:n == m
    · exact ⟨d,by rw [List.lookup_cons,e]⟩
    · rcases List.mem_cons.mp h with z | z
      · cases z; exact absurd (beq_self_eq_true n) e
      · obtain ⟨d',q⟩:=ih z
        exact ⟨d',by rw [List.lookup_cons,Bool.eq_false_iff.mpr e]; exact q⟩
theorem ZdS {env:Env} {n:Str}:∀{names:List (Str×NameKind)} {k:NameKind},(∀y∈names,y.2≠.cell)→
    (names.map fun (n,k)=>if (k == NameKind.free && env.scope.kind == .function && env.kindOf n == some .cell) then (n,NameKind.cell) else (n,k)).lookup n=some k→(k=.cell∨k=.free)→(n,NameKind.free)∈names
  | [],_,_,h,_=>by simp at h
  | (m,j)::r,k,hc,h,hk=>by
    have nc:j≠.cell:=hc (m,j) List.mem_cons_self
    rw [List.map_cons] at h
    by_cases e:n == m
    · have en:n=m:=by simpa using e
      subst en
      by_cases cnd:(j == NameKind.free && env.scope.kind == .function && env.kindOf n == some .cell)=true
      · have:j=.free:=by
          simp only [Bool.and_eq_true,beq_iff_eq] at cnd
          exact cnd.1.1
        rw [this]
        exact List.mem_cons_self
      · simp only [cnd] at h
        rw [if_neg (by simp),List.lookup_cons,beq_self_eq_true] at h
        cases h
        rcases hk with rfl | rfl
        · exact absurd rfl nc
        · exact List.mem_cons_self
    · refine List.mem_cons_of_mem _ (ZdS (env:=env) (k:=k) (fun y hy=>hc y (List.mem_cons_of_mem _ hy)) ?_ hk)
      rw [List.lookup_cons] at h
      have e2:(n == (if (j == NameKind.free && env.scope.kind == .function && env.kindOf m == some .cell)=true then (m,NameKind.cell) else (m,j)).1)=false:=by
        split<;>exact Bool.eq_false_iff.mpr e
      rw [e2] at h
      exact h
theorem ZfE {env:Env}:∀{names:List (Str×NameKind)} {x:Str},names.lookup x=some .free→
    (names.map fun (n,k)=>if (k == NameKind.free && env.scope.kind == .function && env.kindOf n == some .cell) then (n,NameKind.cell) else (n,k)).lookup x=some .cell∨
    (names.map fun (n,k)=>if (k == NameKind.free && env.scope.kind == .function && env.kindOf n == some .cell) then (n,NameKind.cell) else (n,k)).lookup x=some .free
  | [],_,h=>by simp at h
  | (n,k)::r,x,h=>by
    have ih:=@ZfE env r x
    rw [List.map_cons]
    cases hx:x == n with
    | true=>
      simp only [List.lookup_cons,hx] at h
      cases h
      by_cases hc:(NameKind.free == NameKind.free && env.scope.kind == .function && env.kindOf n == some .cell)=true
      · left
        show List.lookup x ((if (NameKind.free == NameKind.free && env.scope.kind == .function && env.kindOf n == some .cell)=true then (n,NameKind.cell) else (n,NameKind.free))::_)=_
        rw [if_pos hc,List.lookup_cons,hx]
      · right
        show List.lookup x ((if (NameKind.free == NameKind.free && env.scope.kind == .function && env.kindOf n == some .cell)=true then (n,NameKind.cell) else (n,NameKind.free))::_)=_
        rw [if_neg hc,List.lookup_cons,hx]
    | false=>
      simp only [List.lookup_cons,hx] at h
      have e:∀t,List.lookup x ((if (k == NameKind.free && env.scope.kind == .function && env.kindOf n == some .cell)=true then (n,NameKind.cell) else (n,k))::t)=List.lookup x t:=fun t=>by
        split<;>rw [List.lookup_cons,hx]
      rcases ih h with q | q
      · exact .inl ((e _).trans q)
      · exact .inr ((e _).trans q)
section
variable {X:Cx} {x:Str} {px:Pos} {iter elt:Expr} {scope:Scope} {pos:Pos} {N':List Str} {src:List Nat} {wi:TI} {te:TE}
structure Za5 (scope sc:Scope) (x:Str) (N N':List Str) (src:List Nat):Prop where
  kind:scope.kind=.function
  cell:∀y∈scope.names,y.2≠.cell
  loc:∀y∈scope.names,y.2=.local→scope.names.lookup y.1=some .local
  own:scope.names.lookup x=some .local
  free:∀y∈scope.names,y.2=.free→sc.names.lookup y.1=some .cell
  nd:N'.Nodup
  names:N'=x::src.map fun j=>N.getD j x
  all:∀j∈src,j<N.length
  fr:∀j∈src,sc.names.lookup (N.getD j x)=some .cell∧scope.names.lookup (N.getD j x)=some .free
theorem Zl3 {pins:List (Addr×Obj)} {σ:St} {H:Hp} {s s':Shared} {C:Addr} {cl:List (Str×Addr)} {fp:List Addr} (I:Inv X pins σ H s) (S:Za5 scope X.env.scope x X.N N' src)
    (hcl:∀n c,(n,c)∈cl→X.env.cells.lookup n=some c) (hcl2:∀y∈scope.names,y.2=.free→∃c,(y.1,c)∈cl) (hC:s.heap.objs.size≤C) (hfp:∀b∈fp,ZhY X pins H b) (hfl:∀b∈fp,b<s.heap.objs.size)
    (hn:∃m,s'.heap.Ns C m) (hk:∀b o,s.heap.get? b=some o→s'.heap.get? b=some o) (ho:s'.os=s.os) (hg:s'.gens=s.gens) :
    Inv (X.comp scope N' cl C s H fp) [] (inner src σ none) H s':=by
  have cll:∀n c,cl.lookup n=some c→X.env.cells.lookup n=some c:=fun n c e=>hcl n c (PySem.mem_of_lookup e)
  refine ⟨⟨I.ok.mod,S.kind,I.ok.glob,I.ok.blt,hC,fun y z c h1 h2=>I.ok.inj y z c (cll _ _ h1) (cll _ _ h2),fun y hy=>?_,fun y c h=>absurd (show false=true from h) (by decide),I.ok.hd,I.ok.frames,.inl rfl,fun b hb=>⟨Nat.ne_of_lt (Nat.lt_of_lt_of_le (hfl b hb) hC),fun y c e=>(hfp b hb).2.2.2.2.1 y c (cll y c e)⟩,
    I.bs,Nat.le_trans I.ok.bsz I.sz,fun b o e hb=>?_,fun b hb=>?_,I.stack,I.stkFree⟩,ho,?_,Un.kept hk,?_,fun y c e=>?_,I.hok.fresh hC,fun y c e=>I.freeC y c (cll y c e),fun p hp=>absurd (show p∈([]:List (Addr×Obj)) from hp) (by simp),I.hok.kept hk,?_⟩
  · have hy':(relabel scope X.env).names.lookup y=some .cell∨(relabel scope X.env).names.lookup y=some .free:=hy
    have:(y,NameKind.free)∈scope.names:=by
      rcases hy' with h | h
      · exact ZdS S.cell h (.inl rfl)
      · exact ZdS S.cell h (.inr rfl)
    obtain ⟨c,hc⟩:=hcl2 _ this rfl
    exact Zhk hc
  · rcases (hfp b hb).2.2.2.1 with z | z
    · exact I.ok.noex b o e z
    · exact absurd (Nat.lt_of_lt_of_le (Heap.lt_size e) (Nat.le_trans I.ok.bsz z)) (Nat.lt_irrefl _)
  · intro hs
    rcases List.mem_cons.mp (I.stkSub b hs) with z | z
    · exact (hfp b hb).2.1 z
    · exact (hfp b hb).2.2.1 z
  · rw [hg]; exact I.bare
  · obtain ⟨m,hm⟩:=hn
    refine ⟨m,hm,fun i y v h1 h2 h3=>?_⟩
    have h1':N'[i]?=some y:=h1
    rw [S.names] at h1'
    cases i with
    | zero=>cases (show (some none:Option (Option V))=some (some v) from h2)
    | succ k=>
      rw [List.getElem?_cons_succ,List.getElem?_map] at h1'
      have h2':(src.map fun j=>(σ[j]?).join)[k]?=some (some v):=h2
      rw [List.getElem?_map] at h2'
      cases e:src[k]? with
      | none=>rw [e] at h1'; cases h1'
      | some j=>
        rw [e] at h1' h2'
        have hj:=List.mem_of_getElem? e
        have ey:X.N.getD j x=y:=Option.some.inj h1'
        have ev:(σ[j]?).join=some v:=Option.some.inj h2'
        have eN:X.N[j]?=some y:=by
          have:=S.all j hj
          rw [List.getElem?_eq_getElem this]
          rw [List.getD_eq_getElem?_getD,List.getElem?_eq_getElem this] at ey
          exact congrArg some ey
        have eσ:σ[j]?=some (some v):=by
          cases q:σ[j]? with
          | none=>rw [q] at ev; cases ev
          | some z=>rw [q] at ev; exact congrArg some ev
        obtain ⟨k1,k2⟩:=S.fr j hj
        rw [ey] at k1 k2
        obtain ⟨mo,hmo,hl⟩:=I.loc
        obtain ⟨u,r,l⟩:=hl j y v eN eσ (.inr (.inl k1))
        refine ⟨u,r,?_⟩
        rcases l with ⟨z,_⟩ | ⟨_,c,hc,hcell⟩
        · have z':X.env.scope.names.lookup y=some .local:=z
          rw [k1] at z'; cases z'
        · obtain ⟨c',hc'⟩:=hcl2 _ (PySem.mem_of_lookup k2) rfl
          obtain ⟨d,hd⟩:=Zhk hc'
          have ed:d=c:=by
            have:=cll _ _ hd
            rw [hc] at this
            exact (Option.some.inj this).symm
          subst ed
          obtain ⟨o,e1,e2⟩:=hcell
          refine .inr ⟨?_,d,hd,o,hk _ _ e1,e2⟩
          rcases h3 with z | z | z
          · have z':(relabel scope X.env).names.lookup y=some .local:=z
            rcases ZfE (env:=X.env) k2 with w | w
            · have w':(relabel scope X.env).names.lookup y=some .cell:=w
              rw [w'] at z'; cases z'
            · have w':(relabel scope X.env).names.lookup y=some .free:=w
              rw [w'] at z'; cases z'
          · exact .inl z
          · exact .inr z
  · obtain ⟨v,o,e1,e2⟩:=I.cell y c (cll y c e)
    exact ⟨v,o,hk _ _ e1,e2⟩
  · show (inner src σ none).length=N'.length
    rw [S.names]
    unfold inner
    rw [List.length_cons,List.length_cons,List.length_map,List.length_map]
theorem Zln {prog:Program} {w:World} {A:Around} {R:Result→Shared→Prop} {s:Shared} {elt target iter:Expr} {scope:Scope} {pos:Pos} {it acc:Value} {env:Env} (I:Nat→Shared→Prop)
    (turn:∀n s,I n s→wpAny (model prog w) A (pyNext it) (fun r s₁=>match r with
      | none=>R (.ok .next) s₁
      | some v=>wpAny (model prog w) A (letOwnedTupleGo target it v) (fun _ s₂=>wpAny (model prog w) A (assign target env v) (fun _ s₃=>wpAny (model prog w) A (eval elt env) (fun x s₄=>
          wpAny (model prog w) A (call (.builtin "list.append") [acc,x]) (fun _ s₅=>∃m,m<n∧I m s₅) (notedBy (model prog w) A env fun e s'=>R (.error e) s') s₄) (notedBy (model prog w) A env fun e s'=>R (.error e) s') s₃)
          (notedBy (model prog w) A env fun e s'=>R (.error e) s') s₂) (notedBy (model prog w) A env fun e s'=>R (.error e) s') s₁) (notedBy (model prog w) A env fun e s'=>R (.error e) s') s)
    (n:Nat) (h:I n s):codeAny (model prog w) A (.compLoop (.ListComp elt [⟨target,iter,[],0⟩] scope pos) 0 it acc env) R s:=by
  refine codeAny_loop rfl I (fun n s hI=>?_) n h
  show wpAny _ A ((compTurn (.ListComp elt [⟨target,iter,[],0⟩] scope pos) 0 it acc env).onRaise (fun x=>do noteFrame x env; theTreesLotGoes x)) _ _ s
  refine wpAny_noted ?_
  rw [compTurn_list1]
  refine wpAny_bind (wpAny_standAt (wpAny_bind (thn (turn n s hI) fun r s₁ h₁=>?_)))
  cases r with
  | none=>exact wpAny_pure h₁
  | some v=>
    refine wpAny_bind (thn h₁ fun _ s₂ h₂=>wpAny_bind (thn h₂ fun _ s₃ h₃=>?_))
    exact wpAny_bind (wpAny_bind (thn h₃ fun x s₄ h₄=>wpAny_bind (thn h₄ fun _ s₅ h₅=>wpAny_pure (wpAny_pure ⟨rfl,h₅⟩))))
def lcR (J:It) (src:List Nat) (σ:St) (te:TE) (H1:Hp) (Q:VK):Prop:=∃(n:Nat) (Pv:Nat→List V→Hp→Prop),n≤sizeLine∧Pv 0 [] H1∧
  (∀i ys H,i<n→Pv i ys H→J.go i H∧∀y H',J.yld i H y H'→te (inner src σ (some y)) H' fun z H2=>Pv (i+1) (ys++[z]) H2)∧
  ∀ys H,Pv n ys H→J.stop n H∧∀p,H p=none→Q (.ref p) (upd H p (.lst ys))
def tLc (wi:TI) (src:List Nat) (te:TE):TE:=fun σ H Q=>wi σ H fun J H1=>lcR J src σ te H1 Q
theorem HOk.lay {P:Program} {w:World} {H:Hp} {h:Heap} {a:Addr} {o:HO} (x:HOk P w H h) (hn:H a=none) (new:ObjOk P w (upd H a o) h a o):HOk P w (upd H a o) h:=fun b u e=>by
  by_cases hb:b=a
  · subst hb; rw [zy] at e; cases e; exact new
  · rw [ZS hb] at e
    exact (x b u e).stay (fun c v _ q=>q) (fun c q=>by rw [ZS (zi q hn)]; exact q) fun c xs q=>by rw [ZS (zi q hn)]; exact q
theorem Un.lay {fs ex:List Addr} {H H1:Hp} {h h1:Heap} {a:Addr} {o:HO} (u:Un fs ex H H1 h h1) (hn:H1 a=none) (hh:h.get? a=none):Un fs ex H (upd H1 a o) h h1 where
  keep:=u.keep
  slot:=u.slot
  free:=fun b ob q n hx=>by rw [ZS (fun z=>by rw [z,hh] at q; cases q)]; exact u.free b ob q n hx
  there:=u.there
  tups:=fun b xs q=>by rw [ZS (zi (u.tups b xs q) hn)]; exact u.tups b xs q
  frzs:=fun b ob xs q=>by rw [ZS (zi (u.frzs b ob xs q) hn)]; exact u.frzs b ob xs q
  tbls:=fun b ps q=>by
    obtain ⟨m,e⟩:=u.tbls b ps q
    exact ⟨m,by rw [ZS (zi e hn)]; exact e⟩
theorem Zqe {pins:List (Addr×Obj)} {σ:St} {H:Hp} {s:Shared} {cl:List (Str×Addr)} {it:Addr} {fp:List Addr} {tn:Nat→Heap→Prop} {J:It} {n:Nat} {Pv:Nat→List V→Hp→Prop} {RR:Value→Addr→Result→Shared→Prop} {E:Value→Shared→Prop}
    (I:Inv X pins σ H s) (hcm:X.calm=true) (S:Za5 scope X.env.scope x X.N N' src) (hcl:∀n c,(n,c)∈cl→X.env.cells.lookup n=some c) (hcl2:∀y∈scope.names,y.2=.free→∃c,(y.1,c)∈cl)
    (T:ZnK X.prog X.w X.K (.Name x px) J fp it tn) (t0:tn 0 s.heap) (hfp:∀b∈fp,ZhY X pins H b)
    (helt:∀(cl:List (Str×Addr)) (C:Addr) (s₀:Shared) (H₀:Hp) (fp:List Addr),PE (X.comp scope N' cl C s₀ H₀ fp) elt te)
    (hn:n≤sizeLine) (p0:Pv 0 [] H) (turn:∀i ys H,i<n→Pv i ys H→J.go i H∧∀y H',J.yld i H y H'→te (inner src σ (some y)) H' fun z H2=>Pv (i+1) (ys++[z]) H2) (stop:∀ys H,Pv n ys H→J.stop n H)
    (hR:∀(D C:Addr) (o:Obj) (ys:List V) (H':Hp) (s':Shared),Pv n ys H'→H' D=none→Inv X (pins++[(C,o)]) σ (upd H' D (.lst ys)) s'→(∃m,s'.heap.Ns C m)→ZhY X pins (upd H' D (.lst ys)) C→RR (.ref D) C (.ok .next) s') :
    wpAny (model X.prog X.w) X.A (newList []) (fun acc s₃=>wpAny (model X.prog X.w) X.A (newFunctionEnv scope X.env.globals cl [] X.env.qual none .none (some X.env)) (fun cenv s₄=>
      codeAny (model X.prog X.w) X.A (.compStart (.ListComp elt [⟨.Name x px,iter,[],0⟩] scope pos) 0 (.ref it) acc { cenv with scope:=relabel scope X.env }) (RR acc cenv.locals) s₄) E s₃) E s:=by
  refine wpAny_newObj_type (wpAny_newFunctionEnv S.cell (by intro y hy; simp at hy) (fun h₁ hns₁ hsb₁=>?_) S.kind)
  dsimp only at hns₁ hsb₁ ⊢
  generalize hH2:s.heap.push { cls:=.type "list",dict:=none,data:=.seq ([]:List Value).toArray }=H2 at hns₁ hsb₁ ⊢
  have hC:H2.objs.size=s.heap.objs.size+1:=by rw [←hH2,Heap.size_push]
  have hDC:s.heap.objs.size≠H2.objs.size:=by rw [hC]; exact Nat.ne_of_lt (Nat.lt_succ_self _)
  have hCle:s.heap.objs.size≤H2.objs.size:=by rw [hC]; exact Nat.le_succ _
  have below:∀b,b<s.heap.objs.size→b≠H2.objs.size∧b≠s.heap.objs.size:=fun b hb=>⟨by rw [hC]; exact Nat.ne_of_lt (Nat.lt_succ_of_lt hb),Nat.ne_of_lt hb⟩
  have old:∀b o,s.heap.get? b=some o→h₁.get? b=some o:=fun b o e=>hsb₁.extBut b o (below b (Heap.lt_size e)).1 (Heap.get?_push_of_some _ (hH2 ▸ Heap.get?_push_of_some _ e))
  have hacc:h₁.PlainList s.heap.objs.size #[]:=⟨_,hsb₁.extBut _ _ hDC (Heap.get?_push_of_some _ (hH2 ▸ Heap.get?_push_size _ rfl))⟩
  have hfl:∀b∈fp,b<s.heap.objs.size:=fun b hb=>by
    obtain ⟨o,e,_⟩:=T.obj 0 _ t0 b hb
    exact Heap.lt_size e
  have fresh:∀a,s.heap.objs.size≤a→s.heap.get? a=none:=fun a ha=>by
    cases e:s.heap.get? a with
    | none=>rfl
    | some o'=>exact absurd (Heap.lt_size e) (Nat.not_lt.mpr ha)
  generalize eD:s.heap.objs.size=D at hDC hacc hCle below fresh hfl hC ⊢
  generalize eC:H2.objs.size=C at hDC hCle below hC hns₁ hsb₁ ⊢
  have I1:Inv (X.comp scope N' cl C s H fp) [] (inner src σ none) H { s with heap:=h₁,toks:=s.toks+([]:List (Str×Value)).length }:=
    Zl3 I S hcl hcl2 (by rw [eD]; exact hCle) hfp (by rw [eD]; exact hfl) ⟨_,hns₁⟩ old rfl rfl
  have stat:∀{H':Hp} {pl:List (Addr×Obj)},(∀p∈pl,p.1=D)→(∀b∈fp,H' b=none)→∀b∈fp,ZhY (X.comp scope N' cl C s H fp) pl H' b:=fun {H' pl} hp hn b hb=>
    ⟨hn b hb,(below b (hfl b hb)).1,fun z=>by
      rcases List.mem_cons.mp (I.stkSub b z) with q | q
      · exact (hfp b hb).2.1 q
      · exact (hfp b hb).2.2.1 q,.inl hb,fun y c e=>(hfp b hb).2.2.2.2.1 y c (hcl y c (PySem.mem_of_lookup e)),fun p hq=>by
      rw [hp p (by rcases List.mem_append.mp hq with z | z; exact absurd (show p∈([]:List (Addr×Obj)) from z) (by simp); exact z)]
      exact Ne.symm (below b (hfl b hb)).2⟩
  have nD:D∉frs X.stack:=fun z=>by
    rcases List.mem_cons.mp (I.stkSub D z) with q | q
    · have:=I.lt; rw [←q,eD] at this; exact Nat.lt_irrefl _ this
    · exact I.nofs (a:=D) (by rw [eD]; exact Nat.le_refl _) q
  have nC:C∉X.fs:=I.nofs (by rw [eD]; exact hCle)
  have cellD:∀y c,cl.lookup y=some c→c<D:=fun y c e=>by
    obtain ⟨v,q⟩:=I.cell y c (hcl y c (PySem.mem_of_lookup e))
    have:=q.lt
    rw [eD] at this
    exact this
  have loop:∀s₃:Shared,s₃={ s with heap:=h₁,toks:=s.toks+([]:List (Str×Value)).length }→
      codeAny (model X.prog X.w) X.A (.compLoop (.ListComp elt [⟨.Name x px,iter,[],0⟩] scope pos) 0 (.ref it) (.ref D) (compEnvC scope cl C X.env)) (RR (.ref D) C) s₃:=by
    rintro s₃ rfl
    refine Zln (fun k s'=>∃(i:Nat) (ys:List V) (its:List Value) (H':Hp) (xo:Option V),Inv (X.comp scope N' cl C s H fp) [] (inner src σ xo) H' s'∧tn i s'.heap∧(∀b∈fp,H' b=none)∧s'.heap.PlainList D its.toArray∧Vals ys its∧H' D=none∧
      Pv i ys H'∧ys.length=i∧i≤n∧k=n+1-i) ?_ (n+1) ⟨0,[],[],H,none,I1,T.keep _ _ _ t0 (fun b _ o e=>old b o e),fun b hb=>(hfp b hb).1,hacc,.nil,I.hok.fresh (by rw [eD]; exact Nat.le_refl _),p0,rfl,Nat.zero_le _,rfl⟩
    rintro k s' ⟨i,ys,its,H',xo,I3,t3,f3,l3,v3,d3,p3,e3,le3,rfl⟩
    by_cases hlt:i<n
    · obtain ⟨go,step⟩:=turn i ys H' hlt p3
      obtain ⟨nn,oD⟩:=id l3
      have I3p:Inv (X.comp scope N' cl C s H fp) [(D,{ cls:=.type "list",data:=.seq its.toArray nn })] (inner src σ xo) H' s':=
        I3.pins_of fun p hp=>by
          have ep:p=(D,{ cls:=.type "list",data:=.seq its.toArray nn }):=by simpa using hp
          subst ep
          exact ⟨oD,d3,hDC,nD,fun v z=>by cases z⟩
      refine thn (T.item (X.comp scope N' cl C s H fp) rfl rfl rfl hcm i _ s' _ H' _ I3p (stat (by simp) f3) t3 go) fun r s4 ⟨u,hr,h4⟩=>?_
      subst hr
      refine thn h4 fun _ s5 ⟨y,H5,I5,r5,y5,st5,fr5⟩=>?_
      have I5':=I5.pinned (stat (by simp) fr5) (T.obj _ _ st5)
      have hg:PG (X.comp scope N' cl C s H fp) (.Name x px) (Zlf 0):=
        ZfG S.nd (by show N'[0]?=some x; rw [S.names]; rfl) (.inl (lookup_relabel_local S.own)) (.inr (lookup_relabel_local S.own))
      refine wpAny_mono (hg _ s5 _ H5 y u (fun σ2 H2=>σ2=inner src σ (some y)∧H2=H5) I5' r5 ⟨rfl,rfl⟩) (fun _ s6 ⟨σ6,H6,I6,e6,e6'⟩=>?_) fun _ _ z=>False.elim z
      subst e6 e6'
      refine wpAny_mono (helt cl C s H fp _ s6 _ _ _ I6 (step y _ y5)) (fun v s7 ⟨z,H7,I7,r7,q7⟩=>?_) fun _ _ z=>False.elim z
      have o7:=I7.pin (D,{ cls:=.type "list",data:=.seq its.toArray nn }) (by simp)
      have hys:its.toArray.size≤sizeLine:=by
        have:=v3.length
        rw [List.size_toArray]
        omega
      refine wpAny_list_append_plain (hsz:=hys) (items:=its.toArray) (s:=s7) ⟨nn,o7.1⟩ fun h8 hl8 hs8=>?_
      refine ⟨n+1-(i+1),by omega,i+1,ys++[z],its++[v],H7,some y,?_,?_,?_,?_,v3.append (.cons r7 .nil),o7.2.1,q7,by rw [List.length_append,e3]<;>rfl,hlt,rfl⟩
      · have I7':Inv (X.comp scope N' cl C s H fp) [] (inner src σ (some y)) H7 s7:=I7.pins_of fun p hp=>absurd hp (by simp)
        exact I7'.turned (t':=s7.toks) (it:=D) (fun b o hb e=>(hs8.2 b hb).trans e) o7.2.1 hDC (.inr (by show s.heap.objs.size≤D; rw [eD]; exact Nat.le_refl _)) (fun y c e=>Nat.ne_of_lt (cellD y c e)) fun p hp=>absurd (show p∈([]:List (Addr×Obj)) from hp) (by simp)
      · refine T.keep _ _ _ st5 fun b hb o e=>(hs8.2 b (below b (hfl b hb)).2).trans ?_
        exact (I7.pin (b,o) (List.mem_append_right _ (List.mem_append_right _ (ZdX hb e)))).1
      · intro b hb
        obtain ⟨o,e,_⟩:=T.obj _ _ st5 b hb
        exact (I7.pin (b,o) (List.mem_append_right _ (List.mem_append_right _ (ZdX hb e)))).2.1
      · have:(its++[v]).toArray=its.toArray.push v:=by simp
        rw [this]; exact hl8
    · have ein:i=n:=by omega
      subst ein
      obtain ⟨nn,oD⟩:=id l3
      have I3p:Inv (X.comp scope N' cl C s H fp) [(D,{ cls:=.type "list",data:=.seq its.toArray nn })] (inner src σ xo) H' s':=
        I3.pins_of fun p hp=>by
          have ep:p=(D,{ cls:=.type "list",data:=.seq its.toArray nn }):=by simpa using hp
          subst ep
          exact ⟨oD,d3,hDC,nD,fun v z=>by cases z⟩
      refine thn (T.done (X.comp scope N' cl C s H fp) rfl rfl rfl hcm i _ s' _ H' _ I3p (stat (by simp) f3) t3 (stop ys H' p3)) fun r s4 ⟨hr,I4⟩=>?_
      subst hr
      have o4:=I4.pin (D,{ cls:=.type "list",data:=.seq its.toArray nn }) (by simp)
      have newI:Inv X pins σ (upd H' D (.lst ys)) s4:=I.call' (ch:=fp) I4.os (I4.base.lay d3 (fresh D (Nat.le_refl _))) (I4.hok.lay d3 ⟨by omega,its,nn,v3,o4.1⟩) I4.bare (fun b hb=>
        ⟨(hfp b hb).2.2.2.1,(hfp b hb).2.1,(hfp b hb).2.2.2.2.1,(hfp b hb).2.2.2.2.2⟩)
      obtain ⟨m,hm,_⟩:=I4.loc
      obtain ⟨o,es,ep,ho,hd,_⟩:=id hm
      refine hR D C o ys H' s4 p3 d3 (newI.pins_of fun p hp=>?_) ⟨m,hm⟩ (I.fpOk (by rw [eD]; exact hCle) (by rw [ZS (Ne.symm hDC)]; exact I4.free))
      rcases List.mem_append.mp hp with z | z
      · exact newI.pin p (List.mem_append_right _ z)
      · have ep:p=(C,o):=by simpa using z
        subst ep
        refine ⟨ho,by rw [ZS (Ne.symm hDC)]; exact I4.free,fun z=>?_,nC,fun v z=>?_⟩
        · have:=I.lt
          rw [eD,←z] at this
          exact absurd (Nat.lt_of_lt_of_le this hCle) (Nat.lt_irrefl _)
        · have z':o.data=.cell v:=z
          rw [hd] at z'; cases z'
  exact codeAny_compStart_list (loop _ rfl) (T.self _ 0 _ _ _ (T.keep _ _ _ t0 (fun b _ o e=>old b o e)) (loop _ rfl))
theorem ZvB {sc:Scope} {N:List Str} (S:Za5 scope sc x N N' src) (hsc:X.env.scope=sc) (hN:X.N=N) (hi:PI X (.Name x px) iter wi)
    (helt:∀(cl:List (Str×Addr)) (C:Addr) (s₀:Shared) (H₀:Hp) (fp:List Addr),PE (X.comp scope N' cl C s₀ H₀ fp) elt te) (hcm:X.calm=true:=by rfl) (hs:∀v,foldedSetIterable iter X.env v=pure v:=by intro _; rfl) :
    PE X (.ListComp elt [⟨.Name x px,iter,[],0⟩] scope pos) (tLc wi src te):=by
  subst hsc hN
  intro pins s σ H Q I h
  obtain ⟨cl,hclos,hcl,hcl2⟩:=ZfW (scope:=scope) (env:=X.env) fun y hy hf=>I.ok.has y.1 (.inl (S.free y hy hf))
  rw [eval_ListComp]
  refine wpAny_comprehension_free (use:=none) rfl hs hclos S.kind S.loc ?_
  refine thn (hi pins s σ H _ I h) fun v s1 h1=>thn h1 fun itv s2 h2=>?_
  obtain ⟨it,fp,tn,J,H2,e,I2,T,st2,f2,n,Pv,hn,p0,turn,done⟩:=h2
  subst e
  refine Zqe I2 hcm S hcl hcl2 T st2 f2 helt hn p0 turn (fun ys H p=>(done ys H p).1) fun D C o ys H' s' p d J' hm ho=>?_
  obtain ⟨m,hm⟩:=hm
  refine ⟨m,hm,fun h' hs'=>?_⟩
  have J2:Inv X pins σ (upd H' D (.lst ys)) s':=J'.pins_of fun q hq=>J'.pin q (List.mem_append_right _ (List.mem_append_left _ hq))
  obtain ⟨f0,f1,f2,f3,f4,f5⟩:=ho
  exact ⟨.ref D,_,J2.turned (t':=s'.toks) (it:=C) (fun b o hb e=>(hs'.2 b hb).trans e) f0 f1 f3 f4 f5,rfl,(done ys H' p).2 D d⟩
theorem Zvr {sc:Scope} {N:List Str} {i:Nat} {y:Str} {py spos:Pos} (hnd:X.N.Nodup) (hi':X.N[i]?=some y) (S:Za5 scope sc x N N' src) (hsc:X.env.scope=sc) (hN:X.N=N) (hi:PI X (.Name x px) iter wi)
    (helt:∀(cl:List (Str×Addr)) (C:Addr) (s₀:Shared) (H₀:Hp) (fp:List Addr),PE (X.comp scope N' cl C s₀ H₀ fp) elt te) (hsw:swapsWith (.ListComp elt [⟨.Name x px,iter,[],0⟩] scope pos) (some (.Name y py)) spos.line X.env=pure true:=by rfl)
    (hy:X.env.scope.names.lookup y=some .local:=by rfl) (hcm:X.calm=true:=by rfl) (hs:∀v,foldedSetIterable iter X.env v=pure v:=by intro _; rfl) :
    PS X (.Assign [.Name y py] (.ListComp elt [⟨.Name x px,iter,[],0⟩] scope pos) spos) (Zve (tLc wi src te) (Zlf i)):=by
  subst hsc hN
  intro pins s σ H Dn I h
  obtain ⟨cl,hclos,hcl,hcl2⟩:=ZfW (scope:=scope) (env:=X.env) fun y hy hf=>I.ok.has y.1 (.inl (S.free y hy hf))
  rw [exec_Assign_Name_used _ _ _ _ hsw]
  refine wpAny_bind (wpAny_standAt (wpAny_bind ?_))
  show wpAny _ X.A (do let _ ←comprehension (.ListComp elt [⟨.Name x px,iter,[],0⟩] scope pos) scope X.env _ (newList []) false (eval iter X.env) (some (assign (.Name y py) X.env))) _ _ s
  refine wpAny_bind (wpAny_mono (wpAny_comprehension_free (use:=some (assign (.Name y py) X.env)) (Q:=fun _ s'=>SP X pins Dn .next s') rfl hs hclos S.kind S.loc ?_) (fun _ s' hq=>wpAny_pure (wpAny_pure hq)) fun _ _ e=>e)
  refine thn (hi pins s σ H _ I h) fun v s1 h1=>thn h1 fun itv s2 h2=>?_
  obtain ⟨it,fp,tn,J,H2,e,I2,T,st2,f2,n,Pv,hn,p0,turn,done⟩:=h2
  subst e
  refine Zqe I2 hcm S hcl hcl2 T st2 f2 helt hn p0 turn (fun ys H p=>(done ys H p).1) fun D C o ys H' s' p d J' hm ho=>?_
  show wpAny _ X.A (assign (.Name y py) X.env (.ref D)) _ _ _
  obtain ⟨m,hm⟩:=hm
  have hg:PG X (.Name y py) (Zlf i):=ZfG hnd hi' (.inl hy) (.inr hy)
  refine thn (hg _ s' σ _ (.ref D) (.ref D) (fun σ2 H3=>σ2=σ.set i (some (.ref D))∧H3=upd H' D (.lst ys)) J' rfl ⟨rfl,rfl⟩) fun _ s6 ⟨σ6,H6,I6,e6,e7⟩=>?_
  subst e6 e7
  have pc:=I6.pin (C,o) (by simp)
  have pc':=J'.pin (C,o) (by simp)
  refine ⟨m,hm.at fun q e=>?_,fun h' hs'=>?_⟩
  · rw [pc'.1] at e; cases e; exact pc.1
  have J2:Inv X pins (σ.set i (some (.ref D))) (upd H' D (.lst ys)) s6:=I6.pins_of fun q hq=>I6.pin q (List.mem_append_right _ (List.mem_append_left _ hq))
  obtain ⟨f0,f1,f2,f3,f4,f5⟩:=ho
  exact ⟨_,_,J2.turned (t':=s6.toks) (it:=C) (fun b o hb e=>(hs'.2 b hb).trans e) f0 f1 f3 f4 f5,(done ys H' p).2 D d⟩
end
end L2
namespace L2
open PySem PySem.Spec PyProof.Rows PySem.SeqAt
section
variable {X:Cx}
theorem ZnJ {bs:List Bool}:(List.range bs.length).all (fun i=>bs.getD i false)=bs.all id:=by
  induction bs with
  | nil=>rfl
  | cons b r ih=>
    rw [List.length_cons,List.range_succ_eq_map,List.all_cons,List.all_map,List.all_cons]
    have:((fun i=>(b::r).getD i false)∘Nat.succ)=fun i=>r.getD i false:=by funext i; rfl
    rw [this,ih]
    rfl
theorem ZqM (hc:X.calm=true):CallR X (.builtin "all") (fun xs H Q=>∃(p:Addr) (bs:List Bool),xs=[.ref p]∧SqL X.K H p (bs.map V.bl)∧Q (.bl (bs.all id)) H):=by
  intro pins s σ H xs us Q I r h
  obtain ⟨p,bs,rfl,hq,q⟩:=h
  obtain ⟨u,rfl,rx⟩:=Zfw r
  cases rx
  obtain ⟨its,r',pl,hz⟩:=I.list hq
  have hl:=r'.length
  rw [List.length_map] at hl
  refine call_all_walk (wpAny_pyIter_list pl.isList ?_)
  have hne:p≠s.heap.objs.size:=by
    obtain ⟨o,n,e,_⟩:=pl
    exact Nat.ne_of_lt (Heap.lt_size e)
  refine ⟨s.heap.objs.size,_,_,_,_,_,fun i=>bs.getD i false,rfl,Walks.list (A:=X.A.in1) (I.ok.hd hc) _ p hne its.toArray,⟨⟨_,Heap.get?_push_size _ rfl,rfl,rfl⟩,?_⟩,?_,fun h' tk hk=>?_⟩
  · obtain ⟨o,n,e,hc',hd,hs⟩:=pl
    exact ⟨o,Heap.get?_push_of_some _ e,hc',n,hs⟩
  · intro i v s2 Q2 E2 hp q2
    have hp':its[i]?=some v:=by simpa using hp
    have hi:i<bs.length:=by rw [hl]; exact (List.getElem?_eq_some_iff.mp hp').1
    obtain ⟨u,hu,ru⟩:=r'.get (i:=i) (x:=.bl (bs.getD i false)) (by rw [List.getElem?_map,List.getElem?_eq_getElem hi,List.getD_eq_getElem?_getD,List.getElem?_eq_getElem hi]; rfl)
    rw [hp'] at hu; cases hu
    cases ru
    exact wpAny_truthy_bool q2
  · refine ⟨.bl (bs.all id),H,(I.kept (t':=s.toks) fun b o e=>Heap.get?_push_of_some _ e).turned (it:=s.heap.objs.size) (fun b o hb e=>hk b o (by simpa using hb) e) (I.hok.fresh (Nat.le_refl _)) (Nat.ne_of_gt I.lt) (.inr I.sz) (fun x c e z=>?_) (fun q hq z=>?_),?_,q⟩
    · obtain ⟨v,w'⟩:=I.cell x c e
      exact absurd w'.lt (by rw [z]; exact Nat.lt_irrefl _)
    · exact absurd (Heap.lt_size (I.pin q hq).1) (by rw [z]; exact Nat.lt_irrefl _)
    · show Value.bool _=Value.bool _
      rw [List.size_toArray,←hl,ZnJ]
theorem Zib {ns:List Int}:∀k,k≤ns.length→preSum (fun i=>ns.getD i 0) k=(ns.take k).sum
  | 0,_=>by simp [preSum]
  | k+1,h=>by
    have hk:k<ns.length:=by omega
    rw [preSum,Zib k (by omega),List.take_add_one,List.getElem?_eq_getElem hk,List.getD_eq_getElem?_getD,List.getElem?_eq_getElem hk]
    show _=(ns.take k++[ns[k]]).sum
    rw [List.sum_append,List.sum_cons,List.sum_nil,Int.add_zero]
    rfl
theorem ZqK (hc:X.calm=true):CallR X (.builtin "sum") (fun xs H Q=>∃(p:Addr) (ns:List Int),xs=[.ref p]∧SqL X.K H p (ns.map V.int)∧Q (.int ns.sum) H):=by
  intro pins s σ H xs us Q I r h
  obtain ⟨p,ns,rfl,hq,q⟩:=h
  obtain ⟨u,rfl,rx⟩:=Zfw r
  cases rx
  obtain ⟨its,r',pl,hz⟩:=I.list hq
  have hl:=r'.length
  rw [List.length_map] at hl
  refine call_sum_walkG (wpAny_pyIter_list pl.isList ?_)
  have hne:p≠s.heap.objs.size:=by
    obtain ⟨o,n,e,_⟩:=pl
    exact Nat.ne_of_lt (Heap.lt_size e)
  refine ⟨s.heap.objs.size,_,_,_,_,_,fun i=>ns.getD i 0,rfl,Walks.list (A:=X.A.in1) (I.ok.hd hc) _ p hne its.toArray,⟨⟨_,Heap.get?_push_size _ rfl,rfl,rfl⟩,?_⟩,?_,?_,fun h' tk t' hk=>?_⟩
  · obtain ⟨o,n,e,hc',hd,hs⟩:=pl
    exact ⟨o,Heap.get?_push_of_some _ e,hc',n,hs⟩
  · intro b hb
    have hb':b=s.heap.objs.size∨b=p:=by simpa using hb
    rcases hb' with rfl | rfl
    · show _<(s.heap.push _).objs.size
      rw [Heap.size_push]; exact Nat.lt_succ_self _
    · obtain ⟨o,n,e,_⟩:=pl
      show _<(s.heap.push _).objs.size
      rw [Heap.size_push]; exact Nat.lt_succ_of_lt (Heap.lt_size e)
  · intro i v hp
    have hp':its[i]?=some v:=by simpa using hp
    have hi:i<ns.length:=by rw [hl]; exact (List.getElem?_eq_some_iff.mp hp').1
    obtain ⟨u,hu,ru⟩:=r'.get (i:=i) (x:=.int (ns.getD i 0)) (by rw [List.getElem?_map,List.getElem?_eq_getElem hi,List.getD_eq_getElem?_getD,List.getElem?_eq_getElem hi]; rfl)
    rw [hp'] at hu; cases hu
    exact ru
  · refine ⟨.int ns.sum,H,(I.kept (t':=s.toks) fun b o e=>Heap.get?_push_of_some _ e).turned (it:=s.heap.objs.size) (fun b o hb e=>hk b o (by simpa using hb) e) (I.hok.fresh (Nat.le_refl _)) (Nat.ne_of_gt I.lt) (.inr I.sz) (fun x c e z=>?_) (fun q hq z=>?_),⟨t',?_⟩,q⟩
    · obtain ⟨v,w'⟩:=I.cell x c e
      exact absurd w'.lt (by rw [z]; exact Nat.lt_irrefl _)
    · exact absurd (Heap.lt_size (I.pin q hq).1) (by rw [z]; exact Nat.lt_irrefl _)
    · rw [List.size_toArray,←hl,Zib _ (Nat.le_refl _),List.take_length]
mutual
inductive RdV (K:PySem.W.Frag) (H:Hp):V→PyData→Prop
  | non:RdV K H .non .none
  | bl (b:Bool):RdV K H (.bl b) (.bool b)
  | int (i:Int):RdV K H (.int i) (.int i)
  | str (x:Str):RdV K H (.str x) (.str x)
  | lst {a:Addr} {xs:List V} {ds:List PyData}:SqL K H a xs→RdVs K H xs ds→RdV K H (.ref a) (.list ds)
  | tup {a:Addr} {xs:List V} {ds:List PyData}:SqT K H a xs→RdVs K H xs ds→RdV K H (.ref a) (.tuple ds)
inductive RdVs (K:PySem.W.Frag) (H:Hp):List V→List PyData→Prop
  | nil:RdVs K H [] []
  | cons {x:V} {xs:List V} {d:PyData} {ds:List PyData}:RdV K H x d→RdVs K H xs ds→RdVs K H (x::xs) (d::ds)
end
mutual
theorem RdV.reads {pins:List (Addr×Obj)} {σ:St} {H:Hp} {s:Shared} (I:Inv X pins σ H s):∀{x:V} {d:PyData} {u:Value},RdV X.K H x d→RelV x u→∃as,Reads s.heap u d as
  | _,_,_,.non,r=>by cases r; exact ⟨_,.none⟩
  | _,_,_,.bl b,r=>by cases r; exact ⟨_,.bool b⟩
  | _,_,_,.int i,r=>by obtain ⟨t,rfl⟩:=r; exact ⟨_,.int i t⟩
  | _,_,_,.str x,r=>by obtain ⟨t,rfl⟩:=r; exact ⟨_,.str x t⟩
  | _,_,_,.lst h hs,r=>by
    cases r
    obtain ⟨its,rv,⟨o,n,e,hc,hd,hq⟩,_⟩:=I.list h
    obtain ⟨as,q⟩:=RdVs.reads I hs rv
    exact ⟨_,.list e hc hq (by simpa using q)⟩
  | _,_,_,.tup h hs,r=>by
    cases r
    obtain ⟨its,rv,⟨o,e,hc,n,hq⟩,_⟩:=I.tuple h
    obtain ⟨as,q⟩:=RdVs.reads I hs rv
    exact ⟨_,.tuple e hc hq (by simpa using q)⟩
theorem RdVs.reads {pins:List (Addr×Obj)} {σ:St} {H:Hp} {s:Shared} (I:Inv X pins σ H s):∀{xs:List V} {ds:List PyData} {us:List Value},RdVs X.K H xs ds→Vals xs us→∃as,ReadsAll s.heap us ds as
  | _,_,_,.nil,r=>by cases r; exact ⟨_,.nil⟩
  | _,_,_,.cons h hs,r=>by
    cases r with
    | cons r rr=>
      obtain ⟨as,q⟩:=RdV.reads I h r
      obtain ⟨bs,q2⟩:=RdVs.reads I hs rr
      exact ⟨_,.cons q q2⟩
end
theorem ZtZ (hu:X.A.units+64<cLine):OpR X (compareOp .Eq) (fun x y H Q=>∃d e:PyData,RdV X.K H x d∧RdV X.K H y e∧shaped d=true∧shaped e=true∧noMix d e=true∧Q (.bl (same d e)) H):=by
  intro pins s σ H x y v u Q I rx ry h
  obtain ⟨d,e,hd,he,sd,se,hm,q⟩:=h
  obtain ⟨as,ra⟩:=hd.reads I rx
  obtain ⟨bs,rb⟩:=he.reads I ry
  exact eq_dataH_same ra rb sd se hu hm ⟨.bl _,H,I,rfl,q⟩
theorem ZtW (hu:X.A.units+64<cLine):OpR X (compareOp .NotEq) (fun x y H Q=>∃d e:PyData,RdV X.K H x d∧RdV X.K H y e∧shaped d=true∧shaped e=true∧noMix d e=true∧Q (.bl (!same d e)) H):=by
  intro pins s σ H x y v u Q I rx ry h
  obtain ⟨d,e,hd,he,sd,se,hm,q⟩:=h
  obtain ⟨as,ra⟩:=hd.reads I rx
  obtain ⟨bs,rb⟩:=he.reads I ry
  exact ne_dataH_same ra rb sd se hu hm ⟨.bl _,H,I,rfl,q⟩
theorem ZrN:OpR X (compareOp .IsNot) (fun x y H Q=>∃b c:Bool,x=.bl b∧y=.bl c∧Q (.bl (!(b == c))) H):=by
  intro pins s σ H x y v u Q I rx ry h
  obtain ⟨b,c,rfl,rfl,q⟩:=h
  cases rx
  cases ry
  have e:(Value.bool b == Value.bool c)=(b == c):=by cases b<;>cases c<;>rfl
  exact wpAny_isNot_plain rfl ⟨.bl _,H,I,rfl,by rw [e]; exact q⟩
def Zes (xs:List V) (lo hi st:Option Int):List V:=(sliceRange (sliceBounds lo hi st xs.length).1 (sliceBounds lo hi st xs.length).2.1 (sliceBounds lo hi st xs.length).2.2).filterMap (xs[·]?)
theorem Vals.pick {xs:List V} {us:List Value} (r:Vals xs us):∀ks:List Nat,Vals (ks.filterMap (xs[·]?)) (ks.filterMap (us[·]?))
  | []=>.nil
  | k::ks=>by
    cases e:xs[k]? with
    | none=>
      have e':=r.none_of e
      rw [List.filterMap_cons_none e,List.filterMap_cons_none e']
      exact r.pick ks
    | some x=>
      obtain ⟨u,e',q⟩:=r.get e
      rw [List.filterMap_cons_some e,List.filterMap_cons_some e']
      exact .cons q (r.pick ks)
def ZyR (K:PySem.W.Frag) (te:TE) (tl th ts:TO):TE:=fun σ H Q=>te σ H fun x H1=>tl σ H1 fun l H2=>th σ H2 fun u H3=>ts σ H3 fun st H4=>∃a xs,x=.ref a∧SqL K H4 a xs∧st≠some 0∧(Zes xs l u st).length≤sizeLine∧
  ∀p,H4 p=none→Q (.ref p) (upd H4 p (.lst (Zes xs l u st)))
theorem Znm {e sp:Expr} {te:TE} {lo hi:Option Expr} {tl th ts:TO} {pos p2:Pos} (he:PE X e te) (hl:PO X lo tl) (hu:PO X hi th) (hs:PO X (some sp) ts):PE X (.Subscript e (.Slice lo hi (some sp) p2) pos) (ZyR X.K te tl th ts):=by
  intro pins s σ H Q I h
  refine Subscript_ (thn (he pins s σ H _ I h) fun v s1 ⟨x,H1,I1,r1,q1⟩=>?_)
  refine wpAny_Slice (thn (hl pins s1 σ H1 _ I1 q1) fun vl s2 ⟨l,H2,I2,pl,q2⟩=>thn (hu pins s2 σ H2 _ I2 q2) fun vu s3 ⟨u,H3,I3,pu,q3⟩=>thn (hs pins s3 σ H3 _ I3 q3) fun vs s4 ⟨st,H4,I4,ps,q4⟩=>?_)
  obtain ⟨a,xs,rfl,hx,h0,hz',q⟩:=q4
  cases r1
  have I5:Inv X pins σ H4 { s4 with heap:=s4.heap.push { cls:=.type "slice",data:=.fields #[vl,vu,vs] } }:=I4.kept (t':=s4.toks) fun b ob q=>Heap.get?_push_of_some _ q
  obtain ⟨its,r,ht,hz⟩:=I5.list hx
  have hlen:=r.length
  show wpAny (model X.prog X.w) X.A (subscriptTail e (.Slice lo hi (some sp) p2) (.ref a) (.ref s4.heap.objs.size)) (EP X pins σ Q) X.xe { s4 with heap:=s4.heap.push { cls:=.type "slice",data:=.fields #[vl,vu,vs] } }
  refine tail_any (ops:=[.ref a,.ref s4.heap.objs.size]) ht.isList.typeIs slot_list_getitem.lookup (wpAny_getItem_list_slice ht.isList (Heap.IsSliceOf.new ..) pl pu ps h0 ?_ (by rw [List.size_toArray]<;>omega)) (by with_unfolding_all rfl)
  have ep:slicePick its.toArray l u st=((sliceRange (sliceBounds l u st xs.length).1 (sliceBounds l u st xs.length).2.1 (sliceBounds l u st xs.length).2.2).filterMap (its[·]?)).toArray:=by
    unfold slicePick
    rw [List.size_toArray,←hlen]
    simp
  rw [ep]
  refine ⟨.ref _,_,I5.laid (t':=s4.toks) (o:=.lst (Zes xs l u st)) (fun b ob q=>Heap.get?_push_of_some _ q) (Nat.le_refl _) ?_,rfl,q _ (I5.hok.fresh (Nat.le_refl _))⟩
  exact ⟨hz',_,0,r.pick _,Heap.get?_push_size _ rfl⟩
theorem Zgh:fillsNumberSlot (.type "tuple") "mul"=pure false:=
  PySem.fillsNumberSlot_seq (id:="tuple.__mul__") (r:=some (.builtin "tuple.__rmul__")) F.slot_tuple_mul.lookup (by decide +kernel) F.slot_tuple_rmul.lookup (by decide +kernel)
theorem ZiR:seqRepeat? (.type "tuple")=pure (some (.builtin "tuple.__mul__")):=by
  unfold seqRepeat?
  rw [PySem.seqSlot_of (T:="tuple") (name:="__mul__") (id:="tuple.__mul__") F.slot_tuple_mul.lookup (by decide +kernel),PySem.seqSlot_of (T:="tuple") (name:="__rmul__") (id:="tuple.__rmul__") F.slot_tuple_rmul.lookup (by decide +kernel)]
  rfl
end
end L2
namespace L2
open PySem PySem.Spec PyProof.Rows Builtin
theorem Zhp (a:Int) (t:Tok) (l:Addr) (items:Array Value) (n:Nat) (dd:Option Addr) (sl:Array (Option Value)) :
    Meets (Builtin.«int.__rmul__» ⟨[.int a t,.ref l],[]⟩) (fun _ R s=>s.heap.get? l=some { cls:=.type "tuple",dict:=dd,data:=.seq items n,slots:=sl }∧R (.ok (.ret Value.notImplemented)) s):=
  .of_wp fun prog w A R s h=>by obtain ⟨hp,g,d,tk,os⟩:=s; obtain ⟨hl,h⟩:=h; wp_walk; exact ⟨_,rfl,h⟩
theorem ZhQ (l:Addr) (items:Array Value) (n:Nat) (dd:Option Addr) (sl:Array (Option Value)) (u:Tok) :
    Meets (Builtin.«tuple.__mul__» ⟨[.ref l,.int 1 u],[]⟩) (fun _ R s=>s.heap.get? l=some { cls:=.type "tuple",dict:=dd,data:=.seq items n,slots:=sl }∧R (.ok (.ret (Value.ref l))) s):=
  .of_wp fun prog w A R s h=>by
    obtain ⟨hp,g,d,tk,os⟩:=s; obtain ⟨hl,h⟩:=h
    wp_walk
    exact ⟨_,rfl,h⟩
theorem Zg7 (l:Addr) (items:Array Value) (n:Nat) (dd:Option Addr) (sl:Array (Option Value)) (u:Tok) (h0:items.isEmpty=false) :
    Meets (Builtin.«tuple.__mul__» ⟨[.ref l,.int 0 u],[]⟩) (fun _ R s=>s.heap.get? l=some { cls:=.type "tuple",dict:=dd,data:=.seq items n,slots:=sl }∧R (.ok (.ret (Value.ref s.heap.objs.size))) { s with heap:=s.heap.push { cls:=.type "tuple",data:=.seq #[] } }):=
  .of_wp fun prog w A R s h=>by
    obtain ⟨hp,g,d,tk,os⟩:=s; obtain ⟨hl,h⟩:=h
    wp_walk
    exact ⟨_,rfl,h⟩
theorem Zg8 (l:Addr) (items:Array Value) (n:Nat) (dd:Option Addr) (sl:Array (Option Value)) (x:Int) (u:Tok) (h0:items.isEmpty=false) (h1:2≤x) (h2:x<1000) (h3:items.size*x≤1000) :
    Meets (Builtin.«tuple.__mul__» ⟨[.ref l,.int x u],[]⟩) (fun _ R s=>s.heap.get? l=some { cls:=.type "tuple",dict:=dd,data:=.seq items n,slots:=sl }∧R (.ok (.ret (Value.ref s.heap.objs.size))) { s with heap:=s.heap.push { cls:=.type "tuple",data:=.seq (List.foldl (fun x1 x2=>x1++x2) #[] (List.replicate x.toNat items)) } }):=
  .of_wp fun prog w A R s h=>by
    obtain ⟨hp,g,d,tk,os⟩:=s; obtain ⟨hl,h⟩:=h
    have c1:¬(decide (x < -(2 ^ 63)) || decide (x≥2 ^ 63))=true:=by rw [decide_eq_false (by omega),decide_eq_false (by omega)]; decide
    have c2:¬(items.isEmpty || x == 1)=true:=by
      have:(x == 1)=false:=by simp; omega
      rw [h0,this]; decide
    have c3:¬(decide (x≤0) || items.isEmpty)=true:=by rw [h0,decide_eq_false (by omega)]; decide
    have c4:¬((items.size:Int)*x > (2 ^ 63-1)/8):=by omega
    have c5:¬Tuple.tupleTooMany ((items.size:Int)*x)=true:=by
      unfold Tuple.tupleTooMany
      rw [decide_eq_false (by rw [sizeLine_eq]; omega)]
      decide
    wp_walk
    rw [if_neg c1]
    wp_walk
    rw [if_neg c2]
    show wpAny (model prog w) A.in1 (if (decide (x≤0) || items.isEmpty)=true then _ else if (items.size:Int)*x > (2 ^ 63-1)/8 then _ else if Tuple.tupleTooMany ((items.size:Int)*x)=true then _ else _) _ _ _
    rw [if_neg c3,if_neg c4,if_neg c5]
    have hz:(List.foldl (fun x1 x2=>x1++x2) #[] (List.replicate x.toNat items)).size≤sizeLine:=by
      have:(List.replicate x.toNat items).foldl (fun x1 x2=>x1++x2) #[]=(List.replicate x.toNat items.toList).flatten.toArray:=by
        have:=Ze3 items.toList x.toNat []
        simpa using this
      rw [this,List.size_toArray,ZiZ,sizeLine_eq]
      have e:items.toList.length=items.size:=by simp
      rw [e]
      have e2:((x.toNat*items.size:Nat):Int)=(items.size:Int)*x:=by
        rw [Int.natCast_mul,Int.mul_comm]
        congr 1
        omega
      omega
    wp_walk
    exact ⟨_,rfl,h⟩
section
variable {X:Cx}
def Zvl (K:PySem.W.Frag):R2:=fun x y H Q=>∃(a:Addr) (k:Int) (xs:List V),x=.ref a∧y=.int k∧SqT K H a xs∧xs≠[]∧0≤k∧k<1000∧(xs.length:Int)*k≤1000∧
  (k=1→Q (.ref a) H)∧(k≠1→∀p,H p=none→Q (.ref p) (upd H p (.tup (List.replicate k.toNat xs).flatten)))
theorem op_repT:OpR X (binaryOp .Mult) (Zvl X.K):=by
  intro pins s σ H x y v u Q I rx ry h
  obtain ⟨a,k,xs,rfl,rfl,hH,hne,h0,h1,h2,q1,q2⟩:=h
  cases rx
  obtain ⟨t,rfl⟩:=ry
  obtain ⟨its,r,pl,hz⟩:=I.tuple hH
  obtain ⟨⟨oc,dd,data,sl⟩,e,hc,n,hd⟩:=pl
  simp only at hc hd
  subst hc hd
  have hl:=r.length
  have he:its.toArray.isEmpty=false:=by
    cases r with
    | nil=>exact absurd rfl hne
    | cons _ _=>rfl
  refine wpAny_binaryOp_repeat_ref (T:="tuple") (U:="int") (by decide) ⟨_,e,rfl⟩ (fun s'=>typeIs_int s' k t) Zgh F.fills_int_mul F.slot_int_rmul ZiR F.slot_int_index.lookup
    (call_meets F.slot_int_rmul (typeIs_int s k t) F.entry_int_rmul (F.args_int_rmul_2 _ _) (Zhp k t a its.toArray n dd sl) ⟨e,rfl,⟨_,e,rfl⟩,?_⟩)
  by_cases k1:k=1
  · subst k1
    exact call_meets F.slot_tuple_mul ⟨_,e,rfl⟩ F.entry_tuple_mul (F.args_tuple_mul_2 _ _) (ZhQ a its.toArray n dd sl t) ⟨e,.ref a,H,I,rfl,q1 rfl⟩
  · by_cases k0:k=0
    · subst k0
      refine call_meets F.slot_tuple_mul ⟨_,e,rfl⟩ F.entry_tuple_mul (F.args_tuple_mul_2 _ _) (Zg7 a its.toArray n dd sl t he) ⟨e,.ref s.heap.objs.size,_,I.laid (t':=s.toks) (o:=.tup []) (fun b ob q=>Heap.get?_push_of_some _ q) (Nat.le_refl _) ?_,rfl,?_⟩
      · exact ⟨Nat.zero_le _,[],.nil,IsTup.new _ _⟩
      · exact q2 k1 _ (I.hok.fresh (Nat.le_refl _))
    · refine call_meets F.slot_tuple_mul ⟨_,e,rfl⟩ F.entry_tuple_mul (F.args_tuple_mul_2 _ _) (Zg8 a its.toArray n dd sl k t he (by omega) h1 (by rw [List.size_toArray,←hl]; exact h2)) ⟨e,?_⟩
      have hnew:List.foldl (fun x1 x2=>x1++x2) #[] (List.replicate k.toNat its.toArray)=(List.replicate k.toNat its).flatten.toArray:=by
        have:=Ze3 its k.toNat []
        rw [List.nil_append] at this
        exact this
      rw [hnew]
      refine ⟨.ref s.heap.objs.size,_,I.laid (t':=s.toks) (o:=.tup (List.replicate k.toNat xs).flatten) (fun b ob q=>Heap.get?_push_of_some _ q) (Nat.le_refl _) ?_,rfl,q2 k1 _ (I.hok.fresh (Nat.le_refl _))⟩
      refine ⟨?_,_,r.rep k.toNat,IsTup.new _ _⟩
      rw [ZiZ,sizeLine_eq]
      have e2:((k.toNat*xs.length:Nat):Int)=(xs.length:Int)*k:=by
        rw [Int.natCast_mul,Int.mul_comm]
        congr 1
        omega
      omega
end
end L2
namespace My
open PySem L2
def ZaV (t:Int):Int:=if t=0 then 0 else (t-1) % 65535+1
theorem ZmO {t:Int} (h:0≤t):0≤ZaV t∧ZaV t≤65535∧(ZaV t-t) % 65535=0∧(ZaV t=0↔t=0):=by
  unfold ZaV; split<;>omega
theorem Zfr {t:Int} (h:0≤t) (h1:t≤65535):ZaV t=t:=by
  unfold ZaV; split<;>omega
theorem Ziu {t:Int} (h:65535<t):ZaV (t % 65536+t/65536)=ZaV t∧0≤t % 65536+t/65536∧t % 65536+t/65536<t:=by
  unfold ZaV
  rw [if_neg (by omega),if_neg (by omega)]
  omega
def zr:List Int→Int
  | []=>0
  | [a]=>256*a
  | a::b::r=>256*a+b+zr r
def Zeh:List Int→List Int
  | []=>[]
  | [a]=>[a]
  | a::_::r=>a::Zeh r
def Zhe:List Int→List Int
  | []=>[]
  | [_]=>[]
  | _::b::r=>b::Zhe r
theorem Zma:∀ns:List Int,256*(Zeh ns).sum+(Zhe ns).sum=zr ns
  | []=>rfl
  | [a]=>by simp [Zeh,Zhe,zr]
  | a::b::r=>by
    have:=Zma r
    simp only [Zeh,Zhe,zr,List.sum_cons]
    omega
theorem Zl8:∀{ns:List Int},(∀z∈ns,0≤z)→0≤zr ns
  | [],_=>by simp [zr]
  | [a],h=>by have:=h a (by simp); simp only [zr]; omega
  | a::b::r,h=>by
    have h1:=h a (by simp)
    have h2:=h b (by simp)
    have h3:=Zl8 (ns:=r) fun z hz=>h z (by simp [hz])
    simp only [zr]; omega
theorem Zg3:∀{ns ms:List Int},ns.length % 2=0→zr (ns++ms)=zr ns+zr ms
  | [],ms,_=>by simp [zr]
  | [a],ms,h=>by simp at h
  | a::b::r,ms,h=>by
    have:=Zg3 (ns:=r) (ms:=ms) (by simp only [List.length_cons] at h; omega)
    show zr (a::b::(r++ms))=_
    simp only [zr,this]
    omega
theorem ZlZ {w:Int} (h:0≤w):ZaV (w+(256*((65535-ZaV w)/256)+(65535-ZaV w) % 256))=65535:=by
  have e:256*((65535-ZaV w)/256)+(65535-ZaV w) % 256=65535-ZaV w:=by omega
  rw [e]
  unfold ZaV
  split<;>split<;>omega
theorem Zc2:∀(m:Nat) (ns:List Int),ns.length≤2*m→((List.range m).map fun k=>2*k).filterMap (fun i=>(ns.map V.int)[i]?)=(Zeh ns).map V.int
  | 0,ns,h=>by
    have:ns=[]:=List.length_eq_zero_iff.mp (by omega)
    subst this; rfl
  | m+1,ns,h=>by
    rw [List.range_succ_eq_map,List.map_cons,List.map_map]
    have shift:∀(xs:List Int),(List.map ((fun k=>2*k)∘Nat.succ) (List.range m)).filterMap (fun i=>(xs.map V.int)[i]?)=((List.range m).map fun k=>2*k).filterMap (fun i=>((xs.drop 2).map V.int)[i]?):=fun xs=>by
      rw [List.filterMap_map,List.filterMap_map]
      congr 1
      funext k
      show (xs.map V.int)[2*(k+1)]?=((xs.drop 2).map V.int)[2*k]?
      rw [List.getElem?_map,List.getElem?_map,List.getElem?_drop]
      congr 2
      omega
    match ns,h with
    | [],_=>
      have:=shift []
      rw [List.filterMap_cons_none (by rfl),this,Zc2 m _ (by simp)]
      rfl
    | [a],_=>
      have:=shift [a]
      rw [List.filterMap_cons_some (b:=V.int a) (by rfl),this,Zc2 m _ (by simp)]
      rfl
    | a::b::r,h=>
      have:=shift (a::b::r)
      rw [List.filterMap_cons_some (b:=V.int a) (by rfl),this,Zc2 m _ (by simp only [List.length_cons] at h; simp; omega)]
      rfl
theorem Zmu:∀ns:List Int,Zhe ns=Zeh (ns.drop 1)
  | []=>rfl
  | [_]=>rfl
  | [_,_]=>rfl
  | _::b::c::r=>by
    have:=Zmu (c::r)
    simp only [Zhe,List.drop,Zeh] at *
    rw [this]
theorem ZnE (ns:List Int):Zes (ns.map V.int) none none (some 2)=(Zeh ns).map V.int:=by
  unfold Zes sliceBounds sliceRange
  simp only [Option.getD_some,List.length_map,show ((2:Int) > 0)=True from eq_true (by decide),if_true]
  have e:(if (0:Int)<(ns.length:Int) then ((ns.length:Int)-0+2-1)/2 else 0).toNat=(ns.length+1)/2:=by split<;>omega
  rw [e]
  have e2:(fun k:Nat=>((0:Int)+2*(k:Int)).toNat)=fun k=>2*k:=by funext k; omega
  rw [e2]
  exact Zc2 _ ns (by omega)
theorem ZqG (ns:List Int):Zes (ns.map V.int) (some 1) none (some 2)=(Zhe ns).map V.int:=by
  unfold Zes sliceBounds sliceRange
  simp only [Option.getD_some,List.length_map,show ((2:Int) > 0)=True from eq_true (by decide),show ((1:Int)<0)=False from eq_false (by decide),if_true,if_false]
  rw [Zmu]
  by_cases h:ns.length=0
  · have:ns=[]:=List.length_eq_zero_iff.mp h
    subst this; rfl
  · have e0:max (0:Int) (min 1 (ns.length:Int))=1:=by omega
    rw [e0]
    have e:(if (1:Int)<(ns.length:Int) then ((ns.length:Int)-1+2-1)/2 else 0).toNat=ns.length/2:=by split<;>omega
    rw [e,←Zc2 (ns.length/2) (ns.drop 1) (by rw [List.length_drop]; omega),List.filterMap_map,List.filterMap_map]
    congr 1
    funext k
    show (ns.map V.int)[((1:Int)+2*(k:Int)).toNat]?=((ns.drop 1).map V.int)[2*k]?
    rw [List.getElem?_map,List.getElem?_map,List.getElem?_drop]
    congr 2
theorem Ziv:∀ns:List Int,(Zeh ns).length≤ns.length
  | []=>Nat.le_refl _
  | [_]=>Nat.le_refl _
  | _::_::r=>by have:=Ziv r; simp only [Zeh,List.length_cons]; omega
theorem ZkV:∀ns:List Int,(Zhe ns).length≤ns.length
  | []=>Nat.le_refl _
  | [_]=>Nat.zero_le _
  | _::_::r=>by have:=ZkV r; simp only [Zhe,List.length_cons]; omega
def wpre (ns:List Int):Nat→Int
  | 0=>0
  | i+1=>wpre ns i+ns.getD i 0*(if i % 2=0 then 256 else 1)
theorem ZkA (a b:Int) (r:List Int):∀i,wpre (a::b::r) (i+2)=256*a+b+wpre r i
  | 0=>by simp [wpre]; omega
  | i+1=>by
    have e:(i+2) % 2=i % 2:=by omega
    rw [wpre,ZkA a b r i]
    show _+r.getD i 0*(if (i+2) % 2=0 then 256 else 1)=256*a+b+(wpre r i+r.getD i 0*(if i % 2=0 then 256 else 1))
    rw [e]
    omega
theorem ZkB:∀ns:List Int,wpre ns ns.length=zr ns
  | []=>rfl
  | [a]=>by simp [wpre,zr]; omega
  | a::b::r=>by
    show wpre (a::b::r) (r.length+2)=_
    rw [ZkA,ZkB r]
    rfl
end My
namespace L2
open PySem PySem.Spec PyProof.Rows
section
variable {κ:Type} [DecidableEq κ]
def valV (kvs:List (κ×V)) (k:κ):Option V:=(kvs.find? fun kv=>decide (kv.1=k)).map (·.2)
def Zdu (kvs:List (κ×V)) (k:κ) (v:V):List (κ×V):=
  if (kvs.any fun kv=>decide (kv.1=k))=true then kvs.map (fun kv=>if kv.1=k then (kv.1,v) else kv) else kvs++[(k,v)]
def Zfi (kvs:List (κ×V)) (k:κ):List (κ×V):=kvs.filter fun kv=>decide (kv.1≠k)
theorem Zg5 {p:κ×V} {r:List (κ×V)} {k:κ} (e:p.1=k):valV (p::r) k=some p.2:=by simp [valV,List.find?_cons,e]
theorem Zg6 {p:κ×V} {r:List (κ×V)} {k:κ} (e:¬p.1=k):valV (p::r) k=valV r k:=by simp [valV,List.find?_cons,e]
theorem ZkC (k:κ):∀kvs:List (κ×V),(kvs.any fun kv=>decide (kv.1=k))=(valV kvs k).isSome
  | []=>rfl
  | p::r=>by
    rw [List.any_cons]
    by_cases e:p.1=k
    · simp only [Zg5 e,decide_eq_true e,Bool.true_or,Option.isSome_some]
    · rw [Zg6 e,decide_eq_false e,Bool.false_or]; exact ZkC k r
theorem ZeB (kvs:List (κ×V)) (k:κ) (v:V):(Zdu kvs k v).length≤kvs.length+1:=by
  unfold Zdu
  split
  · rw [List.length_map]; omega
  · rw [List.length_append,List.length_cons,List.length_nil]; omega
theorem RelO.isSome_eq {o:Option V} {u:Option Value} (r:RelO o u):o.isSome=u.isSome:=by
  cases o with
  | none=>cases u with
    | none=>rfl
    | some _=>exact (show False from r).elim
  | some _=>cases u with
    | none=>exact (show False from r).elim
    | some _=>rfl
theorem KV.val {kvs:List (κ×V)} {vs:List (κ×Value)} (r:KV kvs vs) (k:κ):RelO (valV kvs k) (valueAt vs k):=by
  unfold KV at r
  induction r with
  | nil=>exact True.intro
  | @cons p q ps qs h t ih=>
    obtain ⟨h1,h2⟩:=h
    by_cases e:p.1=k
    · have e':q.1=k:=h1.symm.trans e
      have b:valueAt (q::qs) k=some q.2:=by simp [valueAt,List.find?_cons,e']
      rw [Zg5 e,b]; exact h2
    · have e':¬q.1=k:=fun z=>e (h1.trans z)
      have b:valueAt (q::qs) k=valueAt qs k:=by simp [valueAt,List.find?_cons,e']
      rw [Zg6 e,b]; exact ih
theorem KV.any {kvs:List (κ×V)} {vs:List (κ×Value)} (r:KV kvs vs) (k:κ):(kvs.any fun kv=>decide (kv.1=k))=vs.any fun kv=>decide (kv.1=k):=by
  unfold KV at r
  induction r with
  | nil=>rfl
  | cons h t ih=>rw [List.any_cons,List.any_cons,ih,h.1]
theorem KV.repl {kvs:List (κ×V)} {vs:List (κ×Value)} (r:KV kvs vs) (k:κ) {y:V} {u:Value} (ry:RelV y u) :
    KV (kvs.map fun kv=>if kv.1=k then (kv.1,y) else kv) (vs.map fun kv=>if kv.1=k then (kv.1,u) else kv):=by
  unfold KV at r ⊢
  induction r with
  | nil=>exact .nil
  | @cons p q ps qs h t ih=>
    rw [List.map_cons,List.map_cons]
    refine .cons ?_ ih
    obtain ⟨h1,h2⟩:=h
    by_cases e:p.1=k
    · rw [if_pos e,if_pos (h1.symm.trans e)]; exact ⟨h1,ry⟩
    · rw [if_neg e,if_neg (fun z=>e (h1.trans z))]; exact ⟨h1,h2⟩
theorem KV.put {kvs:List (κ×V)} {vs:List (κ×Value)} (r:KV kvs vs) (k:κ) {y:V} {u:Value} (ry:RelV y u):KV (Zdu kvs k y) (stored vs k u):=by
  unfold Zdu stored
  rw [r.any k]
  by_cases e:(vs.any fun kv=>decide (kv.1=k))=true
  · rw [if_pos e,if_pos e]; exact r.repl k ry
  · rw [if_neg e,if_neg e]; exact Paired.snoc r ⟨rfl,ry⟩
theorem KV.drop {kvs:List (κ×V)} {vs:List (κ×Value)} (r:KV kvs vs) (k:κ):KV (Zfi kvs k) (without vs k):=by
  unfold KV at r ⊢
  unfold Zfi without
  induction r with
  | nil=>exact .nil
  | @cons p q ps qs h t ih=>
    obtain ⟨h1,h2⟩:=h
    rw [List.filter_cons,List.filter_cons]
    by_cases e:p.1=k
    · have a:¬decide (p.1≠k)=true:=by simp [e]
      have b:¬decide (q.1≠k)=true:=by simp [h1.symm.trans e]
      rw [if_neg a,if_neg b]; exact ih
    · have e':¬q.1=k:=fun z=>e (h1.trans z)
      have a:decide (p.1≠k)=true:=by simp [e]
      have b:decide (q.1≠k)=true:=by simp [e']
      rw [if_pos a,if_pos b]; exact .cons ⟨h1,h2⟩ ih
theorem KV.length {kvs:List (κ×V)} {vs:List (κ×Value)} (r:KV kvs vs):kvs.length=vs.length:=Paired.length r
theorem Zli (kvs:List (κ×V)) (k:κ):(Zfi kvs k).length≤kvs.length:=List.length_filter_le _ _
end
theorem Ziq {P:Program} {w:World} {k:Key} {u:Value} (r:RelV (kV k) u):(Zas P w).is k u=true:=by
  cases k with
  | inl i=>obtain ⟨t,e⟩:=(show ∃t,u=Value.int i t from r); subst e; exact Zk4 P w i t
  | inr x=>obtain ⟨t,e⟩:=(show ∃t,u=Value.str x t from r); subst e; exact Zk3 P w x t
theorem Zir {P:Program} {w:World}:∀{ks:List Key} {us:List Value},Vals (ks.map kV) us→ItemsAre (Zas P w) ks us
  | [],_,r=>by rw [List.map_nil] at r; cases r; exact .nil
  | k::ks,_,r=>by
    rw [List.map_cons] at r
    cases r with
    | cons h t=>exact .cons (Ziq h) (Zir t)
abbrev KT (H:Hp):List (List Key×V)→List (List Key×Addr×Value)→Prop:=Paired fun p q=>p.1=q.1∧H q.2.1=some (.tup (p.1.map kV))∧RelV p.2 q.2.2
theorem KT.val {H:Hp} {kvs:List (List Key×V)} {xs:List (List Key×Addr×Value)} (r:KT H kvs xs) (k:List Key):RelO (valV kvs k) ((atKey xs k).map (·.2)):=by
  induction r with
  | nil=>exact True.intro
  | @cons p q ps qs h t ih=>
    obtain ⟨h1,_,h2⟩:=h
    by_cases e:p.1=k
    · have e':q.1=k:=h1.symm.trans e
      have b:atKey (q::qs) k=some q.2:=by simp [atKey,List.find?_cons,e']
      rw [Zg5 e,b]; exact h2
    · have e':¬q.1=k:=fun z=>e (h1.trans z)
      have b:atKey (q::qs) k=atKey qs k:=by simp [atKey,List.find?_cons,e']
      rw [Zg6 e,b]; exact ih
theorem KT.repl {H:Hp} {kvs:List (List Key×V)} {xs:List (List Key×Addr×Value)} (r:KT H kvs xs) (k:List Key) {y:V} {u:Value} (ry:RelV y u) :
    KT H (kvs.map fun kv=>if kv.1=k then (kv.1,y) else kv) (xs.map (putAt k u)):=by
  induction r with
  | nil=>exact .nil
  | @cons p q ps qs h t ih=>
    rw [List.map_cons,List.map_cons]
    refine .cons ?_ ih
    obtain ⟨h1,h2,h3⟩:=h
    unfold putAt
    by_cases e:p.1=k
    · rw [if_pos e,if_pos (h1.symm.trans e)]; exact ⟨h1,h2,ry⟩
    · rw [if_neg e,if_neg (fun z=>e (h1.trans z))]; exact ⟨h1,h2,h3⟩
theorem KT.put {H:Hp} {kvs:List (List Key×V)} {xs:List (List Key×Addr×Value)} (r:KT H kvs xs) (k:List Key) {b:Addr} {y:V} {u:Value} (hb:H b=some (.tup (k.map kV))) (ry:RelV y u) :
    KT H (Zdu kvs k y) (storedH xs k b u):=by
  have e:(kvs.any fun kv=>decide (kv.1=k))=(atKey xs k).isSome:=by
    rw [ZkC,(r.val k).isSome_eq,Option.isSome_map]
  unfold Zdu storedH
  rw [e]
  by_cases q:(atKey xs k).isSome=true
  · rw [if_pos q,if_pos q]; exact r.repl k ry
  · rw [if_neg q,if_neg q]; exact Paired.snoc r ⟨rfl,hb,ry⟩
theorem KT.keeps {H H':Hp} {kvs:List (List Key×V)} {xs:List (List Key×Addr×Value)} (r:KT H kvs xs) (ht:∀b ys,H b=some (.tup ys)→H' b=some (.tup ys)):KT H' kvs xs:=
  Paired.mapP r fun _ _ z=>⟨z.1,ht _ _ z.2.1,z.2.2⟩
section
variable {P:Program} {w:World} {H:Hp} {h:Heap} {a:Addr}
theorem ZsF {u:HO} (ok:HOk P w H h) (e:Rd H a u):ObjOk P w H h a u:=e.ok ok
theorem ZqE {kvs:List (Key×V)} (ok:HOk P w H h) (e:Rd H a (.dK kvs)):kvs.length≤sizeLine∧(a == sysModules)=false∧∃vs,KV kvs vs∧h.DictOf (Zas P w) a vs:=
  show ObjOk P w H h a (.dK kvs) from ZsF ok e
theorem ZmT {kvs:List (Key×V)} (ok:HOk P w H h) (e:H a=some (.dK kvs)):kvs.length≤sizeLine∧(a == sysModules)=false∧∃vs,KV kvs vs∧h.DictOf (Zas P w) a vs:=ZqE ok (.inl e)
theorem ZlV {ks:List Key} (ok:HOk P w H h) (e:H a=some (.tup (ks.map kV))):(tupleKind (Zas P w)).is h ks a:=by
  obtain ⟨_,its,r,o,h1,h2,n,h3⟩:=(show ObjOk P w H h a (.tup (ks.map kV)) from ok a _ e)
  exact ⟨o,its.toArray,n,h1,h2,h3,by simpa using Zir r⟩
theorem Zqy {kvs:List (List Key×V)} (ok:HOk P w H h) (e:Rd H a (.dT kvs)):kvs.length≤sizeLine∧(a == sysModules)=false∧
    ∃xs,KT H kvs xs∧h.DictOfH (tupleKind (Zas P w)) a xs:=by
  obtain ⟨z,y,xs,r,o,es,ep,h1,h2,h3,h4,h5⟩:=(show ObjOk P w H h a (.dT kvs) from ZsF ok e)
  refine ⟨z,y,xs,r,o,es,ep,h1,h2,h3,h4,fun x hx=>?_,h5⟩
  have all:∀{l:List (List Key×V)} {m:List (List Key×Addr×Value)},KT H l m→∀x∈m,(tupleKind (Zas P w)).is h x.1 x.2.1:=by
    intro l m q
    induction q with
    | nil=>intro x hx; exact nomatch hx
    | @cons p q ps qs hq t ih=>
      intro x hx
      rcases List.mem_cons.mp hx with e | hx
      · subst e
        exact ZlV ok (by rw [←hq.1]; exact hq.2.1)
      · exact ih x hx
  exact all r x hx
theorem Zv8 {kvs:List (List Key×V)} (ok:HOk P w H h) (e:H a=some (.dT kvs)):kvs.length≤sizeLine∧(a == sysModules)=false∧
    ∃xs,KT H kvs xs∧h.DictOfH (tupleKind (Zas P w)) a xs:=Zqy ok (.inl e)
end
def DGet (H:Hp) (a:Addr) (y:V) (r:Option V):Prop:=
  (∃kvs k,Rd H a (.dK kvs)∧y=kV k∧r=valV kvs k)∨∃kvs k b,Rd H a (.dT kvs)∧y=.ref b∧H b=some (.tup (k.map kV))∧r=valV kvs k
def DPut (H:Hp) (a:Addr) (y v:V) (H':Hp):Prop:=
  (∃kvs k,H a=some (.dK kvs)∧y=kV k∧kvs.length<sizeLine∧H'=upd H a (.dK (Zdu kvs k v)))∨
  ∃kvs k b,H a=some (.dT kvs)∧y=.ref b∧H b=some (.tup (k.map kV))∧kvs.length<sizeLine∧H'=upd H a (.dT (Zdu kvs k v))
theorem DGet.k {H:Hp} {a:Addr} {kvs:List (Key×V)} {k:Key} (e:H a=some (.dK kvs)):DGet H a (kV k) (valV kvs k):=.inl ⟨kvs,k,.inl e,rfl,rfl⟩
theorem DPut.k {H:Hp} {a:Addr} {kvs:List (Key×V)} {k:Key} {v:V} (e:H a=some (.dK kvs)) (hl:kvs.length<sizeLine):DPut H a (kV k) v (upd H a (.dK (Zdu kvs k v))):=.inl ⟨kvs,k,e,rfl,hl,rfl⟩
section
variable {X:Cx} {pins:List (Addr×Obj)} {σ:St} {H:Hp} {s:Shared} {a:Addr} {y v:V} {u r:Value} {o:Option V} {A:Around} {E:Value→Shared→Prop}
theorem Inv.big (I:Inv X pins σ H s):sysModules<s.heap.objs.size:=by
  have h:mainGlobals<s.heap.objs.size:=(I.mod.glob.keeps I.bk).lt
  exact Nat.lt_trans (by decide) h
theorem Zzx {Q:Value→Shared→Prop} (hu:A.units+1<cLine) (I:Inv X pins σ H s) (g:DGet H a y o) (ry:RelV y u) (h:∀s',Inv X pins σ H s'→Q (.bool o.isSome) s') :
    wpAny (model X.prog X.w) A (compareOp .In u (.ref a)) Q E s:=by
  rcases g with ⟨kvs,k,e,ey,l⟩ | ⟨kvs,k,b,e,ey,eb,l⟩
  · subst ey
    obtain ⟨z,hd,vs,rel,dd⟩:=ZqE I.hok e
    refine wpAny_in_of (Ziq ry) hd dd.mapOf ?_
    rw [←(rel.val k).isSome_eq,←l]
    exact h _ (I.tok _)
  · subst ey
    cases (show u=Value.ref b from ry)
    obtain ⟨z,hd,xs,rel,dd⟩:=Zqy I.hok e
    refine wpAny_in_heap (tupleKind_room_in1 hu) (ZlV I.hok eb) hd dd ?_
    have q:=(rel.val k).isSome_eq
    rw [Option.isSome_map] at q
    rw [←q,←l]
    exact h _ (I.tok _)
theorem ZfV {h':Heap} {t':Nat} {ob:HO} (I:Inv X pins σ H s) (mu:Mut (H a)) (hs:Heap.SameBut a s.heap h') (he:∃q,h'.get? a=some q) (new:ObjOk X.prog X.w (upd H a ob) h' a ob) :
    Inv X pins σ (upd H a ob) { s with heap:=h',toks:=t' }:=
  I.write (x:=a) (e:=a) mu (.inl rfl) (fun b q hb z=>(hs.2 b hb).trans z) he new
theorem Zi8 {P:Program} {w:World} {H':Hp} {h':Heap} {kvs:List (Key×V)} {vs:List (Key×Value)} (z:kvs.length≤sizeLine) (hd:(a == sysModules)=false) (rel:KV kvs vs) (dd:h'.DictOf (Zas P w) a vs) :
    ObjOk P w H' h' a (.dK kvs):=⟨z,hd,vs,rel,dd⟩
theorem ZnD {H':Hp} {Q:Unit→Shared→Prop} (hu:A.units+1<cLine) (I:Inv X pins σ H s) (g:DPut H a y v H') (ry:RelV y u) (rv:RelV v r) (h:∀s',Inv X pins σ H' s'→Q () s') :
    wpAny (model X.prog X.w) A (setItem (.ref a) u r) Q E s:=by
  rcases g with ⟨kvs,k,e,ey,l,eH⟩ | ⟨kvs,k,b,e,ey,eb,l,eH⟩
  · subst ey eH
    obtain ⟨z,hd,vs,rel,dd⟩:=ZmT I.hok e
    have hz:vs.length≤sizeLine:=by rw [←rel.length]; exact z
    have hl:(Zdu kvs k v).length≤sizeLine:=by have:=ZeB kvs k v; omega
    refine wpAny_setItem_pairs (hsz:=hz) (Ziq ry) dd fun h' dd' hs=>h _ ?_
    have he:∃q,h'.get? a=some q:=let ⟨q,_,_,hq,_⟩:=dd'; ⟨q,hq⟩
    exact ZfV I (by rw [e]; exact True.intro) hs he (Zi8 hl hd (rel.put k rv) dd')
  · subst ey eH
    cases (show u=Value.ref b from ry)
    obtain ⟨z,hd,xs,rel,dd⟩:=Zv8 I.hok e
    have hz:xs.length≤sizeLine:=by rw [←Paired.length rel]; exact z
    have hl:(Zdu kvs k v).length≤sizeLine:=by have:=ZeB kvs k v; omega
    refine wpAny_setItem_heap (hsz:=hz) (tupleKind_room_in1 hu) (ZlV I.hok eb) dd fun h' dd' hs=>h _ ?_
    obtain ⟨q,es,ep,hq,h2,h3,h4,_,h5⟩:=dd'
    refine ZfV I (by rw [e]; exact True.intro) hs ⟨q,hq⟩ ⟨hl,hd,_,(rel.put k eb rv).keeps fun c ys ec=>?_,q,es,ep,hq,h2,h3,h4,h5⟩
    rw [ZS (ZvP ec e (fun z=>nomatch z))]
    exact ec
end
section
variable {X:Cx} {pins:List (Addr×Obj)} {σ:St} {H:Hp} {s:Shared} {a:Addr} {kvs:List (Key×V)} {k:Key} {u:Value} {A:Around} {E:Value→Shared→Prop}
theorem ZuN {Q:Unit→Shared→Prop} (I:Inv X pins σ H s) (e:H a=some (.dK kvs)) (ry:RelV (kV k) u) (l:(valV kvs k).isSome=true) (h:∀s',Inv X pins σ (upd H a (.dK (Zfi kvs k))) s'→Q () s') :
    wpAny (model X.prog X.w) A (delItem (.ref a) u) Q E s:=by
  obtain ⟨z,hd,vs,rel,dd⟩:=ZmT I.hok e
  refine wpAny_delItem_slot dd.typeIs (by decide) PySem.F.slot_dict_delitem
    (call_meetsIn PySem.F.slot_dict_delitem dd.typeIs PySem.F.entry_dict_delitem (PySem.F.args_dict_delitem_2 _ _) (meets_dict_delitem_pairs (Zas X.prog X.w) a (Ziq ry)) ⟨vs,dd,by rw [←rel.length]; exact z,by rw [←(rel.val k).isSome_eq]; exact l,fun h' dd' hs=>h _ ?_⟩)
  have he:∃q,h'.get? a=some q:=let ⟨q,_,_,hq,_⟩:=dd'; ⟨q,hq⟩
  exact ZfV I (by rw [e]; exact True.intro) hs he (Zi8 (Nat.le_trans (Zli kvs k) z) hd (rel.drop k) dd')
theorem Zv9 {v:V} {more:List Value} {Q:Value→Shared→Prop} (I:Inv X pins σ H s) (e:H a=some (.dK kvs)) (ry:RelV (kV k) u) (l:valV kvs k=some v) (hm:more=[]∨∃x,more=[x])
    (h:∀w' s',Inv X pins σ (upd H a (.dK (Zfi kvs k))) s'→RelV v w'→Q w' s'):wpAny (model X.prog X.w) A (call (.builtin "dict.pop") (.ref a::u::more)) Q E s:=by
  obtain ⟨z,hd,vs,rel,dd⟩:=ZmT I.hok e
  obtain ⟨w',hw,rw'⟩:=RelO.some_of (v:=v) (o:=valueAt vs k) (by rw [←l]; exact rel.val k)
  have hp:(keyPart u).isSome=true:=by
    cases k with
    | inl i=>obtain ⟨t,q⟩:=(show ∃t,u=Value.int i t from ry); subst q; rfl
    | inr x=>obtain ⟨t,q⟩:=(show ∃t,u=Value.str x t from ry); subst q; rfl
  have ha:argsOk "dict.pop" ⟨.ref a::u::more,[]⟩:=by
    rcases hm with q | ⟨x,q⟩
    · subst q; exact PySem.F.args_dict_pop_2 _ _
    · subst q; exact PySem.F.args_dict_pop_3 _ _ _
  refine call_meetsIn PySem.F.slot_dict_pop dd.typeIs PySem.F.entry_dict_pop ha (meets_dict_pop_there (Zas X.prog X.w) a (Ziq ry) more hm hp)
    ⟨vs,w',dd,by rw [←rel.length]; exact z,hw,fun h' dd' hs=>h w' _ ?_ rw'⟩
  have he:∃q,h'.get? a=some q:=let ⟨q,_,_,hq,_⟩:=dd'; ⟨q,hq⟩
  exact ZfV I (by rw [e]; exact True.intro) hs he (Zi8 (Nat.le_trans (Zli kvs k) z) hd (rel.drop k) dd')
end
def Zvd (ty td:TE):TE:=fun σ H Q=>ty σ H fun y H1=>td σ H1 fun x H2=>∃a o,x=.ref a∧DGet H2 a y o∧Q (.bl o.isSome) H2
def Zvj (td ty tv:TE):TS:=fun D σ H=>tv σ H fun v H1=>td σ H1 fun x H2=>ty σ H2 fun y H3=>∃a H4,x=.ref a∧DPut H3 a y v H4∧D.nx σ H4
section
variable {X:Cx} {o i e value:Expr} {pos pos' tpos:Pos} {td ty tv:TE}
theorem ZtS (hu:X.A.units+1<cLine) (hi:PE X i ty) (ho:PE X o td):PC X .In i o (Zvd ty td):=by
  intro pins s σ H Q I h
  refine thn (hi pins s σ H _ I h) fun iv s1 ⟨y,H1,I1,ry,q1⟩=>thn (ho pins s1 σ H1 _ I1 q1) fun u s2 ⟨x,H2,I2,rx,a,ov,ex,g,q2⟩=>?_
  subst ex
  obtain rfl:u=Value.ref a:=rx
  exact Zzx hu I2 g ry fun s3 I3=>⟨.bl ov.isSome,H2,I3,rfl,q2⟩
theorem ZrB (hu:X.A.units+1<cLine) (ho:PE X o td) (hi:PE X i ty) (hv:PE X value tv) (hs:swapsWith value (some (.Subscript o i pos')) pos.line X.env=pure false) :
    PS X (.Assign [.Subscript o i pos'] value pos) (Zvj td ty tv):=by
  intro pins s σ H D I h
  refine wpAny_Assign_Subscript (thn (hv pins s σ H _ I h) fun r s1 ⟨v,H1,I1,rv,q1⟩=>thn (ho pins s1 σ H1 _ I1 q1) fun u s2 ⟨x,H2,I2,rx,q2⟩=>thn (hi pins s2 σ H2 _ I2 q2) fun iv s3 ⟨y,H3,I3,ry,a,H4,ex,g,q3⟩=>?_) hs
  subst ex
  obtain rfl:u=Value.ref a:=rx
  exact ZnD hu I3 g ry rv fun s4 I4=>⟨σ,H4,I4,q3⟩
end
theorem ZqF {P:Program} {w:World} {H:Hp} (h:Heap) (hb:sysModules<h.objs.size):ObjOk P w H (h.push { cls:=.type "dict",data:=.dict #[] }) h.objs.size (.dK []):=
  ⟨Nat.zero_le _,beq_eq_false_iff_ne.mpr (Ne.symm (Nat.ne_of_lt hb)),[],.nil,Heap.DictOf.new h⟩
def Ztq:TE:=fun _ H Q=>∀p,H p=none→Q (.ref p) (upd H p (.dK []))
section
variable {X:Cx} {pos:Pos}
theorem ZpL:PE X (.Dict [] [] pos) Ztq:=fun pins s σ H Q I h=>
  wpAny_Dict_empty ⟨.ref s.heap.objs.size,_,I.laid (a:=s.heap.objs.size) (o:=.dK []) (t':=s.toks) (fun _ _ q=>Heap.get?_push_of_some _ q) (Nat.le_refl _) (ZqF s.heap I.big),rfl,h _ (I.hok.fresh (Nat.le_refl _))⟩
end
def Zpn:List (TE×TE)→St→Hp→(List (V×V)→Hp→Prop)→Prop
  | [],_,H,Q=>Q [] H
  | (tk,tv)::r,σ,H,Q=>tk σ H fun x H1=>tv σ H1 fun y H2=>Zpn r σ H2 fun ps H3=>Q ((x,y)::ps) H3
abbrev VV:List (V×V)→List (Value×Value)→Prop:=Paired fun p q=>RelV p.1 q.1∧RelV p.2 q.2
def PPs (X:Cx) (pos:Pos) (keys:List (Option Expr)) (values:List Expr) (trs:List (TE×TE)):Prop:=
  ∀(pins:List (Addr×Obj)) (s:Shared) (σ:St) (H:Hp) (Q:List (V×V)→Hp→Prop),Inv X pins σ H s→Zpn trs σ H Q→
    wpAny (model X.prog X.w) X.A (evalPairs (pairTrees keys values X.env pos)) (fun vs s'=>∃ps H',Inv X pins σ H' s'∧VV ps vs∧Q ps H') X.xe s
def Zt4 (kvs more:List (Key×V)):List (Key×V):=more.foldl (fun acc kv=>Zdu acc kv.1 kv.2) kvs
structure M1 (X:Cx) (o:Expr) (m:Str) (apos:Pos) (e:Expr) (cpos:Pos):Prop where
  base:attributeBase o m X.env (eval o X.env)=eval o X.env
  few:((backTo cpos (starEach [e] X.env)).all (fun x=>!x.1) && (backToKw cpos (keywordEach [] X.env)).all (fun x=>x.1.isSome)
    && decide (([e]:List Expr).length+([]:List Keyword).length+(if ([]:List Keyword).isEmpty then 0 else 1)<30))=true
  line:(apos.endLine == cpos.line)=true
  trees:backTo cpos (starEach [e] X.env)=[(false,eval e X.env)]
structure M2 (X:Cx) (o:Expr) (m:Str) (apos:Pos) (e f:Expr) (cpos:Pos):Prop where
  base:attributeBase o m X.env (eval o X.env)=eval o X.env
  few:((backTo cpos (starEach [e,f] X.env)).all (fun x=>!x.1) && (backToKw cpos (keywordEach [] X.env)).all (fun x=>x.1.isSome)
    && decide (([e,f]:List Expr).length+([]:List Keyword).length+(if ([]:List Keyword).isEmpty then 0 else 1)<30))=true
  line:(apos.endLine == cpos.line)=true
  trees:backTo cpos (starEach [e,f] X.env)=[(false,eval e X.env),(false,eval f X.env)]
def IsD (H:Hp) (a:Addr):Prop:=(∃kvs,Rd H a (.dK kvs))∨∃kvs,Rd H a (.dT kvs)
theorem Zql {X:Cx} {pins:List (Addr×Obj)} {σ:St} {H:Hp} {s:Shared} {a:Addr} (I:Inv X pins σ H s) (d:IsD H a) :
    s.TypeIs (.ref a) "dict"∧(∀b,Value.ref a=.ref b→∃ob,s.heap.get? b=some ob∧ob.dict=none)∧(a == sysModules)=false:=by
  rcases d with ⟨kvs,e⟩ | ⟨kvs,e⟩
  · obtain ⟨_,hd,vs,_,dd⟩:=ZqE I.hok e
    refine ⟨dd.typeIs,fun b q=>?_,hd⟩
    cases q
    obtain ⟨ob,_,_,h1,h2,_⟩:=dd
    exact ⟨ob,h1,h2.2.1⟩
  · obtain ⟨_,hd,xs,_,dd⟩:=Zqy I.hok e
    refine ⟨dd.typeIs,fun b q=>?_,hd⟩
    cases q
    obtain ⟨ob,_,_,h1,h2,_⟩:=dd
    exact ⟨ob,h1,h2.2.1⟩
section
variable {X:Cx} {pins:List (Addr×Obj)} {σ:St} {H:Hp} {s:Shared} {a:Addr} {y d:V} {u r:Value} {o:Option V} {A:Around} {E:Value→Shared→Prop}
end
def Ztp (td ty:TE):TE:=fun σ H Q=>td σ H fun x H1=>∃a,x=.ref a∧IsD H1 a∧ty σ H1 fun y H2=>∃kvs k v,H2 a=some (.dK kvs)∧y=kV k∧valV kvs k=some v∧Q v (upd H2 a (.dK (Zfi kvs k)))
section
variable {X:Cx} {o e f:Expr} {apos cpos:Pos} {td ty tx:TE}
theorem ZpK (ho:PE X o td) (he:PE X e ty) (m:M1 X o "pop" apos e cpos):PE X (.Call (.Attribute o "pop" apos) [e] [] cpos) (Ztp td ty):=by
  intro pins s σ H Q I h
  refine wpAny_Call_method m.base m.few m.line PySem.F.plainAttrs_dict PySem.F.slot_dict_pop PySem.F.type_dict_pop (thn (ho pins s σ H _ I h) fun u s1 ⟨x,H1,I1,rx,a,ex,d,q1⟩=>?_)
  subst ex
  obtain rfl:u=Value.ref a:=rx
  obtain ⟨t1,t2,_⟩:=Zql I1 d
  refine ⟨t1,t2,?_⟩
  rw [m.trees]
  refine Calls.callWith_builtin rfl (Calls.evalArgs_plain (Calls.spliced_cons (thn (he pins s1 σ H1 _ I1 q1) fun iv s2 ⟨y,H2,I2,ry,kvs,k,v,ea,ey,l,q2⟩=>Calls.spliced_nil ?_)))
  subst ey
  exact Zv9 I2 ea ry l (.inl rfl) fun w' s3 I3 rw'=>⟨v,_,I3,rw',q2⟩
end
section
variable {X:Cx} {pins:List (Addr×Obj)} {σ:St} {H:Hp} {s:Shared} {a:Addr} {kvs:List (Key×V)} {A:Around} {E:Value→Shared→Prop}
end
section
variable {X:Cx} {pins:List (Addr×Obj)} {σ:St} {H:Hp} {s:Shared} {a:Addr} {y:V} {u:Value} {A:Around} {E:Value→Shared→Prop}
end
end L2
namespace L2.MM
open PySem PySem.Spec PyProof.Rows
theorem nr {α:Sort _} {a b:α} (h:a=b):a=b:=h
inductive D where
  | non | bl (b:Bool) | int (i:Int) | str (x:Str) | ty (n:String)
  | scr (ns:List Int) | tup (xs:List D) | lst (xs:List D) | ref (l:Nat)
  deriving Inhabited
inductive Cell where
  | lst (xs:List D) | dK (kvs:List (Key×D)) | dT (kvs:List (List Key×D)) | ins (C:Str) (fs:List (Str×D))
abbrev Sto:=List Cell
structure Bx where
  n:Nat
  m:Nat→Addr
  F:Addr→Prop
  os:List Addr
  ks:Addr→List Int→Prop
def Bx.ok (B:Bx) (a:Addr):Prop:=(∀i,i<B.n→B.m i≠a)∧¬B.F a∧a∉B.os
mutual
def RepV (B:Bx) (H:Hp):D→V→Prop
  | .non,v=>v=.non
  | .bl b,v=>v=.bl b
  | .int i,v=>v=.int i
  | .str x,v=>v=.str x
  | .ty n,v=>v=.ty n
  | .scr ns,v=>∃a,v=.ref a∧((∃o,H a=some (.frz o (.lst (ns.map V.int)))∧B.ok a)∨B.ks a ns)
  | .tup xs,v=>∃a vs,v=.ref a∧H a=some (.tup vs)∧B.ok a∧RepL B H xs vs
  | .lst xs,v=>∃a vs,v=.ref a∧H a=some (.lst vs)∧B.ok a∧RepL B H xs vs
  | .ref l,v=>l<B.n∧v=.ref (B.m l)
def RepL (B:Bx) (H:Hp):List D→List V→Prop
  | [],vs=>vs=[]
  | d::ds,vs=>∃v r,vs=v::r∧RepV B H d v∧RepL B H ds r
end
abbrev RepKV {κ:Type} (B:Bx) (H:Hp):List (κ×D)→List (κ×V)→Prop:=Paired fun p q=>p.1=q.1∧RepV B H p.2 q.2
structure ExtS (B B':Bx) (H H':Hp):Prop where
  n:B.n≤B'.n
  m:∀i,i<B.n→B'.m i=B.m i
  fr:∀i,B.n≤i→i<B'.n→H (B'.m i)=none
  keep:∀a o,H a=some o→(∀i,i<B.n→B.m i≠a)→a∉B.os→H' a=some o
  sm:∀a,H a≠none→H' a≠none
  os:∀a,a∈B'.os→a∈B.os∨H a=none
  F:B'.F=B.F
  ks:B'.ks=B.ks
structure ExtE (B B':Bx) (H H':Hp):Prop extends ExtS B B' H H' where
  osE:B'.os=B.os
  ko:∀a o,a∈B.os→(∀i,i<B.n→B.m i≠a)→H a=some o→H' a=some o
theorem ExtS.refl (B:Bx) (H:Hp):ExtS B B H H:=⟨Nat.le_refl _,fun _ _=>rfl,fun i h h'=>absurd h' (Nat.not_lt.mpr h),fun _ _ h _ _=>h,fun _ h=>h,fun _ h=>.inl h,rfl,rfl⟩
theorem ExtE.refl (B:Bx) (H:Hp):ExtE B B H H:=⟨ExtS.refl B H,rfl,fun _ _ _ _ h=>h⟩
section
variable {B B' B'':Bx} {H H' H'':Hp}
theorem Bx.ok.ext {a:Addr} {o:HO} (k:B.ok a) (E:ExtS B B' H H') (h:H a=some o):B'.ok a∧H' a=some o:=by
  refine ⟨⟨fun i hi e=>?_,by rw [E.F]; exact k.2.1,fun z=>?_⟩,E.keep a o h k.1 k.2.2⟩
  · by_cases q:i<B.n
    · rw [E.m i q] at e; exact k.1 i q e
    · have:=E.fr i (Nat.not_lt.mp q) hi
      rw [e,h] at this; cases this
  · rcases E.os a z with z | z
    · exact k.2.2 z
    · rw [h] at z; cases z
theorem ExtS.trans (E:ExtS B B' H H') (E':ExtS B' B'' H' H''):ExtS B B'' H H'' where
  n:=Nat.le_trans E.n E'.n
  m:=fun i hi=>(E'.m i (Nat.lt_of_lt_of_le hi E.n)).trans (E.m i hi)
  fr:=fun i h1 h2=>by
    by_cases q:i<B'.n
    · rw [E'.m i q]; exact E.fr i h1 q
    · cases z:H (B''.m i) with
      | none=>rfl
      | some o=>exact absurd (E'.fr i (Nat.not_lt.mp q) h2) (E.sm _ (by rw [z]; simp))
  keep:=fun a o h h1 h2=>by
    have h':=E.keep a o h h1 h2
    refine E'.keep a o h' (fun i hi e=>?_) (fun z=>?_)
    · by_cases q:i<B.n
      · rw [E.m i q] at e; exact h1 i q e
      · have:=E.fr i (Nat.not_lt.mp q) hi
        rw [e,h] at this; cases this
    · rcases E.os a z with z | z
      · exact h2 z
      · rw [h] at z; cases z
  sm:=fun a h=>E'.sm a (E.sm a h)
  os:=fun a h=>by
    rcases E'.os a h with z | z
    · exact E.os a z
    · right
      cases q:H a with
      | none=>rfl
      | some o=>exact absurd z (E.sm a (by rw [q]; simp))
  F:=E'.F.trans E.F
  ks:=E'.ks.trans E.ks
theorem ExtE.trans (E:ExtE B B' H H') (E':ExtE B' B'' H' H''):ExtE B B'' H H'' where
  toExtS:=E.toExtS.trans E'.toExtS
  osE:=E'.osE.trans E.osE
  ko:=fun a o ha h1 h=>by
    have h':=E.ko a o ha h1 h
    refine E'.ko a o (by rw [E.osE]; exact ha) (fun i hi e=>?_) h'
    by_cases q:i<B.n
    · rw [E.m i q] at e; exact h1 i q e
    · have:=E.fr i (Nat.not_lt.mp q) hi
      rw [e,h] at this; cases this
mutual
theorem RepV.ext (E:ExtS B B' H H'):∀{d:D} {v:V},RepV B H d v→RepV B' H' d v
  | .non,_,h=>h
  | .bl _,_,h=>h
  | .int _,_,h=>h
  | .str _,_,h=>h
  | .ty _,_,h=>h
  | .scr _,_,h=>by
    obtain ⟨a,e,h⟩:=h
    refine ⟨a,e,?_⟩
    rcases h with ⟨o,h,k⟩ | h
    · obtain ⟨k',h'⟩:=k.ext E h
      exact .inl ⟨o,h',k'⟩
    · exact .inr (by rw [E.ks]; exact h)
  | .tup _,_,h=>by
    obtain ⟨a,vs,e,h,k,l⟩:=h
    obtain ⟨k',h'⟩:=k.ext E h
    exact ⟨a,vs,e,h',k',RepL.ext E l⟩
  | .lst _,_,h=>by
    obtain ⟨a,vs,e,h,k,l⟩:=h
    obtain ⟨k',h'⟩:=k.ext E h
    exact ⟨a,vs,e,h',k',RepL.ext E l⟩
  | .ref l,_,h=>⟨Nat.lt_of_lt_of_le h.1 E.n,by rw [h.2,E.m l h.1]⟩
theorem RepL.ext (E:ExtS B B' H H'):∀{ds:List D} {vs:List V},RepL B H ds vs→RepL B' H' ds vs
  | [],_,h=>h
  | _::_,_,h=>by
    obtain ⟨v,r,e,hv,hr⟩:=h
    exact ⟨v,r,e,RepV.ext E hv,RepL.ext E hr⟩
end
theorem RepL.len:∀{ds:List D} {vs:List V},RepL B H ds vs→vs.length=ds.length
  | [],_,h=>by cases (show _=[] from h); rfl
  | _::_,_,h=>by
    obtain ⟨v,r,rfl,_,hr⟩:=h
    simp [RepL.len hr]
theorem RepL.app:∀{ds es:List D} {vs us:List V},RepL B H ds vs→RepL B H es us→RepL B H (ds++es) (vs++us)
  | [],_,_,_,h,q=>by cases (show _=[] from h); exact q
  | _::_,_,_,_,h,q=>by
    obtain ⟨v,r,rfl,hv,hr⟩:=h
    exact ⟨v,_,rfl,hv,RepL.app hr q⟩
theorem RepL.get:∀{ds:List D} {vs:List V} {i:Nat} {d:D},RepL B H ds vs→ds[i]?=some d→∃v,vs[i]?=some v∧RepV B H d v
  | [],_,_,_,_,e=>by simp at e
  | _::_,_,0,_,h,e=>by
    obtain ⟨v,r,rfl,hv,_⟩:=h
    simp at e; subst e
    exact ⟨v,rfl,hv⟩
  | _::_,_,i+1,_,h,e=>by
    obtain ⟨v,r,rfl,_,hr⟩:=h
    obtain ⟨w,q1,q2⟩:=RepL.get (i:=i) hr (by simpa using e)
    exact ⟨w,by simpa using q1,q2⟩
theorem RepL.take:∀{ds:List D} {vs:List V} (n:Nat),RepL B H ds vs→RepL B H (ds.take n) (vs.take n)
  | _,_,0,_=>by rw [List.take_zero,List.take_zero]; exact rfl
  | [],_,n+1,h=>by cases (show _=[] from h); exact rfl
  | _::_,_,n+1,h=>by
    obtain ⟨v,r,rfl,hv,hr⟩:=h
    exact ⟨v,_,rfl,hv,RepL.take n hr⟩
theorem RepL.drop:∀{ds:List D} {vs:List V} (n:Nat),RepL B H ds vs→RepL B H (ds.drop n) (vs.drop n)
  | _,_,0,h=>h
  | [],_,n+1,h=>by cases (show _=[] from h); exact rfl
  | _::_,_,n+1,h=>by
    obtain ⟨v,r,rfl,hv,hr⟩:=h
    exact RepL.drop n hr
theorem RepL.map {α:Type} {f:α→D} {g:α→V} (q:∀a,RepV B H (f a) (g a)):∀l:List α,RepL B H (l.map f) (l.map g)
  | []=>rfl
  | a::l=>⟨_,_,rfl,q a,RepL.map q l⟩
theorem RepKV.ext {κ:Type} (E:ExtS B B' H H'):∀{ks:List (κ×D)} {vs:List (κ×V)},RepKV B H ks vs→RepKV B' H' ks vs
  | _,_,.nil=>.nil
  | _,_,.cons h t=>.cons ⟨h.1,RepV.ext E h.2⟩ (RepKV.ext E t)
end
structure Mo where
  cl:Str→Addr
  K:PySem.W.Frag
def KL (K:PySem.W.Frag) (a:Addr) (ns:List Int):Prop:=∃(o:Obj) (its:Array Value) (n:Nat),K.lookup a=some o∧o.cls=.type "list"∧o.dict=none∧o.data=.seq its n∧its.size≤sizeLine∧Vals (ns.map V.int) its.toList
def CellOk (cl:Mo) (B:Bx) (H:Hp) (a:Addr):Cell→Prop
  | .lst xs=>∃vs,H a=some (.lst vs)∧RepL B H xs vs
  | .dK kvs=>∃vs,H a=some (.dK vs)∧RepKV B H kvs vs
  | .dT kvs=>∃vs,H a=some (.dT vs)∧RepKV B H kvs vs
  | .ins C fs=>∃dx vs,H a=some (.ins (cl.cl C) dx vs)∧RepKV B H fs vs
structure Good (cl:Mo) (B:Bx) (θ:Sto) (H:Hp):Prop where
  len:θ.length=B.n
  inj:∀i j,i<B.n→j<B.n→B.m i=B.m j→i=j
  cel:∀i c,θ[i]?=some c→CellOk cl B H (B.m i) c
  cF:∀i,i<B.n→¬B.F (B.m i)∧B.m i∉B.os
  Fs:∀a,B.F a→H a≠none
  oS:∀a,a∈B.os→H a≠none
  oF:∀a,a∈B.os→¬B.F a
  kc:∀a ns,B.ks a ns→KL cl.K a ns
section
variable {cl:Mo} {B B' B'':Bx} {H H' H'':Hp} {θ θ':Sto}
theorem CellOk.ext {a:Addr} {c:Cell} (k:CellOk cl B H a c) (E:ExtS B B' H H') (h:∀o,H a=some o→H' a=some o):CellOk cl B' H' a c:=by
  cases c with
  | lst xs=>obtain ⟨vs,e,r⟩:=k; exact ⟨vs,h _ e,r.ext E⟩
  | dK kvs=>obtain ⟨vs,e,r⟩:=k; exact ⟨vs,h _ e,r.ext E⟩
  | dT kvs=>obtain ⟨vs,e,r⟩:=k; exact ⟨vs,h _ e,r.ext E⟩
  | ins C fs=>obtain ⟨dx,vs,e,r⟩:=k; exact ⟨dx,vs,h _ e,r.ext E⟩
theorem CellOk.there {a:Addr} {c:Cell} (k:CellOk cl B H a c):H a≠none:=by
  cases c with
  | lst xs=>obtain ⟨vs,e,r⟩:=k; rw [e]; simp
  | dK kvs=>obtain ⟨vs,e,r⟩:=k; rw [e]; simp
  | dT kvs=>obtain ⟨vs,e,r⟩:=k; rw [e]; simp
  | ins C fs=>obtain ⟨dx,vs,e,r⟩:=k; rw [e]; simp
theorem Good.there (G:Good cl B θ H) {i:Nat} (hi:i<B.n):H (B.m i)≠none:=by
  have:i < θ.length:=by rw [G.len]; exact hi
  exact (G.cel i _ (List.getElem?_eq_getElem this)).there
theorem Good.okNone (G:Good cl B θ H) {p:Addr} (h:H p=none):B.ok p:=
  ⟨fun i hi e=>G.there hi (by rw [e]; exact h),fun z=>G.Fs p z h,fun z=>G.oS p z h⟩
theorem ZcS (G:Good cl B θ H) {p:Addr} (h:H p=none) (o:HO):ExtE B B H (upd H p o):=by
  have ne:∀a u,H a=some u→upd H p o a=some u:=fun a u e=>by rw [ZS (zi e h)]; exact e
  exact ⟨⟨Nat.le_refl _,fun _ _=>rfl,fun i h h'=>absurd h' (Nat.not_lt.mpr h),fun a u e _ _=>ne a u e,fun a e=>by
    cases q:H a with
    | none=>exact absurd q e
    | some u=>rw [ne a u q]; simp,fun _ h=>.inl h,rfl,rfl⟩,rfl,fun a u _ _ e=>ne a u e⟩
theorem ZeH (G:Good cl B θ H) {p:Addr} (h:H p=none) (o:HO):Good cl B θ (upd H p o):=by
  have E:=ZcS G h o
  exact ⟨G.len,G.inj,fun i c e=>(G.cel i c e).ext E.toExtS fun u q=>by rw [ZS (zi q h)]; exact q,G.cF,fun a z=>E.sm a (G.Fs a z),fun a z=>E.sm a (G.oS a z),G.oF,G.kc⟩
theorem Zrr (G:Good cl B θ H) {p:Addr} (h:H p=none) {xs:List D} {vs:List V} (r:RepL B H xs vs):RepV B (upd H p (.lst vs)) (.lst xs) (.ref p):=
  ⟨p,vs,rfl,zy,G.okNone h,r.ext (ZcS G h _).toExtS⟩
theorem Zrq (G:Good cl B θ H) {p:Addr} (h:H p=none) {xs:List D} {vs:List V} (r:RepL B H xs vs):RepV B (upd H p (.tup vs)) (.tup xs) (.ref p):=
  ⟨p,vs,rfl,zy,G.okNone h,r.ext (ZcS G h _).toExtS⟩
def Bx.push (B:Bx) (p:Addr):Bx:={ B with n:=B.n+1,m:=fun i=>if i=B.n then p else B.m i }
theorem Zhs (G:Good cl B θ H) {p:Addr} (h:H p=none) (o:HO):ExtE B (B.push p) H (upd H p o):=by
  have E:=ZcS G h o
  refine ⟨⟨Nat.le_succ _,fun i hi=>if_neg (Nat.ne_of_lt hi),fun i h1 h2=>?_,E.keep,E.sm,fun _ h=>.inl h,rfl,rfl⟩,rfl,E.ko⟩
  have e:i=B.n:=Nat.le_antisymm (Nat.le_of_lt_succ h2) h1
  show H (if i=B.n then p else B.m i)=none
  rw [if_pos e]; exact h
theorem Zis (G:Good cl B θ H) {p:Addr} (h:H p=none) {o:HO} {c:Cell} (k:CellOk cl (B.push p) (upd H p o) p c):Good cl (B.push p) (θ++[c]) (upd H p o):=by
  have E:=Zhs G h o
  have hm:∀i,i<B.n→(B.push p).m i=B.m i:=fun i hi=>if_neg (Nat.ne_of_lt hi)
  have hn:(B.push p).m B.n=p:=if_pos rfl
  have cs:∀i,i<(B.push p).n→i<B.n∨i=B.n:=fun i hi=>Nat.lt_succ_iff_lt_or_eq.mp hi
  have ok:=G.okNone h
  refine ⟨by rw [List.length_append,G.len]; rfl,fun i j hi hj e=>?_,fun i c' e=>?_,fun i hi=>?_,fun a z=>E.sm a (G.Fs a z),fun a z=>E.sm a (G.oS a z),G.oF,G.kc⟩
  · rcases cs i hi with a | a<;>rcases cs j hj with b | b
    · rw [hm i a,hm j b] at e; exact G.inj i j a b e
    · rw [hm i a,b,hn] at e; exact absurd e (ok.1 i a)
    · rw [hm j b,a,hn] at e; exact absurd e.symm (ok.1 j b)
    · rw [a,b]
  · by_cases q:i < θ.length
    · rw [List.getElem?_append_left q] at e
      rw [hm i (by rw [←G.len]; exact q)]
      exact (G.cel i c' e).ext E.toExtS fun u z=>by rw [ZS (zi z h)]; exact z
    · have q':=Nat.not_lt.mp q
      rw [List.getElem?_append_right q'] at e
      have:i - θ.length=0:=by
        cases z:i - θ.length with
        | zero=>rfl
        | succ k=>rw [z] at e; simp at e
      rw [this] at e
      simp at e
      subst e
      have:i=B.n:=by rw [←G.len]; omega
      rw [this,hn]; exact k
  · rcases cs i hi with a | a
    · rw [hm i a]; exact G.cF i a
    · rw [a,hn]; exact ⟨ok.2.1,ok.2.2⟩
theorem ZfU (G:Good cl B θ H) {l:Nat} (hl:l<B.n) (o:HO):ExtE B B H (upd H (B.m l) o):=by
  have ne:∀a u,(∀i,i<B.n→B.m i≠a)→H a=some u→upd H (B.m l) o a=some u:=fun a u k e=>by rw [ZS (Ne.symm (k l hl))]; exact e
  exact ⟨⟨Nat.le_refl _,fun _ _=>rfl,fun i h h'=>absurd h' (Nat.not_lt.mpr h),fun a u e k _=>ne a u k e,fun a e=>by
    by_cases q:a=B.m l
    · rw [q,zy]; simp
    · rw [ZS q]; exact e,fun _ h=>.inl h,rfl,rfl⟩,rfl,fun a u _ k e=>ne a u k e⟩
theorem ZfT (G:Good cl B θ H) {l:Nat} (hl:l<B.n) {o:HO} {c:Cell} (k:CellOk cl B (upd H (B.m l) o) (B.m l) c):Good cl B (θ.set l c) (upd H (B.m l) o):=by
  have E:=ZfU G hl o
  refine ⟨by rw [List.length_set]; exact G.len,G.inj,fun i c' e=>?_,G.cF,fun a z=>E.sm a (G.Fs a z),fun a z=>E.sm a (G.oS a z),G.oF,G.kc⟩
  by_cases q:i=l
  · subst q
    rw [List.getElem?_set_self (by rw [G.len]; exact hl)] at e
    cases e; exact k
  · rw [List.getElem?_set_ne (Ne.symm q)] at e
    have hi:i<B.n:=by rw [←G.len]; exact (List.getElem?_eq_some_iff.mp e).1
    exact (G.cel i c' e).ext E.toExtS fun u z=>by rw [ZS (fun z'=>q (G.inj i l hi hl z'))]; exact z
end
inductive R (α:Type) where
  | ok (a:α) (θ:Sto) | ex (c:Str) (θ:Sto) | bad
def R.bind {α β:Type} (r:R α) (k:α→Sto→R β):R β:=match r with
  | .ok a θ=>k a θ
  | .ex c θ=>.ex c θ
  | .bad=>.bad
@[simp] theorem R.bind_ok {α β:Type} (a:α) (θ:Sto) (k:α→Sto→R β):(R.ok a θ).bind k=k a θ:=nr rfl
@[simp] theorem R.bind_bad {α β:Type} (k:α→Sto→R β):(R.bad:R α).bind k=.bad:=nr rfl
inductive Sl where
  | no | val (d:D) | own (xs:List D)
structure Frm (cl:Mo) (B:Bx) (θ:Sto) (ρ:List Sl) (σ:St) (H:Hp):Prop where
  good:Good cl B θ H
  len:ρ.length=σ.length
  val:∀(i:Nat) (d:D),ρ[i]?=some (Sl.val d)→∃v,σ[i]?=some (some v)∧RepV B H d v
  own:∀(i:Nat) (xs:List D),ρ[i]?=some (Sl.own xs)→∃a vs,σ[i]?=some (some (.ref a))∧a∈B.os∧H a=some (.lst vs)∧RepL B H xs vs
  ne:∀(i j:Nat) (xs ys:List D) (a:Addr),i≠j→ρ[i]?=some (Sl.own xs)→ρ[j]?=some (Sl.own ys)→σ[i]?=some (some (.ref a))→σ[j]?≠some (some (.ref a))
theorem Frm.ext {cl:Mo} {B B':Bx} {θ θ':Sto} {ρ:List Sl} {σ:St} {H H':Hp} (F:Frm cl B θ ρ σ H) (E:ExtE B B' H H') (G:Good cl B' θ' H'):Frm cl B' θ' ρ σ H' where
  good:=G
  len:=F.len
  val:=fun i d e=>let ⟨v,h1,h2⟩:=F.val i d e; ⟨v,h1,h2.ext E.toExtS⟩
  own:=fun i xs e=>by
    obtain ⟨a,vs,h1,h2,h3,h4⟩:=F.own i xs e
    exact ⟨a,vs,h1,by rw [E.osE]; exact h2,E.ko a _ h2 (fun i hi z=>(F.good.cF i hi).2 (by rw [z]; exact h2)) h3,h4.ext E.toExtS⟩
  ne:=F.ne
def z6 (mg:Str→Option Value) (x:Str):Addr:=match mg x with
  | some (.ref a)=>a
  | _=>0
abbrev _root_.L2.Cx.cl (X:Cx):Mo:=⟨z6 X.mg,X.K⟩
def XE (X:Cx) (σ:St) (B:Bx) (H:Hp) (c:Str) (θ':Sto):Prop:=False
theorem XE.trans {X:Cx} {σ:St} {B B':Bx} {H H':Hp} {c:Str} {θ':Sto} (h:XE X σ B H c θ') (E:ExtE B B' H H'):XE X σ B' H' c θ':=h
def wpR (X:Cx) (σ:St) {α β:Type} (Rel:Bx→Hp→α→β→Prop) (B:Bx) (H:Hp) (r:R α) (Q:β→Hp→Prop):Prop:=match r with
  | .ok a θ'=>∀B' H' b,ExtE B B' H H'→Good X.cl B' θ' H'→Rel B' H' a b→Q b H'
  | .ex c θ'=>XE X σ B H c θ'
  | .bad=>False
section
variable {X:Cx} {σ:St} {α β γ δ:Type} {Rel:Bx→Hp→α→β→Prop} {Rel':Bx→Hp→γ→δ→Prop} {B B':Bx} {H H':Hp}
theorem wpR.mono {r:R α} {Q Q':β→Hp→Prop} (h:wpR X σ Rel B H r Q) (hQ:∀b H',Q b H'→Q' b H'):wpR X σ Rel B H r Q':=by
  cases r with
  | ok a θ'=>exact fun B' H' b e g q=>hQ _ _ (h B' H' b e g q)
  | ex c θ'=>exact h
  | bad=>exact h
theorem wpR.trans {r:R α} {Q:β→Hp→Prop} (h:wpR X σ Rel B H r Q) (E:ExtE B B' H H'):wpR X σ Rel B' H' r Q:=by
  cases r with
  | ok a θ'=>exact fun B2 H2 b e g q=>h B2 H2 b (E.trans e) g q
  | ex c θ'=>exact XE.trans (c:=c) (θ':=θ') (σ:=σ) (X:=X) h E
  | bad=>exact h
theorem wpR.bind {r:R α} {k:α→Sto→R γ} {Q:δ→Hp→Prop} (h:wpR X σ Rel' B H (r.bind k) Q) :
    wpR X σ Rel B H r (fun b H1=>∃B1 θ1 a,ExtE B B1 H H1∧Good X.cl B1 θ1 H1∧Rel B1 H1 a b∧wpR X σ Rel' B1 H1 (k a θ1) Q):=by
  cases r with
  | ok a θ'=>exact fun B1 H1 b E g q=>⟨B1,θ',a,E,g,q,wpR.trans h E⟩
  | ex c θ'=>exact h
  | bad=>exact h
end
abbrev EM:=List Sl→Sto→R D
abbrev TMr:=List Sl→Sto→R Bool
abbrev AM:=List Sl→Sto→R (List D)
def EqB (_:Bx) (_:Hp) (a b:Bool):Prop:=a=b
def tM (X:Cx) (f:EM):TE:=fun σ H Q=>∃B θ ρ,Frm X.cl B θ ρ σ H∧wpR X σ RepV B H (f ρ θ) Q
def tMT (X:Cx) (f:TMr):TT:=fun σ H Q=>∃B θ ρ,Frm X.cl B θ ρ σ H∧wpR X σ EqB B H (f ρ θ) Q
def tMA (X:Cx) (f:AM):TA:=fun σ H Q=>∃B θ ρ,Frm X.cl B θ ρ σ H∧wpR X σ RepL B H (f ρ θ) Q
def ME (X:Cx) (e:Expr) (f:EM):Prop:=PE X e (tM X f)
def MT (X:Cx) (e:Expr) (f:TMr):Prop:=PT X e (tMT X f)
def MW (X:Cx) (e:Expr) (f:TMr):Prop:=PW X e (tMT X f)
def MA (X:Cx) (es:List Expr) (f:AM):Prop:=PA X es (tMA X f)
section
variable {X:Cx} {σ:St} {H:Hp} {γ δ:Type} {Rel':Bx→Hp→γ→δ→Prop}
theorem ZZ {f:EM} {Q Q':VK} (h:tM X f σ H Q) (hQ:∀v H',Q v H'→Q' v H'):tM X f σ H Q':=let ⟨B,θ,ρ,F,w⟩:=h; ⟨B,θ,ρ,F,w.mono hQ⟩
theorem ZdD {f:TMr} {Q Q':Bool→Hp→Prop} (h:tMT X f σ H Q) (hQ:∀v H',Q v H'→Q' v H'):tMT X f σ H Q':=let ⟨B,θ,ρ,F,w⟩:=h; ⟨B,θ,ρ,F,w.mono hQ⟩
theorem ZbX {f:AM} {Q Q':List V→Hp→Prop} (h:tMA X f σ H Q) (hQ:∀v H',Q v H'→Q' v H'):tMA X f σ H Q':=let ⟨B,θ,ρ,F,w⟩:=h; ⟨B,θ,ρ,F,w.mono hQ⟩
variable {B:Bx} {θ:Sto} {ρ:List Sl}
theorem step {f:EM} {k:D→Sto→R γ} {Q:δ→Hp→Prop} (F:Frm X.cl B θ ρ σ H) (h:wpR X σ Rel' B H ((f ρ θ).bind k) Q) :
    tM X f σ H (fun v H1=>∃B1 θ1 d,ExtE B B1 H H1∧Frm X.cl B1 θ1 ρ σ H1∧RepV B1 H1 d v∧wpR X σ Rel' B1 H1 (k d θ1) Q):=
  ⟨B,θ,ρ,F,(wpR.bind (Rel:=RepV) h).mono fun v H1 ⟨B1,θ1,d,E,G,r,w⟩=>⟨B1,θ1,d,E,F.ext E G,r,w⟩⟩
theorem Zmj {f:TMr} {k:Bool→Sto→R γ} {Q:δ→Hp→Prop} (F:Frm X.cl B θ ρ σ H) (h:wpR X σ Rel' B H ((f ρ θ).bind k) Q) :
    tMT X f σ H (fun c H1=>∃B1 θ1,ExtE B B1 H H1∧Frm X.cl B1 θ1 ρ σ H1∧wpR X σ Rel' B1 H1 (k c θ1) Q):=
  ⟨B,θ,ρ,F,(wpR.bind (Rel:=EqB) h).mono fun v H1 ⟨B1,θ1,d,E,G,r,w⟩=>by cases (show d=v from r); exact ⟨B1,θ1,E,F.ext E G,w⟩⟩
theorem Zhc {f:AM} {k:List D→Sto→R γ} {Q:δ→Hp→Prop} (F:Frm X.cl B θ ρ σ H) (h:wpR X σ Rel' B H ((f ρ θ).bind k) Q) :
    tMA X f σ H (fun v H1=>∃B1 θ1 d,ExtE B B1 H H1∧Frm X.cl B1 θ1 ρ σ H1∧RepL B1 H1 d v∧wpR X σ Rel' B1 H1 (k d θ1) Q):=
  ⟨B,θ,ρ,F,(wpR.bind (Rel:=RepL) h).mono fun v H1 ⟨B1,θ1,d,E,G,r,w⟩=>⟨B1,θ1,d,E,F.ext E G,r,w⟩⟩
theorem ZR {α β:Type} {Rel:Bx→Hp→α→β→Prop} {a:α} {b:β} {Q:β→Hp→Prop} (G:Good X.cl B θ H) (r:Rel B H a b) (h:wpR X σ Rel B H (.ok a θ) Q):Q b H:=h B H b (ExtE.refl B H) G r
end
theorem PE.imp {X:Cx} {e:Expr} {t t':TE} (h:PE X e t) (hi:∀σ H Q,t' σ H Q→t σ H Q):PE X e t':=fun pins s σ H Q I q=>h pins s σ H Q I (hi σ H Q q)
theorem PT.imp {X:Cx} {e:Expr} {t t':TT} (h:PT X e t) (hi:∀σ H Q,t' σ H Q→t σ H Q):PT X e t':=fun pins s σ H Q I q=>h pins s σ H Q I (hi σ H Q q)
theorem PW.imp {X:Cx} {e:Expr} {t t':TT} (h:PW X e t) (hi:∀σ H Q,t' σ H Q→t σ H Q):PW X e t':=fun wh pins s σ H Q I q=>h wh pins s σ H Q I (hi σ H Q q)
theorem PA.imp {X:Cx} {es:List Expr} {t t':TA} (h:PA X es t) (hi:∀σ H Q,t' σ H Q→t σ H Q):PA X es t':=fun pos pins s σ H Q I q=>h pos pins s σ H Q I (hi σ H Q q)
theorem OpR.imp {X:Cx} {f:Value→Value→Sem Value} {r r':R2} (h:OpR X f r) (hi:∀x y H Q,r' x y H Q→r x y H Q):OpR X f r':=fun pins s σ H x y v u Q I rx ry q=>h pins s σ H x y v u Q I rx ry (hi x y H Q q)
theorem IxR.imp {X:Cx} {r r':R2} (h:IxR X r) (hi:∀x y H Q,r' x y H Q→r x y H Q):IxR X r':=fun pins s σ H x y v u Q v1 s1 I rx ry q=>h pins s σ H x y v u Q v1 s1 I rx ry (hi _ _ _ _ q)
theorem CallR.imp {X:Cx} {f:Value} {r r':List V→Hp→VK→Prop} (h:CallR X f r) (hi:∀xs H Q,r' xs H Q→r xs H Q):CallR X f r':=fun pins s σ H xs us Q I r q=>h pins s σ H xs us Q I r (hi _ _ _ q)
end L2.MM
namespace L2.MM
open PySem PySem.Spec PyProof.Rows
noncomputable section
variable {X:Cx}
def ZaX (θ:Sto):D→Option (List D)
  | .lst xs=>some xs
  | .ref l=>match θ[l]? with
    | some (.lst xs)=>some xs
    | _=>none
  | _=>none
def seqOf (θ:Sto):D→Option (List D)
  | .tup xs=>some xs
  | .scr ns=>some (ns.map D.int)
  | d=>ZaX θ d
theorem Zaj {cl:Mo} {B:Bx} {θ:Sto} {H:Hp} (G:Good cl B θ H) {d:D} {v:V} {xs:List D} (r:RepV B H d v) (h:ZaX θ d=some xs):∃a vs,v=.ref a∧H a=some (.lst vs)∧RepL B H xs vs:=by
  cases d with
  | lst ys=>
    obtain ⟨a,vs,e,h1,_,h2⟩:=r
    cases h
    exact ⟨a,vs,e,h1,h2⟩
  | ref l=>
    obtain ⟨hl,rfl⟩:=r
    simp only [ZaX] at h
    split at h
    · rename_i ys e
      cases h
      obtain ⟨vs,q1,q2⟩:=G.cel l _ e
      exact ⟨_,vs,rfl,q1,q2⟩
    · cases h
  | _=>cases h
theorem Zc1 {cl:Mo} {B:Bx} {θ:Sto} {H:Hp} (G:Good cl B θ H) {d:D} {v:V} {xs:List D} (r:RepV B H d v) (h:seqOf θ d=some xs) :
    ∃a vs,v=.ref a∧(SqL cl.K H a vs∨SqT cl.K H a vs)∧RepL B H xs vs:=by
  cases d with
  | tup ys=>
    obtain ⟨a,vs,e,h1,_,h2⟩:=r
    cases h
    exact ⟨a,vs,e,.inr (SqT.of h1),h2⟩
  | scr ns=>
    obtain ⟨a,e,h1⟩:=r
    cases h
    refine ⟨a,ns.map V.int,e,.inl ?_,RepL.map (f:=D.int) (g:=V.int) (fun _=>rfl) ns⟩
    rcases h1 with ⟨o,h1,_⟩ | h1
    · exact .inl (.inr ⟨o,h1⟩)
    · exact .inr (G.kc a ns h1)
  | lst ys=>
    obtain ⟨a,vs,e,h1,h2⟩:=Zaj G r (show ZaX θ (.lst ys)=some xs from h)
    exact ⟨a,vs,e,.inl (SqL.of h1),h2⟩
  | ref l=>
    obtain ⟨a,vs,e,h1,h2⟩:=Zaj G r (show ZaX θ (.ref l)=some xs from h)
    exact ⟨a,vs,e,.inl (SqL.of h1),h2⟩
  | _=>cases h
abbrev BIG:Nat:=100000
theorem Zak {n:Nat} (h:n≤BIG):n≤sizeLine:=Nat.le_trans h (by rw [sizeLine_eq]; decide)
def Zd (i:Nat):EM:=fun ρ θ=>match ρ[i]? with
  | some (Sl.val d)=>.ok d θ
  | _=>.bad
def mC (d:D):EM:=fun _ θ=>.ok d θ
section
variable {a b c e:Expr} {pos:Pos} {fa fb fc:EM} {ft fu:TMr}
theorem Za (i:Nat) {x:Str} {pos:Pos} (hN:X.N[i]?=some x:=by rfl) (hv:Vis X.env.scope x:=by first | exact Or.inl rfl | exact Or.inr (Or.inl rfl) | exact Or.inr (Or.inr rfl))
    (hd:(x == ("__debug__":Str))=false:=by decide) (hcd:(x == ("__classdict__":Str))=false:=by decide):ME X (.Name x pos) (Zd i):=by
  refine PE.imp (ZpE hN hv hd hcd) fun σ H Q h=>?_
  obtain ⟨B,θ,ρ,F,w⟩:=h
  unfold Zd at w
  split at w
  · rename_i d e
    obtain ⟨v,h1,h2⟩:=F.val i d e
    exact ⟨v,h1,ZR F.good h2 w⟩
  · exact w.elim
theorem ZlN {d:D} {v:V} (h:PE X e (tC v)) (r:∀B H,RepV B H d v):ME X e (mC d):=by
  refine PE.imp h fun σ H Q h=>?_
  obtain ⟨B,θ,ρ,F,w⟩:=h
  exact ZR F.good (r B H) w
theorem Zh {i j pos}:ME X (.Constant (.int i) j pos) (mC (.int i)):=ZlN ZtP fun _ _=>rfl
theorem Zai {i j pos}:ME X (.Constant (.bool i) j pos) (mC (.bl i)):=ZlN ZvD fun _ _=>rfl
theorem ZaI {j pos}:ME X (.Constant .none j pos) (mC .non):=ZlN ZtO fun _ _=>rfl
theorem Zp8 {i j pos}:ME X (.Constant (.str i) j pos) (mC (.str i)):=ZlN ZtM fun _ _=>rfl
theorem Zl {x:Str} {i:Int} (h:∃t,X.mg x=some (.int i t)) (hg:Gl X x:=by rfl) (hd:(x == ("__debug__":Str))=false:=by decide):ME X (.Name x pos) (mC (.int i)):=ZlN (ZrJ h hg hd) fun _ _=>rfl
theorem ZG {x:Str} {y:Str} (h:∃t,X.mg x=some (.str y t)) (hg:Gl X x:=by rfl) (hd:(x == ("__debug__":Str))=false:=by decide):ME X (.Name x pos) (mC (.str y)):=by
  obtain ⟨t,h⟩:=h
  exact ZlN (Zms hg h (v:=.str y) ⟨t,rfl⟩ hd) fun _ _=>rfl
theorem Zp7 {x:Str} {n:String} {pos:Pos} (hm:X.mg x=none) (hv:bootBuiltins x=some (.type n)) (hg:Gl X x:=by rfl) (hn:x≠"__name__":=by decide) (hd:(x == ("__debug__":Str))=false:=by decide):ME X (.Name x pos) (mC (.ty n)):=
  ZlN (Zvy hm hv hg hn hd) fun _ _=>rfl
abbrev OM:=D→D→Sto→R D
def mOp (g:OM) (fa fb:EM):EM:=fun ρ θ=>(fa ρ θ).bind fun x θ=>(fb ρ θ).bind fun y θ=>g x y θ
def rM (X:Cx) (g:OM):R2:=fun x y H Q=>∃σ B θ d e,Good X.cl B θ H∧RepV B H d x∧RepV B H e y∧wpR X σ RepV B H (g d e θ) Q
theorem Zmh {g:OM} (σ:St) (H:Hp) (Q:VK) (h:tM X (mOp g fa fb) σ H Q):tOp (rM X g) (tM X fa) (tM X fb) σ H Q:=by
  obtain ⟨B,θ,ρ,F,w⟩:=h
  refine ZZ (step F w) ?_
  rintro x' H1 ⟨B1,θ1,x,E1,F1,rx,w1⟩
  refine ZZ (step F1 w1) ?_
  rintro y' H2 ⟨B2,θ2,y,E2,F2,ry,w2⟩
  exact ⟨σ,B2,θ2,x,y,F2.good,rx.ext E2.toExtS,ry,w2⟩
theorem Zt {op:Operator} {g:OM} (ho:OpR X (binaryOp op) (rM X g)) (ha:ME X a fa) (hb:ME X b fb):ME X (.BinOp a op b pos) (mOp g fa fb):=PE.imp (ZvA ho ha hb) Zmh
theorem zx {op:CmpOp} {g:OM} (ho:OpR X (compareOp op) (rM X g)) (ha:ME X a fa) (hb:ME X b fb) (hm:behindInMarks op b=false:=by first | exact ZpY _ | rfl):ME X (.Compare a [op] [b] pos) (mOp g fa fb):=PE.imp (ZrK ho ha hb hm) Zmh
theorem ZC {g:OM} (hr:IxR X (rM X g)) (ha:ME X a fa) (hb:ME X b fb) (hs:Zm7 b:=by intro _ _; rfl):ME X (.Subscript a b pos) (mOp g fa fb):=PE.imp (ZvC hr ha hb hs) Zmh
def ZH (f:EM):TMr:=fun ρ θ=>(f ρ θ).bind fun x θ=>match x with
  | .bl k=>.ok k θ
  | _=>.bad
theorem Zhb {f:EM} (σ:St) (H:Hp) (Q:Bool→Hp→Prop) (h:tMT X (ZH f) σ H Q):tM X f σ H (fun v H1=>∃k,v=.bl k∧Q k H1):=by
  obtain ⟨B,θ,ρ,F,w⟩:=h
  refine ZZ (step F w) ?_
  rintro v H1 ⟨B1,θ1,x,E1,F1,rx,w1⟩
  cases x with
  | bl k=>exact ⟨k,rx,ZR (Rel:=EqB) F1.good rfl w1⟩
  | _=>exact w1.elim
theorem ZF {op:CmpOp} {g:OM} (ho:OpR X (compareOp op) (rM X g)) (ha:ME X a fa) (hb:ME X b fb) (hm:behindInMarks op b=false:=by first | exact ZpY _ | rfl):MT X (.Compare a [op] [b] pos) (ZH (mOp g fa fb)):=by
  refine PT.imp (Zrx ho ha hb hm) fun σ H Q h=>?_
  have q:=Zhb σ H Q h
  exact Zmh σ H _ q
def ZbZ (g g':OM) (fa fb fc:EM):EM:=fun ρ θ=>(fa ρ θ).bind fun x θ=>(fb ρ θ).bind fun y θ=>(g x y θ).bind fun z θ=>match z with
  | .bl true=>(fc ρ θ).bind fun w θ=>g' y w θ
  | .bl false=>.ok (.bl false) θ
  | _=>.bad
theorem ZkG {g g':OM} (σ:St) (H:Hp) (Q:VK) (h:tM X (ZbZ g g' fa fb fc) σ H Q):ZlG (rM X g) (rM X g') (tM X fa) (tM X fb) (tM X fc) σ H Q:=by
  obtain ⟨B,θ,ρ,F,w⟩:=h
  refine ZZ (step F w) ?_
  rintro x' H1 ⟨B1,θ1,x,E1,F1,rx,w1⟩
  refine ZZ (step F1 w1) ?_
  rintro y' H2 ⟨B2,θ2,y,E2,F2,ry,w2⟩
  refine ⟨σ,B2,θ2,x,y,F2.good,rx.ext E2.toExtS,ry,(wpR.bind (Rel:=RepV) w2).mono ?_⟩
  rintro z' H3 ⟨B3,θ3,z,E3,G3,rz,w3⟩
  have F3:=F2.ext E3 G3
  cases z with
  | bl k=>
    refine ⟨k,rz,?_⟩
    cases k with
    | true=>
      rw [if_pos rfl]
      refine ZZ (step F3 w3) ?_
      rintro w' H4 ⟨B4,θ4,u,E4,F4,ru,w4⟩
      exact ⟨σ,B4,θ4,y,u,F4.good,ry.ext (E3.trans E4).toExtS,ru,w4⟩
    | false=>
      rw [if_neg Bool.false_ne_true]
      exact ZR G3 (show RepV B3 H3 (.bl false) (.bl false) from rfl) w3
  | _=>exact w3.elim
theorem Zc7 {op op':CmpOp} {g g':OM} (ho:OpR X (compareOp op) (rM X g)) (ho':OpR X (compareOp op') (rM X g')) (ha:ME X a fa) (hb:ME X b fb) (hc:ME X c fc)
    (hm:lastMarks [op,op'] [b,c]=false:=by with_unfolding_all rfl):ME X (.Compare a [op,op'] [b,c] pos) (ZbZ g g' fa fb fc):=PE.imp (ZpM ho ho' ha hb hc hm) ZkG
theorem Zhi {op op':CmpOp} {g g':OM} (ho:OpR X (compareOp op) (rM X g)) (ho':OpR X (compareOp op') (rM X g')) (ha:ME X a fa) (hb:ME X b fb) (hc:ME X c fc)
    (hm:lastMarks [op,op'] [b,c]=false:=by with_unfolding_all rfl):MT X (.Compare a [op,op'] [b,c] pos) (ZH (ZbZ g g' fa fb fc)):=by
  refine PT.imp (Zpx ho ho' ha hb hc hm) fun σ H Q h=>?_
  have q:=Zhb σ H Q h
  exact ZkG σ H _ q
def ZgN (θ:Sto):D→Option Bool
  | .non=>some false
  | .bl b=>some b
  | .int i=>some (i != 0)
  | .str x=>if x.length≤BIG then some ((x.length:Int) != 0) else none
  | d=>(seqOf θ d).map fun xs=>!xs.isEmpty
def zR (f:EM):TMr:=fun ρ θ=>(f ρ θ).bind fun x θ=>match ZgN θ x with
  | some k=>.ok k θ
  | none=>.bad
theorem RepL.emp {B:Bx} {H:Hp} {xs:List D} {vs:List V} (r:RepL B H xs vs):vs.isEmpty=xs.isEmpty:=by
  cases xs with
  | nil=>cases (show vs=[] from r); rfl
  | cons _ _=>obtain ⟨v,q,rfl,_,_⟩:=r; rfl
theorem Zmc {cl:Mo} {B:Bx} {θ:Sto} {H:Hp} (G:Good cl B θ H) {d:D} {v:V} {k:Bool} (r:RepV B H d v) (h:ZgN θ d=some k):TruV cl.K v H k:=by
  have sq:∀xs,seqOf θ d=some xs→((seqOf θ d).map fun xs=>!xs.isEmpty)=some k→TruV cl.K v H k:=fun xs e q=>by
    rw [e] at q
    cases q
    obtain ⟨a,vs,rfl,h1,h2⟩:=Zc1 G r e
    show TruV cl.K (V.ref a) H (!xs.isEmpty)
    rw [←h2.emp]
    rcases h1 with h1 | h1
    · exact .inl ⟨vs,h1,rfl⟩
    · exact .inr (.inl ⟨vs,h1,rfl⟩)
  cases d with
  | non=>cases (show v=.non from r); cases h; rfl
  | bl b=>cases (show v=.bl b from r); cases h; rfl
  | int i=>cases (show v=.int i from r); cases h; rfl
  | str x=>
    cases (show v=.str x from r)
    simp only [ZgN] at h
    split at h
    · rename_i hz; cases h; exact ⟨Zak hz,rfl⟩
    · cases h
  | ty n=>simp [ZgN,seqOf,ZaX] at h
  | scr ns=>exact sq _ rfl h
  | tup xs=>exact sq _ rfl h
  | lst xs=>exact sq _ rfl h
  | ref l=>
    cases e:seqOf θ (.ref l) with
    | none=>simp only [ZgN,e] at h; cases h
    | some xs=>exact sq xs e h
theorem ZE (ha:ME X a fa) (he:∀whole,isTrue a X.env whole=(do let v ←whole; standAt a.pos; holding [v] (truthy v)):=by intro _; rfl):MT X a (zR fa):=by
  refine PT.imp (Zpw ha he) fun σ H Q h=>?_
  obtain ⟨B,θ,ρ,F,w⟩:=h
  refine ZZ (step F w) ?_
  rintro v H1 ⟨B1,θ1,x,E1,F1,rx,w1⟩
  cases e:ZgN θ1 x with
  | none=>rw [e] at w1; exact w1.elim
  | some k=>rw [e] at w1; exact ⟨k,Zmc F1.good rx e,ZR (Rel:=EqB) F1.good rfl w1⟩
def Zfc (f g:TMr):TMr:=fun ρ θ=>(f ρ θ).bind fun k θ=>if k=true then g ρ θ else .ok false θ
def mOr (f g:TMr):TMr:=fun ρ θ=>(f ρ θ).bind fun k θ=>if k=true then .ok true θ else g ρ θ
def ZdI (f:TMr):TMr:=fun ρ θ=>(f ρ θ).bind fun k θ=>.ok (!k) θ
theorem ZaH (ha:MT X a ft):MW X (.BoolOp .And [a] pos) ft:=Zru ha
theorem Zad (ha:MT X a ft):MW X (.BoolOp .Or [a] pos) ft:=Zty ha
theorem ZcG {rest:List Expr} (ha:MT X a ft) (hb:MW X (.BoolOp .And (b::rest) pos) fu):MW X (.BoolOp .And (a::b::rest) pos) (Zfc ft fu):=by
  refine PW.imp (Ztz ha hb) fun σ H Q h=>?_
  obtain ⟨B,θ,ρ,F,w⟩:=h
  refine ZdD (Zmj F w) ?_
  rintro k H1 ⟨B1,θ1,E1,F1,w1⟩
  cases k with
  | true=>rw [if_pos rfl] at w1 ⊢; exact ⟨B1,θ1,ρ,F1,w1⟩
  | false=>rw [if_neg Bool.false_ne_true] at w1 ⊢; exact ZR (Rel:=EqB) F1.good rfl w1
theorem ZcN {rest:List Expr} (ha:MT X a ft) (hb:MW X (.BoolOp .Or (b::rest) pos) fu):MW X (.BoolOp .Or (a::b::rest) pos) (mOr ft fu):=by
  refine PW.imp (Zvq ha hb) fun σ H Q h=>?_
  obtain ⟨B,θ,ρ,F,w⟩:=h
  refine ZdD (Zmj F w) ?_
  rintro k H1 ⟨B1,θ1,E1,F1,w1⟩
  cases k with
  | true=>rw [if_pos rfl] at w1 ⊢; exact ZR (Rel:=EqB) F1.good rfl w1
  | false=>rw [if_neg Bool.false_ne_true] at w1 ⊢; exact ⟨B1,θ1,ρ,F1,w1⟩
theorem MW.mt {e:Expr} {f:TMr} (h:MW X e f):MT X e f:=PW.pt h
theorem Za6 (ha:MT X a ft):MT X (.UnaryOp .Not a pos) (ZdI ft):=by
  refine PT.imp (ZtB ha) fun σ H Q h=>?_
  obtain ⟨B,θ,ρ,F,w⟩:=h
  refine ZdD (Zmj F w) ?_
  rintro k H1 ⟨B1,θ1,E1,F1,w1⟩
  exact ZR (Rel:=EqB) F1.good rfl w1
def Zca (f g:EM):EM:=fun ρ θ=>(f ρ θ).bind fun x θ=>match x with
  | .bl true=>g ρ θ
  | .bl false=>.ok (.bl false) θ
  | _=>.bad
def ZlQ (f g:EM):EM:=fun ρ θ=>(f ρ θ).bind fun x θ=>match x with
  | .bl true=>.ok (.bl true) θ
  | .bl false=>g ρ θ
  | _=>.bad
def ZmH (f:EM):EM:=fun ρ θ=>(f ρ θ).bind fun x θ=>match ZgN θ x with
  | some k=>.ok (.bl (!k)) θ
  | none=>.bad
theorem Zci {op} (h:ME X a fa):ME X (.BoolOp op [a] pos) fa:=ZtN h
theorem Zbw {rest:List Expr} (ha:ME X a fa) (hb:ME X (.BoolOp .And (b::rest) pos) fb):ME X (.BoolOp .And (a::b::rest) pos) (Zca fa fb):=by
  refine PE.imp (ZtR ha hb) fun σ H Q h=>?_
  obtain ⟨B,θ,ρ,F,w⟩:=h
  refine ZZ (step F w) ?_
  rintro v H1 ⟨B1,θ1,x,E1,F1,rx,w1⟩
  cases x with
  | bl k=>
    refine ⟨k,rx,?_⟩
    cases k with
    | true=>rw [if_pos rfl]; exact ⟨B1,θ1,ρ,F1,w1⟩
    | false=>rw [if_neg Bool.false_ne_true]; exact ZR F1.good (show RepV B1 H1 (.bl false) (.bl false) from rfl) w1
  | _=>exact w1.elim
theorem Zk5 {rest:List Expr} (ha:ME X a fa) (hb:ME X (.BoolOp .Or (b::rest) pos) fb):ME X (.BoolOp .Or (a::b::rest) pos) (ZlQ fa fb):=by
  refine PE.imp (Zvz ha hb) fun σ H Q h=>?_
  obtain ⟨B,θ,ρ,F,w⟩:=h
  refine ZZ (step F w) ?_
  rintro v H1 ⟨B1,θ1,x,E1,F1,rx,w1⟩
  cases x with
  | bl k=>
    refine ⟨k,rx,?_⟩
    cases k with
    | true=>rw [if_pos rfl]; exact ZR F1.good (show RepV B1 H1 (.bl true) (.bl true) from rfl) w1
    | false=>rw [if_neg Bool.false_ne_true]; exact ⟨B1,θ1,ρ,F1,w1⟩
  | _=>exact w1.elim
theorem Zp9 (ha:ME X a fa):ME X (.UnaryOp .Not a pos) (ZmH fa):=by
  intro pins s σ H Q I h
  obtain ⟨B,θ,ρ,F,w⟩:=h
  refine UnaryOp_ (thn (ha pins s σ H _ I (step F w)) fun v s1 ⟨x,H1,I1,r1,q1⟩=>?_)
  obtain ⟨B1,θ1,d,E1,F1,rx,w1⟩:=q1
  cases e:ZgN θ1 d with
  | none=>rw [e] at w1; exact w1.elim
  | some k=>
    rw [e] at w1
    refine not_of (thn (Zpf pins s1 σ H1 x v (fun k' H'=>Q (.bl (!k')) H') I1 r1 ⟨k,Zmc F1.good rx e,ZR F1.good (show RepV B1 H1 (.bl (!k)) (.bl (!k)) from rfl) w1⟩) fun b s2 ⟨H2,I2,q2⟩=>?_)
    exact ⟨.bl (!b),H2,I2,rfl,q2⟩
def Zep (t:TMr) (f g:EM):EM:=fun ρ θ=>(t ρ θ).bind fun k θ=>if k=true then f ρ θ else g ρ θ
theorem Zcj {c:Expr} (hc:MT X c ft) (ha:ME X a fa) (hb:ME X b fb):ME X (.IfExp c a b pos) (Zep ft fa fb):=by
  refine PE.imp (ZpI hc ha hb) fun σ H Q h=>?_
  obtain ⟨B,θ,ρ,F,w⟩:=h
  refine ZdD (Zmj F w) ?_
  rintro k H1 ⟨B1,θ1,E1,F1,w1⟩
  cases k with
  | true=>rw [if_pos rfl] at w1 ⊢; exact ⟨B1,θ1,ρ,F1,w1⟩
  | false=>rw [if_neg Bool.false_ne_true] at w1 ⊢; exact ⟨B1,θ1,ρ,F1,w1⟩
def Zk:AM:=fun _ θ=>.ok [] θ
def Zc (f:EM) (g:AM):AM:=fun ρ θ=>(f ρ θ).bind fun x θ=>(g ρ θ).bind fun xs θ=>.ok (x::xs) θ
theorem Zf:MA X [] Zk:=PA.imp ZlL fun σ H Q h=>by
  obtain ⟨B,θ,ρ,F,w⟩:=h
  exact ZR (Rel:=RepL) F.good (show RepL B H [] [] from rfl) w
theorem Zb {es:List Expr} {fs:AM} (ha:ME X e fa) (hr:MA X es fs) (hs:starEach (e::es) X.env=(false,eval e X.env)::starEach es X.env:=by rfl):MA X (e::es) (Zc fa fs):=by
  refine PA.imp (ZiT ha hr hs) fun σ H Q h=>?_
  obtain ⟨B,θ,ρ,F,w⟩:=h
  refine ZZ (step F w) ?_
  rintro x' H1 ⟨B1,θ1,x,E1,F1,rx,w1⟩
  refine ZbX (Zhc F1 w1) ?_
  rintro xs' H2 ⟨B2,θ2,xs,E2,F2,rxs,w2⟩
  exact ZR (Rel:=RepL) F2.good (show RepL B2 H2 (x::xs) (x'::xs') from ⟨x',xs',rfl,rx.ext E2.toExtS,rxs⟩) w2
def Za7 (f:AM):EM:=fun ρ θ=>(f ρ θ).bind fun xs θ=>if xs.length≤BIG then .ok (.tup xs) θ else .bad
def ZbN (f:AM):EM:=fun ρ θ=>(f ρ θ).bind fun xs θ=>if xs.length≤BIG then .ok (.lst xs) θ else .bad
theorem Zg4 {σ:St} {B:Bx} {θ:Sto} {H:Hp} {xs:List D} {vs:List V} {Q:VK} (G:Good X.cl B θ H) (r:RepL B H xs vs) (w:wpR X σ RepV B H (.ok (.tup xs) θ) Q):∀p,H p=none→Q (.ref p) (upd H p (.tup vs)):=
  fun p hp=>w B _ _ (ZcS G hp _) (ZeH G hp _) (Zrq G hp r)
theorem Zfl {σ:St} {B:Bx} {θ:Sto} {H:Hp} {xs:List D} {vs:List V} {Q:VK} (G:Good X.cl B θ H) (r:RepL B H xs vs) (w:wpR X σ RepV B H (.ok (.lst xs) θ) Q):∀p,H p=none→Q (.ref p) (upd H p (.lst vs)):=
  fun p hp=>w B _ _ (ZcS G hp _) (ZeH G hp _) (Zrr G hp r)
theorem zc {es:List Expr} {fs:AM} {x1} (h:MA X es fs):ME X (.Tuple es x1 pos) (Za7 fs):=by
  refine PE.imp (ZtL h) fun σ H Q h=>?_
  obtain ⟨B,θ,ρ,F,w⟩:=h
  refine ZbX (Zhc F w) ?_
  rintro xs' H2 ⟨B2,θ2,xs,E2,F2,rxs,w2⟩
  split at w2
  · rename_i hz
    exact ⟨by rw [rxs.len]; exact Zak hz,Zg4 F2.good rxs w2⟩
  · exact w2.elim
theorem zZ {es:List Expr} {fs:AM} (h:MA X es fs):ME X (.List es pos) (ZbN fs):=by
  refine PE.imp (ZpH h) fun σ H Q h=>?_
  obtain ⟨B,θ,ρ,F,w⟩:=h
  refine ZbX (Zhc F w) ?_
  rintro xs' H2 ⟨B2,θ2,xs,E2,F2,rxs,w2⟩
  split at w2
  · rename_i hz
    exact ⟨by rw [rxs.len]; exact Zak hz,Zfl F2.good rxs w2⟩
  · exact w2.elim
abbrev GM:=List D→Sto→R D
def mCB (g:GM) (f:AM):EM:=fun ρ θ=>(f ρ θ).bind fun xs θ=>g xs θ
def rC (X:Cx) (g:GM):List V→Hp→VK→Prop:=fun xs H Q=>∃σ B θ ds,Good X.cl B θ H∧RepL B H ds xs∧wpR X σ RepV B H (g ds θ) Q
theorem Zsz {g:GM} {fs:AM} (σ:St) (H:Hp) (Q:VK) (h:tM X (mCB g fs) σ H Q):tCB (rC X g) (tMA X fs) σ H Q:=by
  obtain ⟨B,θ,ρ,F,w⟩:=h
  refine ZbX (Zhc F w) ?_
  rintro xs' H2 ⟨B2,θ2,xs,E2,F2,rxs,w2⟩
  exact ⟨σ,B2,θ2,xs,F2.good,rxs,w2⟩
theorem za {x:Str} {id:String} {p:Pos} {es:List Expr} {fs:AM} {g:GM} (hc:CallR X (.builtin id) (rC X g)) (hm:X.mg x=none) (hv:bootBuiltins x=some (.builtin id)) (ha:MA X (e::es) fs) (hg:Gl X x:=by rfl) (hn:x≠"__name__":=by decide) (hdb:(x == ("__debug__":Str))=false:=by decide)
    (he:starEach (e::es) X.env=(false,eval e X.env)::starEach es X.env:=by rfl) (hpl:(backTo pos (starEach es X.env)).any (·.1)=false:=by rfl):ME X (.Call (.Name x p) (e::es) [] pos) (mCB g fs):=
  PE.imp (ZpO hc hg hm hv ha hn hdb he hpl) Zsz
theorem Zbr {x:Str} {T:String} {p:Pos} {es:List Expr} {fs:AM} {g:GM} (hc:CallR X (.type T) (rC X g)) (hm:X.mg x=none) (hv:bootBuiltins x=some (.type T)) (ha:MA X (e::es) fs) (hg:Gl X x:=by rfl) (hn:x≠"__name__":=by decide) (hdb:(x == ("__debug__":Str))=false:=by decide)
    (he:starEach (e::es) X.env=(false,eval e X.env)::starEach es X.env:=by rfl) (hpl:(backTo pos (starEach es X.env)).any (·.1)=false:=by rfl):ME X (.Call (.Name x p) (e::es) [] pos) (mCB g fs):=
  PE.imp (Znn hc hg hm hv ha hn hdb he hpl) Zsz
end
end
end L2.MM
namespace L2.MM
open PySem PySem.Spec PyProof.Rows PySem.SeqAt
noncomputable section
variable {X:Cx}
section
open Classical in
def opI (C:Int→Int→Prop) (g:Int→Int→D):OM:=fun x y θ=>match x,y with
  | .int i,.int j=>if C i j then .ok (g i j) θ else .bad
  | _,_=>.bad
open Classical in
@[simp] theorem Zmt (C:Int→Int→Prop) (g:Int→Int→D) (i j:Int) (θ:Sto):opI C g (.int i) (.int j) θ=if C i j then .ok (g i j) θ else .bad:=nr rfl
open Classical in
theorem Zex {f:Value→Value→Sem Value} {C:Int→Int→Prop} {g:Int→Int→D} {gV:Int→Int→V} (h:OpR X f (rI C gV)) (r:∀B H i j,RepV B H (g i j) (gV i j)):OpR X f (rM X (opI C g)):=by
  refine OpR.imp h fun x y H Q q=>?_
  obtain ⟨σ,B,θ,d,e,G,rd,re,w⟩:=q
  unfold opI at w
  split at w
  · rename_i i j
    split at w
    · rename_i hc
      exact ⟨i,j,rd,re,hc,ZR G (r B H i j) w⟩
    · exact w.elim
  · exact w.elim
theorem Zh8 {f:Value→Value→Sem Value} {g:Int→Int→V} (h:OpR X f (rI0 g)):OpR X f (rI (fun _ _=>True) g):=OpR.imp h fun x y H Q ⟨i,j,a,b,_,q⟩=>⟨i,j,a,b,q⟩
abbrev Zdj:OM:=opI (fun _ _=>True) fun i j=>.int (i-j)
abbrev ZeI:OM:=opI (fun _ j=>0<j∧j<18446744073709551616) fun i j=>.int (i/j)
abbrev Zap:OM:=opI (fun _ j=>0<j) fun i j=>.int (i % j)
abbrev Zwf:OM:=opI (fun _ _=>True) fun i j=>.int (Builtin.bitAnd i j)
abbrev ltM:OM:=opI (fun _ _=>True) fun i j=>.bl (decide (i<j))
abbrev leM:OM:=opI (fun _ _=>True) fun i j=>.bl (decide (i≤j))
abbrev gtM:OM:=opI (fun _ _=>True) fun i j=>.bl (decide (j<i))
abbrev geM:OM:=opI (fun _ _=>True) fun i j=>.bl (decide (j≤i))
theorem Zcw:OpR X (binaryOp .Sub) (rM X Zdj):=Zex (Zh8 ZtU) fun _ _ _ _=>rfl
theorem ZdH:OpR X (binaryOp .FloorDiv) (rM X ZeI):=Zex (OpR.imp ZpQ fun x y H Q ⟨i,j,a,b,c,q⟩=>⟨i,j,a,b,⟨c.1,by
  have h:j.natAbs<2 ^ 64:=by have:=c.1; have:=c.2; omega
  have h0:j.natAbs≠0:=by have:=c.1; omega
  have:=(Nat.log2_lt h0).mpr h
  omega⟩,q⟩) fun _ _ _ _=>rfl
theorem Zan:OpR X (binaryOp .Mod) (rM X Zap):=Zex ZtX fun _ _ _ _=>rfl
theorem ZvM:OpR X (binaryOp .BitAnd) (rM X Zwf):=Zex (Zh8 Zt1) fun _ _ _ _=>rfl
theorem ZkY:OpR X (compareOp .Lt) (rM X ltM):=Zex (Zh8 ZvI) fun _ _ i j=>by show _=V.bl _; congr
theorem Zey:OpR X (compareOp .LtE) (rM X leM):=Zex (Zh8 ZvJ) fun _ _ i j=>by show _=V.bl _; congr
theorem Zgg:OpR X (compareOp .Gt) (rM X gtM):=Zex (Zh8 ZvK) fun _ _ i j=>by show _=V.bl _; congr
theorem ZpW:OpR X (compareOp .GtE) (rM X geM):=Zex (Zh8 ZvL) fun _ _ i j=>by show _=V.bl _; congr
def ZN:OM:=fun x y θ=>match x,y with
  | .int i,.int j=>.ok (.int (i+j)) θ
  | .str i,.str j=>if i.length+j.length≤BIG then .ok (.str (i++j)) θ else .bad
  | .tup xs,.tup ys=>if xs.isEmpty=false∧xs.length+ys.length≤BIG then .ok (.tup (xs++ys)) θ else .bad
  | x,y=>match ZaX θ x,ZaX θ y with
    | some xs,some ys=>if xs.length+ys.length≤BIG then .ok (.lst (xs++ys)) θ else .bad
    | _,_=>.bad
@[simp] theorem ZqX (i j:Int) (θ:Sto):ZN (.int i) (.int j) θ=.ok (.int (i+j)) θ:=nr rfl
@[simp] theorem ZqW (xs ys:List D) (θ:Sto):ZN (.lst xs) (.lst ys) θ=if xs.length+ys.length≤BIG then .ok (.lst (xs++ys)) θ else .bad:=nr rfl
@[simp] theorem Zwg (xs ys:List D) (θ:Sto):ZN (.tup xs) (.tup ys) θ=if xs.isEmpty=false∧xs.length+ys.length≤BIG then .ok (.tup (xs++ys)) θ else .bad:=nr rfl
theorem ZM:OpR X (binaryOp .Add) (rM X ZN):=by
  refine OpR.imp (op_add.or (op_add_str.or (op_catT.or Zt0))) fun x y H Q q=>?_
  obtain ⟨σ,B,θ,d,e,G,rd,re,w⟩:=q
  unfold ZN at w
  split at w
  · exact .inl ⟨_,_,rd,re,ZR G (show RepV B H (.int _) (.int _) from rfl) w⟩
  · split at w
    · rename_i hz
      exact .inr (.inl ⟨_,_,rd,re,Zak hz,ZR G (show RepV B H (.str _) (.str _) from rfl) w⟩)
    · exact w.elim
  · split at w
    · rename_i xs ys hz
      obtain ⟨a,vs,rfl,h1,k1,l1⟩:=rd
      obtain ⟨b,us,rfl,h2,k2,l2⟩:=re
      refine .inr (.inr (.inl ⟨a,b,vs,us,rfl,rfl,SqT.of h1,SqT.of h2,?_,?_,fun z=>?_,fun _=>Zg4 G (l1.app l2) w⟩))
      · intro z
        have:=l1.emp
        rw [z,hz.1] at this
        simp at this
      · rw [l1.len,l2.len]; exact Zak hz.2
      · have e0:ys=[]:=by
          have:=l2.emp
          rw [z] at this
          cases ys with
          | nil=>rfl
          | cons _ _=>simp at this
        subst e0
        rw [List.append_nil] at w
        exact ZR G (show RepV B H (.tup xs) (.ref a) from ⟨a,vs,rfl,h1,k1,l1⟩) w
    · exact w.elim
  · split at w
    · rename_i xs ys e1 e2
      split at w
      · rename_i hz
        obtain ⟨a,vs,rfl,h1,l1⟩:=Zaj G rd e1
        obtain ⟨b,us,rfl,h2,l2⟩:=Zaj G re e2
        exact .inr (.inr (.inr ⟨a,b,vs,us,rfl,rfl,h1,h2,by rw [l1.len,l2.len]; exact Zak hz,Zfl G (l1.app l2) w⟩))
      · exact w.elim
    · exact w.elim
def ZeY (i j:Int):Prop:=(-18446744073709551616<i∧i<18446744073709551616)∨(-18446744073709551616<j∧j<18446744073709551616)
instance {i j:Int}:Decidable (ZeY i j):=by unfold ZeY; infer_instance
def Zc6:OM:=fun x y θ=>match x,y with
  | .int i,.int j=>if ZeY i j then .ok (.int (i*j)) θ else .bad
  | .tup xs,.int k=>if xs.isEmpty=false∧0≤k∧k<1000∧(xs.length:Int)*k≤1000 then .ok (.tup (List.replicate k.toNat xs).flatten) θ else .bad
  | x,.int k=>match ZaX θ x with
    | some xs=>if -1000000≤k∧k≤1000000∧xs.length*k.toNat≤BIG then .ok (.lst (List.replicate k.toNat xs).flatten) θ else .bad
    | _=>.bad
  | _,_=>.bad
@[simp] theorem Zp1 (i j:Int) (θ:Sto):Zc6 (.int i) (.int j) θ=if ZeY i j then .ok (.int (i*j)) θ else .bad:=nr rfl
theorem RepL.rep {B:Bx} {H:Hp} {xs:List D} {vs:List V} (r:RepL B H xs vs):∀k:Nat,RepL B H (List.replicate k xs).flatten (List.replicate k vs).flatten
  | 0=>rfl
  | k+1=>by
    rw [List.replicate_succ,List.replicate_succ,List.flatten_cons,List.flatten_cons]
    exact r.app (RepL.rep r k)
theorem ZcM:OpR X (binaryOp .Mult) (rM X Zc6):=by
  refine OpR.imp (op_mul.or (op_repT.or ZtV)) fun x y H Q q=>?_
  obtain ⟨σ,B,θ,d,e,G,rd,re,w⟩:=q
  unfold Zc6 at w
  split at w
  · split at w
    · rename_i hc
      exact .inl ⟨_,_,rd,re,hc.imp (fun h=>⟨by have:=h.1; omega,by have:=h.2; omega⟩) (fun h=>⟨by have:=h.1; omega,by have:=h.2; omega⟩),ZR G (show RepV B H (.int _) (.int _) from rfl) w⟩
    · exact w.elim
  · split at w
    · rename_i xs k hz
      obtain ⟨a,vs,rfl,h1,k1,l1⟩:=rd
      obtain ⟨z1,z2,z3,z4⟩:=hz
      refine .inr (.inl ⟨a,k,vs,rfl,re,SqT.of h1,?_,z2,z3,by rw [l1.len]; exact z4,fun z=>?_,fun _=>Zg4 G (l1.rep _) w⟩)
      · intro z
        have:=l1.emp
        rw [z,z1] at this
        simp at this
      · subst z
        have e0:(List.replicate (1:Int).toNat xs).flatten=xs:=by simp
        rw [e0] at w
        exact ZR G (show RepV B H (.tup xs) (.ref a) from ⟨a,vs,rfl,h1,k1,l1⟩) w
    · exact w.elim
  · split at w
    · rename_i xs e1
      split at w
      · rename_i hz
        obtain ⟨a,vs,rfl,h1,l1⟩:=Zaj G rd e1
        exact .inr (.inr ⟨a,_,vs,rfl,re,h1,by have:=hz.1; omega,by have:=hz.2.1; omega,by rw [l1.len]; exact Zak hz.2.2,Zfl G (l1.rep _) w⟩)
      · exact w.elim
    · exact w.elim
  · exact w.elim
def ZrZ (f:EM):EM:=fun ρ θ=>(f ρ θ).bind fun x θ=>match x with
  | .int i=>.ok (.int (-i)) θ
  | _=>.bad
theorem Zt5 {a:Expr} {fa:EM} {pos:Pos} (ha:ME X a fa):ME X (.UnaryOp .USub a pos) (ZrZ fa):=by
  refine PE.imp (Zvx Zs4 ha) fun σ H Q h=>?_
  obtain ⟨B,θ,ρ,F,w⟩:=h
  refine ZZ (step F w) ?_
  rintro v H1 ⟨B1,θ1,x,E1,F1,rx,w1⟩
  cases x with
  | int i=>exact ⟨i,rx,ZR F1.good (show RepV B1 H1 (.int (-i)) (.int (-i)) from rfl) w1⟩
  | _=>exact w1.elim
mutual
def dat:D→PyData
  | .bl b=>.bool b
  | .int i=>.int i
  | .str x=>.str x
  | .tup xs=>.tuple (ZeJ xs)
  | .lst xs=>.list (ZeJ xs)
  | _=>.none
def ZeJ:List D→List PyData
  | []=>[]
  | d::r=>dat d::ZeJ r
end
mutual
def plain:D→Bool
  | .non=>true
  | .bl _=>true
  | .int _=>true
  | .str _=>true
  | .tup xs=>ZbY xs
  | .lst xs=>ZbY xs
  | _=>false
def ZbY:List D→Bool
  | []=>true
  | d::r=>plain d && ZbY r
end
mutual
theorem rdv {B:Bx} {H:Hp} {K:PySem.W.Frag}:∀{d:D} {v:V},plain d=true→RepV B H d v→RdV K H v (dat d)
  | .non,_,_,r=>by cases (show _=V.non from r); exact .non
  | .bl b,_,_,r=>by cases (show _=V.bl b from r); exact .bl b
  | .int i,_,_,r=>by cases (show _=V.int i from r); exact .int i
  | .str x,_,_,r=>by cases (show _=V.str x from r); exact .str x
  | .tup xs,_,p,r=>by
    obtain ⟨a,vs,rfl,h,_,l⟩:=r
    exact .tup (SqT.of h) (Zrs p l)
  | .lst xs,_,p,r=>by
    obtain ⟨a,vs,rfl,h,_,l⟩:=r
    exact .lst (SqL.of h) (Zrs p l)
  | .ty _,_,p,_=>nomatch p
  | .scr _,_,p,_=>nomatch p
  | .ref _,_,p,_=>nomatch p
theorem Zrs {B:Bx} {H:Hp} {K:PySem.W.Frag}:∀{ds:List D} {vs:List V},ZbY ds=true→RepL B H ds vs→RdVs K H vs (ZeJ ds)
  | [],_,_,r=>by cases (show _=[] from r); exact .nil
  | d::ds,_,p,r=>by
    obtain ⟨v,q,rfl,hv,hq⟩:=r
    have p':plain d=true∧ZbY ds=true:=by simpa [ZbY] using p
    exact .cons (rdv p'.1 hv) (Zrs p'.2 hq)
end
mutual
theorem ZkL:∀{d e:D},plain d=true→plain e=true→(same (dat d) (dat e)=true↔d=e):=fun {d e} p q=>by
  cases d with
  | ty _=>exact nomatch p
  | scr _=>exact nomatch p
  | ref _=>exact nomatch p
  | non=>cases e<;>simp_all [plain,dat,same]
  | bl _=>cases e<;>simp_all [plain,dat,same]
  | int _=>cases e<;>simp_all [plain,dat,same]
  | str _=>cases e<;>simp_all [plain,dat,same]
  | tup xs=>
    cases e with
    | tup ys=>
      simp only [dat,same,D.tup.injEq]
      exact Zgc p q
    | ty _=>exact nomatch q
    | scr _=>exact nomatch q
    | ref _=>exact nomatch q
    | _=>simp [dat,same]
  | lst xs=>
    cases e with
    | lst ys=>
      simp only [dat,same,D.lst.injEq]
      exact Zgc p q
    | ty _=>exact nomatch q
    | scr _=>exact nomatch q
    | ref _=>exact nomatch q
    | _=>simp [dat,same]
theorem Zgc:∀{ds es:List D},ZbY ds=true→ZbY es=true→(sameAll (ZeJ ds) (ZeJ es)=true↔ds=es)
  | [],[],_,_=>by simp [ZeJ,sameAll]
  | [],_::_,_,_=>by simp [ZeJ,sameAll]
  | _::_,[],_,_=>by simp [ZeJ,sameAll]
  | d::ds,e::es,p,q=>by
    have p':plain d=true∧ZbY ds=true:=by simpa [ZbY] using p
    have q':plain e=true∧ZbY es=true:=by simpa [ZbY] using q
    simp only [ZeJ,sameAll,Bool.and_eq_true,List.cons.injEq]
    rw [ZkL p'.1 q'.1,Zgc p'.2 q'.2]
end
def look (θ:Sto) (d:D):D:=match d with
  | .ref l=>match θ[l]? with
    | some (.lst xs)=>.lst xs
    | _=>.ref l
  | d=>d
theorem ZfO {B:Bx} {θ:Sto} {H:Hp} {K:PySem.W.Frag} (G:Good X.cl B θ H) {d:D} {v:V} (r:RepV B H d v) (p:plain (look θ d)=true):RdV K H v (dat (look θ d)):=by
  cases d with
  | ref l=>
    unfold look at p ⊢
    simp only at p ⊢
    split at p
    · rename_i xs e
      obtain ⟨hl,rfl⟩:=r
      obtain ⟨vs,h1,h2⟩:=G.cel l _ e
      exact .lst (SqL.of h1) (Zrs p h2)
    · exact nomatch p
  | _=>exact rdv p r
structure ZlA (x y:D):Prop where
  px:plain x=true
  py:plain y=true
  sx:shaped (dat x)=true
  sy:shaped (dat y)=true
  nm:noMix (dat x) (dat y)=true
open Classical in
def eqM:OM:=fun x y θ=>if ZlA (look θ x) (look θ y) then .ok (.bl (decide (look θ x=look θ y))) θ else .bad
open Classical in
def neM:OM:=fun x y θ=>if ZlA (look θ x) (look θ y) then .ok (.bl (!decide (look θ x=look θ y))) θ else .bad
open Classical in
theorem ZkM {d e:D} (p:plain d=true) (q:plain e=true):same (dat d) (dat e)=decide (d=e):=by
  rw [Bool.eq_iff_iff,ZkL p q,decide_eq_true_iff]
open Classical in
theorem zW (hu:X.A.units+64<cLine):OpR X (compareOp .Eq) (rM X eqM):=by
  refine OpR.imp (ZtZ hu) fun x y H Q q=>?_
  obtain ⟨σ,B,θ,d,e,G,rd,re,w⟩:=q
  unfold eqM at w
  split at w
  · rename_i c
    refine ⟨_,_,ZfO G rd c.px,ZfO G re c.py,c.sx,c.sy,c.nm,?_⟩
    rw [ZkM c.px c.py]
    exact ZR G (show RepV B H (.bl _) (.bl _) from rfl) w
  · exact w.elim
open Classical in
theorem Zfb (hu:X.A.units+64<cLine):OpR X (compareOp .NotEq) (rM X neM):=by
  refine OpR.imp (ZtW hu) fun x y H Q q=>?_
  obtain ⟨σ,B,θ,d,e,G,rd,re,w⟩:=q
  unfold neM at w
  split at w
  · rename_i c
    refine ⟨_,_,ZfO G rd c.px,ZfO G re c.py,c.sx,c.sy,c.nm,?_⟩
    rw [ZkM c.px c.py]
    exact ZR G (show RepV B H (.bl _) (.bl _) from rfl) w
  · exact w.elim
def Zjg:List D→Bool
  | []=>true
  | .int _::r=>Zjg r
  | _=>false
def ZhO:List D→Bool
  | []=>true
  | .str _::r=>ZhO r
  | _=>false
def memI (i:Int):List D→Bool
  | .int j::r=>decide (j=i) || memI i r
  | _=>false
def memS (x:Str):List D→Bool
  | .str y::r=>decide (y=x) || memS x r
  | _=>false
def inD (θ:Sto) (x y:D):Option Bool:=match seqOf θ y with
  | none=>none
  | some ys=>match x with
    | .int i=>if Zjg ys=true then some (memI i ys) else none
    | .str z=>if ZhO ys=true then some (memS z ys) else none
    | _=>none
def inM:OM:=fun x y θ=>match inD θ x y with
  | some k=>.ok (.bl k) θ
  | none=>.bad
def ZdV:OM:=fun x y θ=>match inD θ x y with
  | some k=>.ok (.bl (!k)) θ
  | none=>.bad
theorem ZgM {B:Bx} {H:Hp}:∀{ys:List D} {vs:List V},Zjg ys=true→RepL B H ys vs→vs.all Zdo=true∧∀i:Int,inV (.int i) vs=memI i ys
  | [],_,_,r=>by cases (show _=[] from r); exact ⟨rfl,fun _=>rfl⟩
  | d::ys,_,h,r=>by
    cases d with
    | int j=>
      obtain ⟨v,q,rfl,hv,hq⟩:=r
      cases (show v=V.int j from hv)
      obtain ⟨h1,h2⟩:=ZgM (show Zjg ys=true from h) hq
      refine ⟨by simp [Zdo] at h1 ⊢; exact h1,fun i=>?_⟩
      have:=h2 i
      unfold inV at this ⊢
      rw [List.any_cons,this]
      show (j == i || memI i ys)=(decide (j=i) || memI i ys)
      rw [Bool.beq_eq_decide_eq]
    | _=>exact nomatch h
theorem ZgL {B:Bx} {H:Hp}:∀{ys:List D} {vs:List V},ZhO ys=true→RepL B H ys vs→vs.all Zdo=true∧∀i:Str,inV (.str i) vs=memS i ys
  | [],_,_,r=>by cases (show _=[] from r); exact ⟨rfl,fun _=>rfl⟩
  | d::ys,_,h,r=>by
    cases d with
    | str j=>
      obtain ⟨v,q,rfl,hv,hq⟩:=r
      cases (show v=V.str j from hv)
      obtain ⟨h1,h2⟩:=ZgL (show ZhO ys=true from h) hq
      refine ⟨by simp [Zdo] at h1 ⊢; exact h1,fun i=>?_⟩
      have:=h2 i
      unfold inV at this ⊢
      rw [List.any_cons,this]
      show (j == i || memS i ys)=(decide (j=i) || memS i ys)
      rw [Bool.beq_eq_decide_eq]
    | _=>exact nomatch h
theorem Zqn {cl:Mo} {B:Bx} {θ:Sto} {H:Hp} (G:Good cl B θ H) {d e:D} {x y:V} {k:Bool} (rd:RepV B H d x) (re:RepV B H e y) (h:inD θ d e=some k) :
    ∃p xs,y=.ref p∧(SqL cl.K H p xs∨SqT cl.K H p xs)∧Zdo x=true∧xs.all Zdo=true∧inV x xs=k:=by
  unfold inD at h
  split at h
  · cases h
  · rename_i ys e1
    obtain ⟨a,vs,rfl,h1,h2⟩:=Zc1 G re e1
    split at h
    · split at h
      · rename_i i hz
        cases h
        cases (show x=V.int i from rd)
        obtain ⟨q1,q2⟩:=ZgM hz h2
        exact ⟨a,vs,rfl,h1,rfl,q1,q2 i⟩
      · cases h
    · split at h
      · rename_i i hz
        cases h
        cases (show x=V.str i from rd)
        obtain ⟨q1,q2⟩:=ZgL hz h2
        exact ⟨a,vs,rfl,h1,rfl,q1,q2 i⟩
      · cases h
    · cases h
theorem ZkZ:OpR X (compareOp .In) (rM X inM):=by
  refine OpR.imp Zno fun x y H Q q=>?_
  obtain ⟨σ,B,θ,d,e,G,rd,re,w⟩:=q
  unfold inM at w
  split at w
  · rename_i k e1
    obtain ⟨p,xs,h1,h2,h3,h4,h5⟩:=Zqn G rd re e1
    exact ⟨p,xs,h1,h2,h3,h4,by rw [h5]; exact ZR G (show RepV B H (.bl _) (.bl _) from rfl) w⟩
  · exact w.elim
theorem Zmy:OpR X (compareOp .NotIn) (rM X ZdV):=by
  refine OpR.imp ZiU fun x y H Q q=>?_
  obtain ⟨σ,B,θ,d,e,G,rd,re,w⟩:=q
  unfold ZdV at w
  split at w
  · rename_i k e1
    obtain ⟨p,xs,h1,h2,h3,h4,h5⟩:=Zqn G rd re e1
    exact ⟨p,xs,h1,h2,h3,h4,by rw [h5]; exact ZR G (show RepV B H (.bl _) (.bl _) from rfl) w⟩
  · exact w.elim
def ZcA:D→Bool
  | .non=>true
  | _=>false
theorem Zla {B:Bx} {H:Hp} {d:D} {v:V} (r:RepV B H d v):ZcA d=decide (v=.non):=by
  cases d with
  | non=>cases (show v=.non from r); simp [ZcA]
  | bl b=>cases (show v=.bl b from r); simp [ZcA]
  | int i=>cases (show v=.int i from r); simp [ZcA]
  | str x=>cases (show v=.str x from r); simp [ZcA]
  | ty n=>cases (show v=.ty n from r); simp [ZcA]
  | scr ns=>obtain ⟨a,rfl,_⟩:=r; simp [ZcA]
  | tup xs=>obtain ⟨a,o,rfl,_⟩:=r; simp [ZcA]
  | lst xs=>obtain ⟨a,o,rfl,_⟩:=r; simp [ZcA]
  | ref l=>obtain ⟨_,rfl⟩:=r; simp [ZcA]
def isM:OM:=fun x y θ=>match y with
  | .non=>.ok (.bl (ZcA x)) θ
  | .bl c=>match x with
    | .bl b=>.ok (.bl (b == c)) θ
    | _=>.bad
  | _=>.bad
def Zgp:OM:=fun x y θ=>match y with
  | .non=>.ok (.bl (!ZcA x)) θ
  | .bl c=>match x with
    | .bl b=>.ok (.bl (!(b == c))) θ
    | _=>.bad
  | _=>.bad
theorem ZtY:OpR X (compareOp .Is) (fun x y H Q=>∃b c:Bool,x=.bl b∧y=.bl c∧Q (.bl (b == c)) H):=by
  intro pins s σ H x y v u Q I rx ry h
  obtain ⟨b,c,rfl,rfl,q⟩:=h
  cases rx
  cases ry
  have e:(Value.bool b == Value.bool c)=(b == c):=by cases b<;>cases c<;>rfl
  exact wpAny_is_plain rfl ⟨.bl _,H,I,rfl,by rw [e]; exact q⟩
theorem ZrQ:OpR X (compareOp .Is) (rM X isM):=by
  refine OpR.imp (op_isN.or ZtY) fun x y H Q q=>?_
  obtain ⟨σ,B,θ,d,e,G,rd,re,w⟩:=q
  unfold isM at w
  split at w
  · refine .inl ⟨re,?_⟩
    have q:=ZR G (show RepV B H (.bl _) (.bl _) from rfl) w
    rw [Zla rd] at q
    exact q
  · split at w
    · exact .inr ⟨_,_,rd,re,ZR G (show RepV B H (.bl _) (.bl _) from rfl) w⟩
    · exact w.elim
  · exact w.elim
theorem Zmz:OpR X (compareOp .IsNot) (rM X Zgp):=by
  refine OpR.imp (op_notN.or ZrN) fun x y H Q q=>?_
  obtain ⟨σ,B,θ,d,e,G,rd,re,w⟩:=q
  unfold Zgp at w
  split at w
  · refine .inl ⟨re,?_⟩
    have q:=ZR G (show RepV B H (.bl _) (.bl _) from rfl) w
    rw [Zla rd] at q
    exact q
  · split at w
    · exact .inr ⟨_,_,rd,re,ZR G (show RepV B H (.bl _) (.bl _) from rfl) w⟩
    · exact w.elim
  · exact w.elim
end
end
end L2.MM
namespace L2.MM
open PySem PySem.Spec PyProof.Rows PySem.SeqAt
noncomputable section
variable {X:Cx}
section
def ixD (θ:Sto) (x:D) (i:Int):Option D:=match x with
  | .str z=>if z.length≤BIG then (atI z.cps.toList i).map fun c=>.str ⟨#[c]⟩ else none
  | x=>(seqOf θ x).bind (atI · i)
def ixM:OM:=fun x y θ=>match y with
  | .int i=>match ixD θ x i with
    | some d=>.ok d θ
    | none=>.bad
  | _=>.bad
theorem RepL.atI {B:Bx} {H:Hp} {xs:List D} {vs:List V} {i:Int} {d:D} (r:RepL B H xs vs) (h:atI xs i=some d):∃v,atI vs i=some v∧RepV B H d v:=by
  unfold L2.atI at h ⊢
  rw [r.len]
  cases e:ixN xs.length i with
  | none=>rw [e] at h; cases h
  | some j=>
    rw [e] at h
    exact r.get h
theorem ZD:IxR X (rM X ixM):=by
  refine IxR.imp Zuc fun x y H Q q=>?_
  obtain ⟨σ,B,θ,d,e,G,rd,re,w⟩:=q
  unfold ixM at w
  split at w
  · rename_i i
    split at w
    · rename_i r e1
      have sq:(seqOf θ d).bind (L2.atI · i)=some r→rIx X.K x y H Q:=fun h=>by
        cases e2:seqOf θ d with
        | none=>rw [e2] at h; cases h
        | some xs=>
          rw [e2] at h
          obtain ⟨a,vs,rfl,h1,h2⟩:=Zc1 G rd e2
          obtain ⟨v,h3,h4⟩:=h2.atI h
          have q:=ZR G h4 w
          rcases h1 with h1 | h1
          · exact .inl ⟨a,vs,i,v,rfl,re,h1,h3,q⟩
          · exact .inr (.inl ⟨a,vs,i,v,rfl,re,h1,h3,q⟩)
      cases d with
      | str z=>
        simp only [ixD] at e1
        split at e1
        · rename_i hz
          cases e2:L2.atI z.cps.toList i with
          | none=>rw [e2] at e1; cases e1
          | some c=>
            rw [e2] at e1
            cases e1
            exact .inr (.inr ⟨z,i,c,rd,re,Zak hz,e2,ZR G (show RepV B H (.str _) (.str _) from rfl) w⟩)
        · cases e1
      | non=>exact sq e1
      | bl _=>exact sq e1
      | int _=>exact sq e1
      | ty _=>exact sq e1
      | scr _=>exact sq e1
      | tup _=>exact sq e1
      | lst _=>exact sq e1
      | ref _=>exact sq e1
    · exact w.elim
  · exact w.elim
abbrev PM:=List Sl→Sto→R (Option Int)
def EqO (_:Bx) (_:Hp) (a b:Option Int):Prop:=a=b
def tMO (X:Cx) (f:PM):TO:=fun σ H Q=>∃B θ ρ,Frm X.cl B θ ρ σ H∧wpR X σ EqO B H (f ρ θ) Q
def MO (X:Cx) (e:Option Expr) (f:PM):Prop:=PO X e (tMO X f)
theorem Zeq {f:PM} {σ:St} {H:Hp} {Q Q':Option Int→Hp→Prop} (h:tMO X f σ H Q) (hQ:∀v H',Q v H'→Q' v H'):tMO X f σ H Q':=let ⟨B,θ,ρ,F,w⟩:=h; ⟨B,θ,ρ,F,w.mono hQ⟩
theorem ZkJ {σ:St} {H:Hp} {γ δ:Type} {Rel':Bx→Hp→γ→δ→Prop} {B:Bx} {θ:Sto} {ρ:List Sl} {f:PM} {k:Option Int→Sto→R γ} {Q:δ→Hp→Prop} (F:Frm X.cl B θ ρ σ H) (h:wpR X σ Rel' B H ((f ρ θ).bind k) Q) :
    tMO X f σ H (fun c H1=>∃B1 θ1,ExtE B B1 H H1∧Frm X.cl B1 θ1 ρ σ H1∧wpR X σ Rel' B1 H1 (k c θ1) Q):=
  ⟨B,θ,ρ,F,(wpR.bind (Rel:=EqO) h).mono fun v H1 ⟨B1,θ1,d,E,G,r,w⟩=>by cases (show d=v from r); exact ⟨B1,θ1,E,F.ext E G,w⟩⟩
def Zat:PM:=fun _ θ=>.ok none θ
def ZaO (f:EM):PM:=fun ρ θ=>(f ρ θ).bind fun x θ=>match x with
  | .int i=>.ok (some i) θ
  | _=>.bad
theorem PO.imp {e:Option Expr} {t t':TO} (h:PO X e t) (hi:∀σ H Q,t' σ H Q→t σ H Q):PO X e t':=fun pins s σ H Q I q=>h pins s σ H Q I (hi σ H Q q)
theorem ZbG:MO X none Zat:=PO.imp ZrE fun σ H Q h=>by
  obtain ⟨B,θ,ρ,F,w⟩:=h
  exact ZR (Rel:=EqO) F.good rfl w
theorem zV {e:Expr} {f:EM} (h:ME X e f):MO X (some e) (ZaO f):=PO.imp (ZrD h) fun σ H Q h=>by
  obtain ⟨B,θ,ρ,F,w⟩:=h
  refine ZZ (step F w) ?_
  rintro v H1 ⟨B1,θ1,x,E1,F1,rx,w1⟩
  cases x with
  | int i=>exact ⟨i,rx,ZR (Rel:=EqO) F1.good rfl w1⟩
  | _=>exact w1.elim
def ZbF {α:Type} (xs:List α) (lo hi:Option Int):List α:=(xs.drop (HT.sIx xs.length 0 lo)).take (HT.sIx xs.length xs.length hi-HT.sIx xs.length 0 lo)
theorem RepL.cut {B:Bx} {H:Hp} {xs:List D} {vs:List V} (r:RepL B H xs vs) (lo hi:Option Int):RepL B H (ZbF xs lo hi) (Zll vs lo hi):=by
  unfold ZbF Zll
  rw [r.len]
  exact (r.drop _).take _
def Zfn (θ:Sto) (x:D) (lo hi:Option Int):Option D:=match x with
  | .tup xs=>if HT.sIx xs.length 0 lo=0∧HT.sIx xs.length xs.length hi=xs.length then none else some (.tup (ZbF xs lo hi))
  | x=>(ZaX θ x).map fun xs=>.lst (ZbF xs lo hi)
def mSl (f:EM) (lo hi:PM):EM:=fun ρ θ=>(f ρ θ).bind fun x θ=>(lo ρ θ).bind fun l θ=>(hi ρ θ).bind fun h θ=>match Zfn θ x l h with
  | some d=>.ok d θ
  | none=>.bad
theorem ZaN {e:Expr} {lo hi:Option Expr} {f:EM} {fl fh:PM} {pos p2:Pos} (he:ME X e f) (hl:MO X lo fl) (hh:MO X hi fh):ME X (.Subscript e (.Slice lo hi none p2) pos) (mSl f fl fh):=by
  refine PE.imp (ZpF (sl_list.or Ztr) he hl hh) fun σ H Q h=>?_
  obtain ⟨B,θ,ρ,F,w⟩:=h
  refine ZZ (step F w) ?_
  rintro v H1 ⟨B1,θ1,x,E1,F1,rx,w1⟩
  refine Zeq (ZkJ F1 w1) ?_
  rintro l H2 ⟨B2,θ2,E2,F2,w2⟩
  refine Zeq (ZkJ F2 w2) ?_
  rintro u H3 ⟨B3,θ3,E3,F3,w3⟩
  have rx3:=rx.ext (E2.trans E3).toExtS
  have lst:∀d,(ZaX θ3 x).map (fun xs=>D.lst (ZbF xs l u))=some d→wpR X σ RepV B3 H3 (R.ok d θ3) Q→Zvk X.K v l u H3 Q:=fun d h w=>by
    cases e2:ZaX θ3 x with
    | none=>rw [e2] at h; cases h
    | some xs=>
      rw [e2] at h
      cases h
      obtain ⟨a,vs,rfl,h1,h2⟩:=Zaj F3.good rx3 e2
      exact ⟨a,vs,rfl,SqL.of h1,Zfl F3.good (h2.cut l u) w⟩
  split at w3
  · rename_i d e1
    cases x with
    | tup xs=>
      simp only [Zfn] at e1
      split at e1
      · cases e1
      · rename_i hw
        cases e1
        obtain ⟨a,vs,rfl,h1,k1,l1⟩:=rx3
        exact .inr ⟨a,vs,rfl,SqT.of h1,by rw [l1.len]; exact hw,Zg4 F3.good (l1.cut l u) w3⟩
    | non=>exact .inl (lst d e1 w3)
    | bl _=>exact .inl (lst d e1 w3)
    | int _=>exact .inl (lst d e1 w3)
    | str _=>exact .inl (lst d e1 w3)
    | ty _=>exact .inl (lst d e1 w3)
    | scr _=>exact .inl (lst d e1 w3)
    | lst _=>exact .inl (lst d e1 w3)
    | ref _=>exact .inl (lst d e1 w3)
  · exact w3.elim
def ZdF {α:Type} (xs:List α) (lo hi st:Option Int):List α:=(sliceRange (sliceBounds lo hi st xs.length).1 (sliceBounds lo hi st xs.length).2.1 (sliceBounds lo hi st xs.length).2.2).filterMap (xs[·]?)
theorem RepL.none_of:∀{B:Bx} {H:Hp} {xs:List D} {vs:List V} {i:Nat},RepL B H xs vs→xs[i]?=none→vs[i]?=none:=fun {B H xs vs i} r e=>by
  have h1:=r.len
  have h2:xs.length≤i:=List.getElem?_eq_none_iff.mp e
  exact List.getElem?_eq_none_iff.mpr (by omega)
theorem RepL.pick {B:Bx} {H:Hp} {xs:List D} {vs:List V} (r:RepL B H xs vs):∀ks:List Nat,RepL B H (ks.filterMap (xs[·]?)) (ks.filterMap (vs[·]?))
  | []=>rfl
  | k::ks=>by
    cases e:xs[k]? with
    | none=>rw [List.filterMap_cons_none e,List.filterMap_cons_none (r.none_of e)]; exact r.pick ks
    | some x=>
      obtain ⟨u,e',q⟩:=r.get e
      rw [List.filterMap_cons_some e,List.filterMap_cons_some e']
      exact ⟨_,_,rfl,q,r.pick ks⟩
def ZrY (f:EM) (lo hi st:PM):EM:=fun ρ θ=>(f ρ θ).bind fun x θ=>(lo ρ θ).bind fun l θ=>(hi ρ θ).bind fun h θ=>(st ρ θ).bind fun s θ=>match ZaX θ x with
  | some xs=>if s≠some 0∧(ZdF xs l h s).length≤BIG then .ok (.lst (ZdF xs l h s)) θ else .bad
  | none=>.bad
theorem Zim {e sp:Expr} {lo hi:Option Expr} {f:EM} {fl fh fs:PM} {pos p2:Pos} (he:ME X e f) (hl:MO X lo fl) (hh:MO X hi fh) (hs:MO X (some sp) fs):ME X (.Subscript e (.Slice lo hi (some sp) p2) pos) (ZrY f fl fh fs):=by
  refine PE.imp (Znm he hl hh hs) fun σ H Q h=>?_
  obtain ⟨B,θ,ρ,F,w⟩:=h
  refine ZZ (step F w) ?_
  rintro v H1 ⟨B1,θ1,x,E1,F1,rx,w1⟩
  refine Zeq (ZkJ F1 w1) ?_
  rintro l H2 ⟨B2,θ2,E2,F2,w2⟩
  refine Zeq (ZkJ F2 w2) ?_
  rintro u H3 ⟨B3,θ3,E3,F3,w3⟩
  refine Zeq (ZkJ F3 w3) ?_
  rintro s H4 ⟨B4,θ4,E4,F4,w4⟩
  split at w4
  · rename_i xs e1
    split at w4
    · rename_i hz
      obtain ⟨a,vs,rfl,h1,h2⟩:=Zaj F4.good (rx.ext ((E2.trans E3).trans E4).toExtS) e1
      have p:RepL B4 H4 (ZdF xs l u s) (Zes vs l u s):=by
        unfold ZdF Zes
        rw [h2.len]
        exact h2.pick _
      exact ⟨a,vs,rfl,SqL.of h1,hz.1,by rw [p.len]; exact Zak hz.2,Zfl F4.good p w4⟩
    · exact w4.elim
  · exact w4.elim
def Zd0:GM:=fun ds θ=>match ds with
  | [.str z]=>if z.length≤BIG then .ok (.int z.length) θ else .bad
  | [d]=>match seqOf θ d with
    | some xs=>.ok (.int xs.length) θ
    | none=>.bad
  | _=>.bad
theorem RepL.one {B:Bx} {H:Hp} {d:D} {vs:List V} (r:RepL B H [d] vs):∃v,vs=[v]∧RepV B H d v:=by
  obtain ⟨v,q,rfl,hv,hq⟩:=r
  cases (show q=[] from hq)
  exact ⟨v,rfl,hv⟩
theorem RepL.two {B:Bx} {H:Hp} {d e:D} {vs:List V} (r:RepL B H [d,e] vs):∃v u,vs=[v,u]∧RepV B H d v∧RepV B H e u:=by
  obtain ⟨v,q,rfl,hv,hq⟩:=r
  obtain ⟨u,rfl,hu⟩:=hq.one
  exact ⟨v,u,rfl,hv,hu⟩
theorem Zei:CallR X (.builtin "len") (rC X Zd0):=by
  refine CallR.imp (call_len_str.or Zja) fun vs H Q q=>?_
  obtain ⟨σ,B,θ,ds,G,r,w⟩:=q
  unfold Zd0 at w
  split at w
  · split at w
    · rename_i z hz
      obtain ⟨v,rfl,rv⟩:=r.one
      cases (show v=V.str z from rv)
      exact .inl ⟨z,rfl,Zak hz,ZR G (show RepV B H (.int _) (.int _) from rfl) w⟩
    · exact w.elim
  · split at w
    · rename_i xs e1
      obtain ⟨v,rfl,rv⟩:=r.one
      obtain ⟨a,us,rfl,h1,h2⟩:=Zc1 G rv e1
      exact .inr ⟨a,us,rfl,h1,by rw [h2.len]; exact ZR G (show RepV B H (.int _) (.int _) from rfl) w⟩
    · exact w.elim
  · exact w.elim
def ZfR:List D→Option (List Int)
  | []=>some []
  | .int i::r=>(ZfR r).map (i::·)
  | _=>none
@[simp] theorem Zqm (ns:List Int):ZfR (ns.map D.int)=some ns:=by
  induction ns with
  | nil=>rfl
  | cons n r ih=>simp [ZfR,ih]
theorem ZmK:∀{ds:List D} {ns:List Int},ZfR ds=some ns→ds=ns.map D.int
  | [],_,h=>by cases h; rfl
  | d::r,ns,h=>by
    cases d with
    | int i=>
      simp only [ZfR] at h
      cases e:ZfR r with
      | none=>rw [e] at h; cases h
      | some ms=>rw [e] at h; cases h; rw [ZmK e]; rfl
    | _=>cases h
theorem Zlb {B:Bx} {H:Hp}:∀{ns:List Int} {vs:List V},RepL B H (ns.map D.int) vs→vs=ns.map V.int
  | [],_,r=>r
  | n::ns,_,r=>by
    obtain ⟨v,q,rfl,hv,hq⟩:=r
    cases (show v=V.int n from hv)
    rw [Zlb hq]; rfl
def Zjb:List D→Option (List Bool)
  | []=>some []
  | .bl i::r=>(Zjb r).map (i::·)
  | _=>none
theorem ZqQ:∀{ds:List D} {ns:List Bool},Zjb ds=some ns→ds=ns.map D.bl
  | [],_,h=>by cases h; rfl
  | d::r,ns,h=>by
    cases d with
    | bl i=>
      simp only [Zjb] at h
      cases e:Zjb r with
      | none=>rw [e] at h; cases h
      | some ms=>rw [e] at h; cases h; rw [ZqQ e]; rfl
    | _=>cases h
theorem ZmZ {B:Bx} {H:Hp}:∀{ns:List Bool} {vs:List V},RepL B H (ns.map D.bl) vs→vs=ns.map V.bl
  | [],_,r=>r
  | n::ns,_,r=>by
    obtain ⟨v,q,rfl,hv,hq⟩:=r
    cases (show v=V.bl n from hv)
    rw [ZmZ hq]; rfl
def Znd:GM:=fun ds θ=>match ds with
  | [d]=>match (ZaX θ d).bind ZfR with
    | some ns=>.ok (.int ns.sum) θ
    | none=>.bad
  | _=>.bad
theorem ZsU (hc:X.calm=true:=by rfl):CallR X (.builtin "sum") (rC X Znd):=by
  refine CallR.imp (ZqK hc) fun vs H Q q=>?_
  obtain ⟨σ,B,θ,ds,G,r,w⟩:=q
  unfold Znd at w
  split at w
  · rename_i d
    split at w
    · rename_i ns e1
      obtain ⟨v,rfl,rv⟩:=r.one
      cases e2:ZaX θ d with
      | none=>rw [e2] at e1; cases e1
      | some xs=>
        rw [e2] at e1
        obtain ⟨a,us,rfl,h1,h2⟩:=Zaj G rv e2
        rw [ZmK (show ZfR xs=some ns from e1)] at h2
        rw [Zlb h2] at h1
        exact ⟨a,ns,rfl,SqL.of h1,ZR G (show RepV B H (.int _) (.int _) from rfl) w⟩
    · exact w.elim
  · exact w.elim
def ZqV:GM:=fun ds θ=>match ds with
  | [d]=>match (ZaX θ d).bind Zjb with
    | some ns=>.ok (.bl (ns.all id)) θ
    | none=>.bad
  | _=>.bad
theorem Zwb (hc:X.calm=true:=by rfl):CallR X (.builtin "all") (rC X ZqV):=by
  refine CallR.imp (ZqM hc) fun vs H Q q=>?_
  obtain ⟨σ,B,θ,ds,G,r,w⟩:=q
  unfold ZqV at w
  split at w
  · rename_i d
    split at w
    · rename_i ns e1
      obtain ⟨v,rfl,rv⟩:=r.one
      cases e2:ZaX θ d with
      | none=>rw [e2] at e1; cases e1
      | some xs=>
        rw [e2] at e1
        obtain ⟨a,us,rfl,h1,h2⟩:=Zaj G rv e2
        rw [ZqQ (show Zjb xs=some ns from e1)] at h2
        rw [ZmZ h2] at h1
        exact ⟨a,ns,rfl,SqL.of h1,ZR G (show RepV B H (.bl _) (.bl _) from rfl) w⟩
    · exact w.elim
  · exact w.elim
def ZhU:GM:=fun ds θ=>match ds with
  | [.int i,.int j]=>.ok (.int (if j<i then j else i)) θ
  | [.int i,.int j,.int k]=>.ok (.int (if j<i then (if k<j then k else j) else (if k<i then k else i))) θ
  | _=>.bad
def ZrX:GM:=fun ds θ=>match ds with
  | [.int i,.int j]=>.ok (.int (if j > i then j else i)) θ
  | _=>.bad
theorem RepL.three {B:Bx} {H:Hp} {d e f:D} {vs:List V} (r:RepL B H [d,e,f] vs):∃v u w,vs=[v,u,w]∧RepV B H d v∧RepV B H e u∧RepV B H f w:=by
  obtain ⟨v,q,rfl,hv,hq⟩:=r
  obtain ⟨u,w,rfl,hu,hw⟩:=hq.two
  exact ⟨v,u,w,rfl,hv,hu,hw⟩
theorem ZnF (hc:X.calm=true):CallR X (.builtin "min") (fun xs H Q=>∃i j k,xs=[.int i,.int j,.int k]∧Q (.int (if j<i then (if k<j then k else j) else (if k<i then k else i))) H):=by
  intro pins s σ H xs us Q I r h
  obtain ⟨i,j,k,rfl,q⟩:=h
  cases r with
  | cons r1 rr=>
    obtain ⟨u2,u3,e,r2,r3⟩:=Zpc rr
    subst e
    obtain ⟨t1,rfl⟩:=r1
    obtain ⟨t2,rfl⟩:=r2
    obtain ⟨t3,rfl⟩:=r3
    refine min_three_ints (I.ok.hd hc) fun h' tk kk=>⟨_,H,I.kept kk,?_,q⟩
    by_cases c1:j<i
    · by_cases c2:k<j
      · simp only [c1,c2,if_true]; exact ⟨_,rfl⟩
      · simp only [c1,c2,if_true,if_false]; exact ⟨_,rfl⟩
    · by_cases c2:k<i
      · simp only [c1,c2,if_true,if_false]; exact ⟨_,rfl⟩
      · simp only [c1,c2,if_false]; exact ⟨_,rfl⟩
theorem Zlr (hc:X.calm=true:=by rfl):CallR X (.builtin "min") (rC X ZhU):=by
  refine CallR.imp ((ZnG hc).or (ZnF hc)) fun vs H Q q=>?_
  obtain ⟨σ,B,θ,ds,G,r,w⟩:=q
  unfold ZhU at w
  split at w
  · rename_i i j
    obtain ⟨v,u,rfl,rv,ru⟩:=r.two
    cases (show v=V.int i from rv)
    cases (show u=V.int j from ru)
    exact .inl ⟨i,j,rfl,ZR G (show RepV B H (.int _) (.int _) from rfl) w⟩
  · rename_i i j k
    obtain ⟨v,u,z,rfl,rv,ru,rz⟩:=r.three
    cases (show v=V.int i from rv)
    cases (show u=V.int j from ru)
    cases (show z=V.int k from rz)
    exact .inr ⟨i,j,k,rfl,ZR G (show RepV B H (.int _) (.int _) from rfl) w⟩
  · exact w.elim
theorem Zwa (hc:X.calm=true:=by rfl):CallR X (.builtin "max") (rC X ZrX):=by
  refine CallR.imp (ZnH hc) fun vs H Q q=>?_
  obtain ⟨σ,B,θ,ds,G,r,w⟩:=q
  unfold ZrX at w
  split at w
  · rename_i i j
    obtain ⟨v,u,rfl,rv,ru⟩:=r.two
    cases (show v=V.int i from rv)
    cases (show u=V.int j from ru)
    exact ⟨i,j,rfl,ZR G (show RepV B H (.int _) (.int _) from rfl) w⟩
  · exact w.elim
def ZlX:GM:=fun ds θ=>match ds with
  | [.int i]=>.ok (.int i) θ
  | [.bl k]=>.ok (.int (if k then 1 else 0)) θ
  | _=>.bad
theorem ZqO:CallR X (.type "int") (rC X ZlX):=by
  refine CallR.imp ZnI fun vs H Q q=>?_
  obtain ⟨σ,B,θ,ds,G,r,w⟩:=q
  unfold ZlX at w
  split at w
  · rename_i i
    obtain ⟨v,rfl,rv⟩:=r.one
    cases (show v=V.int i from rv)
    exact .inl ⟨i,rfl,ZR G (show RepV B H (.int _) (.int _) from rfl) w⟩
  · rename_i k
    obtain ⟨v,rfl,rv⟩:=r.one
    cases (show v=V.bl k from rv)
    exact .inr ⟨k,rfl,ZR G (show RepV B H (.int _) (.int _) from rfl) w⟩
  · exact w.elim
def Zk8:GM:=fun ds θ=>match ds with
  | [d]=>match seqOf θ d with
    | some xs=>.ok (.lst xs) θ
    | none=>.bad
  | _=>.bad
theorem ZqN:CallR X (.type "list") (rC X Zk8):=by
  refine CallR.imp Zi9 fun vs H Q q=>?_
  obtain ⟨σ,B,θ,ds,G,r,w⟩:=q
  unfold Zk8 at w
  split at w
  · split at w
    · rename_i xs e1
      obtain ⟨v,rfl,rv⟩:=r.one
      obtain ⟨a,us,rfl,h1,h2⟩:=Zc1 G rv e1
      exact ⟨a,us,rfl,h1,Zfl G h2 w⟩
    · exact w.elim
  · exact w.elim
def Zfm:GM:=fun ds θ=>match ds with
  | [.tup xs]=>.ok (.tup xs) θ
  | [d]=>match ZaX θ d with
    | some xs=>.ok (.tup xs) θ
    | none=>.bad
  | _=>.bad
theorem Zg1:CallR X (.type "tuple") (rC X Zfm):=by
  refine CallR.imp ZhX fun vs H Q q=>?_
  obtain ⟨σ,B,θ,ds,G,r,w⟩:=q
  unfold Zfm at w
  split at w
  · rename_i xs
    obtain ⟨v,rfl,rv⟩:=r.one
    obtain ⟨a,us,rfl,h1,k1,l1⟩:=id rv
    exact ⟨a,us,rfl,.inr ⟨SqT.of h1,ZR G rv w⟩⟩
  · split at w
    · rename_i xs e1
      obtain ⟨v,rfl,rv⟩:=r.one
      obtain ⟨a,us,rfl,h1,h2⟩:=Zaj G rv e1
      exact ⟨a,us,rfl,.inl ⟨SqL.of h1,Zg4 G h2 w⟩⟩
    · exact w.elim
  · exact w.elim
inductive Ty | non | bl | int | str | lst | tup
def Ty.nm:Ty→String
  | .non=>"NoneType" | .bl=>"bool" | .int=>"int" | .str=>"str" | .lst=>"list" | .tup=>"tuple"
def tyD (θ:Sto):D→Option Ty
  | .non=>some .non
  | .bl _=>some .bl
  | .int _=>some .int
  | .str _=>some .str
  | .tup _=>some .tup
  | .scr _=>none
  | d=>(ZaX θ d).map fun _=>.lst
def isT:Ty→String→Option Bool
  | .non,"int"=>some false | .non,"bool"=>some false | .non,"list"=>some false | .non,"tuple"=>some false | .non,"str"=>some false
  | .bl,"int"=>some true | .bl,"bool"=>some true | .bl,"list"=>some false | .bl,"tuple"=>some false | .bl,"str"=>some false
  | .int,"int"=>some true | .int,"bool"=>some false | .int,"list"=>some false | .int,"tuple"=>some false | .int,"str"=>some false
  | .str,"int"=>some false | .str,"bool"=>some false | .str,"list"=>some false | .str,"tuple"=>some false | .str,"str"=>some true
  | .lst,"int"=>some false | .lst,"bool"=>some false | .lst,"list"=>some true | .lst,"tuple"=>some false | .lst,"str"=>some false
  | .tup,"int"=>some false | .tup,"bool"=>some false | .tup,"list"=>some false | .tup,"tuple"=>some true | .tup,"str"=>some false
  | _,_=>none
theorem Zud {K:PySem.W.Frag} {t:Ty} {n:String} {b:Bool} (h:isT t n=some b):PySem.W.kitOne K (.type t.nm) (.type n)=some b:=by
  unfold isT at h
  split at h<;>first | (cases h; with_unfolding_all rfl) | cases h
def ZgD:GM:=fun ds θ=>match ds with
  | [d,.ty n]=>match (tyD θ d).bind (isT · n) with
    | some b=>.ok (.bl b) θ
    | none=>.bad
  | _=>.bad
theorem Zs6 {B:Bx} {θ:Sto} {H:Hp} {K:PySem.W.Frag} (G:Good X.cl B θ H) {d:D} {v:V} {t:Ty} (r:RepV B H d v) (h:tyD θ d=some t):Zf5 K H v (.type t.nm):=by
  cases d with
  | non=>cases (show v=.non from r); cases h; exact .non
  | bl b=>cases (show v=.bl b from r); cases h; exact .bl b
  | int b=>cases (show v=.int b from r); cases h; exact .int b
  | str b=>cases (show v=.str b from r); cases h; exact .str b
  | tup xs=>obtain ⟨a,vs,rfl,h1,_⟩:=r; cases h; exact .tup h1
  | scr xs=>cases h
  | lst xs=>obtain ⟨a,vs,rfl,h1,_⟩:=r; cases h; exact .lst h1
  | ref l=>
    cases e:ZaX θ (.ref l) with
    | none=>simp only [tyD,e] at h; cases h
    | some xs=>
      simp only [tyD,e] at h
      cases h
      obtain ⟨a,us,rfl,h1,h2⟩:=Zaj G r e
      exact .lst h1
  | ty n=>cases h
theorem Zl4:CallR X (.builtin "isinstance") (rC X ZgD):=by
  refine CallR.imp Zlq fun vs H Q q=>?_
  obtain ⟨σ,B,θ,ds,G,r,w⟩:=q
  unfold ZgD at w
  split at w
  · rename_i d n
    split at w
    · rename_i b e1
      obtain ⟨v,u,rfl,rv,ru⟩:=r.two
      cases (show u=V.ty n from ru)
      cases e2:tyD θ d with
      | none=>rw [e2] at e1; cases e1
      | some t=>
        rw [e2] at e1
        exact ⟨v,n,_,b,rfl,Zs6 G rv e2,Zud e1,ZR G (show RepV B H (.bl _) (.bl _) from rfl) w⟩
    · exact w.elim
  · exact w.elim
end
end
end L2.MM
namespace L2.MM
open PySem PySem.Spec PyProof.Rows PySem.SeqAt
noncomputable section
variable {X:Cx}
inductive Src where
  | seq (d:D) | rng (lo:Int) (n:Nat)
def Src.items (θ:Sto):Src→Option (List D)
  | .seq d=>seqOf θ d
  | .rng lo n=>some ((List.range n).map fun (i:Nat)=>D.int (lo+(i:Int)))
def SrcRep (K:PySem.W.Frag) (B:Bx) (H:Hp):Src→It→Prop
  | .seq d,J=>∃a,RepV B H d (.ref a)∧J=(match d with | .tup _=>Itt K a | _=>Itl K a)
  | .rng lo n,J=>J=Itr lo n
abbrev IM:=List Sl→Sto→R Src
section
def tMI (X:Cx) (f:IM):TI:=fun σ H Q=>∃B θ ρ,Frm X.cl B θ ρ σ H∧wpR X σ (SrcRep X.K) B H (f ρ θ) Q
def MI (X:Cx) (tg iter:Expr) (f:IM):Prop:=PI X tg iter (tMI X f)
theorem PI.imp {tg iter:Expr} {t t':TI} (h:PI X tg iter t) (hi:∀σ H Q,t' σ H Q→t σ H Q):PI X tg iter t':=fun pins s σ H Q I q=>h pins s σ H Q I (hi σ H Q q)
theorem SrcRep.ext {K:PySem.W.Frag} {B B':Bx} {H H':Hp} {S:Src} {J:It} (r:SrcRep K B H S J) (E:ExtS B B' H H'):SrcRep K B' H' S J:=by
  cases S with
  | seq d=>obtain ⟨a,h,e⟩:=r; exact ⟨a,h.ext E,e⟩
  | rng lo n=>exact r
theorem ZiM {cl:Mo} {B:Bx} {θ:Sto} {H:Hp} {S:Src} {J:It} {xs:List D} (G:Good cl B θ H) (r:SrcRep cl.K B H S J) (h:S.items θ=some xs) :
    (∀i d,xs[i]?=some d→J.go i H∧∀x H',J.yld i H x H'→H'=H∧RepV B H d x)∧J.stop xs.length H:=by
  cases S with
  | rng lo n=>
    cases (show J=Itr lo n from r)
    cases h
    refine ⟨fun i d e=>?_,by show n≤_; simp⟩
    rw [List.getElem?_map] at e
    by_cases hi:i<n
    · rw [List.getElem?_range hi] at e
      cases e
      exact ⟨hi,fun x H' y=>⟨y.1,y.2⟩⟩
    · rw [List.getElem?_eq_none (by simpa using hi)] at e
      cases e
  | seq d=>
    obtain ⟨a,rv,e⟩:=r
    cases d with
    | tup ys=>
      obtain ⟨a',vs,e1,h1,_,h2⟩:=rv
      cases e1
      cases h
      simp only at e
      subst e
      refine ⟨fun i d e=>?_,⟨vs,SqT.of h1,by rw [h2.len]; exact Nat.le_refl _⟩⟩
      obtain ⟨v,q1,q2⟩:=h2.get e
      refine ⟨⟨vs,v,SqT.of h1,q1⟩,fun x H' y=>⟨y.1,?_⟩⟩
      have:=y.2 vs (SqT.of h1)
      rw [q1] at this
      cases this
      exact q2
    | scr ns=>
      cases h
      obtain ⟨a',vs',e1,h1,_⟩:=Zc1 G rv (show seqOf θ (.scr ns)=some (ns.map D.int) from rfl)
      cases e1
      simp only at e
      subst e
      have hS:SqL cl.K H a (ns.map V.int):=by
        obtain ⟨a',e1,h1⟩:=rv
        cases e1
        rcases h1 with ⟨o,h1,_⟩ | h1
        · exact .inl (.inr ⟨o,h1⟩)
        · exact .inr (G.kc a ns h1)
      have h2:RepL B H (ns.map D.int) (ns.map V.int):=RepL.map (f:=D.int) (g:=V.int) (fun _=>rfl) ns
      refine ⟨fun i d e=>?_,⟨ns.map V.int,hS,by simp⟩⟩
      obtain ⟨v,q1,q2⟩:=h2.get e
      refine ⟨⟨_,v,hS,q1⟩,fun x H' y=>⟨y.1,?_⟩⟩
      have:=y.2 _ hS
      rw [q1] at this
      cases this
      exact q2
    | lst ys=>
      obtain ⟨a',vs,e1,h1,h2⟩:=Zaj G rv (show ZaX θ (.lst ys)=some xs from h)
      cases e1
      simp only at e
      subst e
      refine ⟨fun i d e=>?_,⟨vs,SqL.of h1,by rw [h2.len]; exact Nat.le_refl _⟩⟩
      obtain ⟨v,q1,q2⟩:=h2.get e
      refine ⟨⟨vs,v,SqL.of h1,q1⟩,fun x H' y=>⟨y.1,?_⟩⟩
      have:=y.2 vs (SqL.of h1)
      rw [q1] at this
      cases this
      exact q2
    | ref l=>
      obtain ⟨a',vs,e1,h1,h2⟩:=Zaj G rv (show ZaX θ (.ref l)=some xs from h)
      cases e1
      simp only at e
      subst e
      refine ⟨fun i d e=>?_,⟨vs,SqL.of h1,by rw [h2.len]; exact Nat.le_refl _⟩⟩
      obtain ⟨v,q1,q2⟩:=h2.get e
      refine ⟨⟨vs,v,SqL.of h1,q1⟩,fun x H' y=>⟨y.1,?_⟩⟩
      have:=y.2 vs (SqL.of h1)
      rw [q1] at this
      cases this
      exact q2
    | non=>cases h
    | bl _=>cases h
    | int _=>cases h
    | str _=>cases h
    | ty _=>cases h
def Zzj (K:PySem.W.Frag) (tl:TE):TI:=fun σ H R=>tl σ H fun x H1=>∃a,x=.ref a∧(((∃xs,SqL K H1 a xs)∧R (Itl K a) H1)∨((∃xs,SqT K H1 a xs)∧R (Itt K a) H1))
theorem ZtI {tg l:Expr} {tl:TE} (hl:PE X l tl):PI X tg l (Zzj X.K tl):=by
  intro pins s σ H R I h
  refine thn (hl pins s σ H _ I h) fun v s1 ⟨x,H1,I1,r1,q1⟩=>?_
  obtain ⟨a,e,q1⟩:=q1
  subst e
  cases r1
  rcases q1 with ⟨⟨xs,hq⟩,q⟩ | ⟨⟨xs,hq⟩,q⟩
  · obtain ⟨its,rv,p,hz⟩:=I1.list hq
    refine wpAny_pyIter_list p.isList ?_
    refine ⟨s1.heap.objs.size,[s1.heap.objs.size],_,_,H1,rfl,I1.kept (t':=s1.toks) fun b o e=>Heap.get?_push_of_some _ e,Zm9 a _,⟨_,Heap.get?_push_size _ rfl,rfl,rfl⟩,fun b hb=>?_,q⟩
    have e:b=s1.heap.objs.size:=by simpa using hb
    subst e
    exact I1.fpOk (Nat.le_refl _) (I1.hok.fresh (Nat.le_refl _))
  · obtain ⟨its,rv,p,hz⟩:=I1.tuple hq
    refine wpAny_pyIter_tuple (show s1.heap.IsTuple a its.toArray from p) ?_
    refine ⟨s1.heap.objs.size,[s1.heap.objs.size],_,_,H1,rfl,I1.kept (t':=s1.toks) fun b o e=>Heap.get?_push_of_some _ e,ZlB a _,⟨_,Heap.get?_push_size _ rfl,rfl,rfl⟩,fun b hb=>?_,q⟩
    have e:b=s1.heap.objs.size:=by simpa using hb
    subst e
    exact I1.fpOk (Nat.le_refl _) (I1.hok.fresh (Nat.le_refl _))
def mIn (f:EM):IM:=fun ρ θ=>(f ρ θ).bind fun d θ=>match seqOf θ d with
  | some _=>.ok (.seq d) θ
  | none=>.bad
theorem Zp5 {tg l:Expr} {f:EM} (h:ME X l f):MI X tg l (mIn f):=by
  refine PI.imp (ZtI h) fun σ H R q=>?_
  obtain ⟨B,θ,ρ,F,w⟩:=q
  refine ZZ (step F w) ?_
  rintro v H1 ⟨B1,θ1,d,E1,F1,rd,w1⟩
  split at w1
  · rename_i xs e
    obtain ⟨a,vs,rfl,h1,h2⟩:=Zc1 F1.good rd e
    refine ⟨a,rfl,?_⟩
    have fin:=fun J (hJ:SrcRep X.K B1 H1 (.seq d) J)=>ZR (Rel:=SrcRep X.K) F1.good hJ w1
    cases d with
    | tup ys=>
      obtain ⟨a',us,e1,g1,_,_⟩:=id rd
      cases e1
      exact .inr ⟨⟨us,SqT.of g1⟩,fin _ ⟨a,rd,rfl⟩⟩
    | scr ns=>
      have hS:SqL X.K H1 a (ns.map V.int):=by
        obtain ⟨a',e1,g1⟩:=id rd
        cases e1
        rcases g1 with ⟨o,g1,_⟩ | g1
        · exact .inl (.inr ⟨o,g1⟩)
        · exact .inr (F1.good.kc a ns g1)
      exact .inl ⟨⟨_,hS⟩,fin _ ⟨a,rd,rfl⟩⟩
    | lst ys=>
      obtain ⟨a',us,e1,g1,_⟩:=Zaj F1.good rd (show ZaX θ1 (.lst ys)=some xs from e)
      cases e1
      exact .inl ⟨⟨us,SqL.of g1⟩,fin _ ⟨a,rd,rfl⟩⟩
    | ref l=>
      obtain ⟨a',us,e1,g1,_⟩:=Zaj F1.good rd (show ZaX θ1 (.ref l)=some xs from e)
      cases e1
      exact .inl ⟨⟨us,SqL.of g1⟩,fin _ ⟨a,rd,rfl⟩⟩
    | non=>cases e
    | bl _=>cases e
    | int _=>cases e
    | str _=>cases e
    | ty _=>cases e
  · exact w1.elim
def Zcy (f:AM):IM:=fun ρ θ=>(f ρ θ).bind fun ds θ=>match ds with
  | [.int j]=>if -1000000≤j∧j≤1000000 then .ok (.rng 0 j.toNat) θ else .bad
  | _=>.bad
theorem ZcX {tg a:Expr} {f:AM} {p pos:Pos} (hm:X.mg "range"=none) (ha:MA X [a] f) (hg:Gl X "range":=by rfl) (hs:starEach [a] X.env=[(false,eval a X.env)]:=by rfl):MI X tg (.Call (.Name "range" p) [a] [] pos) (Zcy f):=by
  refine PI.imp (Znl hg hm ha hs) fun σ H R q=>?_
  obtain ⟨B,θ,ρ,F,w⟩:=q
  refine ZbX (Zhc F w) ?_
  rintro vs H1 ⟨B1,θ1,ds,E1,F1,rd,w1⟩
  split at w1
  · rename_i j
    split at w1
    · rename_i hj
      obtain ⟨v,rfl,rv⟩:=rd.one
      cases (show v=V.int j from rv)
      exact ⟨j,rfl,by have:=hj.1; omega,by have:=hj.2; omega,ZR (Rel:=SrcRep X.K) F1.good (show SrcRep X.K B1 H1 (.rng 0 j.toNat) _ from rfl) w1⟩
    · exact w1.elim
  · exact w1.elim
def ZeG (src:List Nat) (ρ:List Sl) (x:D):List Sl:=Sl.val x::src.map fun (j:Nat)=>match ρ[j]? with
  | some (Sl.val d)=>Sl.val d
  | _=>Sl.no
theorem Frm.inner {B:Bx} {θ:Sto} {ρ:List Sl} {σ:St} {H:Hp} (F:Frm X.cl B θ ρ σ H) (src:List Nat) {x:D} {v:V} (r:RepV B H x v):Frm X.cl B θ (ZeG src ρ x) (L2.inner src σ (some v)) H:=by
  have key:∀(i:Nat) (s:Sl),(ZeG src ρ x)[i]?=some s→s=.no∨∃d,s=.val d∧∃v',(L2.inner src σ (some v))[i]?=some (some v')∧RepV B H d v':=fun i s e=>by
    cases i with
    | zero=>simp [ZeG] at e; subst e; exact .inr ⟨x,rfl,v,by simp [L2.inner],r⟩
    | succ i=>
      simp only [ZeG,List.getElem?_cons_succ,List.getElem?_map] at e
      simp only [L2.inner,List.getElem?_cons_succ,List.getElem?_map]
      cases q:src[i]? with
      | none=>rw [q] at e; cases e
      | some j=>
        rw [q] at e
        simp only [Option.map_some,Option.some.injEq] at e
        split at e
        · rename_i d ed
          subst e
          obtain ⟨v',h1,h2⟩:=F.val j d ed
          exact .inr ⟨d,rfl,v',by simp [h1],h2⟩
        · exact .inl e.symm
  refine ⟨F.good,by simp [ZeG,L2.inner],fun i d e=>?_,fun i xs e=>?_,fun i j xs ys a _ e _=>?_⟩
  · rcases key i _ e with z | ⟨d',z,v',h1,h2⟩
    · cases z
    · cases z; exact ⟨v',h1,h2⟩
  · rcases key i _ e with z | ⟨d',z,_⟩<;>cases z
  · rcases key i _ e with z | ⟨d',z,_⟩<;>cases z
open Classical in
def ZgF (S:Src) (all:List D) (elt:D→Sto→R D):List D→List D→Sto→R D
  | [],acc,θ=>if S.items θ=some all∧acc.length≤BIG then .ok (.lst acc) θ else .bad
  | x::r,acc,θ=>if S.items θ=some all then (elt x θ).bind fun y θ=>ZgF S all elt r (acc++[y]) θ else .bad
def ZcP (fi:IM) (src:List Nat) (elt:EM):EM:=fun ρ θ=>(fi ρ θ).bind fun S θ=>match S.items θ with
  | some xs=>if xs.length≤BIG then ZgF S xs (fun x θ=>elt (ZeG src ρ x) θ) xs [] θ else .bad
  | none=>.bad
open Classical in
theorem Zmi {fi:IM} {src:List Nat} {elt:EM} (σ:St) (H:Hp) (Q:VK) (h:tM X (ZcP fi src elt) σ H Q):tLc (tMI X fi) src (tM X elt) σ H Q:=by
  obtain ⟨B,θ,ρ,F,w⟩:=h
  refine ⟨B,θ,ρ,F,(wpR.bind (Rel:=SrcRep X.K) w).mono ?_⟩
  rintro J H1 ⟨B1,θ1,S,E1,G1,rJ,w1⟩
  split at w1
  · rename_i xs e1
    split at w1
    · rename_i hz
      refine ⟨xs.length,fun i ys H'=>∃B' θ' acc,ExtE B1 B' H1 H'∧Good X.cl B' θ' H'∧RepL B' H' acc ys∧wpR X σ RepV B' H' (ZgF S xs (fun x θ=>elt (ZeG src ρ x) θ) (xs.drop i) acc θ') Q,Zak hz,?_,?_,?_⟩
      · exact ⟨B1,θ1,[],ExtE.refl _ _,G1,rfl,w1⟩
      · rintro i ys H' hi ⟨B2,θ2,acc,E2,G2,racc,w2⟩
        rw [List.drop_eq_getElem_cons hi] at w2
        unfold ZgF at w2
        split at w2
        · rename_i e2
          obtain ⟨g1,g2⟩:=(ZiM G2 (rJ.ext E2.toExtS) e2).1 i xs[i] (List.getElem?_eq_getElem hi)
          refine ⟨g1,fun y H3 hy=>?_⟩
          obtain ⟨rfl,ry⟩:=g2 y H3 hy
          have F2:=(F.ext (E1.trans E2) G2).inner src ry
          refine ⟨B2,θ2,_,F2,(wpR.bind (Rel:=RepV) w2).mono ?_⟩
          rintro z H4 ⟨B4,θ4,d,E4,G4,rd,w4⟩
          exact ⟨B4,θ4,acc++[d],E2.trans E4,G4,(racc.ext E4.toExtS).app ⟨z,[],rfl,rd,rfl⟩,w4⟩
        · exact w2.elim
      · rintro ys H' ⟨B2,θ2,acc,E2,G2,racc,w2⟩
        rw [List.drop_length] at w2
        unfold ZgF at w2
        split at w2
        · rename_i e2
          exact ⟨(ZiM G2 (rJ.ext E2.toExtS) e2.1).2,Zfl G2 racc w2⟩
        · exact w2.elim
    · exact w1.elim
  · exact w1.elim
theorem ZsM {x:Str} {px pos:Pos} {iter elt:Expr} {scope:Scope} {N':List Str} {src:List Nat} {sc:Scope} {N:List Str} {fi:IM} {fe:EM} (S:Za5 scope sc x N N' src) (hsc:X.env.scope=sc) (hN:X.N=N) (hi:MI X (.Name x px) iter fi)
    (helt:∀(cl:List (Str×Addr)) (C:Addr) (s₀:Shared) (H₀:Hp) (fp:List Addr),ME (X.comp scope N' cl C s₀ H₀ fp) elt fe) (hcm:X.calm=true:=by rfl) (hs:∀v,foldedSetIterable iter X.env v=pure v:=by intro _; rfl) :
    ME X (.ListComp elt [⟨.Name x px,iter,[],0⟩] scope pos) (ZcP fi src fe):=
  PE.imp (ZvB (te:=tM X fe) S hsc hN hi (fun cl C s₀ H₀ fp=>helt cl C s₀ H₀ fp) hcm hs) Zmi
inductive Fl where
  | nx | rt (d:D) | bk | ct
abbrev SM:=List Sl→Sto→R (Fl×List Sl)
def ZsT (Dn:Zfd) (B:Bx) (σ:St) (H:Hp):Fl→Prop
  | .nx=>Dn.nx σ H
  | .bk=>Dn.bk σ H
  | .ct=>Dn.ct σ H
  | .rt d=>∀v,RepV B H d v→Dn.rt v H
def wpS (X:Cx) (σ:St) (B:Bx) (H:Hp) (r:R (Fl×List Sl)) (Dn:Zfd):Prop:=match r with
  | .ok (fl,ρ') θ'=>∀B' H' σ',ExtS B B' H H'→Frm X.cl B' θ' ρ' σ' H'→ZsT Dn B' σ' H' fl
  | .ex c θ'=>XE X σ B H c θ'
  | .bad=>False
def tMS (X:Cx) (f:SM):TS:=fun Dn σ H=>∃B θ ρ,Frm X.cl B θ ρ σ H∧wpS X σ B H (f ρ θ) Dn
def MS (X:Cx) (st:Stmt) (f:SM):Prop:=PS X st (tMS X f)
def MSs (X:Cx) (sts:List Stmt) (f:SM):Prop:=PSs X sts (tMS X f)
theorem PS.imp {st:Stmt} {t t':TS} (h:PS X st t) (hi:∀D σ H,t' D σ H→t D σ H):PS X st t':=fun pins s σ H D I q=>h pins s σ H D I (hi D σ H q)
theorem PSs.imp {st:List Stmt} {t t':TS} (h:PSs X st t) (hi:∀D σ H,t' D σ H→t D σ H):PSs X st t':=fun pins s σ H D I q=>h pins s σ H D I (hi D σ H q)
theorem wpS.trans {σ σ':St} {B B':Bx} {H H':Hp} {r:R (Fl×List Sl)} {Dn:Zfd} (h:wpS X σ B H r Dn) (E:ExtS B B' H H'):wpS X σ' B' H' r Dn:=by
  cases r with
  | ok a θ'=>exact fun B2 H2 σ2 e g=>h B2 H2 σ2 (E.trans e) g
  | ex c θ'=>exact h
  | bad=>exact h
theorem wpS.bind {α β:Type} {Rel:Bx→Hp→α→β→Prop} {σ:St} {B:Bx} {H:Hp} {r:R α} {k:α→Sto→R (Fl×List Sl)} {Dn:Zfd} (h:wpS X σ B H (r.bind k) Dn) :
    wpR X σ Rel B H r (fun b H1=>∃B1 θ1 a,ExtE B B1 H H1∧Good X.cl B1 θ1 H1∧Rel B1 H1 a b∧wpS X σ B1 H1 (k a θ1) Dn):=by
  cases r with
  | ok a θ'=>exact fun B1 H1 b E g q=>⟨B1,θ',a,E,g,q,wpS.trans h E.toExtS⟩
  | ex c θ'=>exact h
  | bad=>exact h
theorem Zfe {σ:St} {H:Hp} {B:Bx} {θ:Sto} {ρ:List Sl} {f:EM} {k:D→Sto→R (Fl×List Sl)} {Dn:Zfd} (F:Frm X.cl B θ ρ σ H) (h:wpS X σ B H ((f ρ θ).bind k) Dn) :
    tM X f σ H (fun v H1=>∃B1 θ1 d,ExtE B B1 H H1∧Frm X.cl B1 θ1 ρ σ H1∧RepV B1 H1 d v∧wpS X σ B1 H1 (k d θ1) Dn):=
  ⟨B,θ,ρ,F,(wpS.bind (Rel:=RepV) h).mono fun v H1 ⟨B1,θ1,d,E,G,r,w⟩=>⟨B1,θ1,d,E,F.ext E G,r,w⟩⟩
theorem Zpo {σ:St} {H:Hp} {B:Bx} {θ:Sto} {ρ:List Sl} {f:TMr} {k:Bool→Sto→R (Fl×List Sl)} {Dn:Zfd} (F:Frm X.cl B θ ρ σ H) (h:wpS X σ B H ((f ρ θ).bind k) Dn) :
    tMT X f σ H (fun c H1=>∃B1 θ1,ExtE B B1 H H1∧Frm X.cl B1 θ1 ρ σ H1∧wpS X σ B1 H1 (k c θ1) Dn):=
  ⟨B,θ,ρ,F,(wpS.bind (Rel:=EqB) h).mono fun v H1 ⟨B1,θ1,d,E,G,r,w⟩=>by cases (show d=v from r); exact ⟨B1,θ1,E,F.ext E G,w⟩⟩
theorem ZdQ {σ:St} {B:Bx} {H:Hp} {θ:Sto} {ρ:List Sl} {fl:Fl} {Dn:Zfd} (F:Frm X.cl B θ ρ σ H) (h:wpS X σ B H (.ok (fl,ρ) θ) Dn):ZsT Dn B σ H fl:=h B H σ (ExtS.refl B H) F
def ZO:SM:=fun ρ θ=>.ok (.nx,ρ) θ
def Zg9 (r:R (Fl×List Sl)) (k:SM):R (Fl×List Sl):=r.bind fun p θ=>match p with
  | (.nx,ρ)=>k ρ θ
  | p=>.ok p θ
def Zn (f g:SM):SM:=fun ρ θ=>Zg9 (f ρ θ) g
theorem ZB:MSs X [] ZO:=PSs.imp Zrz fun D σ H h=>by
  obtain ⟨B,θ,ρ,F,w⟩:=h
  exact ZdQ F w
theorem wpS.seq {σ:St} {B:Bx} {H:Hp} {r:R (Fl×List Sl)} {g:SM} {Dn:Zfd} (w:wpS X σ B H (Zg9 r g) Dn):wpS X σ B H r { Dn with nx:=tMS X g Dn }:=by
  cases r with
  | ex c θ'=>exact w
  | bad=>exact w
  | ok p θ'=>
    obtain ⟨fl,ρ'⟩:=p
    intro B' H' σ' E F
    cases fl with
    | nx=>exact ⟨B',θ',ρ',F,wpS.trans w E⟩
    | bk=>exact w B' H' σ' E F
    | ct=>exact w B' H' σ' E F
    | rt d=>exact w B' H' σ' E F
theorem Ze {st:Stmt} {rest:List Stmt} {f g:SM} (h1:MS X st f) (h2:MSs X rest g):MSs X (st::rest) (Zn f g):=PSs.imp (Zpy h1 h2) fun D σ H h=>by
  obtain ⟨B,θ,ρ,F,w⟩:=h
  exact ⟨B,θ,ρ,F,wpS.seq w⟩
theorem Zj {st:Stmt} {f:SM} (h1:MS X st f):MSs X [st] f:=Zry h1
def Zr0:SM:=fun _ _=>.bad
theorem Zp3 {st:Stmt}:MS X st Zr0:=fun _ _ _ _ _ _ h=>by obtain ⟨_,_,_,_,w⟩:=h; exact w.elim
def zu (f:EM):SM:=fun ρ θ=>(f ρ θ).bind fun _ θ=>.ok (.nx,ρ) θ
theorem ZV {e:Expr} {f:EM} {pos:Pos} (he:ME X e f) (hs:swapsWith e none pos.line X.env=pure false:=by rfl):MS X (.Expr e pos) (zu f):=PS.imp (Zmq he hs) fun D σ H h=>by
  obtain ⟨B,θ,ρ,F,w⟩:=h
  refine ZZ (Zfe F w) ?_
  rintro v H1 ⟨B1,θ1,d,E1,F1,rd,w1⟩
  exact ZdQ F1 w1
def ZP (f:EM):SM:=fun ρ θ=>(f ρ θ).bind fun d θ=>.ok (.rt d,ρ) θ
theorem Zx {e:Expr} {f:EM} {pos:Pos} (he:ME X e f):MS X (.Return (some e) pos) (ZP f):=PS.imp (ZtD he) fun D σ H h=>by
  obtain ⟨B,θ,ρ,F,w⟩:=h
  refine ZZ (Zfe F w) ?_
  rintro v H1 ⟨B1,θ1,d,E1,F1,rd,w1⟩
  exact ZdQ F1 w1 v rd
def ZfN:SM:=fun ρ θ=>.ok (.rt .non,ρ) θ
theorem ZdW {pos:Pos}:MS X (.Return none pos) ZfN:=PS.imp ZrA fun D σ H h=>by
  obtain ⟨B,θ,ρ,F,w⟩:=h
  exact ZdQ F w .non rfl
def mIf (t:TMr) (f g:SM):SM:=fun ρ θ=>(t ρ θ).bind fun k θ=>if k=true then f ρ θ else g ρ θ
theorem ZK {c:Expr} {a b:List Stmt} {t:TMr} {f g:SM} {pos:Pos} (hc:MT X c t) (ha:MSs X a f) (hb:MSs X b g):MS X (.If c a b pos) (mIf t f g):=PS.imp (Zvs hc ha hb) fun D σ H h=>by
  obtain ⟨B,θ,ρ,F,w⟩:=h
  refine ZdD (Zpo F w) ?_
  rintro k H1 ⟨B1,θ1,E1,F1,w1⟩
  cases k with
  | true=>rw [if_pos rfl] at w1 ⊢; exact ⟨B1,θ1,ρ,F1,w1⟩
  | false=>rw [if_neg Bool.false_ne_true] at w1 ⊢; exact ⟨B1,θ1,ρ,F1,w1⟩
theorem Frm.set {B:Bx} {θ:Sto} {ρ:List Sl} {σ:St} {H:Hp} (F:Frm X.cl B θ ρ σ H) (i:Nat) {d:D} {v:V} (r:RepV B H d v):Frm X.cl B θ (ρ.set i (.val d)) (σ.set i (some v)) H:=by
  have oth:∀(j:Nat) (s:Sl),(ρ.set i (Sl.val d))[j]?=some s→(j=i∧s=.val d∧j < σ.length)∨(j≠i∧ρ[j]?=some s):=fun j s e=>by
    by_cases q:j=i
    · subst q
      have hl:j < ρ.length:=by
        have:=(List.getElem?_eq_some_iff.mp e).1
        simpa using this
      rw [List.getElem?_set_self hl] at e
      cases e
      exact .inl ⟨rfl,rfl,by rw [←F.len]; exact hl⟩
    · rw [List.getElem?_set_ne (Ne.symm q)] at e
      exact .inr ⟨q,e⟩
  refine ⟨F.good,by simp [F.len],fun j e h=>?_,fun j xs h=>?_,fun j k xs ys a hne h1 h2 h3=>?_⟩
  · rcases oth j _ h with ⟨rfl,z,hl⟩ | ⟨q,z⟩
    · cases z; exact ⟨v,by rw [List.getElem?_set_self hl],r⟩
    · rw [List.getElem?_set_ne (Ne.symm q)]; exact F.val j e z
  · rcases oth j _ h with ⟨rfl,z,hl⟩ | ⟨q,z⟩
    · cases z
    · rw [List.getElem?_set_ne (Ne.symm q)]; exact F.own j xs z
  · rcases oth j _ h1 with ⟨_,z,_⟩ | ⟨q1,z1⟩
    · cases z
    · rcases oth k _ h2 with ⟨_,z,_⟩ | ⟨q2,z2⟩
      · cases z
      · rw [List.getElem?_set_ne (Ne.symm q1)] at h3
        rw [List.getElem?_set_ne (Ne.symm q2)]
        exact F.ne j k xs ys a hne z1 z2 h3
def ZL (i:Nat) (f:EM):SM:=fun ρ θ=>(f ρ θ).bind fun d θ=>.ok (.nx,ρ.set i (.val d)) θ
theorem ZA (i:Nat) {x:Str} {e:Expr} {f:EM} {pos pos':Pos} (hN:X.N.Nodup) (he:ME X e f) (hi:X.N[i]?=some x:=by rfl) (hx:Loc X.env.scope x:=by first | exact Or.inl rfl | exact Or.inr rfl)
    (hs:swapsWith e (some (.Name x pos')) pos.line X.env=pure false:=by rfl) (hf:X.fn x=true∨X.env.scope.names.lookup x=some .local:=by first | exact .inl rfl | exact .inr rfl):MS X (.Assign [.Name x pos'] e pos) (ZL i f):=
  PS.imp (ZpA hN hi hx he hs hf) fun D σ H h=>by
  obtain ⟨B,θ,ρ,F,w⟩:=h
  refine ZZ (Zfe F w) ?_
  rintro v H1 ⟨B1,θ1,d,E1,F1,rd,w1⟩
  exact w1 B1 H1 _ (ExtS.refl _ _) (F1.set i rd)
theorem Zk2 (i:Nat) {x y:Str} {px py pos spos:Pos} {iter elt:Expr} {scope:Scope} {N':List Str} {src:List Nat} {sc:Scope} {N:List Str} {fi:IM} {fe:EM} (hnd:X.N.Nodup) (S:Za5 scope sc x N N' src) (hsc:X.env.scope=sc) (hN:X.N=N) (hi:MI X (.Name x px) iter fi)
    (helt:∀(cl:List (Str×Addr)) (C:Addr) (s₀:Shared) (H₀:Hp) (fp:List Addr),ME (X.comp scope N' cl C s₀ H₀ fp) elt fe) (hi':X.N[i]?=some y:=by rfl)
    (hsw:swapsWith (.ListComp elt [⟨.Name x px,iter,[],0⟩] scope pos) (some (.Name y py)) spos.line X.env=pure true:=by rfl)
    (hy:X.env.scope.names.lookup y=some .local:=by rfl) (hcm:X.calm=true:=by rfl) (hs:∀v,foldedSetIterable iter X.env v=pure v:=by intro _; rfl) :
    MS X (.Assign [.Name y py] (.ListComp elt [⟨.Name x px,iter,[],0⟩] scope pos) spos) (ZL i (ZcP fi src fe)):=
  PS.imp (Zvr (te:=tM X fe) hnd hi' S hsc hN hi (fun cl C s₀ H₀ fp=>helt cl C s₀ H₀ fp) hsw hy hcm hs) fun D σ H h=>by
  obtain ⟨B,θ,ρ,F,w⟩:=h
  refine Zmi σ H _ (ZZ (Zfe F w) ?_)
  rintro v H1 ⟨B1,θ1,d,E1,F1,rd,w1⟩
  exact w1 B1 H1 _ (ExtS.refl _ _) (F1.set i rd)
end
end
end L2.MM
namespace L2.MM
open PySem PySem.Spec PyProof.Rows PySem.SeqAt
noncomputable section
variable {X:Cx}
def Zef (k:SM):Fl×List Sl→Sto→R (Fl×List Sl)
  | (.nx,ρ),θ=>k ρ θ
  | (.ct,ρ),θ=>k ρ θ
  | (.bk,ρ),θ=>.ok (.nx,ρ) θ
  | (.rt d,ρ),θ=>.ok (.rt d,ρ) θ
theorem wpS.loop {σ:St} {B:Bx} {H:Hp} {r:R (Fl×List Sl)} {k:SM} {Dn:Zfd} (w:wpS X σ B H (r.bind (Zef k)) Dn) :
    wpS X σ B H r { Dn with nx:=fun σ' H'=>∃B' θ' ρ',ExtS B B' H H'∧Frm X.cl B' θ' ρ' σ' H'∧wpS X σ' B' H' (k ρ' θ') Dn,ct:=fun σ' H'=>∃B' θ' ρ',ExtS B B' H H'∧Frm X.cl B' θ' ρ' σ' H'∧wpS X σ' B' H' (k ρ' θ') Dn,bk:=Dn.nx }:=by
  cases r with
  | ex c θ'=>exact w
  | bad=>exact w
  | ok p θ'=>
    obtain ⟨fl,ρ'⟩:=p
    intro B' H' σ' E F
    cases fl with
    | nx=>exact ⟨B',θ',ρ',E,F,wpS.trans w E⟩
    | ct=>exact ⟨B',θ',ρ',E,F,wpS.trans w E⟩
    | bk=>exact w B' H' σ' E F
    | rt d=>exact w B' H' σ' E F
abbrev TgM:=D→List Sl→Option (List Sl)
def tMG (X:Cx) (g:TgM):TG:=fun v σ H Q=>∃B θ ρ d ρ',Frm X.cl B θ ρ σ H∧RepV B H d v∧g d ρ=some ρ'∧∀σ',Frm X.cl B θ ρ' σ' H→Q σ' H
def MG (X:Cx) (tg:Expr) (g:TgM):Prop:=PG X tg (tMG X g)
theorem PG.imp {tg:Expr} {t t':TG} (h:PG X tg t) (hi:∀v σ H Q,t' v σ H Q→t v σ H Q):PG X tg t':=fun pins s σ H v u Q I r q=>h pins s σ H v u Q I r (hi v σ H Q q)
def gNm (i:Nat):TgM:=fun d ρ=>some (ρ.set i (.val d))
theorem ZgY (i:Nat) {x:Str} {pos:Pos} (hN:X.N.Nodup) (hi:X.N[i]?=some x:=by rfl) (hx:Loc X.env.scope x:=by first | exact Or.inl rfl | exact Or.inr rfl) (hf:X.fn x=true∨X.env.scope.names.lookup x=some .local:=by first | exact .inl rfl | exact .inr rfl):MG X (.Name x pos) (gNm i):=
  PG.imp (ZfG hN hi hx hf) fun v σ H Q h=>by
  obtain ⟨B,θ,ρ,d,ρ',F,r,e,q⟩:=h
  cases e
  exact q _ (F.set i r)
open Classical in
def Zd2 (S:Src) (all:List D) (tg:TgM) (body:SM):List D→SM
  | []=>fun ρ θ=>if S.items θ=some all then .ok (.nx,ρ) θ else .bad
  | x::r=>fun ρ θ=>if S.items θ=some all then (match tg x ρ with
    | none=>.bad
    | some ρ1=>(body ρ1 θ).bind (Zef (Zd2 S all tg body r))) else .bad
def ZgS (fi:IM) (tg:TgM) (body:SM):SM:=fun ρ θ=>(fi ρ θ).bind fun S θ=>match S.items θ with
  | some xs=>Zd2 S xs tg body xs ρ θ
  | none=>.bad
open Classical in
theorem ZiX {tg iter:Expr} {body:List Stmt} {fi:IM} {g:TgM} {fb:SM} {pos:Pos} (hp:PassesOwn (model X.prog X.w) X.A X.env X.xe) (hi:MI X tg iter fi) (hg:MG X tg g) (hb:MSs X body fb) (hc:X.calm=true:=by rfl)
    (hs:∀x,foldedSetIterable iter X.env x=pure x:=by intro _; rfl):MS X (.For tg iter body [] pos) (ZgS fi g fb):=
  PS.imp (ZpB hp hc hi hg hb hs) fun Dn σ H h=>by
  obtain ⟨B,θ,ρ,F,w⟩:=h
  refine ⟨B,θ,ρ,F,(wpS.bind (Rel:=SrcRep X.K) w).mono ?_⟩
  rintro J H1 ⟨B1,θ1,S,E1,G1,rJ,w1⟩
  split at w1
  · rename_i xs e1
    refine ⟨fun i m σ H=>∃B θ ρ,Frm X.cl B θ ρ σ H∧SrcRep X.K B H S J∧m=xs.length-i∧i≤xs.length∧wpS X σ B H (Zd2 S xs g fb (xs.drop i) ρ θ) Dn,⟨xs.length,B1,θ1,ρ,F.ext E1 G1,rJ,rfl,Nat.zero_le _,w1⟩,?_⟩
    rintro i m σ2 H2 ⟨B2,θ2,ρ2,F2,rJ2,rfl,hi2,w2⟩
    by_cases hlt:i<xs.length
    · rw [List.drop_eq_getElem_cons hlt] at w2
      unfold Zd2 at w2
      split at w2
      · rename_i e2
        obtain ⟨g1,g2⟩:=(ZiM F2.good rJ2 e2).1 i xs[i] (List.getElem?_eq_getElem hlt)
        split at w2
        · exact w2.elim
        · rename_i ρ3 e3
          refine .inr ⟨g1,fun σ' H'=>∃B' θ' ρ',ExtS B2 B' H2 H'∧Frm X.cl B' θ' ρ' σ' H'∧wpS X σ' B' H' (Zd2 S xs g fb (xs.drop (i+1)) ρ' θ') Dn,?_,fun x H' hy=>?_⟩
          · rintro σ' H' ⟨B',θ',ρ',E',F',w'⟩
            exact ⟨xs.length-(i+1),by omega,B',θ',ρ',F',rJ2.ext E',rfl,hlt,w'⟩
          · obtain ⟨rfl,rx⟩:=g2 x H' hy
            refine ⟨B2,θ2,ρ2,xs[i],ρ3,F2,rx,e3,fun σ' F'=>⟨B2,θ2,ρ3,F',?_⟩⟩
            have w3:=wpS.loop w2
            exact wpS.trans w3 (ExtS.refl _ _)
      · exact w2.elim
    · have e:i=xs.length:=by omega
      subst e
      rw [List.drop_length] at w2
      unfold Zd2 at w2
      split at w2
      · rename_i e2
        exact .inl ⟨(ZiM F2.good rJ2 e2).2,ZdQ F2 w2⟩
      · exact w2.elim
  · exact w1.elim
def zY (t:TMr) (body:SM):Nat→SM
  | 0=>Zr0
  | n+1=>fun ρ θ=>(t ρ θ).bind fun k θ=>if k=true then (body ρ θ).bind (Zef (zY t body n)) else .ok (.nx,ρ) θ
theorem Zez (n:Nat) {c:Expr} {body:List Stmt} {t:TMr} {fb:SM} {pos:Pos} (hp:PassesOwn (model X.prog X.w) X.A X.env X.xe) (hc:MT X c t) (hb:MSs X body fb):MS X (.While c body [] pos) (zY t fb n):=
  PS.imp (Zpz hp hc hb) fun Dn σ H h=>by
  obtain ⟨B,θ,ρ,F,w⟩:=h
  refine ⟨fun m σ H=>∃B θ ρ,Frm X.cl B θ ρ σ H∧wpS X σ B H (zY t fb m ρ θ) Dn,⟨n,B,θ,ρ,F,w⟩,?_⟩
  rintro m σ2 H2 ⟨B2,θ2,ρ2,F2,w2⟩
  cases m with
  | zero=>exact w2.elim
  | succ m=>
    refine ZdD (Zpo F2 w2) ?_
    rintro k H3 ⟨B3,θ3,E3,F3,w3⟩
    cases k with
    | true=>
      rw [if_pos rfl] at w3 ⊢
      refine ⟨_,?_,⟨B3,θ3,ρ2,F3,wpS.loop w3⟩⟩
      rintro σ' H' ⟨B',θ',ρ',E',F',w'⟩
      exact ⟨m,Nat.lt_succ_self _,B',θ',ρ',F',w'⟩
    | false=>
      rw [if_neg Bool.false_ne_true] at w3 ⊢
      exact ZdQ F3 w3
theorem Frm.setOwn {cl:Mo} {B:Bx} {θ:Sto} {ρ:List Sl} {σ:St} {H:Hp} (F:Frm cl B θ ρ σ H) (i:Nat) {p:Addr} (hp:H p=none) {xs:List D} {vs:List V} (r:RepL B H xs vs) :
    ExtS B { B with os:=p::B.os } H (upd H p (.lst vs))∧Frm cl { B with os:=p::B.os } θ (ρ.set i (.own xs)) (σ.set i (some (.ref p))) (upd H p (.lst vs)):=by
  have E0:=ZcS F.good hp (.lst vs)
  have G0:=ZeH F.good hp (.lst vs)
  have ok:=F.good.okNone hp
  have E:ExtS B { B with os:=p::B.os } H (upd H p (.lst vs)):=⟨E0.n,E0.m,E0.fr,E0.keep,E0.sm,fun a h=>by
    rcases List.mem_cons.mp h with rfl | h
    · exact .inr hp
    · exact .inl h,rfl,rfl⟩
  refine ⟨E,?_⟩
  have E1:ExtS B { B with os:=p::B.os } H (upd H p (.lst vs)):=E
  have G:Good cl { B with os:=p::B.os } θ (upd H p (.lst vs)):=⟨G0.len,G0.inj,fun j c e=>(F.good.cel j c e).ext E fun u q=>by rw [ZS (zi q hp)]; exact q,fun j hj=>⟨(G0.cF j hj).1,fun z=>by
      rcases List.mem_cons.mp z with z | z
      · exact ok.1 j hj z
      · exact (G0.cF j hj).2 z⟩,G0.Fs,fun a z=>by
      rcases List.mem_cons.mp z with rfl | z
      · rw [zy]; simp
      · exact G0.oS a z,fun a z=>by
      rcases List.mem_cons.mp z with rfl | z
      · exact ok.2.1
      · exact G0.oF a z,G0.kc⟩
  have oth:∀(j:Nat) (s:Sl),(ρ.set i (Sl.own xs))[j]?=some s→(j=i∧s=.own xs∧j < σ.length)∨(j≠i∧ρ[j]?=some s):=fun j s e=>by
    by_cases q:j=i
    · subst q
      have hl:j < ρ.length:=by
        have:=(List.getElem?_eq_some_iff.mp e).1
        simpa using this
      rw [List.getElem?_set_self hl] at e
      cases e
      exact .inl ⟨rfl,rfl,by rw [←F.len]; exact hl⟩
    · rw [List.getElem?_set_ne (Ne.symm q)] at e
      exact .inr ⟨q,e⟩
  have old:∀j ys,ρ[j]?=some (Sl.own ys)→∀a,σ[j]?=some (some (V.ref a))→a≠p:=fun j ys h a e z=>by
    obtain ⟨a',us,q1,q2,q3,q4⟩:=F.own j ys h
    rw [e] at q1
    cases q1
    rw [z,hp] at q3
    cases q3
  refine ⟨G,by simp [F.len],fun j d h=>?_,fun j ys h=>?_,fun j k ys zs a hne h1 h2 h3=>?_⟩
  · rcases oth j _ h with ⟨_,z,_⟩ | ⟨q,z⟩
    · cases z
    · rw [List.getElem?_set_ne (Ne.symm q)]
      obtain ⟨v,q1,q2⟩:=F.val j d z
      exact ⟨v,q1,q2.ext E⟩
  · rcases oth j _ h with ⟨rfl,z,hl⟩ | ⟨q,z⟩
    · cases z
      exact ⟨p,vs,by rw [List.getElem?_set_self hl],List.mem_cons_self,zy,r.ext E⟩
    · rw [List.getElem?_set_ne (Ne.symm q)]
      obtain ⟨a,us,q1,q2,q3,q4⟩:=F.own j ys z
      exact ⟨a,us,q1,List.mem_cons_of_mem _ q2,by rw [ZS (zi q3 hp)]; exact q3,q4.ext E⟩
  · rcases oth j _ h1 with ⟨rfl,z1,hl⟩ | ⟨q1,z1⟩
    · rcases oth k _ h2 with ⟨rfl,z2,_⟩ | ⟨q2,z2⟩
      · exact absurd rfl hne
      · rw [List.getElem?_set_self hl] at h3
        cases h3
        rw [List.getElem?_set_ne (Ne.symm q2)]
        exact fun z=>old k zs z2 _ z rfl
    · rw [List.getElem?_set_ne (Ne.symm q1)] at h3
      rcases oth k _ h2 with ⟨rfl,z2,hl⟩ | ⟨q2,z2⟩
      · rw [List.getElem?_set_self hl]
        intro z
        cases z
        exact old j ys z1 _ h3 rfl
      · rw [List.getElem?_set_ne (Ne.symm q2)]
        exact F.ne j k ys zs a hne z1 z2 h3
def ZgZ (i:Nat) (f:AM):SM:=fun ρ θ=>(f ρ θ).bind fun xs θ=>if xs.length≤BIG then .ok (.nx,ρ.set i (.own xs)) θ else .bad
theorem Zpp {σ:St} {H:Hp} {B:Bx} {θ:Sto} {ρ:List Sl} {f:AM} {k:List D→Sto→R (Fl×List Sl)} {Dn:Zfd} (F:Frm X.cl B θ ρ σ H) (h:wpS X σ B H ((f ρ θ).bind k) Dn) :
    tMA X f σ H (fun v H1=>∃B1 θ1 d,ExtE B B1 H H1∧Frm X.cl B1 θ1 ρ σ H1∧RepL B1 H1 d v∧wpS X σ B1 H1 (k d θ1) Dn):=
  ⟨B,θ,ρ,F,(wpS.bind (Rel:=RepL) h).mono fun v H1 ⟨B1,θ1,d,E,G,r,w⟩=>⟨B1,θ1,d,E,F.ext E G,r,w⟩⟩
theorem Zij (i:Nat) {x:Str} {es:List Expr} {f:AM} {pos pos' lpos:Pos} (hN:X.N.Nodup) (he:MA X es f) (hi:X.N[i]?=some x:=by rfl) (hx:Loc X.env.scope x:=by first | exact Or.inl rfl | exact Or.inr rfl)
    (hs:swapsWith (.List es lpos) (some (.Name x pos')) pos.line X.env=pure false:=by rfl) (hf:X.fn x=true∨X.env.scope.names.lookup x=some .local:=by first | exact .inl rfl | exact .inr rfl):MS X (.Assign [.Name x pos'] (.List es lpos) pos) (ZgZ i f):=
  PS.imp (ZpA hN hi hx (ZpH he) hs hf) fun D σ H h=>by
  obtain ⟨B,θ,ρ,F,w⟩:=h
  refine ZbX (Zpp F w) ?_
  rintro vs H1 ⟨B1,θ1,xs,E1,F1,rd,w1⟩
  split at w1
  · rename_i hz
    refine ⟨by rw [rd.len]; exact Zak hz,fun p hp=>?_⟩
    obtain ⟨E2,F2⟩:=F1.setOwn i hp rd
    exact w1 _ _ _ E2 F2
  · exact w1.elim
theorem Frm.updOwn {cl:Mo} {B:Bx} {θ:Sto} {ρ:List Sl} {σ:St} {H:Hp} (F:Frm cl B θ ρ σ H) {i:Nat} {xs ys:List D} {us:List V} {a:Addr} (h:ρ[i]?=some (Sl.own xs)) (ha:σ[i]?=some (some (.ref a))) (r:RepL B H ys us) :
    ExtS B B H (upd H a (.lst us))∧Frm cl B θ (ρ.set i (.own ys)) σ (upd H a (.lst us)):=by
  obtain ⟨a',vs,q1,q2,q3,q4⟩:=F.own i xs h
  rw [ha] at q1
  cases q1
  have hc:∀j,j<B.n→B.m j≠a:=fun j hj z=>(F.good.cF j hj).2 (by rw [z]; exact q2)
  have E:ExtS B B H (upd H a (.lst us)):=⟨Nat.le_refl _,fun _ _=>rfl,fun i h h'=>absurd h' (Nat.not_lt.mpr h),fun b o e _ hb=>by rw [ZS (fun z=>hb (by rw [z]; exact q2))]; exact e,fun b e=>by
    by_cases q:b=a
    · rw [q,zy]; simp
    · rw [ZS q]; exact e,fun _ h=>.inl h,rfl,rfl⟩
  have hl:i < ρ.length:=(List.getElem?_eq_some_iff.mp h).1
  have oth:∀(j:Nat) (s:Sl),(ρ.set i (Sl.own ys))[j]?=some s→(j=i∧s=.own ys)∨(j≠i∧ρ[j]?=some s):=fun j s e=>by
    by_cases q:j=i
    · subst q
      rw [List.getElem?_set_self hl] at e
      cases e
      exact .inl ⟨rfl,rfl⟩
    · rw [List.getElem?_set_ne (Ne.symm q)] at e
      exact .inr ⟨q,e⟩
  refine ⟨E,⟨⟨F.good.len,F.good.inj,fun j c e=>(F.good.cel j c e).ext E fun u q=>by
      have hj:j<B.n:=by rw [←F.good.len]; exact (List.getElem?_eq_some_iff.mp e).1
      rw [ZS (hc j hj)]; exact q,F.good.cF,fun b z=>E.sm b (F.good.Fs b z),fun b z=>E.sm b (F.good.oS b z),F.good.oF,F.good.kc⟩,by simp [F.len],fun j d e=>?_,fun j zs e=>?_,fun j k zs ws b hne h1 h2 h3=>?_⟩⟩
  · rcases oth j _ e with ⟨_,z⟩ | ⟨_,z⟩
    · cases z
    · obtain ⟨v,p1,p2⟩:=F.val j d z
      exact ⟨v,p1,p2.ext E⟩
  · rcases oth j _ e with ⟨rfl,z⟩ | ⟨q,z⟩
    · cases z
      exact ⟨a,us,ha,q2,zy,r.ext E⟩
    · obtain ⟨b,ws,p1,p2,p3,p4⟩:=F.own j zs z
      refine ⟨b,ws,p1,p2,?_,p4.ext E⟩
      rw [ZS (fun z'=>F.ne i j xs zs a (Ne.symm q) h z ha (by rw [←z']; exact p1))]
      exact p3
  · have o1:∃zs',ρ[j]?=some (Sl.own zs'):=by
      rcases oth j _ h1 with ⟨rfl,_⟩ | ⟨_,z⟩
      · exact ⟨xs,h⟩
      · exact ⟨_,z⟩
    have o2:∃ws',ρ[k]?=some (Sl.own ws'):=by
      rcases oth k _ h2 with ⟨rfl,_⟩ | ⟨_,z⟩
      · exact ⟨xs,h⟩
      · exact ⟨_,z⟩
    obtain ⟨zs',o1⟩:=o1
    obtain ⟨ws',o2⟩:=o2
    exact F.ne j k zs' ws' b hne o1 o2 h3
def ZdZ (i:Nat) (f:EM):SM:=fun ρ θ=>(f ρ θ).bind fun d θ=>match ρ[i]? with
  | some (Sl.own xs)=>if xs.length<BIG then .ok (.nx,ρ.set i (.own (xs++[d]))) θ else .bad
  | _=>.bad
theorem Zik (i:Nat) {x:Str} {e:Expr} {f:EM} {p apos pos pos':Pos} (he:ME X e f) (hN:X.N[i]?=some x:=by rfl) (hv:Vis X.env.scope x:=by first | exact Or.inl rfl | exact Or.inr (Or.inl rfl) | exact Or.inr (Or.inr rfl))
    (hd:(x == ("__debug__":Str))=false:=by decide) (hcd:(x == ("__classdict__":Str))=false:=by decide)
    (hpe:∀{to:TE},PE X (.Name x p) to→PE X (.Call (.Attribute (.Name x p) "append" apos) [e] [] pos) (tBM X.K "list" Zmn to (ZsA (tM X f) Ztn)))
    (hs:swapsWith (.Call (.Attribute (.Name x p) "append" apos) [e] [] pos) none pos'.line X.env=pure false:=by rfl):MS X (.Expr (.Call (.Attribute (.Name x p) "append" apos) [e] [] pos) pos') (ZdZ i f):=
  PS.imp (Zmq (hpe (ZpE hN hv hd hcd)) hs) fun D σ H h=>by
  obtain ⟨B,θ,ρ,F,w⟩:=h
  have own:∃xs,ρ[i]?=some (Sl.own xs):=by
    unfold ZdZ at w
    cases q:f ρ θ with
    | bad=>rw [q] at w; exact w.elim
    | ex c θ'=>rw [q] at w; exact False.elim w
    | ok d θ'=>
      rw [q] at w
      simp only [R.bind_ok] at w
      split at w
      · rename_i xs e; exact ⟨xs,e⟩
      · exact w.elim
  obtain ⟨xs,hx⟩:=own
  obtain ⟨a,vs,q1,q2,q3,q4⟩:=F.own i xs hx
  refine ⟨.ref a,q1,.inl ⟨rfl,vs,SqL.of q3⟩,?_⟩
  refine ZZ (Zfe F w) ?_
  rintro y H1 ⟨B1,θ1,d,E1,F1,rd,w1⟩
  rw [hx] at w1
  simp only at w1
  split at w1
  · rename_i hz
    obtain ⟨a',us,p1,p2,p3,p4⟩:=F1.own i xs hx
    rw [q1] at p1
    cases p1
    refine ⟨a,us,y,rfl,rfl,p3,by rw [p4.len]; exact Nat.lt_of_lt_of_le hz (Zak (Nat.le_refl _)),?_⟩
    obtain ⟨E2,F2⟩:=F1.updOwn hx q1 (p4.app (show RepL B1 H1 [d] [y] from ⟨y,[],rfl,rd,rfl⟩))
    exact w1 _ _ _ E2 F2
  · exact w1.elim
def ZdY (i:Nat) (f:SM):SM:=fun ρ θ=>match ρ[i]? with
  | some (Sl.own xs)=>f (ρ.set i (.val (.lst xs))) θ
  | _=>f ρ θ
theorem ZlF {i:Nat} {f:SM} {D:Zfd} {σ:St} {H:Hp} (h:tMS X (ZdY i f) D σ H):tMS X f D σ H:=by
  obtain ⟨B,θ,ρ,F,w⟩:=h
  unfold ZdY at w
  split at w
  · rename_i xs hx
    obtain ⟨a,vs,q1,q2,q3,q4⟩:=F.own i xs hx
    let B':Bx:={ B with os:=B.os.filter fun b=>decide (b≠a) }
    have sub:∀b,b∈B'.os→b∈B.os∧b≠a:=fun b hb=>by
      have:=List.mem_filter.mp hb
      exact ⟨this.1,of_decide_eq_true this.2⟩
    have E:ExtS B B' H H:=⟨Nat.le_refl _,fun _ _=>rfl,fun i h h'=>absurd h' (Nat.not_lt.mpr h),fun _ _ e _ _=>e,fun _ e=>e,fun b hb=>.inl (sub b hb).1,rfl,rfl⟩
    have hc:∀j,j<B.n→B.m j≠a:=fun j hj z=>(F.good.cF j hj).2 (by rw [z]; exact q2)
    have G:Good X.cl B' θ H:=⟨F.good.len,F.good.inj,fun j c e=>(F.good.cel j c e).ext E fun _ q=>q,fun j hj=>⟨(F.good.cF j hj).1,fun z=>(F.good.cF j hj).2 (sub _ z).1⟩,F.good.Fs,fun b z=>F.good.oS b (sub b z).1,fun b z=>F.good.oF b (sub b z).1,F.good.kc⟩
    have rv:RepV B' H (.lst xs) (.ref a):=⟨a,vs,rfl,q3,⟨hc,F.good.oF a q2,fun z=>(sub a z).2 rfl⟩,q4.ext E⟩
    have hl:i < ρ.length:=(List.getElem?_eq_some_iff.mp hx).1
    have oth:∀(j:Nat) (s:Sl),(ρ.set i (Sl.val (.lst xs)))[j]?=some s→(j=i∧s=.val (.lst xs))∨(j≠i∧ρ[j]?=some s):=fun j s e=>by
      by_cases q:j=i
      · subst q
        rw [List.getElem?_set_self hl] at e
        cases e
        exact .inl ⟨rfl,rfl⟩
      · rw [List.getElem?_set_ne (Ne.symm q)] at e
        exact .inr ⟨q,e⟩
    refine ⟨B',θ,_,⟨G,by simp [F.len],fun j d e=>?_,fun j ys e=>?_,fun j k ys zs b hne h1 h2 h3=>?_⟩,wpS.trans w E⟩
    · rcases oth j _ e with ⟨rfl,z⟩ | ⟨_,z⟩
      · cases z; exact ⟨_,q1,rv⟩
      · obtain ⟨v,p1,p2⟩:=F.val j d z
        exact ⟨v,p1,p2.ext E⟩
    · rcases oth j _ e with ⟨_,z⟩ | ⟨q,z⟩
      · cases z
      · obtain ⟨b,ws,p1,p2,p3,p4⟩:=F.own j ys z
        refine ⟨b,ws,p1,List.mem_filter.mpr ⟨p2,decide_eq_true fun z'=>?_⟩,p3,p4.ext E⟩
        subst z'
        exact F.ne i j xs ys b (Ne.symm q) hx z q1 p1
    · rcases oth j _ h1 with ⟨_,z⟩ | ⟨_,z1⟩
      · cases z
      · rcases oth k _ h2 with ⟨_,z⟩ | ⟨_,z2⟩
        · cases z
        · exact F.ne j k ys zs b hne z1 z2 h3
  · exact ⟨B,θ,ρ,F,w⟩
theorem Zgi (i:Nat) {st:Stmt} {f:SM} (h:MS X st f):MS X st (ZdY i f):=PS.imp h fun _ _ _ q=>ZlF q
def ZdR (n:Nat) (ds:List D):List Sl:=ds.map Sl.val++List.replicate (n-ds.length) Sl.no
def ZQ (np nn:Nat) (fb:SM):GM:=fun ds θ=>if ds.length=np then (fb (ZdR nn ds) θ).bind fun p θ=>match p.1 with
  | .nx=>.ok .non θ
  | .rt d=>.ok d θ
  | _=>.bad
  else .bad
def spM (X:Mo) (f:GM):Sp:=fun vs H Q E=>∃B θ ds,B.os=[]∧Good X B θ H∧RepL B H ds vs∧(match f ds θ with
  | .ok d θ'=>∀B' H' v,ExtE B B' H H'→Good X B' θ' H'→RepV B' H' d v→Q v H'
  | .ex c θ'=>False
  | .bad=>False)
def Zo (P:Program) (w:World) (K:PySem.W.Frag) (mg:Str→Option Value) (base:Heap) (k:Nat) (x:Str) (f:GM):Prop:=∃ps,Def P w K mg base k x ps (spM ⟨z6 mg,K⟩ f)
theorem Znf {cl:Mo} {B:Bx} {θ:Sto} {H:Hp} {ds:List D} {vs:List V} {N:List Str} {nn:Nat} (G:Good cl B θ H) (r:RepL B H ds vs) (hn:N.length=nn):Frm cl B θ (ZdR nn ds) (Zed N vs) H:=by
  subst hn
  have hl:=r.len
  have key:∀(i:Nat) (s:Sl),(ZdR N.length ds)[i]?=some s→s=.no∨∃d,s=.val d∧∃v,(Zed N vs)[i]?=some (some v)∧RepV B H d v:=fun i s e=>by
    unfold ZdR at e
    by_cases q:i<ds.length
    · rw [List.getElem?_append_left (by simpa using q),List.getElem?_map,List.getElem?_eq_getElem q] at e
      cases e
      obtain ⟨v,h1,h2⟩:=r.get (List.getElem?_eq_getElem q)
      refine .inr ⟨_,rfl,v,?_,h2⟩
      unfold Zed
      rw [List.getElem?_append_left (by simpa [hl] using q),List.getElem?_map,h1]
      rfl
    · rw [List.getElem?_append_right (by simpa using q)] at e
      exact .inl (List.eq_of_mem_replicate (List.mem_of_getElem? e))
  refine ⟨G,by simp [ZdR,Zed,hl],fun i d e=>?_,fun i xs e=>?_,fun i j xs ys a _ e _=>?_⟩
  · rcases key i _ e with z | ⟨d',z,v',h1,h2⟩
    · cases z
    · cases z; exact ⟨v',h1,h2⟩
  · rcases key i _ e with z | ⟨d',z,_⟩<;>cases z
  · rcases key i _ e with z | ⟨d',z,_⟩<;>cases z
theorem mfn {P:Program} {w:World} {K:PySem.W.Frag} {mg:Str→Option Value} {base:Heap} {x qual:Str} {st:Stmt} {N ps:List Str} {k:Nat} {fb:SM} {f:Addr} {fd:FuncData} (F:Fun K x qual st f fd) (S:Zq N ps (Zg st)) (np nn:Nat) (hp:ps.length=np) (hn:N.length=nn)
    (hbody:∀(cdv:Value) (A:Around) (outer:List Env) (s:Shared) (H:Hp) (E:XK),Room k (A.deeper (envOfC qual (Zg st) s.heap.objs.size f cdv))→MSs (Zhu CX0 P w K mg base N qual (Zg st) f cdv A outer s H E).nox (Zp st) fb) :
    FnOk P w K mg base CX0 (k+1) f fd ps (spM ⟨z6 mg,K⟩ (ZQ np nn fb)):=by
  refine F.ok S ?_ ?_
  · rintro vs H Q E ⟨B,θ,ds,_,_,r,q⟩
    unfold ZQ at q
    split at q
    · rename_i h
      split at h
      · rename_i hl; rw [r.len,hl,hp]
      · cases h
    · exact q.elim
    · exact q.elim
  · intro cdv A outer s H vs Q E hr h
    obtain ⟨B,θ,ds,hos,G,r,q⟩:=h
    refine ⟨tMS (Zhu CX0 P w K mg base N qual (Zg st) f cdv A outer s H E).nox fb,hbody cdv A outer s H E hr,B,θ,ZdR nn ds,Znf G r hn,?_⟩
    unfold ZQ at q
    by_cases hl:ds.length=np
    · rw [if_pos hl] at q
      cases e:fb (ZdR nn ds) θ with
      | bad=>rw [e] at q; exact q.elim
      | ex c θ'=>rw [e] at q; exact q.elim
      | ok p θ'=>
        rw [e] at q
        obtain ⟨fl,ρ'⟩:=p
        intro B' H' σ' E' F'
        have hos':∀a,a∈B.os→False:=fun a ha=>by rw [hos] at ha; cases ha
        let B2:Bx:={ B' with os:=[] }
        have E2:ExtE B B2 H H':=⟨⟨E'.n,E'.m,E'.fr,E'.keep,E'.sm,fun a ha=>(nomatch ha),E'.F,E'.ks⟩,hos.symm,fun a o ha=>(hos' a ha).elim⟩
        have E3:ExtS B' B2 H' H':=⟨Nat.le_refl _,fun _ _=>rfl,fun i h h'=>absurd h' (Nat.not_lt.mpr h),fun _ _ e _ _=>e,fun _ e=>e,fun b hb=>(nomatch hb),rfl,rfl⟩
        have G2:Good ⟨z6 mg,K⟩ B2 θ' H':=⟨F'.good.len,F'.good.inj,fun j c e=>(F'.good.cel j c e).ext E3 fun _ q=>q,fun j hj=>⟨(F'.good.cF j hj).1,fun z=>nomatch z⟩,F'.good.Fs,fun b z=>(nomatch z),fun b z=>(nomatch z),F'.good.kc⟩
        cases fl with
        | nx=>exact q B2 H' .non E2 G2 rfl
        | rt d=>exact fun v rv=>q B2 H' v E2 G2 (rv.ext E3)
        | bk=>exact q.elim
        | ct=>exact q.elim
    · rw [if_neg hl] at q
      exact q.elim
theorem ZX {P:Program} {w:World} {K:PySem.W.Frag} {mg:Str→Option Value} {base:Heap} {x:Str} {st:Stmt} {N ps:List Str} {k:Nat} {fb:SM} (D0:Zm K mg x st ps) (S:Zq N ps (Zg st)) (np nn:Nat) (hp:ps.length=np) (hn:N.length=nn)
    (hbody:∀(f:Addr) (cdv:Value) (A:Around) (outer:List Env) (s:Shared) (H:Hp) (E:XK),Room k (A.deeper (envOfC x (Zg st) s.heap.objs.size f cdv))→MSs (Zhu CX0 P w K mg base N x (Zg st) f cdv A outer s H E).nox (Zp st) fb):Zo P w K mg base (k+1) x (ZQ np nn fb):=by
  obtain ⟨f,fd,F,b,m⟩:=D0
  exact ⟨ps,f,fd,mfn F S np nn hp hn (hbody f),b,F.kp,m⟩
def Bx.inC (B:Bx):Bx:={ B with F:=fun a=>B.F a∨a∈B.os,os:=[] }
theorem inC_ok {B:Bx} {a:Addr}:B.inC.ok a↔B.ok a:=by
  constructor
  · rintro ⟨h1,h2,h3⟩
    exact ⟨h1,fun z=>h2 (.inl z),fun z=>h2 (.inr z)⟩
  · rintro ⟨h1,h2,h3⟩
    exact ⟨h1,fun z=>z.elim h2 h3,fun z=>nomatch z⟩
mutual
theorem RepV.same {B B':Bx} {H:Hp} (hn:B'.n=B.n) (hm:B'.m=B.m) (hk:B'.ks=B.ks) (ho:∀a,B.ok a→B'.ok a):∀{d:D} {v:V},RepV B H d v→RepV B' H d v
  | .non,_,h=>h
  | .bl _,_,h=>h
  | .int _,_,h=>h
  | .str _,_,h=>h
  | .ty _,_,h=>h
  | .scr _,_,h=>by
    obtain ⟨a,e,h⟩:=h
    refine ⟨a,e,?_⟩
    rcases h with ⟨o,h,k⟩ | h
    · exact .inl ⟨o,h,ho a k⟩
    · exact .inr (by rw [hk]; exact h)
  | .tup _,_,h=>by obtain ⟨a,vs,e,h,k,l⟩:=h; exact ⟨a,vs,e,h,ho a k,RepL.same hn hm hk ho l⟩
  | .lst _,_,h=>by obtain ⟨a,vs,e,h,k,l⟩:=h; exact ⟨a,vs,e,h,ho a k,RepL.same hn hm hk ho l⟩
  | .ref l,_,h=>⟨by rw [hn]; exact h.1,by rw [hm]; exact h.2⟩
theorem RepL.same {B B':Bx} {H:Hp} (hn:B'.n=B.n) (hm:B'.m=B.m) (hk:B'.ks=B.ks) (ho:∀a,B.ok a→B'.ok a):∀{ds:List D} {vs:List V},RepL B H ds vs→RepL B' H ds vs
  | [],_,h=>h
  | _::_,_,h=>by obtain ⟨v,r,e,hv,hr⟩:=h; exact ⟨v,r,e,RepV.same hn hm hk ho hv,RepL.same hn hm hk ho hr⟩
end
theorem RepKV.same {κ:Type} {B B':Bx} {H:Hp} (hn:B'.n=B.n) (hm:B'.m=B.m) (hk:B'.ks=B.ks) (ho:∀a,B.ok a→B'.ok a):∀{ks:List (κ×D)} {vs:List (κ×V)},RepKV B H ks vs→RepKV B' H ks vs
  | _,_,.nil=>.nil
  | _,_,.cons h t=>.cons ⟨h.1,RepV.same hn hm hk ho h.2⟩ (RepKV.same hn hm hk ho t)
theorem CellOk.same {cl:Mo} {B B':Bx} {H:Hp} {a:Addr} {c:Cell} (hn:B'.n=B.n) (hm:B'.m=B.m) (hk:B'.ks=B.ks) (ho:∀a,B.ok a→B'.ok a) (k:CellOk cl B H a c):CellOk cl B' H a c:=by
  cases c with
  | lst xs=>obtain ⟨vs,e,r⟩:=k; exact ⟨vs,e,r.same hn hm hk ho⟩
  | dK kvs=>obtain ⟨vs,e,r⟩:=k; exact ⟨vs,e,r.same hn hm hk ho⟩
  | dT kvs=>obtain ⟨vs,e,r⟩:=k; exact ⟨vs,e,r.same hn hm hk ho⟩
  | ins C fs=>obtain ⟨dx,vs,e,r⟩:=k; exact ⟨dx,vs,e,r.same hn hm hk ho⟩
theorem Zqq {cl:Mo} {B:Bx} {θ:Sto} {H:Hp} (G:Good cl B θ H):Good cl B.inC θ H:=
  ⟨G.len,G.inj,fun i c e=>CellOk.same (B:=B) (B':=B.inC) rfl rfl rfl (fun a=>inC_ok.mpr) (G.cel i c e),fun i hi=>⟨fun z=>z.elim (G.cF i hi).1 (G.cF i hi).2,fun z=>nomatch z⟩,fun a z=>z.elim (G.Fs a) (G.oS a),fun a z=>(nomatch z),fun a z=>(nomatch z),G.kc⟩
theorem ZvE {cl:Mo} {B B':Bx} {θ θ':Sto} {H H':Hp} (G:Good cl B θ H) (E:ExtE B.inC B' H H') (G':Good cl B' θ' H') :
    ExtE B { B' with F:=B.F,os:=B.os } H H'∧Good cl { B' with F:=B.F,os:=B.os } θ' H'∧∀d v,RepV B' H' d v→RepV { B' with F:=B.F,os:=B.os } H' d v:=by
  have hF:B'.F=fun a=>B.F a∨a∈B.os:=E.F
  have ho:∀a,B'.ok a→Bx.ok { B' with F:=B.F,os:=B.os } a:=fun a ⟨h1,h2,h3⟩=>by
    rw [hF] at h2
    exact ⟨h1,fun z=>h2 (.inl z),fun z=>h2 (.inr z)⟩
  have keep:∀a o,H a=some o→(∀i,i<B.n→B.m i≠a)→H' a=some o:=fun a o h k=>E.keep a o h k (fun z=>nomatch z)
  refine ⟨⟨⟨E.n,E.m,E.fr,fun a o h k _=>keep a o h k,E.sm,fun a h=>.inl h,rfl,E.ks⟩,rfl,fun a o _ k h=>keep a o h k⟩,⟨G'.len,G'.inj,fun i c e=>CellOk.same (B:=B') (B':={ B' with F:=B.F,os:=B.os }) rfl rfl rfl ho (G'.cel i c e),fun i hi=>?_,fun a z=>E.sm a (G.Fs a z),fun a z=>E.sm a (G.oS a z),G.oF,G'.kc⟩,fun d v r=>RepV.same (B:=B') (B':={ B' with F:=B.F,os:=B.os }) rfl rfl rfl ho r⟩
  have:=(G'.cF i hi).1
  rw [hF] at this
  exact ⟨fun z=>this (.inl z),fun z=>this (.inr z)⟩
theorem ZmY {f:GM} {σ:St} {B:Bx} {θ:Sto} {H:Hp} {ds:List D} {vs:List V} {Q:VK} {E:XK} (G:Good X.cl B θ H) (r:RepL B H ds vs) (w:wpR X σ RepV B H (f ds θ) Q):spM X.cl f vs H Q E:=by
  refine ⟨B.inC,θ,ds,rfl,Zqq G,RepL.same (B:=B) (B':=B.inC) rfl rfl rfl (fun a=>inC_ok.mpr) r,?_⟩
  cases e:f ds θ with
  | bad=>rw [e] at w; exact w
  | ex c θ'=>rw [e] at w; exact w
  | ok d θ'=>
    rw [e] at w
    intro B' H' v E' G' rv
    obtain ⟨h1,h2,h3⟩:=ZvE G E' G'
    exact w _ H' v h1 h2 (h3 d v rv)
theorem Zi {k j:Nat} {x:Str} {f:GM} {p pos:Pos} {e:Expr} {es:List Expr} {fs:AM} (D0:Zo X.prog X.w X.K X.mg X.base k x f) (hr:Room j X.A) (hj:k≤j) (ha:MA X (e::es) fs) (hg:Gl X x:=by rfl) (hdb:(x == ("__debug__":Str))=false:=by decide)
    (he:starEach (e::es) X.env=(false,eval e X.env)::starEach es X.env:=by rfl) (hpl:(backTo pos (starEach es X.env)).any (·.1)=false:=by rfl):ME X (.Call (.Name x p) (e::es) [] pos) (mCB f fs):=by
  obtain ⟨ps,D0⟩:=D0
  refine PE.imp (ZpN D0 hr hj ha hg hdb he hpl) fun σ H Q h=>?_
  obtain ⟨B,θ,ρ,F,w⟩:=h
  refine ZbX (Zhc F w) ?_
  rintro vs H1 ⟨B1,θ1,ds,E1,F1,rd,w1⟩
  rw [List.append_nil]
  exact ZmY F1.good rd w1
end
end L2.MM
namespace L2.MM
open PySem PySem.Spec PyProof.Rows PySem.SeqAt
noncomputable section
def Zmk (K:PySem.W.Frag):Sp:=fun vs H Q _=>∃(a:Addr) (ns:List Int),vs=[.ref a]∧Zsm H∧SqL K H a (ns.map V.int)∧ns.length≤63∧∀H',Q (.bl true) H'
theorem Zr2 {P:Program} {w:World} {K:PySem.W.Frag} {mg:Str→Option Value} {base:Heap} {k:Nat} {f:Addr} {fd:FuncData} {ps:List Str} {g:GM} (h:∀ns:List Int,ns.length≤63→∃θ',g [.scr ns] []=.ok (.bl true) θ')
    (F:FnOk P w K mg base CX0 k f fd ps (spM ⟨z6 mg,K⟩ g)):FnOk P w K mg base CX0 k f fd ps (Zmk K):=by
  refine F.imp ?_
  rintro vs H Q E ⟨a,ns,rfl,hO,hS,hl,q⟩
  obtain ⟨θ',e⟩:=h ns hl
  refine ⟨⟨0,fun _=>0,fun _=>False,[],KL K⟩,[],[.scr ns],rfl,⟨rfl,fun i j hi=>absurd hi (Nat.not_lt_zero _),fun i c h=>by simp at h,fun i hi=>absurd hi (Nat.not_lt_zero _),fun a h=>h.elim,fun a h=>(nomatch h),fun a h=>(nomatch h),fun a ns h=>h⟩,?_,?_⟩
  · refine ⟨.ref a,[],rfl,⟨a,rfl,?_⟩,rfl⟩
    rcases hS with (h1 | ⟨o,h1⟩) | h1
    · rcases hO a with z | ⟨o,xs,z⟩
      · rw [z] at h1; cases h1
      · rw [z] at h1; cases h1
    · exact .inl ⟨o,h1,fun i hi=>absurd hi (Nat.not_lt_zero _),fun z=>z,fun z=>(nomatch z)⟩
    · exact .inr h1
  · rw [e]
    intro B' H' v _ _ rv
    cases (show v=V.bl true from rv)
    exact q H'
end
end L2.MM
namespace L2.MM
open PySem PySem.Spec PyProof.Rows PySem.SeqAt
noncomputable section
section
variable {i j k:Nat} {ρ:List Sl} {θ:Sto} {f g h:EM} {fs:AM} {t u:TMr}
@[simp] theorem Zsn:Zd i ρ θ=match ρ[i]? with | some (Sl.val d)=>.ok d θ | _=>.bad:=nr rfl
@[simp] theorem x_c {d:D}:mC d ρ θ=.ok d θ:=nr rfl
@[simp] theorem ZuS {o:OM}:mOp o f g ρ θ=(f ρ θ).bind fun x θ=>(g ρ θ).bind fun y θ=>o x y θ:=nr rfl
@[simp] theorem Zyt:ZH f ρ θ=(f ρ θ).bind fun x θ=>match x with | .bl k=>.ok k θ | _=>.bad:=nr rfl
@[simp] theorem ZzF:zR f ρ θ=(f ρ θ).bind fun x θ=>match ZgN θ x with | some k=>.ok k θ | none=>.bad:=nr rfl
@[simp] theorem ZzT:Zfc t u ρ θ=(t ρ θ).bind fun k θ=>if k=true then u ρ θ else .ok false θ:=nr rfl
@[simp] theorem ZAi:mOr t u ρ θ=(t ρ θ).bind fun k θ=>if k=true then .ok true θ else u ρ θ:=nr rfl
@[simp] theorem ZzJ:ZdI t ρ θ=(t ρ θ).bind fun k θ=>.ok (!k) θ:=nr rfl
def Zum (g:Sto→R D):D→Sto→R D
  | .bl true,θ=>g θ
  | .bl false,θ=>.ok (.bl false) θ
  | _,_=>.bad
def orK (g:Sto→R D):D→Sto→R D
  | .bl true,θ=>.ok (.bl true) θ
  | .bl false,θ=>g θ
  | _,_=>.bad
@[simp] theorem ZwF {g:Sto→R D} {k:Bool}:Zum g (.bl k) θ=if k=true then g θ else .ok (.bl false) θ:=by cases k<;>rfl
@[simp] theorem Zza {g:Sto→R D} {k:Bool}:orK g (.bl k) θ=if k=true then .ok (.bl true) θ else g θ:=by cases k<;>rfl
@[simp] theorem ZyF:Zca f g ρ θ=(f ρ θ).bind (Zum (g ρ)):=by
  show (f ρ θ).bind _=_
  congr 1
  funext x θ
  cases x<;>first | rfl | (rename_i b; cases b<;>rfl)
@[simp] theorem ZzI:ZlQ f g ρ θ=(f ρ θ).bind (orK (g ρ)):=by
  show (f ρ θ).bind _=_
  congr 1
  funext x θ
  cases x<;>first | rfl | (rename_i b; cases b<;>rfl)
@[simp] theorem ZvR {p:Prop} [Decidable p] {m:Bool}:(if p then R.ok (D.bl m) θ else R.ok (D.bl false) θ)=R.ok (D.bl (decide p && m)) θ:=by by_cases h:p<;>simp [h]
@[simp] theorem Zwx {p:Prop} [Decidable p] {m:Bool}:(if p then R.ok (D.bl true) θ else R.ok (D.bl m) θ)=R.ok (D.bl (decide p || m)) θ:=by by_cases h:p<;>simp [h]
@[simp] theorem ZuI {p:Prop} [Decidable p] {m:Bool}:(if p then R.ok m θ else R.ok false θ)=R.ok (decide p && m) θ:=by by_cases h:p<;>simp [h]
@[simp] theorem ZvQ {p:Prop} [Decidable p] {m:Bool}:(if p then R.ok true θ else R.ok m θ)=R.ok (decide p || m) θ:=by by_cases h:p<;>simp [h]
@[simp] theorem Zyz:ZmH f ρ θ=(f ρ θ).bind fun x θ=>match ZgN θ x with | some k=>.ok (.bl (!k)) θ | none=>.bad:=nr rfl
@[simp] theorem ZzK:ZrZ f ρ θ=(f ρ θ).bind fun x θ=>match x with | .int i=>.ok (.int (-i)) θ | _=>.bad:=nr rfl
@[simp] theorem ZzN:Zep t f g ρ θ=(t ρ θ).bind fun k θ=>if k=true then f ρ θ else g ρ θ:=nr rfl
@[simp] theorem Zwm {o o':OM}:ZbZ o o' f g h ρ θ=(f ρ θ).bind fun x θ=>(g ρ θ).bind fun y θ=>(o x y θ).bind (Zum fun θ=>(h ρ θ).bind fun w θ=>o' y w θ):=by
  show (f ρ θ).bind _=_
  congr 1
  funext x θ
  congr 1
  funext y θ
  congr 1
  funext z θ
  cases z<;>first | rfl | (rename_i b; cases b<;>rfl)
@[simp] theorem Zso:Zk ρ θ=.ok [] θ:=nr rfl
@[simp] theorem Zpb:Zc f fs ρ θ=(f ρ θ).bind fun x θ=>(fs ρ θ).bind fun xs θ=>.ok (x::xs) θ:=nr rfl
@[simp] theorem ZzE:Za7 fs ρ θ=(fs ρ θ).bind fun xs θ=>if xs.length≤BIG then .ok (.tup xs) θ else .bad:=nr rfl
@[simp] theorem ZuT:ZbN fs ρ θ=(fs ρ θ).bind fun xs θ=>if xs.length≤BIG then .ok (.lst xs) θ else .bad:=nr rfl
@[simp] theorem ZyG {o:GM}:mCB o fs ρ θ=(fs ρ θ).bind fun xs θ=>o xs θ:=nr rfl
@[simp] theorem Zo9:Zat ρ θ=.ok none θ:=nr rfl
@[simp] theorem ZsZ:ZaO f ρ θ=(f ρ θ).bind fun x θ=>match x with | .int i=>.ok (some i) θ | _=>.bad:=nr rfl
@[simp] theorem Zyu {lo hi:PM}:mSl f lo hi ρ θ=(f ρ θ).bind fun x θ=>(lo ρ θ).bind fun l θ=>(hi ρ θ).bind fun h θ=>match Zfn θ x l h with
  | some d=>.ok d θ
  | none=>.bad:=nr rfl
@[simp] theorem ZzG {lo hi st:PM}:ZrY f lo hi st ρ θ=(f ρ θ).bind fun x θ=>(lo ρ θ).bind fun l θ=>(hi ρ θ).bind fun h θ=>(st ρ θ).bind fun s θ=>match ZaX θ x with
  | some xs=>if s≠some 0∧(ZdF xs l h s).length≤BIG then .ok (.lst (ZdF xs l h s)) θ else .bad
  | none=>.bad:=nr rfl
@[simp] theorem ZAk:mIn f ρ θ=(f ρ θ).bind fun d θ=>match seqOf θ d with | some _=>.ok (.seq d) θ | none=>.bad:=nr rfl
@[simp] theorem Zyx:Zcy fs ρ θ=(fs ρ θ).bind fun ds θ=>match ds with
  | [.int j]=>if -1000000≤j∧j≤1000000 then .ok (.rng 0 j.toNat) θ else .bad
  | _=>.bad:=by
  unfold Zcy; exact nr rfl
variable {a b:SM} {Fl':Fl×List Sl}
@[simp] theorem Zyv:ZO ρ θ=.ok (.nx,ρ) θ:=nr rfl
@[simp] theorem ZzS:Zr0 ρ θ=.bad:=nr rfl
@[simp] theorem Zur {ρ':List Sl}:Zg9 (.ok (.nx,ρ') θ) a=a ρ' θ:=nr rfl
@[simp] theorem Zuq {ρ':List Sl} {d:D}:Zg9 (.ok (.rt d,ρ') θ) a=.ok (.rt d,ρ') θ:=nr rfl
@[simp] theorem ZzH:Zn a b ρ θ=Zg9 (a ρ θ) b:=nr rfl
@[simp] theorem ZyD:zu f ρ θ=(f ρ θ).bind fun _ θ=>.ok (.nx,ρ) θ:=nr rfl
@[simp] theorem Zo8:ZP f ρ θ=(f ρ θ).bind fun d θ=>.ok (.rt d,ρ) θ:=nr rfl
@[simp] theorem Zyy:ZfN ρ θ=.ok (.rt .non,ρ) θ:=nr rfl
@[simp] theorem ZAl:mIf t a b ρ θ=(t ρ θ).bind fun k θ=>if k=true then a ρ θ else b ρ θ:=nr rfl
@[simp] theorem ZuR:ZL i f ρ θ=(f ρ θ).bind fun d θ=>.ok (.nx,ρ.set i (.val d)) θ:=nr rfl
@[simp] theorem ZuQ:ZgZ i fs ρ θ=(fs ρ θ).bind fun xs θ=>if xs.length≤BIG then .ok (.nx,ρ.set i (.own xs)) θ else .bad:=nr rfl
@[simp] theorem ZuY:ZdZ i f ρ θ=(f ρ θ).bind fun d θ=>match ρ[i]? with
  | some (Sl.own xs)=>if xs.length<BIG then .ok (.nx,ρ.set i (.own (xs++[d]))) θ else .bad
  | _=>.bad:=nr rfl
@[simp] theorem ZuX:ZdY i a ρ θ=match ρ[i]? with | some (Sl.own xs)=>a (ρ.set i (.val (.lst xs))) θ | _=>a ρ θ:=nr rfl
@[simp] theorem ZeZ {ρ':List Sl}:Zef a (.nx,ρ') θ=a ρ' θ:=nr rfl
@[simp] theorem ZzO {d:D}:gNm i d ρ=some (ρ.set i (.val d)):=nr rfl
@[simp] theorem ZzR {np nn:Nat} {ds:List D}:ZQ np nn a ds θ=if ds.length=np then (a (ZdR nn ds) θ).bind fun p θ=>match p.1 with | .nx=>.ok .non θ | .rt d=>.ok d θ | _=>.bad else .bad:=nr rfl
@[simp] theorem Zwi {n:Nat} {ds:List D}:ZdR n ds=ds.map Sl.val++List.replicate (n-ds.length) Sl.no:=nr rfl
@[simp] theorem Zgx {xs:List D}:seqOf θ (.tup xs)=some xs:=nr rfl
@[simp] theorem Zup {b:Bool}:ZgN θ (.bl b)=some b:=nr rfl
@[simp] theorem ZsY {ns:List Int}:ZgN θ (.scr ns)=some (!(ns.map D.int).isEmpty):=nr rfl
@[simp] theorem Zs1 {xs:List D}:look θ (.lst xs)=.lst xs:=nr rfl
@[simp] theorem Zs2 {n:Int}:look θ (.int n)=.int n:=nr rfl
@[simp] theorem Zs0 {n:Str}:look θ (.str n)=.str n:=nr rfl
@[simp] theorem Zpa {xs:List D} {n:Int}:ixM (.lst xs) (.int n) θ=match atI xs n with | some d=>.ok d θ | none=>.bad:=nr rfl
@[simp] theorem Zfv {xs:List D} {n:Int}:ixM (.tup xs) (.int n) θ=match atI xs n with | some d=>.ok d θ | none=>.bad:=nr rfl
@[simp] theorem ZuV {xs:List Int} {n:Int}:ixM (.scr xs) (.int n) θ=match atI (xs.map D.int) n with | some d=>.ok d θ | none=>.bad:=nr rfl
@[simp] theorem ZuU {xs:List D}:Zd0 [.lst xs] θ=.ok (.int xs.length) θ:=nr rfl
@[simp] theorem Zm8 {xs:List D}:Zd0 [.tup xs] θ=.ok (.int xs.length) θ:=nr rfl
@[simp] theorem Zus {xs:List Int}:Zd0 [.scr xs] θ=.ok (.int (xs.map D.int).length) θ:=nr rfl
@[simp] theorem ZuP {xs:List D}:Znd [.lst xs] θ=match ZfR xs with | some ns=>.ok (.int ns.sum) θ | none=>.bad:=nr rfl
@[simp] theorem ZuZ {xs:List D}:ZqV [.lst xs] θ=match Zjb xs with | some ns=>.ok (.bl (ns.all id)) θ | none=>.bad:=nr rfl
@[simp] theorem ZzL {m n:Int}:ZhU [.int m,.int n] θ=.ok (.int (if n<m then n else m)) θ:=nr rfl
@[simp] theorem ZyA {m n k:Int}:ZhU [.int m,.int n,.int k] θ=.ok (.int (if n<m then (if k<n then k else n) else (if k<m then k else m))) θ:=nr rfl
@[simp] theorem ZzM {m n:Int}:ZrX [.int m,.int n] θ=.ok (.int (if n > m then n else m)) θ:=nr rfl
@[simp] theorem ZyC {k:Bool}:ZlX [.bl k] θ=.ok (.int (if k then 1 else 0)) θ:=nr rfl
@[simp] theorem Zo7 {xs:List D} {lo hi:Option Int}:Zfn θ (.lst xs) lo hi=some (.lst (ZbF xs lo hi)):=nr rfl
@[simp] theorem ZAj {x:D}:isM x .non θ=.ok (.bl (ZcA x)) θ:=nr rfl
@[simp] theorem Zwj {x:D}:Zgp x .non θ=.ok (.bl (!ZcA x)) θ:=nr rfl
@[simp] theorem ZuW {x y:Bool}:Zgp (.bl x) (.bl y) θ=.ok (.bl (!(x == y))) θ:=nr rfl
end
mutual
def pl:Nat→D→Bool
  | _,.non=>true
  | _,.bl _=>true
  | _,.int _=>true
  | _,.str x=>PyData.strOk x
  | k+1,.tup xs=>pls k xs
  | k+1,.lst xs=>pls k xs
  | _,_=>false
def pls:Nat→List D→Bool
  | _,[]=>true
  | k,d::r=>pl k d && pls k r
end
mutual
def noB:D→Bool
  | .bl _=>false
  | .tup xs=>Zeo xs
  | .lst xs=>Zeo xs
  | _=>true
def Zeo:List D→Bool
  | []=>true
  | d::r=>noB d && Zeo r
end
mutual
theorem Zmr:∀(k:Nat) (d:D),pl k d=true→plain d=true∧(dat d).canLay0=true∧(dat d).depth≤k
  | _,.non,_=>⟨rfl,rfl,Nat.zero_le _⟩
  | _,.bl _,_=>⟨rfl,rfl,Nat.zero_le _⟩
  | _,.int _,_=>⟨rfl,rfl,Nat.zero_le _⟩
  | k,.str x,h=>⟨rfl,by cases k<;>simpa [pl,dat,PyData.canLay0] using h,Nat.zero_le _⟩
  | k+1,.tup xs,h=>by
    obtain ⟨a,b,c⟩:=ZlJ k xs (by simpa [pl] using h)
    exact ⟨a,b,by simp only [dat,PyData.depth]; omega⟩
  | k+1,.lst xs,h=>by
    obtain ⟨a,b,c⟩:=ZlJ k xs (by simpa [pl] using h)
    exact ⟨a,b,by simp only [dat,PyData.depth]; omega⟩
  | 0,.tup xs,h=>by simp [pl] at h
  | 0,.lst xs,h=>by simp [pl] at h
  | 0,.ty _,h=>by simp [pl] at h
  | 0,.scr _,h=>by simp [pl] at h
  | 0,.ref _,h=>by simp [pl] at h
  | _+1,.ty _,h=>by simp [pl] at h
  | _+1,.scr _,h=>by simp [pl] at h
  | _+1,.ref _,h=>by simp [pl] at h
theorem ZlJ:∀(k:Nat) (ds:List D),pls k ds=true→ZbY ds=true∧PyData.canLayAll0 (ZeJ ds)=true∧PyData.depthAll (ZeJ ds)≤k
  | _,[],_=>⟨rfl,rfl,Nat.zero_le _⟩
  | k,d::r,h=>by
    have h':pl k d=true∧pls k r=true:=by simpa [pls] using h
    obtain ⟨a,b,c⟩:=Zmr k d h'.1
    obtain ⟨a',b',c'⟩:=ZlJ k r h'.2
    exact ⟨by simp [ZbY,a,a'],by simp [ZeJ,PyData.canLayAll0,b,b'],by simp only [ZeJ,PyData.depthAll]; omega⟩
end
mutual
theorem ZmD:∀(d e:D),noB d=true→noB e=true→noMix (dat d) (dat e)=true:=fun d e p q=>by
  cases d with
  | bl _=>simp [noB] at p
  | tup xs=>
    cases e with
    | bl _=>simp [noB] at q
    | tup ys=>simp only [dat,noMix]; exact Zhg xs ys p q
    | _=>simp [dat,noMix]
  | lst xs=>
    cases e with
    | bl _=>simp [noB] at q
    | lst ys=>simp only [dat,noMix]; exact Zhg xs ys p q
    | _=>simp [dat,noMix]
  | _=>cases e<;>simp_all [noB,dat,noMix]
theorem Zhg:∀(ds es:List D),Zeo ds=true→Zeo es=true→noMixAll (ZeJ ds) (ZeJ es)=true
  | [],[],_,_=>rfl
  | [],_::_,_,_=>rfl
  | _::_,[],_,_=>rfl
  | d::ds,e::es,p,q=>by
    have p':noB d=true∧Zeo ds=true:=by simpa [Zeo] using p
    have q':noB e=true∧Zeo es=true:=by simpa [Zeo] using q
    simp only [ZeJ,noMixAll,Bool.and_eq_true]
    exact ⟨ZmD d e p'.1 q'.1,Zhg ds es p'.2 q'.2⟩
end
theorem Zh6 {k:Nat} {d:D} (h:pl k d=true) (hk:k≤64):shaped (dat d)=true:=by
  obtain ⟨_,b,c⟩:=Zmr k d h
  unfold shaped
  rw [b,decide_eq_true (by omega)]
  rfl
theorem Zd3 {x y:D} (h1:pl 9 x=true) (h2:pl 9 y=true) (h3:noB x=true) (h4:noB y=true):ZlA x y:=
  ⟨(Zmr _ _ h1).1,(Zmr _ _ h2).1,Zh6 h1 (by decide),Zh6 h2 (by decide),ZmD x y h3 h4⟩
section
open Classical
theorem Zi7 {x y:D} {θ:Sto} (h:ZlA (look θ x) (look θ y)):eqM x y θ=.ok (.bl (decide (look θ x=look θ y))) θ:=if_pos h
theorem Zhh {x y:D} {θ:Sto} (h:ZlA (look θ x) (look θ y)):neM x y θ=.ok (.bl (!decide (look θ x=look θ y))) θ:=if_pos h
end
@[simp] theorem Zvt (k:Nat) (ns:List Int):pls k (ns.map D.int)=true:=by
  induction ns with
  | nil=>rfl
  | cons n r ih=>simp only [List.map_cons,pls,ih,Bool.and_true]; cases k<;>rfl
@[simp] theorem ZuG (ns:List Int):Zeo (ns.map D.int)=true:=by
  induction ns with
  | nil=>rfl
  | cons n r ih=>simp only [List.map_cons,Zeo,ih,Bool.and_true]; rfl
@[simp] theorem ZsN (ns ms:List Int):(ns.map D.int=ms.map D.int)↔ns=ms:=by
  constructor
  · intro h
    have:∀(ns ms:List Int),ns.map D.int=ms.map D.int→ns=ms:=fun ns=>by
      induction ns with
      | nil=>intro ms h; cases ms with
        | nil=>rfl
        | cons _ _=>cases h
      | cons n r ih=>intro ms h; cases ms with
        | nil=>cases h
        | cons m s=>simp at h; rw [h.1,ih s h.2]
    exact this ns ms h
  · intro h; rw [h]
@[simp] theorem Zzu (a b:Int) (θ:Sto):eqM (.int a) (.int b) θ=.ok (.bl (decide (a=b))) θ:=by
  rw [Zi7 (Zd3 rfl rfl rfl rfl)]
  simp
@[simp] theorem Zzb (a b:Int) (θ:Sto):neM (.int a) (.int b) θ=.ok (.bl (!decide (a=b))) θ:=by
  rw [Zhh (Zd3 rfl rfl rfl rfl)]
  simp
@[simp] theorem Zr8 (a b:List Int) (θ:Sto):eqM (.lst (a.map D.int)) (.lst (b.map D.int)) θ=.ok (.bl (decide (a=b))) θ:=by
  rw [Zi7 (Zd3 (by simp [pl]) (by simp [pl]) (by simp [noB]) (by simp [noB]))]
  simp
@[simp] theorem ZrT (a b:List Int) (θ:Sto):neM (.lst (a.map D.int)) (.lst (b.map D.int)) θ=.ok (.bl (!decide (a=b))) θ:=by
  rw [Zhh (Zd3 (by simp [pl]) (by simp [pl]) (by simp [noB]) (by simp [noB]))]
  simp
end
end L2.MM
namespace L2.MM
open PySem PySem.Spec PyProof.Rows PySem.SeqAt My
noncomputable section
@[simp] theorem Zuo:BIG=100000:=nr rfl
def il (ns:List Int):D:=.lst (ns.map D.int)
def itp (ns:List Int):D:=.tup (ns.map D.int)
section
variable {θ:Sto} {a b ns ms:List Int} {i j:Int}
@[simp] theorem ZAc:D.lst (ns.map D.int)=il ns:=nr rfl
theorem Zc9:D.lst []=il []:=rfl
@[simp] theorem Zv5 (x y:Int):D.lst [.int x,.int y]=il [x,y]:=nr rfl
@[simp] theorem ZAb (x y z w:Int):D.lst [.int x,.int y,.int z,.int w]=il [x,y,z,w]:=nr rfl
@[simp] theorem ZAa (x y z w v u:Int):D.lst [.int x,.int y,.int z,.int w,.int v,.int u]=il [x,y,z,w,v,u]:=nr rfl
@[simp] theorem ZvV:ZaX θ (il a)=some (a.map D.int):=nr rfl
@[simp] theorem ZvU:seqOf θ (il a)=some (a.map D.int):=nr rfl
@[simp] theorem Zqo:ZN (il a) (il b) θ=if a.length+b.length≤BIG then .ok (il (a++b)) θ else .bad:=by
  unfold il
  rw [ZqW]
  simp [il]
theorem Zi4 (h:a.length+b.length≤100000):ZN (il a) (il b) θ=.ok (il (a++b)) θ:=by
  rw [Zqo,if_pos h]
@[simp] theorem Zzg:Zd0 [il a] θ=.ok (.int a.length) θ:=by
  unfold il; rw [ZuU]; simp
@[simp] theorem Zze:Zd0 [itp a] θ=.ok (.int a.length) θ:=by
  unfold itp; rw [Zm8]; simp
theorem Zsj {α β:Type} (f:α→β) (xs:List α) (n:Int):atI (xs.map f) n=(atI xs n).map f:=by
  unfold L2.atI
  rw [List.length_map]
  cases ixN xs.length n with
  | none=>rfl
  | some k=>simp
theorem ZvW:ixM (il a) (.int i) θ=match atI a i with | some z=>.ok (.int z) θ | none=>.bad:=by
  unfold il
  rw [Zpa,Zsj]
  cases atI a i<;>rfl
theorem ZqS {xs:List Int} {i:Int} (h0:0≤i) (h:i<xs.length):atI xs i=some (xs.getD i.toNat 0):=by
  have c:i=((i.toNat:Nat):Int):=by omega
  rw [c]
  refine Zfa ?_
  have d:i.toNat<xs.length:=by omega
  rw [List.getD_eq_getElem?_getD,Int.toNat_natCast,List.getElem?_eq_getElem d]
  rfl
def gt (a:List Int) (i:Nat):Int:=a.getD i 0
theorem Zbi (h0:0≤i) (h:i<a.length):ixM (il a) (.int i) θ=.ok (.int (gt a i.toNat)) θ:=by rw [ZvW,ZqS h0 h]; rfl
@[simp] theorem Zzi {x:Int} {r:List Int}:ixM (il (x::r)) (.int 0) θ=.ok (.int x) θ:=Zbi (a:=x::r) (i:=0) (by decide) (by rw [List.length_cons]; omega)
@[simp] theorem Zzh {x y:Int} {r:List Int}:ixM (il (x::y::r)) (.int 1) θ=.ok (.int y) θ:=Zbi (a:=x::y::r) (i:=1) (by decide) (by rw [List.length_cons,List.length_cons]; omega)
@[simp high] theorem ZAp {x:D} {r:List D}:ixM (.tup (x::r)) (.int 0) θ=.ok x θ:=by
  rw [Zfv,show (0:Int)=((0:Nat):Int) from rfl,Zfa (j:=0) (v:=x) rfl]
@[simp high] theorem ZAo {x y:D} {r:List D}:ixM (.tup (x::y::r)) (.int 1) θ=.ok y θ:=by
  rw [Zfv,show (1:Int)=((1:Nat):Int) from rfl,Zfa (j:=1) (v:=y) rfl]
@[simp high] theorem ZAn {x y z:D} {r:List D}:ixM (.tup (x::y::z::r)) (.int 2) θ=.ok z θ:=by
  rw [Zfv,show (2:Int)=((2:Nat):Int) from rfl,Zfa (j:=2) (v:=z) rfl]
@[simp high] theorem ZAm {x y z w:D} {r:List D}:ixM (.tup (x::y::z::w::r)) (.int 3) θ=.ok w θ:=by
  rw [Zfv,show (3:Int)=((3:Nat):Int) from rfl,Zfa (j:=3) (v:=w) rfl]
theorem ZqH {α β:Type} (f:α→β) (xs:List α) (lo hi:Option Int):ZbF (xs.map f) lo hi=(ZbF xs lo hi).map f:=by
  unfold ZbF
  rw [List.length_map,List.map_take,List.map_drop]
@[simp] theorem ZmM {lo hi:Option Int}:Zfn θ (il a) lo hi=some (il (ZbF a lo hi)):=by
  unfold il; rw [Zo7,ZqH]
@[simp] theorem Zwy:Zk8 [itp a] θ=.ok (il a) θ:=nr rfl
@[simp] theorem ZvT:Zfm [il a] θ=.ok (itp a) θ:=nr rfl
@[simp] theorem Zzf:Znd [il a] θ=.ok (.int a.sum) θ:=by unfold il; rw [ZuP,Zqm]
@[simp] theorem Zz4 {n:String}:ZgD [il a,.ty n] θ=match isT .lst n with | some b=>.ok (.bl b) θ | none=>.bad:=nr rfl
@[simp] theorem Zz5:eqM (il a) (il b) θ=.ok (.bl (decide (a=b))) θ:=Zr8 a b θ
@[simp] theorem Zz3:neM (il a) (il b) θ=.ok (.bl (!decide (a=b))) θ:=ZrT a b θ
theorem Zge {α β:Type} (f:α→β) (xs:List α) (lo hi st:Option Int):ZdF (xs.map f) lo hi st=(ZdF xs lo hi st).map f:=by
  unfold ZdF
  rw [List.length_map,List.map_filterMap]
  congr
  funext k
  simp
theorem Zhj:∀{ns ms:List Int},ns.map V.int=ms.map V.int→ns=ms
  | [],[],_=>rfl
  | [],_::_,h=>by cases h
  | _::_,[],h=>by cases h
  | _::_,_::_,h=>by simp at h; rw [h.1,Zhj h.2]
@[simp] theorem ZsG (ns:List Int):ZdF ns none none (some 2)=Zeh ns:=Zhj (by
  have:=ZnE ns
  rw [show Zes (ns.map V.int) none none (some 2)=ZdF (ns.map V.int) none none (some 2) from rfl,Zge] at this
  exact this)
@[simp] theorem ZtH (ns:List Int):ZdF ns (some 1) none (some 2)=Zhe ns:=Zhj (by
  have:=ZqG ns
  rw [show Zes (ns.map V.int) (some 1) none (some 2)=ZdF (ns.map V.int) (some 1) none (some 2) from rfl,Zge] at this
  exact this)
end
theorem ZiQ {n d:Nat} {k:Int} (h:0≤k):HT.sIx n d (some k)=min k.toNat n:=by
  have c:k=((k.toNat:Nat):Int):=by omega
  rw [c]
  exact HT.sIx_nat n d k.toNat
theorem Zdw {α:Type} (xs:List α) {k:Int} (h:0≤k):ZbF xs none (some k)=xs.take k.toNat:=by
  unfold ZbF
  rw [HT.sIx_none,ZiQ h,List.drop_zero,Nat.sub_zero,←List.take_take,List.take_length]
theorem Zb1 {α:Type} (xs:List α) {k:Int} (h:0≤k):ZbF xs (some k) none=xs.drop k.toNat:=by
  unfold ZbF
  rw [HT.sIx_none,ZiQ h]
  by_cases q:k.toNat≤xs.length
  · rw [Nat.min_eq_left q,List.take_of_length_le]
    rw [List.length_drop]
    exact Nat.le_refl _
  · rw [Nat.min_eq_right (by omega),List.drop_length,List.drop_eq_nil_of_le (by omega)]
    simp
theorem ZmU {α:Type} (xs:List α) {k l:Int} (h:0≤k) (h':0≤l):ZbF xs (some k) (some l)=(xs.drop k.toNat).take (l.toNat-k.toNat):=by
  unfold ZbF
  rw [ZiQ h,ZiQ h']
  by_cases q:k.toNat≤xs.length
  · rw [Nat.min_eq_left q]
    by_cases r:l.toNat≤xs.length
    · rw [Nat.min_eq_left r]
    · rw [Nat.min_eq_right (by omega),List.take_of_length_le (by rw [List.length_drop]; exact Nat.le_refl _),List.take_of_length_le (by rw [List.length_drop]; omega)]
  · rw [Nat.min_eq_right (a:=k.toNat) (by omega),List.drop_length,List.drop_eq_nil_of_le (i:=k.toNat) (by omega)]
    simp
section
variable {θ:Sto} {ρ:List Sl}
@[simp] theorem ZcU {lo:Int} {n:Nat}:(Src.rng lo n).items θ=some ((List.range n).map fun (i:Nat)=>D.int (lo+(i:Int))):=nr rfl
@[simp] theorem Zng {d:D}:(Src.seq d).items θ=seqOf θ d:=nr rfl
open Classical in
theorem Zgr {S:Src} {all:List D} {elt:D→Sto→R D} {θ:Sto} (f:D→D) (hS:S.items θ=some all):∀(xs acc:List D),(∀x∈xs,elt x θ=.ok (f x) θ)→(acc.length+xs.length≤BIG)→ZgF S all elt xs acc θ=.ok (.lst (acc++xs.map f)) θ
  | [],acc,_,hl=>by
    unfold ZgF
    rw [if_pos ⟨hS,by simpa using hl⟩]
    simp
  | x::r,acc,h,hl=>by
    unfold ZgF
    rw [if_pos hS,h x List.mem_cons_self]
    rw [R.bind_ok,Zgr f hS r (acc++[f x]) (fun y hy=>h y (List.mem_cons_of_mem _ hy)) (by simp at hl ⊢; omega)]
    simp
theorem Zin {fi:IM} {src:List Nat} {elt:EM} {lo:Int} {n:Nat} {θ':Sto} (f:Int→D) (hi:fi ρ θ=.ok (.rng lo n) θ') (hn:n≤BIG) (he:∀i:Nat,i<n→elt (ZeG src ρ (.int (lo+i))) θ'=.ok (f (lo+i)) θ') :
    ZcP fi src elt ρ θ=.ok (.lst ((List.range n).map fun (i:Nat)=>f (lo+i))) θ':=by
  unfold ZcP
  rw [hi,R.bind_ok]
  simp only [ZcU]
  rw [if_pos (by simpa using hn),Zgr (fun d=>match d with | .int k=>f k | d=>d) rfl]
  · simp
  · intro x hx
    obtain ⟨i,hi,rfl⟩:=List.mem_map.mp hx
    exact he i (List.mem_range.mp hi)
  · simpa using hn
theorem Znr {fi:IM} {src:List Nat} {elt:EM} {d:D} {xs:List D} {θ':Sto} (f:D→D) (hi:fi ρ θ=.ok (.seq d) θ') (hd:seqOf θ' d=some xs) (hn:xs.length≤BIG) (he:∀x∈xs,elt (ZeG src ρ x) θ'=.ok (f x) θ') :
    ZcP fi src elt ρ θ=.ok (.lst (xs.map f)) θ':=by
  unfold ZcP
  rw [hi,R.bind_ok]
  simp only [Zng,hd]
  rw [if_pos hn,Zgr (S:=.seq d) f hd xs [] he (by simpa using hn)]
  simp
@[simp] theorem ZvS {src:List Nat} {x:D}:ZeG src ρ x=Sl.val x::src.map fun (j:Nat)=>match ρ[j]? with | some (Sl.val d)=>Sl.val d | _=>Sl.no:=nr rfl
open Classical in
theorem for_rng {lo:Int} {n:Nat} {all:List D} {tg:TgM} {body:SM} (st:Nat→List Sl) (hs:∀i ρ1,i<n→tg (.int (lo+i)) (st i)=some ρ1→body ρ1 θ=.ok (.nx,st (i+1)) θ) (ht:∀i,i<n→∃ρ1,tg (.int (lo+i)) (st i)=some ρ1) (hall:all=(List.range n).map fun (i:Nat)=>D.int (lo+(i:Int))) :
    Zd2 (.rng lo n) all tg body all (st 0) θ=.ok (.nx,st n) θ:=by
  subst hall
  have key:∀m,m≤n→Zd2 (.rng lo n) ((List.range n).map fun (i:Nat)=>D.int (lo+(i:Int))) tg body (((List.range n).map fun (i:Nat)=>D.int (lo+(i:Int))).drop (n-m)) (st (n-m)) θ=.ok (.nx,st n) θ:=fun m=>by
    induction m with
    | zero=>
      intro _
      rw [Nat.sub_zero,List.drop_eq_nil_of_le (by simp)]
      simp [Zd2]
    | succ m ih=>
      intro hm
      have hlt:n-(m+1)<n:=by omega
      rw [List.drop_eq_getElem_cons (by simpa using hlt)]
      obtain ⟨ρ1,h1⟩:=ht (n-(m+1)) hlt
      have h2:=hs (n-(m+1)) ρ1 hlt h1
      have e:n-(m+1)+1=n-m:=by omega
      simp only [List.getElem_map,List.getElem_range,Zd2,ZcU,if_true,h1]
      rw [h2,R.bind_ok,ZeZ,e]
      exact ih (by omega)
  have:=key n (Nat.le_refl _)
  rw [Nat.sub_self,List.drop_zero] at this
  exact this
end
end
end L2.MM
namespace L2.MM
open PySem PySem.Spec PyProof.Rows PySem.SeqAt
noncomputable section
variable {X:Cx}
def ZaL (f:Str) (v:D):List (Str×D)→List (Str×D)
  | []=>[(f,v)]
  | (g,x)::r=>if g=f then (g,v)::r else (g,x)::ZaL f v r
theorem RepKV.put {B:Bx} {H:Hp} {f:Str} {d:D} {v:V} (q:RepV B H d v):∀{fs:List (Str×D)} {vs:List (Str×V)},RepKV B H fs vs→RepKV B H (ZaL f d fs) (ZdE f v vs)
  | _,_,.nil=>.cons ⟨rfl,q⟩ .nil
  | (g,x)::fs,(g',y)::vs,.cons h t=>by
    obtain ⟨h1,h2⟩:=h
    cases (show g=g' from h1)
    unfold ZaL ZdE
    by_cases e:g=f
    · rw [if_pos e,if_pos e]; exact .cons ⟨rfl,q⟩ t
    · rw [if_neg e,if_neg e]; exact .cons ⟨rfl,h2⟩ (RepKV.put q t)
theorem RepKV.len {κ:Type} {B:Bx} {H:Hp}:∀{fs:List (κ×D)} {vs:List (κ×V)},RepKV B H fs vs→vs.length=fs.length
  | _,_,.nil=>rfl
  | _,_,.cons _ t=>by rw [List.length_cons,List.length_cons,RepKV.len t]
theorem RepKV.get {B:Bx} {H:Hp} {f:Str} {d:D}:∀{fs:List (Str×D)} {vs:List (Str×V)},RepKV B H fs vs→fs.lookup f=some d→∃v,vs.lookup f=some v∧RepV B H d v
  | _,_,.nil,h=>by cases h
  | (g,x)::fs,(g',y)::vs,.cons h t,e=>by
    obtain ⟨h1,h2⟩:=h
    cases (show g=g' from h1)
    rw [List.lookup_cons] at e ⊢
    cases q:f == g with
    | true=>rw [q] at e; cases e; exact ⟨y,rfl,h2⟩
    | false=>rw [q] at e; exact RepKV.get t e
def ZeF (θ:Sto):D→Option (Nat×Str×List (Str×D))
  | .ref l=>match θ[l]? with
    | some (.ins C fs)=>some (l,C,fs)
    | _=>none
  | _=>none
theorem Zlc {cl:Mo} {B:Bx} {θ:Sto} {H:Hp} (G:Good cl B θ H) {d:D} {v:V} {l:Nat} {C:Str} {fs:List (Str×D)} (r:RepV B H d v) (h:ZeF θ d=some (l,C,fs)) :
    l<B.n∧v=.ref (B.m l)∧∃dx vs,H (B.m l)=some (.ins (cl.cl C) dx vs)∧RepKV B H fs vs:=by
  cases d with
  | ref k=>
    simp only [ZeF] at h
    split at h
    · rename_i C' fs' e
      cases h
      obtain ⟨hl,rfl⟩:=r
      obtain ⟨dx,vs,h1,h2⟩:=G.cel _ _ e
      exact ⟨hl,rfl,dx,vs,h1,h2⟩
    · cases h
  | _=>cases h
def zK (cs:List Str) (f:Str):D→Sto→R D:=fun d θ=>match ZeF θ d with
  | some (_,C,fs)=>if cs.contains C=true then (match fs.lookup f with
    | some v=>.ok v θ
    | none=>.bad) else .bad
  | none=>.bad
def ZJ (cs:List Str) (f:Str) (fe:EM):EM:=fun ρ θ=>(fe ρ θ).bind (zK cs f)
def ZsX (X:Cx) (f:Str) (C:Str):Prop:=Cls X.K (X.cl.cl C)∧NoAttr X.K (X.cl.cl C) f
theorem Zw {P:Str→Prop} {a:Str} (h:P a):∀C,[a].contains C=true→P C:=fun C hc=>by
  have:C=a:=by simpa using hc
  rw [this]; exact h
theorem Zr {cs:List Str} {f:Str} {e:Expr} {fe:EM} {pos:Pos} (hc:∀C,cs.contains C=true→ZsX X f C) (he:ME X e fe) (hb:attributeBase e f X.env (eval e X.env)=eval e X.env:=by rfl):ME X (.Attribute e f pos) (ZJ cs f fe):=by
  refine PE.imp (ZtQ he hb) fun σ H Q h=>?_
  obtain ⟨B,θ,ρ,F,w⟩:=h
  refine ZZ (step F w) ?_
  rintro v H1 ⟨B1,θ1,d,E1,F1,rd,w1⟩
  unfold zK at w1
  split at w1
  · rename_i l C fs e1
    split at w1
    · rename_i hC
      split at w1
      · rename_i y ey
        obtain ⟨hl,rfl,dx,vs,h1,h2⟩:=Zlc F1.good rd e1
        obtain ⟨u,h3,h4⟩:=h2.get ey
        exact ⟨_,_,dx,vs,u,rfl,h1,(hc C hC).1,(hc C hC).2,h3,ZR F1.good h4 w1⟩
      · exact w1.elim
    · exact w1.elim
  · exact w1.elim
def zb (cs:List Str) (f:Str) (y d:D) (θ:Sto):Option Sto:=match ZeF θ d with
  | some (l,C,fs)=>if cs.contains C=true∧fs.length<1000 then some (θ.set l (.ins C (ZaL f y fs))) else none
  | none=>none
def ZI (cs:List Str) (f:Str) (fe fv:EM):SM:=fun ρ θ=>(fv ρ θ).bind fun y θ=>(fe ρ θ).bind fun d θ=>match zb cs f y d θ with
  | some θ'=>.ok (.nx,ρ) θ'
  | none=>.bad
theorem Zz {cs:List Str} {f:Str} {o value:Expr} {fe fv:EM} {pos pos':Pos} (hc:∀C,cs.contains C=true→ZsX X f C) (he:ME X o fe) (hv:ME X value fv) (hs:swapsWith value (some (.Attribute o f pos')) pos.line X.env=pure false:=by rfl) :
    MS X (.Assign [.Attribute o f pos'] value pos) (ZI cs f fe fv):=
  PS.imp (ZtE he hv hs) fun D σ H h=>by
  obtain ⟨B,θ,ρ,F,w⟩:=h
  refine ZZ (Zfe F w) ?_
  rintro y H1 ⟨B1,θ1,dy,E1,F1,ry,w1⟩
  refine ZZ (Zfe F1 w1) ?_
  rintro v H2 ⟨B2,θ2,d,E2,F2,rd,w2⟩
  unfold zb at w2
  cases e1:ZeF θ2 d with
  | none=>rw [e1] at w2; exact w2.elim
  | some q=>
    obtain ⟨l,C,fs⟩:=q
    rw [e1] at w2
    simp only at w2
    by_cases hC:cs.contains C=true∧fs.length<1000
    · rw [if_pos hC] at w2
      obtain ⟨hl,rfl,dx,vs,h1,h2⟩:=Zlc F2.good rd e1
      refine ⟨_,_,dx,vs,rfl,h1,(hc C hC.1).1,(hc C hC.1).2,by rw [h2.len]; exact hC.2,?_⟩
      have E3:=ZfU F2.good hl (.ins (X.cl.cl C) dx (ZdE f y vs))
      have G3:=ZfT F2.good hl (o:=.ins (X.cl.cl C) dx (ZdE f y vs)) (c:=.ins C (ZaL f dy fs)) ⟨dx,_,zy,(h2.put (ry.ext E2.toExtS)).ext E3.toExtS⟩
      exact w2 _ _ _ E3.toExtS (F2.ext E3 G3)
    · rw [if_neg hC] at w2
      exact w2.elim
structure MMk (P:Program) (w:World) (K:PySem.W.Frag) (mg:Str→Option Value) (base:Heap) (k:Nat) (C:Str) (f:GM):Prop where
  ex:∃(fI:Addr) (fd:FuncData) (ps:List Str),Mk K (z6 mg C) fI∧FnOk P w K mg base CX0 k fI fd ps (spM ⟨z6 mg,K⟩ f)∧Binds K fd ps []
  mg:mg C=some (.ref (z6 mg C))
def mkG (C:Str) (f:GM):GM:=fun vs θ=>(f (.ref θ.length::vs) (θ++[.ins C []])).bind fun v θ'=>match v with
  | .non=>.ok (.ref θ.length) θ'
  | _=>.bad
theorem wpR.made {σ:St} {B:Bx} {θ:Sto} {H:Hp} {C:Str} {f:GM} {ds:List D} {vs:List V} {Q:VK} {E:XK} (G:Good X.cl B θ H) (r:RepL B H ds vs) (w:wpR X σ RepV B H (mkG C f ds θ) Q) :
    ∀x dx,H x=none→H dx=none→dx≠x→spM X.cl f (.ref x::(vs++[])) (upd (upd H dx (.own x)) x (.ins (X.cl.cl C) dx [])) (fun v H2=>v=.non∧Q (.ref x) H2) E:=by
  intro x dx hx hdx ne
  have E1:=ZcS G hdx (.own x)
  have G1:=ZeH G hdx (.own x)
  have hx1:upd H dx (.own x) x=none:=by rw [ZS (Ne.symm ne)]; exact hx
  have E2:=Zhs G1 hx1 (.ins (X.cl.cl C) dx [])
  have G2:Good X.cl (B.push x) (θ++[.ins C []]) _:=Zis G1 hx1 (o:=.ins (X.cl.cl C) dx []) (c:=.ins C []) ⟨dx,[],zy,.nil⟩
  have rx:RepV (B.push x) (upd (upd H dx (.own x)) x (.ins (X.cl.cl C) dx [])) (.ref θ.length) (.ref x):=⟨by rw [G.len]; exact Nat.lt_succ_self _,by rw [G.len]; show V.ref x=V.ref (if B.n=B.n then x else B.m B.n); rw [if_pos rfl]⟩
  rw [List.append_nil]
  refine ZmY (σ:=σ) G2 (show RepL _ _ (.ref θ.length::ds) (.ref x::vs) from ⟨_,_,rfl,rx,r.ext (E1.trans E2).toExtS⟩) ?_
  have w1:=wpR.trans w (E1.trans E2)
  refine (wpR.bind (Rel:=RepV) w1).mono ?_
  rintro v H3 ⟨B3,θ3,d,E3,G3,rd,w3⟩
  cases d with
  | non=>exact ⟨rd,ZR G3 (rx.ext E3.toExtS) w3⟩
  | _=>exact w3.elim
theorem ZrW {k j:Nat} {x:Str} {f:GM} {p pos:Pos} {e:Expr} {es:List Expr} {fs:AM} (M:MMk X.prog X.w X.K X.mg X.base k x f) (hr:Room j X.A) (hj:k+1≤j) (ha:MA X (e::es) fs) (hg:Gl X x:=by rfl) (hdb:(x == ("__debug__":Str))=false:=by decide)
    (he:starEach (e::es) X.env=(false,eval e X.env)::starEach es X.env:=by rfl) (hpl:(backTo pos (starEach es X.env)).any (·.1)=false:=by rfl):ME X (.Call (.Name x p) (e::es) [] pos) (mCB (mkG x f) fs):=by
  obtain ⟨fI,fd,ps,m,F0,b⟩:=M.ex
  refine PE.imp (ZrI m F0 (hr.mono hj) hg M.mg b .nil ZpP ha hdb he hpl) fun σ H Q h=>?_
  obtain ⟨B,θ,ρ,F,w⟩:=h
  refine ZbX (Zhc F w) ?_
  rintro vs H1 ⟨B1,θ1,ds,E1,F1,rd,w1⟩
  exact wpR.made F1.good rd w1
theorem Zk6 {k j:Nat} {x:Str} {f:GM} {p pos:Pos} (M:MMk X.prog X.w X.K X.mg X.base k x f) (hr:Room j X.A) (hj:k+1≤j) (hg:Gl X x:=by rfl) (hdb:(x == ("__debug__":Str))=false:=by decide):ME X (.Call (.Name x p) [] [] pos) (mCB (mkG x f) Zk):=by
  obtain ⟨fI,fd,ps,m,F0,b⟩:=M.ex
  refine PE.imp (ZpG m F0 (hr.mono hj) hg M.mg b .nil ZpP hdb) fun σ H Q h=>?_
  obtain ⟨B,θ,ρ,F,w⟩:=h
  exact wpR.made (ds:=[]) (vs:=[]) F.good (show RepL B H [] [] from rfl) w
structure ZAg (P:Program) (w:World) (K:PySem.W.Frag) (mg:Str→Option Value) (base:Heap) (k:Nat) (C m:Str) (f:GM):Prop where
  ex:∃(fa:Addr) (fd:FuncData) (ps:List Str),ZzB K (z6 mg C) m fa∧FnOk P w K mg base CX0 k fa fd ps (spM ⟨z6 mg,K⟩ f)∧Binds K fd ps []
  cl:Cls K (z6 mg C)
instance {C C':Str} {gs:List (Str×D)} {m:Str}:Decidable (C'=C∧gs.lookup m=none):=by
  cases h:gs.lookup m with
  | none=>exact if e:C'=C then isTrue ⟨e,rfl⟩ else isFalse fun z=>e z.1
  | some _=>exact isFalse fun z=>nomatch z.2
theorem mmk {P:Program} {w:World} {K:PySem.W.Frag} {mg:Str→Option Value} {base:Heap} {x qual:Str} {st:Stmt} {N ps:List Str} {k:Nat} {fb:SM} {f:Addr} {fd:FuncData} {C:Str} (F:Fun K x qual st f fd) (S:Zq N ps (Zg st)) (np nn:Nat) (hp:ps.length=np) (hn:N.length=nn) (b:Binds K fd ps []) (M:Mk K (z6 mg C) f) (hm:mg C=some (.ref (z6 mg C)))
    (hbody:∀(cdv:Value) (A:Around) (outer:List Env) (s:Shared) (H:Hp) (E:XK),Room k (A.deeper (envOfC qual (Zg st) s.heap.objs.size f cdv))→MSs (Zhu CX0 P w K mg base N qual (Zg st) f cdv A outer s H E).nox (Zp st) fb):MMk P w K mg base (k+1) C (ZQ np nn fb):=
  ⟨⟨f,fd,ps,M,mfn F S np nn hp hn hbody,b⟩,hm⟩
def ZiY:EM:=fun _ θ=>.ok (.ref θ.length) (θ++[.dK []])
theorem Zk7 {pos:Pos}:ME X (.Dict [] [] pos) ZiY:=by
  refine PE.imp ZpL fun σ H Q h=>?_
  obtain ⟨B,θ,ρ,F,w⟩:=h
  intro p hp
  have G:=F.good
  exact w (B.push p) _ _ (Zhs G hp _) (Zis G hp ⟨[],zy,.nil⟩) ⟨by rw [G.len]; exact Nat.lt_succ_self _,by rw [G.len]; show V.ref p=V.ref (if B.n=B.n then p else B.m B.n); rw [if_pos rfl]⟩
section
variable {ρ:List Sl} {θ:Sto} {fe fv fo:EM} {cs:List Str} {f:Str}
@[simp] theorem ZzP:ZJ cs f fe ρ θ=(fe ρ θ).bind (zK cs f):=nr rfl
@[simp] theorem Zyw:ZI cs f fe fv ρ θ=(fv ρ θ).bind fun y θ=>(fe ρ θ).bind fun d θ=>match zb cs f y d θ with
  | some θ'=>.ok (.nx,ρ) θ'
  | none=>.bad:=nr rfl
@[simp] theorem Zwl:ZiY ρ θ=.ok (.ref θ.length) (θ++[.dK []]):=nr rfl
end
end
end L2.MM
namespace L2.MM
open PySem PySem.Spec PyProof.Rows PySem.SeqAt
def Mk0 (K:PySem.W.Frag) (mg:Str→Option Value) (C qual:Str) (st:Stmt) (ps:List Str):Prop:=
  ∃(f:Addr) (fd:FuncData),Fun K "__init__" qual st f fd∧Binds K fd ps []∧Mk K (z6 mg C) f∧mg C=some (.ref (z6 mg C))
theorem ZmX {mg:Str→Option Value} {x:Str} {a:Addr} (h:mg x=some (.ref a)):z6 mg x=a:=by unfold z6; rw [h]
theorem mk0 {P:Program} {w:World} {K:PySem.W.Frag} {mg:Str→Option Value} {base:Heap} {qual:Str} {st:Stmt} {N ps:List Str} {k:Nat} {fb:SM} {C:Str} (D:Mk0 K mg C qual st ps) (S:Zq N ps (Zg st)) (np nn:Nat) (hp:ps.length=np) (hn:N.length=nn)
    (hbody:∀(f:Addr) (cdv:Value) (A:Around) (outer:List Env) (s:Shared) (H:Hp) (E:XK),Room k (A.deeper (envOfC qual (Zg st) s.heap.objs.size f cdv))→MSs (Zhu CX0 P w K mg base N qual (Zg st) f cdv A outer s H E).nox (Zp st) fb):MMk P w K mg base (k+1) C (ZQ np nn fb):=by
  obtain ⟨f,fd,F,b,M,hm⟩:=D
  exact mmk F S np nn hp hn b M hm (hbody f)
end L2.MM
namespace My
open PySem L2 L2.MM
noncomputable section
def Zf1:SM:=(zY (ZH (mOp gtM (Zd 1) (mC (.int 65535)))) (ZL 1 (mOp ZN (mOp Zap (Zd 1) (mC (.int 65536))) (mOp ZeI (Zd 1) (mC (.int 65536))))) 200)
def ZhF:SM:=(Zn (ZL 1 (mOp ZN (mOp Zc6 (mC (.int 256)) (mCB Znd (Zc (ZrY (Zd 0) Zat Zat (ZaO (mC (.int 2)))) Zk))) (mCB Znd (Zc (ZrY (Zd 0) (ZaO (mC (.int 1))) Zat (ZaO (mC (.int 2)))) Zk))))
  (Zn Zf1
  (ZP (Zd 1))))
def Zc5:GM:=ZQ 1 2 ZhF
def Zhy:SM:=(ZP (mOp Zdj (mC (.int 65535)) (mCB Zc5 (Zc (Zd 0) Zk))))
def Zet:GM:=ZQ 1 1 Zhy
def Zm2:SM:=(ZP (Zep (ZH (mOp neM (mOp Zwf (Zd 0) (Zd 1)) (mC (.int 0)))) (mC (.int 1)) (mC (.int 0))))
def Zff:GM:=ZQ 2 2 Zm2
def ZhC:SM:=(Zn (ZL 1 (mOp ixM (Zd 0) (mC (.int 4))))
  (ZP (mOp ZN (mOp ZN (mCB Zd0 (Zc (mOp ixM (Zd 0) (mC (.int 7))) Zk)) (mCB Zff (Zc (Zd 1) (Zc (mC (.int 2)) Zk)))) (mCB Zff (Zc (Zd 1) (Zc (mC (.int 1)) Zk))))))
def Zcv:GM:=ZQ 1 2 ZhC
def ZdO:SM:=(ZP (mOp Zc6 (mC (.int 16)) (mOp ZeI (Zd 0) (mC (.int 4)))))
def zQ:GM:=ZQ 1 1 ZdO
def Zfj:SM:=(ZP (ZbN (Zc (mOp Zap (mOp ZeI (Zd 0) (mC (.int 256))) (mC (.int 256))) (Zc (mOp Zap (Zd 0) (mC (.int 256))) Zk))))
def zj:GM:=ZQ 1 1 Zfj
def ZeU:SM:=(ZP (mOp ZN (mCB zj (Zc (mOp ZeI (Zd 0) (mC (.int 65536))) Zk)) (mCB zj (Zc (Zd 0) Zk))))
def Zbq:GM:=ZQ 1 1 ZeU
def Zb6:SM:=(Zn (ZL 1 (mOp ZN (mCB zj (Zc (mOp ixM (Zd 0) (mC (.int 0))) Zk)) (mCB zj (Zc (mOp ixM (Zd 0) (mC (.int 1))) Zk))))
  (Zn (ZL 2 (mOp ZN (mCB Zbq (Zc (mOp ixM (Zd 0) (mC (.int 2))) Zk)) (mCB Zbq (Zc (mOp ixM (Zd 0) (mC (.int 3))) Zk))))
  (Zn (ZL 3 (Zep (ZH (mOp eqM (mOp ixM (Zd 0) (mC (.int 6))) (mC (.int 0)))) (mC (.int 20)) (mC (.int 24))))
  (ZP (mOp ZN (mOp ZN (mOp ZN (Zd 1) (Zd 2)) (ZbN (Zc (mCB zQ (Zc (Zd 3) Zk)) (Zc (mOp ixM (Zd 0) (mC (.int 4))) Zk)))) (mCB zj (Zc (mOp ixM (Zd 0) (mC (.int 5))) Zk)))))))
def zP:GM:=ZQ 1 4 Zb6
def Zdr:SM:=(ZP (Zep (ZH (mOp eqM (Zd 0) (mC (.int 0)))) (ZbN Zk) (mOp ZN (ZbN (Zc (mC (.int 2)) (Zc (mC (.int 4)) Zk))) (mCB zj (Zc (Zd 0) Zk)))))
def Za1:GM:=ZQ 1 1 Zdr
def Zm0:SM:=(Zn (ZL 1 (mCB zP (Zc (Zd 0) Zk)))
  (Zn (ZL 2 (mOp ZN (mOp ZN (ZbN (Zc (mC (.int 0)) (Zc (mC (.int 0)) Zk))) (mCB Za1 (Zc (mOp ixM (Zd 0) (mC (.int 6))) Zk))) (mCB Zk8 (Zc (mOp ixM (Zd 0) (mC (.int 7))) Zk))))
  (ZP (mOp ZN (mOp ZN (Zd 1) (mCB zj (Zc (mCB Zet (Zc (mOp ZN (mOp ZN (Zd 1) (ZbN (Zc (mC (.int 0)) (Zc (mC (.int 0)) Zk)))) (Zd 2)) Zk)) Zk))) (Zd 2)))))
def ZkS:GM:=ZQ 1 3 Zm0
def ZgH:SM:=(ZP (mOp Zc6 (mOp ZeI (mOp ixM (Zd 0) (mC (.int 12))) (mC (.int 16))) (mC (.int 4))))
def Zbp:GM:=ZQ 1 1 ZgH
def Zhx:SM:=(ZP (mOp ZN (mOp Zc6 (mC (.int 256)) (mOp ixM (Zd 0) (Zd 1))) (mOp ixM (Zd 0) (mOp ZN (Zd 1) (mC (.int 1))))))
def Zae:GM:=ZQ 2 2 Zhx
def Zb3:SM:=(ZP (Zca (mOp eqM (mCB Zff (Zc (mOp ixM (Zd 0) (mC (.int 13))) (Zc (mC (.int 2)) Zk))) (mC (.int 1))) (Zca (mOp eqM (mOp ixM (Zd 0) (mC (.int 20))) (mC (.int 2))) (Zca (mOp eqM (mOp ixM (Zd 0) (mC (.int 21))) (mC (.int 4))) (mOp geM (mCB Zae (Zc (Zd 0) (Zc (mC (.int 22)) Zk))) (mC (.int 4)))))))
def zO:GM:=ZQ 1 1 Zb3
def Zbu:SM:=(ZP (Zca (mOp geM (mCB Zd0 (Zc (Zd 0) Zk)) (mC (.int 20))) (Zca (mOp inM (mOp ixM (Zd 0) (mC (.int 12))) (Za7 (Zc (mCB zQ (Zc (mC (.int 20)) Zk)) (Zc (mCB zQ (Zc (mC (.int 24)) Zk)) Zk)))) (Zca (mOp leM (mOp ixM (Zd 0) (mC (.int 13))) (mC (.int 31))) (Zca (ZbZ leM leM (mC (.int 0)) (mOp Zdj (mCB Zd0 (Zc (Zd 0) Zk)) (mCB Zbp (Zc (Zd 0) Zk))) (mC (.int 16))) (Zca (mOp eqM (mCB Zae (Zc (Zd 0) (Zc (mC (.int 18)) Zk))) (mC (.int 0))) (Zca (ZlQ (mOp eqM (mCB Zbp (Zc (Zd 0) Zk)) (mC (.int 20))) (mCB zO (Zc (Zd 0) Zk))) (mOp eqM (mCB Zc5 (Zc (Zd 0) Zk)) (mC (.int 65535))))))))))
def Zag:GM:=ZQ 1 1 Zbu
def ZgI:SM:=(ZP (mOp ZN (mOp Zc6 (mC (.int 65536)) (mCB Zae (Zc (Zd 0) (Zc (Zd 1) Zk)))) (mCB Zae (Zc (Zd 0) (Zc (mOp ZN (Zd 1) (mC (.int 2))) Zk)))))
def ZcW:GM:=ZQ 2 2 ZgI
def Zgs:SM:=(mIf (ZdI (zR (mCB Zag (Zc (Zd 0) Zk)))) Zr0 ZO)
def Zjc:SM:=(Zn Zgs
  (Zn (ZL 1 (mCB Zbp (Zc (Zd 0) Zk)))
  (Zn (ZL 2 (Zep (ZH (mOp eqM (Zd 1) (mC (.int 24)))) (mCB Zae (Zc (Zd 0) (Zc (mC (.int 22)) Zk))) (mC (.int 0))))
  (Zn (ZL 3 (Za7 (Zc (mCB Zae (Zc (Zd 0) (Zc (mC (.int 0)) Zk))) (Zc (mCB Zae (Zc (Zd 0) (Zc (mC (.int 2)) Zk))) Zk))))
  (Zn (ZL 4 (Za7 (Zc (mCB ZcW (Zc (Zd 0) (Zc (mC (.int 4)) Zk))) (Zc (mCB ZcW (Zc (Zd 0) (Zc (mC (.int 8)) Zk))) Zk))))
  (ZP (mOp ZN (mOp ZN (Zd 3) (Zd 4)) (Za7 (Zc (mOp ixM (Zd 0) (mC (.int 13))) (Zc (mCB Zae (Zc (Zd 0) (Zc (mC (.int 14)) Zk))) (Zc (Zd 2) (Zc (mCB Zfm (Zc (mSl (Zd 0) (ZaO (Zd 1)) Zat) Zk)) Zk))))))))))))
def Zic:GM:=ZQ 1 5 Zjc
def Zfu:SM:=(mIf (zR (Zd 0)) (ZP (mOp ixM (Zd 0) (mOp Zap (Zd 1) (mCB Zd0 (Zc (Zd 0) Zk))))) ZO)
def ZhN:SM:=(Zn Zfu
  (ZP (mC (.int 0))))
def Zgm:GM:=ZQ 2 2 ZhN
def Zm4:SM:=(Zn (ZL 2 (mOp Zap (mOp ZN (mCB Zgm (Zc (Zd 0) (Zc (Zd 1) Zk))) (mOp Zc6 (mC (.int 104729)) (mOp ZN (Zd 1) (mC (.int 1))))) (mC (.int 4294967291))))
  (Zn (ZL 2 (mOp Zap (mOp Zc6 (Zd 2) (mC (.int 48271))) (mC (.int 4294967279))))
  (ZP (mOp Zap (mOp ZN (mOp Zc6 (mOp ZeI (Zd 2) (mC (.int 64))) (mC (.int 69621))) (Zd 2)) (mC (.int 4294967231))))))
def Zao:GM:=ZQ 2 3 Zm4
def Zm3:SM:=(ZP (ZbN (Zc (mOp ZeI (Zd 0) (mC (.int 256))) (Zc (mOp Zap (Zd 0) (mC (.int 256))) Zk))))
def Zeg:GM:=ZQ 1 1 Zm3
def Zf3:SM:=(ZgS (Zcy (Zc (mCB Zd0 (Zc (Zd 0) Zk)) Zk)) (gNm 2) (ZL 1 (mOp ZN (Zd 1) (mOp Zc6 (mOp ixM (Zd 0) (Zd 2)) (mOp ixM (ZbN (Zc (mC (.int 256)) (Zc (mC (.int 1)) Zk))) (mOp Zap (Zd 2) (mC (.int 2))))))))
def Zf2:SM:=(zY (ZH (mOp gtM (Zd 1) (mC (.int 65535)))) (ZL 1 (mOp ZN (mOp Zap (Zd 1) (mC (.int 65536))) (mOp ZeI (Zd 1) (mC (.int 65536))))) 200)
def ZhJ:SM:=(Zn (ZL 1 (mC (.int 0)))
  (Zn Zf3
  (Zn Zf2
  (ZP (Zd 1)))))
def Zcz:GM:=ZQ 1 3 ZhJ
def ZeX:SM:=(ZgS (mIn (mSl (Zd 0) (ZaO (mC (.int 2))) (ZaO (mC (.int 4))))) (gNm 2) (ZL 1 (mOp ZN (mOp ZN (Zd 1) (mCB Zeg (Zc (mOp ZeI (Zd 2) (mC (.int 65536))) Zk))) (mCB Zeg (Zc (mOp Zap (Zd 2) (mC (.int 65536))) Zk)))))
def ZeW:SM:=(mIf (ZH (mOp gtM (mOp ixM (Zd 0) (mC (.int 6))) (mC (.int 0)))) (ZL 1 (mOp ZN (mOp ZN (Zd 1) (ZbN (Zc (mC (.int 2)) (Zc (mC (.int 4)) Zk)))) (mCB Zeg (Zc (mOp ixM (Zd 0) (mC (.int 6))) Zk)))) ZO)
def Zgu:SM:=(Zn (ZL 1 (mOp ZN (mCB Zeg (Zc (mOp ixM (Zd 0) (mC (.int 0))) Zk)) (mCB Zeg (Zc (mOp ixM (Zd 0) (mC (.int 1))) Zk))))
  (Zn ZeX
  (Zn (ZL 1 (mOp ZN (mOp ZN (mOp ZN (Zd 1) (ZbN (Zc (mOp ixM (ZbN (Zc (mC (.int 80)) (Zc (mC (.int 96)) Zk))) (mCB ZlX (Zc (mOp gtM (mOp ixM (Zd 0) (mC (.int 6))) (mC (.int 0))) Zk))) (Zc (mOp ixM (Zd 0) (mC (.int 4))) Zk)))) (mCB Zeg (Zc (mOp ixM (Zd 0) (mC (.int 5))) Zk))) (ZbN (Zc (mC (.int 0)) (Zc (mC (.int 0)) (Zc (mC (.int 0)) (Zc (mC (.int 0)) Zk)))))))
  (Zn ZeW
  (Zn (ZL 1 (mOp ZN (Zd 1) (mCB Zk8 (Zc (mOp ixM (Zd 0) (mC (.int 7))) Zk))))
  (ZP (mOp ZN (mOp ZN (mSl (Zd 1) Zat (ZaO (mC (.int 16)))) (mCB Zeg (Zc (mOp Zdj (mC (.int 65535)) (mCB Zcz (Zc (Zd 1) Zk))) Zk))) (mSl (Zd 1) (ZaO (mC (.int 18))) Zat))))))))
def Zba:GM:=ZQ 1 3 Zgu
end
end My
namespace My
open PySem L2 L2.MM
noncomputable section
def cell (ns:List Int) (k:Int):Int:=if ns.length=0 then 0 else ns.getD (k % (ns.length:Int)).toNat 0
def mix (ns:List Int) (k:Int):Int:=
  ((cell ns k+104729*(k+1)) % 4294967291*48271 % 4294967279/64*69621+(cell ns k+104729*(k+1)) % 4294967291*48271 % 4294967279) % 4294967231
theorem Zp4 (ns:List Int) (k:Int):0≤mix ns k∧mix ns k<4294967231:=by
  unfold mix; omega
theorem Zsi {ns:List Int} {k:Int} (h:0<ns.length):atI (ns.map D.int) (k % (ns.length:Int))=some (.int (cell ns k)):=by
  have a:=Int.emod_nonneg k (show (ns.length:Int)≠0 by omega)
  have b:=Int.emod_lt_of_pos k (show (0:Int)<ns.length by omega)
  have c:(k % (ns.length:Int))=(((k % (ns.length:Int)).toNat:Nat):Int):=by omega
  rw [c]
  refine Zfa ?_
  have d:(k % (ns.length:Int)).toNat<ns.length:=by omega
  rw [List.getElem?_map,List.getElem?_eq_getElem d]
  unfold cell
  rw [if_neg (by omega),List.getD_eq_getElem?_getD,List.getElem?_eq_getElem d]
  rfl
@[simp] theorem ZyO (ns:List Int) (k:Int) (θ:Sto):Zgm [.scr ns,.int k] θ=.ok (.int (cell ns k)) θ:=by
  by_cases h:ns.length=0
  · have:ns=[]:=List.eq_nil_of_length_eq_zero h
    subst this
    simp [Zgm,ZhN,Zfu,cell]
  · have h1:ns.isEmpty=false:=by cases ns with
      | nil=>exact absurd rfl h
      | cons _ _=>rfl
    have h2:0<ns.length:=by omega
    simp [Zgm,ZhN,Zfu,h1,h2,Zsi (k:=k) h2]
@[simp] theorem ZzU (ns:List Int) (k:Int) (θ:Sto):Zao [.scr ns,.int k] θ=.ok (.int (mix ns k)) θ:=by
  simp [Zao,Zm4,ZeY,mix]
@[simp] theorem Zu3 (k:Int) (θ:Sto):Zeg [.int k] θ=.ok (il [k/256,k % 256]) θ:=by
  simp [Zeg,Zm3]
theorem ZgU {t:TMr} {body:SM} {n:Nat} {ρ:List Sl} {θ:Sto}:zY t body (n+1) ρ θ=(t ρ θ).bind fun k θ=>if k=true then (body ρ θ).bind (Zef (zY t body n)) else .ok (.nx,ρ) θ:=rfl
abbrev ZsQ:TMr:=ZH (mOp gtM (Zd 1) (mC (.int 65535)))
abbrev ZsR:SM:=ZL 1 (mOp ZN (mOp Zap (Zd 1) (mC (.int 65536))) (mOp ZeI (Zd 1) (mC (.int 65536))))
theorem Zl0 (t:Int) (x:Sl) (r:List Sl) (θ:Sto):ZsQ (x::.val (.int t)::r) θ=.ok (decide (65535<t)) θ:=by simp
theorem Zqs (t:Int) (x:Sl) (r:List Sl) (θ:Sto):ZsR (x::.val (.int t)::r) θ=.ok (.nx,x::.val (.int (t % 65536+t/65536))::r) θ:=by simp
theorem Zrj {t:Int} (n:Nat) (h0:0≤t) (h1:t<4294967296) (x:Sl) (r:List Sl) (θ:Sto):zY ZsQ ZsR (n+3) (x::.val (.int t)::r) θ=.ok (.nx,x::.val (.int (ZaV t))::r) θ:=by
  rw [ZgU,Zl0,R.bind_ok]
  by_cases c1:65535<t
  · have s1:=Ziu c1
    rw [if_pos (by simpa using c1),Zqs,R.bind_ok,ZeZ]
    have hu:t % 65536+t/65536≤131070:=by omega
    generalize t % 65536+t/65536=u at s1 hu
    rw [ZgU,Zl0,R.bind_ok]
    by_cases c2:65535<u
    · have s2:=Ziu c2
      rw [if_pos (by simpa using c2),Zqs,R.bind_ok,ZeZ]
      have hv:u % 65536+u/65536≤65535:=by omega
      generalize u % 65536+u/65536=v at s2 hv
      rw [ZgU,Zl0,R.bind_ok,if_neg (by simp; omega),←s1.1,←s2.1,Zfr s2.2.1 hv]
    · rw [if_neg (by simpa using c2),←s1.1,Zfr s1.2.1 (by omega)]
  · rw [if_neg (by simpa using c1),Zfr h0 (by omega)]
theorem Zh5 {t:Int} (h0:0≤t) (h1:t<4294967296) (x:Sl) (r:List Sl) (θ:Sto):zY (ZH (mOp gtM (Zd 1) (mC (.int 65535)))) (ZL 1 (mOp ZN (mOp Zap (Zd 1) (mC (.int 65536))) (mOp ZeI (Zd 1) (mC (.int 65536))))) 200 (x::.val (.int t)::r) θ=.ok (.nx,x::.val (.int (ZaV t))::r) θ:=Zrj 197 h0 h1 x r θ
def Byt (ns:List Int):Prop:=(∀z∈ns,0≤z∧z≤255)∧ns.length≤1000
theorem Zl9:∀{ns:List Int} {m:Nat},(∀z∈ns,0≤z∧z≤255)→ns.length≤2*m→zr ns≤65535*m
  | [],m,_,_=>by simp [zr]; omega
  | [a],m,h,hl=>by
    have:=h a (by simp)
    simp [zr] at hl ⊢
    omega
  | a::b::r,m,h,hl=>by
    have h1:=h a (by simp)
    have h2:=h b (by simp)
    obtain ⟨m,rfl⟩:∃k,m=k+1:=⟨m-1,by simp at hl; omega⟩
    have:=Zl9 (ns:=r) (m:=m) (fun z hz=>h z (by simp [hz])) (by simp at hl; omega)
    simp [zr]
    omega
theorem Byt.sum {ns:List Int} (h:Byt ns):0≤zr ns∧zr ns<4294967296:=by
  refine ⟨Zl8 fun z hz=>(h.1 z hz).1,?_⟩
  have:=Zl9 (m:=500) h.1 (by have:=h.2; omega)
  omega
theorem ZkF {ns:List Int} (h:Byt ns) (θ:Sto):Zc5 [il ns] θ=.ok (.int (ZaV (zr ns))) θ:=by
  have l1:=Ziv ns
  have l2:=ZkV ns
  have l3:=h.2
  have hs:=h.sum
  have e:=Zma ns
  simp [Zc5,ZhF,Zf1,Zge,ZeY,show (Zeh ns).length≤100000 by omega,show (Zhe ns).length≤100000 by omega,e]
  rw [Zh5 hs.1 hs.2]
  simp
theorem Zpg {ns:List Int} (h:Byt ns) (θ:Sto):Zet [il ns] θ=.ok (.int (65535-ZaV (zr ns))) θ:=by
  simp [Zet,Zhy,ZkF h]
theorem Zh0 {ns:List Int} (h:Byt ns) (θ:Sto):Zcz [il ns] θ=.ok (.int (ZaV (zr ns))) θ:=by
  have hs:=h.sum
  have l3:=h.2
  let st:Nat→List Sl:=fun i=>[.val (il ns),.val (.int (wpre ns i)),if i=0 then .no else .val (.int ((i:Int)-1))]
  have loop:=for_rng (θ:=θ) (lo:=0) (n:=ns.length) (tg:=gNm 2) (body:=ZL 1 (mOp ZN (Zd 1) (mOp Zc6 (mOp ixM (Zd 0) (Zd 2)) (mOp ixM (ZbN (Zc (mC (.int 256)) (Zc (mC (.int 1)) Zk))) (mOp Zap (Zd 2) (mC (.int 2))))))) st ?_ (fun i hi=>⟨_,rfl⟩) rfl
  · have b1:(ns.length:Int)≤1000000:=by omega
    have b2 : -1000000≤(ns.length:Int):=by omega
    have b3:ns.length≤1000000:=by omega
    have l0:st 0=[.val (il ns),.val (.int 0),.no]:=rfl
    rw [l0] at loop
    simp [Zcz,ZhJ,Zf3,Zf2,ZgS,b1,b2,b3]
    simp at loop
    rw [loop]
    simp [st]
    rw [ZkB,Zh5 hs.1 hs.2]
    simp
  · intro i ρ1 hi e
    have e':ρ1=[.val (il ns),.val (.int (wpre ns i)),.val (.int (0+(i:Int)))]:=by
      simp [st] at e
      simp [←e]
    subst e'
    have g1:ixM (il ns) (.int (0+(i:Int))) θ=.ok (.int (ns.getD i 0)) θ:=by
      rw [Zbi (by omega) (by omega)]
      simp [gt]
    have g2:ixM (il [256,1]) (.int ((0+(i:Int)) % 2)) θ=.ok (.int (if i % 2=0 then 256 else 1)) θ:=by
      rw [Zbi (by omega) (by simp; omega)]
      by_cases q:i % 2=0
      · rw [show ((0+(i:Int)) % 2).toNat=0 by omega,if_pos q]; rfl
      · rw [show ((0+(i:Int)) % 2).toNat=1 by omega,if_neg q]; rfl
    have cm:ZeY (ns.getD i 0) (if i % 2=0 then 256 else 1):=.inr (by split<;>decide)
    simp only [ZuR,ZuS,Zsn,ZuT,Zpb,x_c,Zso,List.getElem?_cons_succ,List.getElem?_cons_zero,R.bind_ok,g1]
    simp only [List.length_cons,List.length_nil,Zv5,Zuo,Zmt,if_pos (show (0:Int)<2 by decide),R.bind_ok,g2,Zp1,if_pos cm,ZqX,if_pos (show 0+1+1≤100000 by decide)]
    simp [st,wpre]
end
end My
namespace My
open PySem L2 L2.MM
noncomputable section
structure Seg where
  src:Int
  goal:Int
  num:Int
  ans:Int
  flags:Int
  win:Int
  most:Int
  data:List Int
def Seg.d (s:Seg):D:=.tup [.int s.src,.int s.goal,.int s.num,.int s.ans,.int s.flags,.int s.win,.int s.most,itp s.data]
structure Seg.Ok (s:Seg):Prop where
  src:0≤s.src∧s.src≤65535
  goal:0≤s.goal∧s.goal≤65535
  num:0≤s.num∧s.num≤4294967295
  ans:0≤s.ans∧s.ans≤4294967295
  flags:0≤s.flags∧s.flags≤31
  win:0≤s.win∧s.win≤65535
  most:s.most=0∨(4≤s.most∧s.most≤65535∧s.flags/2 % 2=1)
  data:(∀z∈s.data,0≤z∧z≤255)∧s.data.length≤16
section
variable {s:Seg} {θ:Sto}
@[simp] theorem d0:ixM s.d (.int 0) θ=.ok (.int s.src) θ:=nr rfl
@[simp] theorem d1:ixM s.d (.int 1) θ=.ok (.int s.goal) θ:=nr rfl
@[simp] theorem d2:ixM s.d (.int 2) θ=.ok (.int s.num) θ:=nr rfl
@[simp] theorem d3:ixM s.d (.int 3) θ=.ok (.int s.ans) θ:=nr rfl
@[simp] theorem d4:ixM s.d (.int 4) θ=.ok (.int s.flags) θ:=nr rfl
@[simp] theorem d5:ixM s.d (.int 5) θ=.ok (.int s.win) θ:=nr rfl
@[simp] theorem d6:ixM s.d (.int 6) θ=.ok (.int s.most) θ:=nr rfl
@[simp] theorem d7:ixM s.d (.int 7) θ=.ok (itp s.data) θ:=nr rfl
end
def two (k:Int):List Int:=[k/256 % 256,k % 256]
def Zlg (k:Int):List Int:=two (k/65536)++two k
def hd (s:Seg):Int:=if s.most=0 then 80 else 96
def ZaY (s:Seg):List Int:=two s.src++two s.goal++(Zlg s.num++Zlg s.ans)++[hd s,s.flags]++two s.win
def ZcO (m:Int):List Int:=if m=0 then [] else [2,4]++two m
def behind (s:Seg):List Int:=[0,0]++ZcO s.most++s.data
def putL (s:Seg):List Int:=ZaY s++two (65535-ZaV (zr (ZaY s++[0,0]++behind s)))++behind s
@[simp] theorem Zsq (k:Int) (θ:Sto):zj [.int k] θ=.ok (il (two k)) θ:=by
  simp [zj,Zfj,two]
@[simp] theorem two_len (k:Int):(two k).length=2:=rfl
@[simp] theorem Zv2 (k:Int):(Zlg k).length=4:=rfl
@[simp] theorem ZuO (s:Seg):(ZaY s).length=16:=rfl
@[simp] theorem Zri (k:Int) (θ:Sto):Zbq [.int k] θ=.ok (il (Zlg k)) θ:=by
  simp [Zbq,ZeU,Zlg]
@[simp] theorem Zpl (k:Int) (θ:Sto):zQ [.int k] θ=.ok (.int (16*(k/4))) θ:=by
  simp [zQ,ZdO,ZeY]
@[simp] theorem ZnL (k:Int) (θ:Sto):Za1 [.int k] θ=.ok (il (ZcO k)) θ:=by
  by_cases h:k=0<;>simp [Za1,Zdr,ZcO,h,Zc9]
@[simp] theorem Zws (s:Seg) (θ:Sto):zP [s.d] θ=.ok (il (ZaY s)) θ:=by
  by_cases h:s.most=0<;>simp [zP,Zb6,ZaY,hd,h]
theorem Zil (m:Int):(ZcO m).length≤4:=by unfold ZcO; split<;>simp
theorem Zd4 (k:Int):∀z∈two k,0≤z∧z≤255:=by
  intro z hz
  simp [two] at hz
  rcases hz with rfl | rfl<;>omega
theorem Zls (k:Int):∀z∈Zlg k,0≤z∧z≤255:=by
  intro z hz
  rcases List.mem_append.mp hz with h | h
  · exact Zd4 _ z h
  · exact Zd4 _ z h
theorem ZbH {a b:List Int} (h1:∀z∈a,0≤z∧z≤255) (h2:∀z∈b,0≤z∧z≤255):∀z∈a++b,0≤z∧z≤255:=fun z hz=>(List.mem_append.mp hz).elim (h1 z) (h2 z)
theorem ZiA {s:Seg} (h:0≤s.flags∧s.flags≤255):∀z∈ZaY s,0≤z∧z≤255:=by
  refine ZbH (ZbH (ZbH (ZbH (Zd4 _) (Zd4 _)) (ZbH (Zls _) (Zls _))) ?_) (Zd4 _)
  intro z hz
  simp at hz
  rcases hz with rfl | rfl
  · unfold hd; split<;>omega
  · exact h
theorem ZqP (m:Int):∀z∈ZcO m,0≤z∧z≤255:=by
  unfold ZcO
  split
  · intro z hz; simp at hz
  · refine ZbH ?_ (Zd4 _)
    intro z hz
    simp at hz
    omega
theorem Zhv {s:Seg} (h:∀z∈s.data,0≤z∧z≤255):∀z∈behind s,0≤z∧z≤255:=by
  refine ZbH (ZbH ?_ (ZqP _)) h
  intro z hz
  simp at hz
  omega
theorem Zd5 (s:Seg):(behind s).length≤6+s.data.length:=by
  have:=Zil s.most
  simp [behind]
  omega
structure Seg.Put (s:Seg):Prop where
  flags:0≤s.flags∧s.flags≤255
  data:(∀z∈s.data,0≤z∧z≤255)∧s.data.length≤100
theorem Seg.Ok.put {s:Seg} (h:s.Ok):s.Put:=⟨⟨h.flags.1,by have:=h.flags.2; omega⟩,h.data.1,by have:=h.data.2; omega⟩
theorem Seg.Put.byt {s:Seg} (h:s.Put):Byt (ZaY s++[0,0]++behind s):=by
  refine ⟨ZbH (ZbH (ZiA h.flags) ?_) (Zhv h.data.1),?_⟩
  · intro z hz
    simp at hz
    omega
  · have:=Zd5 s
    have:=h.data.2
    simp
    omega
theorem Zu4 {s:Seg} (h:s.Put) (θ:Sto):ZkS [s.d] θ=.ok (il (putL s)) θ:=by
  have b:=h.byt
  have l1:=Zil s.most
  have l2:=h.data.2
  have l3:=Zd5 s
  have e1:0::0::(ZcO s.most++s.data)=behind s:=rfl
  have e2:=Zpg b θ
  simp only [List.append_assoc,List.cons_append,List.nil_append] at e2
  simp (disch:=first | done | (simp; done) | omega | (simp; omega)) [ZkS,Zm0,Zi4,-Zqo,e1,e2]
  simp [putL,show 18+(behind s).length≤100000 by omega]
theorem Zg2 {a b c:List Int} (ha:a.length % 2=0) (hb:b.length % 2=0):zr (a++b++c)=zr a+zr b+zr c:=by
  rw [Zg3 (by rw [List.length_append]; omega),Zg3 ha]
theorem Zpv {s:Seg} (h:s.Put):ZaV (zr (putL s))=65535:=by
  have b:=h.byt
  have w0:=b.sum
  have e1:zr (putL s)=zr (ZaY s)+zr (two (65535-ZaV (zr (ZaY s++[0,0]++behind s))))+zr (behind s):=Zg2 (by simp) (by simp)
  have e2:zr (ZaY s++[0,0]++behind s)=zr (ZaY s)+zr [0,0]+zr (behind s):=Zg2 (by simp) (by simp)
  have e3:zr [0,0]=0:=by simp [zr]
  have f:=ZmO w0.1
  have e4:zr (two (65535-ZaV (zr (ZaY s++[0,0]++behind s))))=256*((65535-ZaV (zr (ZaY s++[0,0]++behind s)))/256)+(65535-ZaV (zr (ZaY s++[0,0]++behind s))) % 256:=by
    have:=f.2.1
    have:=f.1
    simp only [zr,two]
    omega
  have c:=ZlZ w0.1
  rw [e1,e4]
  rw [e3] at e2
  have:zr (ZaY s)+(256*((65535-ZaV (zr (ZaY s++[0,0]++behind s)))/256)+(65535-ZaV (zr (ZaY s++[0,0]++behind s))) % 256)+zr (behind s)=zr (ZaY s++[0,0]++behind s)+(256*((65535-ZaV (zr (ZaY s++[0,0]++behind s)))/256)+(65535-ZaV (zr (ZaY s++[0,0]++behind s))) % 256):=by omega
  rw [this]
  exact c
theorem Zmp {s:Seg} (h:s.Put):Byt (putL s):=by
  refine ⟨ZbH (ZbH (ZiA h.flags) (Zd4 _)) (Zhv h.data.1),?_⟩
  have:=Zd5 s
  have:=h.data.2
  simp [putL]
  omega
theorem Zmo {s:Seg}:(putL s).length=(if s.most=0 then 20 else 24)+s.data.length:=by
  unfold putL behind ZcO
  by_cases h:s.most=0<;>simp [h]<;>omega
theorem ZlI (s:Seg):∃x y,putL s=[s.src/256 % 256,s.src % 256,s.goal/256 % 256,s.goal % 256,s.num/65536/256 % 256,s.num/65536 % 256,s.num/256 % 256,s.num % 256,
    s.ans/65536/256 % 256,s.ans/65536 % 256,s.ans/256 % 256,s.ans % 256,hd s,s.flags,s.win/256 % 256,s.win % 256,x,y,0,0]++(ZcO s.most++s.data):=⟨_,_,rfl⟩
@[simp] theorem Zct {a:List Int} {i:Int} (h0:0≤i) (h:i+1<a.length) (θ:Sto):Zae [il a,.int i] θ=.ok (.int (256*gt a i.toNat+gt a (i+1).toNat)) θ:=by
  simp [Zae,Zhx,Zbi (θ:=θ) h0 (show i<a.length by omega),Zbi (θ:=θ) (show 0≤i+1 by omega) h,ZeY]
@[simp] theorem Zh4 {a:List Int} {i:Int} (h0:0≤i) (h:i+3<a.length) (θ:Sto):ZcW [il a,.int i] θ=.ok (.int (65536*(256*gt a i.toNat+gt a (i+1).toNat)+(256*gt a (i+2).toNat+gt a (i+2+1).toNat))) θ:=by
  simp [ZcW,ZgI,Zct (θ:=θ) h0 (show i+1<a.length by omega),Zct (θ:=θ) (show 0≤i+2 by omega) (show i+2+1<a.length by omega),ZeY]
@[simp] theorem Zh2 {a:List Int} (h:12<a.length) (θ:Sto):Zbp [il a] θ=.ok (.int (gt a 12/16*4)) θ:=by
  have:=Zbi (a:=a) (θ:=θ) (i:=12) (by decide) (by omega)
  simp [Zbp,ZgH,this,ZeY]
def bit (f k:Int):Int:=if Builtin.bitAnd f k=0 then 0 else 1
@[simp] theorem ZzV (f k:Int) (θ:Sto):Zff [.int f,.int k] θ=.ok (.int (bit f k)) θ:=by
  by_cases h:Builtin.bitAnd f k=0<;>simp [Zff,Zm2,bit,h]
theorem Zsg:∀n:Fin 32,bit (n.val:Int) 1=(n.val:Int) % 2∧bit (n.val:Int) 2=(n.val:Int)/2 % 2∧bit (n.val:Int) 4=(n.val:Int)/4 % 2∧bit (n.val:Int) 8=(n.val:Int)/8 % 2∧bit (n.val:Int) 16=(n.val:Int)/16 % 2:=by decide
theorem ZqR {f:Int} (h:0≤f∧f≤31):bit f 1=f % 2∧bit f 2=f/2 % 2∧bit f 4=f/4 % 2∧bit f 8=f/8 % 2∧bit f 16=f/16 % 2:=by
  have:=Zsg ⟨f.toNat,by omega⟩
  simp only at this
  rw [show ((f.toNat:Nat):Int)=f by omega] at this
  exact this
theorem Zpj (s:Seg) (θ:Sto):Zcv [s.d] θ=.ok (.int (s.data.length+bit s.flags 2+bit s.flags 1)) θ:=by
  simp [Zcv,ZhC]
def at2 (a:List Int) (i:Nat):Int:=256*gt a i+gt a (i+1)
def at4 (a:List Int) (i:Nat):Int:=65536*at2 a i+at2 a (i+2)
def longOk (a:List Int):Bool:=decide (bit (gt a 13) 2=1) && (decide (gt a 20=2) && (decide (gt a 21=4) && decide (4≤at2 a 22)))
def Zbk (a:List Int):Int:=gt a 12/16*4
def Zav (a:List Int):Bool:=decide (20≤a.length) && (decide (gt a 12=80∨gt a 12=96) && (decide (gt a 13≤31) && (decide (0≤(a.length:Int)-Zbk a∧(a.length:Int)-Zbk a≤16) &&
  (decide (at2 a 18=0) && ((decide (Zbk a=20) || longOk a) && decide (ZaV (zr a)=65535))))))
theorem Ztc {a:List Int} (h:24≤a.length) (θ:Sto):zO [il a] θ=.ok (.bl (longOk a)) θ:=by
  have g:=fun (i:Int) (h0:0≤i) (h1:i<a.length)=>Zbi (a:=a) (θ:=θ) (i:=i) h0 h1
  have g13:=g 13 (by decide) (by omega)
  have g20:=g 20 (by decide) (by omega)
  have g21:=g 21 (by decide) (by omega)
  have g22:=Zct (a:=a) (i:=22) (by decide) (by omega) θ
  simp only [show (13:Int).toNat=13 from rfl,show (20:Int).toNat=20 from rfl,show (21:Int).toNat=21 from rfl,show (22:Int).toNat=22 from rfl,show (22+1:Int).toNat=23 from rfl] at g13 g20 g21 g22
  unfold longOk at2
  simp [zO,Zb3,g13,g20,g21,g22]
theorem Zr4 (x y z:Int) (θ:Sto):inM (.int x) (.tup [.int y,.int z]) θ=.ok (.bl (decide (x=y∨x=z))) θ:=by
  have e:inD θ (.int x) (.tup [.int y,.int z])=some (decide (y=x) || (decide (z=x) || false)):=rfl
  have e2:(decide (y=x) || (decide (z=x) || false))=decide (x=y∨x=z):=by
    rw [Bool.eq_iff_iff]
    simp only [Bool.or_eq_true,decide_eq_true_eq,Bool.false_eq_true,or_false]
    constructor
    · rintro (h | h)
      · exact .inl h.symm
      · exact .inr h.symm
    · rintro (h | h)
      · exact .inl h.symm
      · exact .inr h.symm
  unfold inM
  rw [e,e2]
theorem ZcZ {a:List Int} (h:Byt a) (θ:Sto):Zag [il a] θ=.ok (.bl (Zav a)) θ:=by
  by_cases c1:20≤a.length
  · have g:=fun (i:Int) (h0:0≤i) (h1:i<a.length)=>Zbi (a:=a) (θ:=θ) (i:=i) h0 h1
    have g12:=g 12 (by decide) (by omega)
    have g13:=g 13 (by decide) (by omega)
    have g18:=Zct (a:=a) (i:=18) (by decide) (by omega) θ
    have gh:=Zh2 (a:=a) (by omega) θ
    have gf:=ZkF h θ
    have c1':(20:Int)≤a.length:=by omega
    simp only [show (12:Int).toNat=12 from rfl,show (13:Int).toNat=13 from rfl,show (18:Int).toNat=18 from rfl,show (18+1:Int).toNat=19 from rfl] at g12 g13 g18
    by_cases c2:gt a 12=80
    · rw [c2] at g12 gh
      simp [Zag,Zbu,Zav,Zbk,at2,c1,c1',g12,g13,g18,gh,gf,Zr4,c2]<;>rfl
    · by_cases c3:gt a 12=96
      · rw [c3] at g12 gh
        by_cases c4:24≤a.length
        · have gl:=Ztc c4 θ
          simp [Zag,Zbu,Zav,Zbk,at2,c1,c1',g12,g13,g18,gh,gf,Zr4,c3,gl]<;>rfl
        · have c5:¬(24:Int)≤(a.length:Int):=by omega
          simp [Zag,Zbu,Zav,Zbk,at2,c1,c1',g12,g13,g18,gh,gf,Zr4,c3,c5]<;>rfl
      · simp [Zag,Zbu,Zav,Zbk,at2,c1,c1',g12,g13,g18,gh,gf,Zr4,c2,c3]
  · have c1':¬(20:Int)≤a.length:=by omega
    simp [Zag,Zbu,Zav,c1,c1']
def Zby (a:List Int):Seg:=⟨at2 a 0,at2 a 2,at4 a 4,at4 a 8,gt a 13,at2 a 14,if Zbk a=24 then at2 a 22 else 0,a.drop (Zbk a).toNat⟩
theorem ZgC {a:List Int} (h:Zav a=true):20≤a.length∧((Zbk a=20)∨(Zbk a=24∧24≤a.length∧longOk a=true))∧(a.length:Int)-Zbk a≤16∧gt a 13≤31:=by
  unfold Zav at h
  simp only [Bool.and_eq_true,decide_eq_true_eq,Bool.or_eq_true] at h
  obtain ⟨h1,h2,h3,h4,h5,h6,h7⟩:=h
  refine ⟨h1,?_,h4.2,h3⟩
  rcases h2 with h2 | h2
  · left; unfold Zbk; rw [h2]; rfl
  · right
    have e:Zbk a=24:=by unfold Zbk; rw [h2]; rfl
    refine ⟨e,by have:=h4.1; rw [e] at this; omega,?_⟩
    rcases h6 with h6 | h6
    · rw [e] at h6; cases h6
    · exact h6
theorem Zmf {a:List Int} (h:Byt a) (hr:Zav a=true) (θ:Sto):Zic [il a] θ=.ok (Zby a).d θ:=by
  obtain ⟨l1,l2,l3,l4⟩:=ZgC hr
  have ir:=ZcZ h θ
  rw [hr] at ir
  have gh:=Zh2 (a:=a) (by omega) θ
  have g13:=Zbi (a:=a) (θ:=θ) (i:=13) (by decide) (by omega)
  have q0:=Zct (a:=a) (i:=0) (by decide) (by omega) θ
  have q2:=Zct (a:=a) (i:=2) (by decide) (by omega) θ
  have q14:=Zct (a:=a) (i:=14) (by decide) (by omega) θ
  have q4:=Zh4 (a:=a) (i:=4) (by decide) (by omega) θ
  have q8:=Zh4 (a:=a) (i:=8) (by decide) (by omega) θ
  simp only [show (13:Int).toNat=13 from rfl,show (0:Int).toNat=0 from rfl,show (0+1:Int).toNat=1 from rfl,show (2:Int).toNat=2 from rfl,show (2+1:Int).toNat=3 from rfl,show (14:Int).toNat=14 from rfl,show (14+1:Int).toNat=15 from rfl,
    show (4:Int).toNat=4 from rfl,show (4+1:Int).toNat=5 from rfl,show (4+2:Int).toNat=6 from rfl,show (4+2+1:Int).toNat=7 from rfl,show (8:Int).toNat=8 from rfl,show (8+1:Int).toNat=9 from rfl,show (8+2:Int).toNat=10 from rfl,show (8+2+1:Int).toNat=11 from rfl] at g13 q0 q2 q14 q4 q8
  have gh':Zbp [il a] θ=.ok (.int (Zbk a)) θ:=gh
  have ps:∀x:Int,0≤x→ZbF a (some x) none=a.drop x.toNat:=fun x hx=>Zb1 a hx
  rcases l2 with e | ⟨e,l5,_⟩
  · simp [Zic,Zjc,Zgs,ir,gh',e,g13,q0,q2,q4,q8,q14,ps,Zby,Seg.d,at2,at4]
  · have q22:=Zct (a:=a) (i:=22) (by decide) (by omega) θ
    simp only [show (22:Int).toNat=22 from rfl,show (22+1:Int).toNat=23 from rfl] at q22
    simp [Zic,Zjc,Zgs,ir,gh',e,g13,q0,q2,q4,q8,q14,q22,ps,Zby,Seg.d,at2,at4]
end
end My
namespace My
open PySem L2 L2.MM
noncomputable section
theorem Zpu (s:Seg):gt (putL s) 12=hd s∧gt (putL s) 13=s.flags∧at2 (putL s) 18=0∧at2 (putL s) 0=256*(s.src/256 % 256)+s.src % 256∧at2 (putL s) 2=256*(s.goal/256 % 256)+s.goal % 256∧
    at4 (putL s) 4=65536*(256*(s.num/65536/256 % 256)+s.num/65536 % 256)+(256*(s.num/256 % 256)+s.num % 256)∧at4 (putL s) 8=65536*(256*(s.ans/65536/256 % 256)+s.ans/65536 % 256)+(256*(s.ans/256 % 256)+s.ans % 256)∧
    at2 (putL s) 14=256*(s.win/256 % 256)+s.win % 256:=by
  obtain ⟨x,y,e⟩:=ZlI s
  rw [e]
  unfold at4 at2
  refine ⟨rfl,rfl,?_,rfl,rfl,rfl,rfl,rfl⟩
  show 256*(0:Int)+0=0
  rfl
theorem ZkP (s:Seg) (h:s.most≠0):gt (putL s) 20=2∧gt (putL s) 21=4∧at2 (putL s) 22=256*(s.most/256 % 256)+s.most % 256:=by
  obtain ⟨x,y,e⟩:=ZlI s
  have e2:ZcO s.most=[2,4,s.most/256 % 256,s.most % 256]:=by unfold ZcO; rw [if_neg h]; rfl
  rw [e,e2]
  unfold at2
  exact ⟨rfl,rfl,rfl⟩
theorem Zh9 {s:Seg} (h:s.Ok):Zav (putL s)=true:=by
  obtain ⟨g12,g13,g18,_⟩:=Zpu s
  have hl:=Zmo (s:=s)
  have hd':=h.data.2
  have hf:=Zpv h.put
  have hw:=h.flags
  unfold Zav longOk Zbk
  simp only [Bool.and_eq_true,decide_eq_true_eq,Bool.or_eq_true]
  rw [g12,g13,g18,hf,hl]
  by_cases m:s.most=0
  · have e:hd s=80:=if_pos m
    rw [e,if_pos m]
    simp
    omega
  · have e:hd s=96:=if_neg m
    obtain ⟨p1,p2,p3⟩:=ZkP s m
    have hm:4≤s.most∧s.most≤65535∧s.flags/2 % 2=1:=h.most.resolve_left m
    have hb:=(ZqR h.flags).2.1
    rw [e,if_neg m,p1,p2,p3,hb]
    simp
    omega
theorem Zqz (s:Seg):(putL s).drop (if s.most=0 then 20 else 24)=s.data:=by
  obtain ⟨x,y,e⟩:=ZlI s
  rw [e]
  by_cases m:s.most=0
  · rw [if_pos m]
    simp [ZcO,m]
  · rw [if_neg m]
    simp [ZcO,m,two]
theorem ZmN {s:Seg} (h:s.Ok):Zby (putL s)=s:=by
  obtain ⟨g12,g13,g18,g0,g2,g4,g8,g14⟩:=Zpu s
  have e0:=Zqz s
  obtain ⟨⟨a1,a2⟩,⟨b1,b2⟩,⟨c1,c2⟩,⟨d1,d2⟩,_,⟨f1,f2⟩,hm,_⟩:=h
  unfold Zby Zbk
  rw [g12,g13,g0,g2,g4,g8,g14]
  obtain ⟨src,goal,num,ans,flags,win,most,data⟩:=s
  simp only at *
  by_cases m:most=0
  · subst m
    have e:hd ⟨src,goal,num,ans,flags,win,0,data⟩=80:=rfl
    rw [e]
    simp only [if_true] at e0
    simp [e0]
    omega
  · have e:hd ⟨src,goal,num,ans,flags,win,most,data⟩=96:=if_neg m
    obtain ⟨_,_,p3⟩:=ZkP ⟨src,goal,num,ans,flags,win,most,data⟩ m
    simp only at p3
    rw [e,p3]
    rw [if_neg m] at e0
    simp [e0]
    have:=hm.resolve_left m
    omega
@[simp] theorem Zzw {s:Seg} {θ:Sto}:Zfn θ s.d (some 2) (some 4)=some (.tup [.int s.num,.int s.ans]):=nr rfl
theorem two_small {k:Int} (h0:0≤k) (h:k≤65535):[k/256,k % 256]=two k:=by
  unfold two
  rw [show k/256 % 256=k/256 by omega]
theorem Zhr {k:Int} (h0:0≤k) (h:k≤4294967295):[k/65536/256,k/65536 % 256,k % 65536/256,k % 256]=Zlg k:=by
  unfold Zlg two
  rw [show k/65536/256 % 256=k/65536/256 by omega,show k % 65536/256=k/256 % 256 by omega]
  rfl
def Zcu (s:Seg):List Int:=[s.src/256,s.src % 256,s.goal/256,s.goal % 256,s.num/65536/256,s.num/65536 % 256,s.num % 65536/256,s.num % 256,s.ans/65536/256,s.ans/65536 % 256,s.ans % 65536/256,s.ans % 256,
  hd s,s.flags,s.win/256,s.win % 256,0,0,0,0]++((if s.most=0 then [] else [2,4,s.most/256,s.most % 256])++s.data)
theorem ZpC {s:Seg} (h:s.Ok):Zcu s=ZaY s++[0,0]++behind s:=by
  obtain ⟨⟨a1,a2⟩,⟨b1,b2⟩,⟨c1,c2⟩,⟨d1,d2⟩,⟨f1,f2⟩,⟨w1,w2⟩,hm,hd1,hd2⟩:=id h
  have e1:=two_small a1 a2
  have e2:=two_small b1 b2
  have e3:=Zhr c1 c2
  have e4:=Zhr d1 d2
  have e5:=two_small w1 w2
  have e6:(if s.most=0 then [] else [2,4,s.most/256,s.most % 256])=ZcO s.most:=by
    unfold ZcO
    by_cases m:s.most=0
    · rw [if_pos m,if_pos m]
    · rw [if_neg m,if_neg m]
      have:=hm.resolve_left m
      rw [←two_small (k:=s.most) (by omega) (by omega)]
      rfl
  unfold Zcu ZaY behind
  rw [e6,←e1,←e2,←e3,←e4,←e5]
  rfl
theorem ZrC {s:Seg} (h:s.Ok):(Zcu s).take 16++two (65535-ZaV (zr (Zcu s)))++(Zcu s).drop 18=putL s:=by
  rw [ZpC h]
  have e1:(ZaY s++[0,0]++behind s).take 16=ZaY s:=by
    rw [List.append_assoc,List.take_append_of_le_length (by simp),List.take_of_length_le (by simp)]
  have e2:(ZaY s++[0,0]++behind s).drop 18=behind s:=by
    have:(ZaY s++[0,0]).length=18:=by simp
    rw [←this,List.drop_left]
  rw [e1,e2]
  rfl
theorem ZhR {s:Seg} (h:s.Ok) (θ:Sto) (x y:Sl):ZP (mOp ZN (mOp ZN (mSl (Zd 1) Zat (ZaO (mC (.int 16)))) (mCB Zeg (Zc (mOp Zdj (mC (.int 65535)) (mCB Zcz (Zc (Zd 1) Zk))) Zk))) (mSl (Zd 1) (ZaO (mC (.int 18))) Zat)) [x,.val (il (Zcu s)),y] θ
    = .ok (.rt (il (putL s)),[x,.val (il (Zcu s)),y]) θ:=by
  have pe:=ZpC h
  have bp:=h.put.byt
  rw [←pe] at bp
  have lf:=Zh0 bp θ
  have hs:=ZmO bp.sum.1
  have hl:(Zcu s).length≤100:=by
    have:=Zd5 s
    have:=h.data.2
    rw [pe]
    simp
    omega
  have fin:=ZrC h
  have tw:[(65535-ZaV (zr (Zcu s)))/256,(65535-ZaV (zr (Zcu s))) % 256]=two (65535-ZaV (zr (Zcu s))):=two_small (by omega) (by omega)
  have k1:ZbF (Zcu s) none (some 16)=(Zcu s).take 16:=Zdw _ (by decide)
  have k2:ZbF (Zcu s) (some 18) none=(Zcu s).drop 18:=Zb1 _ (by decide)
  have fs:ZN (il ((Zcu s).take 16)) (il (two (65535-ZaV (zr (Zcu s))))) θ=.ok (il ((Zcu s).take 16++two (65535-ZaV (zr (Zcu s))))) θ:=Zi4 (by simp; omega)
  have fs2:ZN (il ((Zcu s).take 16++two (65535-ZaV (zr (Zcu s))))) (il ((Zcu s).drop 18)) θ=.ok (il (putL s)) θ:=by
    rw [Zi4 (by simp; omega),fin]
  simp only [Zo8,ZuS,Zyu,Zsn,ZyG,Zpb,Zso,Zo9,ZsZ,x_c,R.bind_ok,List.getElem?_cons_succ,List.getElem?_cons_zero,ZmM,k1,k2,lf,Zmt,if_true,Zu3,tw,fs,fs2]
theorem Zfy {s:Seg} (h:s.Ok) (θ:Sto):Zba [s.d] θ=.ok (il (putL s)) θ:=by
  have tail:=ZhR h θ
  have dl:=h.data.2
  by_cases m:s.most=0
  · have g:ixM (il [80,96]) (.int 0) θ=.ok (.int 80) θ:=rfl
    have e0:hd s=80:=if_pos m
    have pl:[s.src/256,s.src % 256,s.goal/256,s.goal % 256,s.num/65536/256,s.num/65536 % 256,s.num % 65536/256,s.num % 256,s.ans/65536/256,s.ans/65536 % 256,s.ans % 65536/256,s.ans % 256,
      80,s.flags,s.win/256,s.win % 256,0,0,0,0]++s.data=Zcu s:=by unfold Zcu; rw [if_pos m,e0]; rfl
    simp only [List.cons_append,List.nil_append] at pl
    simp [Zba,Zgu,ZeX,ZeW,ZgS,Zd2,m,g,pl,-Zo8,tail,show s.data.length+20≤100000 by omega,show 20+s.data.length≤100000 by omega]
  · have g:ixM (il [80,96]) (.int 1) θ=.ok (.int 96) θ:=rfl
    have e0:hd s=96:=if_neg m
    have mg:(0:Int)<s.most:=by have:=h.most.resolve_left m; omega
    have pl:[s.src/256,s.src % 256,s.goal/256,s.goal % 256,s.num/65536/256,s.num/65536 % 256,s.num % 65536/256,s.num % 256,s.ans/65536/256,s.ans/65536 % 256,s.ans % 65536/256,s.ans % 256,
      96,s.flags,s.win/256,s.win % 256,0,0,0,0,2,4,s.most/256,s.most % 256]++s.data=Zcu s:=by unfold Zcu; rw [if_neg m,e0]; rfl
    simp only [List.cons_append,List.nil_append] at pl
    simp [Zba,Zgu,ZeX,ZeW,ZgS,Zd2,mg,g,pl,-Zo8,tail,show s.data.length+24≤100000 by omega,show 24+s.data.length≤100000 by omega]
end
end My
namespace My
open PySem L2 L2.MM
noncomputable section
def Zfk:SM:=(ZI ["Pile"] "row" (Zd 0) (ZbN Zk))
def ZbT:GM:=ZQ 1 1 Zfk
def Zlt:SM:=(ZP (mOp Zdj (mC (.int 64)) (mCB Zd0 (Zc (ZJ ["Pile"] "row" (Zd 0)) Zk))))
def Zfo:GM:=ZQ 1 1 Zlt
def Zlu:SM:=(ZP (mOp Zap (mOp ZN (Zd 0) (Zd 1)) (mC (.int 4294967296))))
def zA:GM:=ZQ 2 2 Zlu
def ZhB:SM:=(ZP (mOp Zdj (mOp Zap (mOp ZN (mOp Zdj (Zd 0) (Zd 1)) (mC (.int 2147483648))) (mC (.int 4294967296))) (mC (.int 2147483648))))
def zB:GM:=ZQ 2 2 ZhB
def Zeb:SM:=(Zn (ZI ["End"] "ours" (Zd 0) (Zd 1))
  (Zn (ZI ["End"] "theirs" (Zd 0) (Zd 2))
  (Zn (ZI ["End"] "state" (Zd 0) (Zep (zR (Zd 4)) (mC (.str "syn sent")) (mC (.str "listen"))))
  (Zn (ZI ["End"] "error" (Zd 0) (mC (.str "")))
  (Zn (ZI ["End"] "first" (Zd 0) (Zd 3))
  (Zn (ZI ["End"] "una" (Zd 0) (Zd 3))
  (Zn (ZI ["End"] "nxt" (Zd 0) (Zd 3))
  (Zn (ZI ["End"] "rcv" (Zd 0) (mC (.int 0)))
  (Zn (ZI ["End"] "wnd" (Zd 0) (mC (.int 0)))
  (Zn (ZI ["End"] "told" (Zd 0) (mC (.int 0)))
  (Zn (ZI ["End"] "told_by" (Zd 0) (mC (.int 0)))
  (Zn (ZI ["End"] "most" (Zd 0) (mC (.int 12)))
  (Zn (ZI ["End"] "written" (Zd 0) (mCB (mkG "Pile" ZbT) Zk))
  (Zn (ZI ["End"] "come" (Zd 0) (mCB (mkG "Pile" ZbT) Zk))
  (Zn (ZI ["End"] "early" (Zd 0) ZiY)
  (Zn (ZI ["End"] "early_fin" (Zd 0) (mC .non))
  (Zn (ZI ["End"] "has_closed" (Zd 0) (mC (.bl false)))
  (Zn (ZI ["End"] "behind" (Zd 0) (mCB zA (Zc (Zd 3) (Zc (mC (.int 1)) Zk))))
  (Zn (ZI ["End"] "owed_reset" (Zd 0) (mC .non))
  (Zn (ZI ["End"] "owes_syn" (Zd 0) (mC (.bl false)))
  (Zn (ZI ["End"] "owes_answer" (Zd 0) (mC (.bl false)))
  (Zn (ZI ["End"] "probes" (Zd 0) (mC (.bl false)))
  (Zn (ZI ["End"] "since" (Zd 0) (mC (.int 0)))
  (Zn (ZI ["End"] "wait" (Zd 0) (mC (.int 1000)))
  (ZI ["End"] "tries" (Zd 0) (mC (.int 0)))))))))))))))))))))))))))
def Zch:GM:=ZQ 5 5 Zeb
def Zek:SM:=(Zn (ZI ["End"] "since" (Zd 0) (Zd 1))
  (Zn (ZI ["End"] "wait" (Zd 0) (mC (.int 1000)))
  (ZI ["End"] "tries" (Zd 0) (mC (.int 0)))))
def Z7:GM:=ZQ 2 2 Zek
def ZiF:SM:=(ZP (ZJ ["End"] "state" (Zd 0)))
def ZfI:GM:=ZQ 1 1 ZiF
def ZeO:SM:=(ZP (mCB Zfo (Zc (ZJ ["End"] "come" (Zd 0)) Zk)))
def zM:GM:=ZQ 1 1 ZeO
def ZdK:SM:=(ZP (mCB ZhU (Zc (ZJ ["End"] "most" (Zd 0)) (Zc (mC (.int 16)) Zk))))
def Zaf:GM:=ZQ 1 1 ZdK
def ZeM:SM:=(mIf (ZH (mOp eqM (ZJ ["End"] "state" (Zd 0)) (mC (.str "syn sent")))) (ZP (Za7 (Zc (ZJ ["End"] "ours" (Zd 0)) (Zc (ZJ ["End"] "theirs" (Zd 0)) (Zc (ZJ ["End"] "first" (Zd 0)) (Zc (mC (.int 0)) (Zc (mC (.int 2)) (Zc (mC (.int 64)) (Zc (mC (.int 16)) (Zc (Za7 Zk) Zk)))))))))) ZO)
def ZfX:SM:=(Zn (ZI ["End"] "owes_syn" (Zd 0) (mC (.bl false)))
  (Zn ZeM
  (ZP (Za7 (Zc (ZJ ["End"] "ours" (Zd 0)) (Zc (ZJ ["End"] "theirs" (Zd 0)) (Zc (ZJ ["End"] "first" (Zd 0)) (Zc (ZJ ["End"] "rcv" (Zd 0)) (Zc (mOp ZN (mC (.int 2)) (mC (.int 16))) (Zc (mC (.int 64)) (Zc (mC (.int 16)) (Zc (Za7 Zk) Zk))))))))))))
def ZbK:GM:=ZQ 1 1 ZfX
def ZeK:SM:=(ZP (Za7 (Zc (ZJ ["End"] "ours" (Zd 0)) (Zc (ZJ ["End"] "theirs" (Zd 0)) (Zc (Zd 1) (Zc (ZJ ["End"] "rcv" (Zd 0)) (Zc (mOp ZN (Zd 2) (mC (.int 16))) (Zc (mCB zM (Zc (Zd 0) Zk)) (Zc (mC (.int 0)) (Zc (mCB Zfm (Zc (Zd 3) Zk)) Zk))))))))))
def zz:GM:=ZQ 4 4 ZeK
def ZcC:SM:=(mIf (ZH (mOp eqM (ZJ ["End"] "tries" (Zd 0)) (mC (.int 6)))) (Zn (ZI ["End"] "state" (Zd 0) (mC (.str "closed")))
    (Zn (ZI ["End"] "error" (Zd 0) (mC (.str "time")))
    (ZP (mC .non)))) ZO)
def Zds:SM:=(mIf (ZH (mOp inM (ZJ ["End"] "state" (Zd 0)) (Za7 (Zc (mC (.str "syn sent")) (Zc (mC (.str "syn come")) Zk))))) (ZP (mCB ZbK (Zc (Zd 0) Zk))) ZO)
def ZdP:SM:=(Zn ZcC
  (Zn (ZI ["End"] "tries" (Zd 0) (mOp ZN (ZJ ["End"] "tries" (Zd 0)) (mC (.int 1))))
  (Zn (ZI ["End"] "wait" (Zd 0) (mCB ZhU (Zc (mOp Zc6 (mC (.int 2)) (ZJ ["End"] "wait" (Zd 0))) (Zc (mC (.int 16000)) Zk))))
  (Zn (ZI ["End"] "since" (Zd 0) (Zd 1))
  (Zn Zds
  (Zn (ZL 2 (mSl (ZJ ["Pile"] "row" (ZJ ["End"] "written" (Zd 0))) Zat (ZaO (mCB ZhU (Zc (mCB zB (Zc (ZJ ["End"] "nxt" (Zd 0)) (Zc (ZJ ["End"] "una" (Zd 0)) Zk))) (Zc (mCB Zaf (Zc (Zd 0) Zk)) Zk))))))
  (ZP (mCB zz (Zc (Zd 0) (Zc (ZJ ["End"] "una" (Zd 0)) (Zc (Zep (ZH (mOp gtM (mCB Zd0 (Zc (Zd 2) Zk)) (mC (.int 0)))) (mC (.int 0)) (mC (.int 1))) (Zc (Zd 2) Zk))))))))))))
def Zdm:GM:=ZQ 2 3 ZdP
def Za8:SM:=(mIf (ZdI (zR (ZJ ["End"] "owes_answer" (Zd 0)))) (ZP (mC .non)) ZO)
def ZbA:SM:=(Zn Za8
  (Zn (ZI ["End"] "owes_answer" (Zd 0) (mC (.bl false)))
  (ZP (mCB zz (Zc (Zd 0) (Zc (ZJ ["End"] "nxt" (Zd 0)) (Zc (mC (.int 0)) (Zc (ZbN Zk) Zk))))))))
def zU:GM:=ZQ 1 1 ZbA
def Zhw:SM:=(ZP (mCB zB (Zc (ZJ ["End"] "behind" (Zd 0)) (Zc (ZJ ["End"] "nxt" (Zd 0)) Zk))))
def ZbC:GM:=ZQ 1 1 Zhw
def ZdN:SM:=(ZP (Zca (mOp inM (ZJ ["End"] "state" (Zd 0)) (Za7 (Zc (mC (.str "open")) (Zc (mC (.str "wait one")) (Zc (mC (.str "close wait")) (Zc (mC (.str "closing")) (Zc (mC (.str "last ack")) Zk))))))) (mOp gtM (mCB ZbC (Zc (Zd 0) Zk)) (mC (.int 0)))))
def Zah:GM:=ZQ 1 1 ZdN
def Zel:SM:=(ZP (Zca (mOp inM (ZJ ["End"] "state" (Zd 0)) (Za7 (Zc (mC (.str "wait one")) (Zc (mC (.str "closing")) (Zc (mC (.str "last ack")) Zk))))) (mOp eqM (mCB ZbC (Zc (Zd 0) Zk)) (mC (.int 0)))))
def ZbD:GM:=ZQ 1 1 Zel
def Zf0:SM:=(ZP (ZlQ (mCB Zah (Zc (Zd 0) Zk)) (mCB ZbD (Zc (Zd 0) Zk))))
def ZbM:GM:=ZQ 1 1 Zf0
def Zd7:SM:=(Zn (ZL 2 (ZJ ["End"] "nxt" (Zd 0)))
  (Zn (ZL 3 (mCB ZhU (Zc (mCB Zaf (Zc (Zd 0) Zk)) (Zc (mCB ZbC (Zc (Zd 0) Zk)) (Zc (Zd 1) Zk)))))
  (Zn (ZL 4 (mCB zB (Zc (Zd 2) (Zc (ZJ ["End"] "una" (Zd 0)) Zk))))
  (Zn (ZI ["End"] "nxt" (Zd 0) (mCB zA (Zc (Zd 2) (Zc (Zd 3) Zk))))
  (ZP (mCB zz (Zc (Zd 0) (Zc (Zd 2) (Zc (Zep (ZH (mOp eqM (mCB ZbC (Zc (Zd 0) Zk)) (mC (.int 0)))) (mC (.int 8)) (mC (.int 0))) (Zc (mSl (ZJ ["Pile"] "row" (ZJ ["End"] "written" (Zd 0))) (ZaO (Zd 4)) (ZaO (mOp ZN (Zd 4) (Zd 3)))) Zk))))))))))
def Zce:GM:=ZQ 2 5 Zd7
def ZgG:SM:=(Zn (ZL 1 (ZJ ["End"] "nxt" (Zd 0)))
  (Zn (ZI ["End"] "nxt" (Zd 0) (mCB zA (Zc (Zd 1) (Zc (mC (.int 1)) Zk))))
  (ZP (mCB zz (Zc (Zd 0) (Zc (Zd 1) (Zc (mC (.int 1)) (Zc (ZbN Zk) Zk))))))))
def ZdG:GM:=ZQ 1 2 ZgG
def Zdz:SM:=(Zn (ZI ["End"] "probes" (Zd 0) (mC (.bl false)))
  (ZP (Zep (zR (mCB Zah (Zc (Zd 0) Zk))) (mCB Zce (Zc (Zd 0) (Zc (Zd 1) Zk))) (mCB ZdG (Zc (Zd 0) Zk)))))
def ZaW:GM:=ZQ 2 2 Zdz
def Zdy:SM:=(mIf (ZH (mOp eqM (ZJ ["End"] "nxt" (Zd 0)) (ZJ ["End"] "una" (Zd 0)))) (zu (mCB Z7 (Zc (Zd 0) (Zc (Zd 1) Zk)))) ZO)
def ZeP:SM:=(Zn Zdy
  (Zn (ZI ["End"] "nxt" (Zd 0) (mCB zA (Zc (ZJ ["End"] "first" (Zd 0)) (Zc (mC (.int 1)) Zk))))
  (ZP (mCB ZbK (Zc (Zd 0) Zk)))))
def ZcV:GM:=ZQ 2 2 ZeP
def zp:SM:=(mIf (ZH (mOp inM (ZJ ["End"] "state" (Zd 0)) (Za7 (Zc (mC (.str "syn sent")) (Zc (mC (.str "syn come")) Zk))))) (ZP (Zep (mOr (ZH (mOp eqM (ZJ ["End"] "nxt" (Zd 0)) (ZJ ["End"] "first" (Zd 0)))) (zR (ZJ ["End"] "owes_syn" (Zd 0)))) (mCB ZcV (Zc (Zd 0) (Zc (Zd 1) Zk))) (mC .non))) ZO)
def Zal:SM:=(mIf (mOr (ZH (mOp leM (Zd 2) (mC (.int 0)))) (ZdI (zR (mCB ZbM (Zc (Zd 0) Zk))))) (ZP (mC .non)) ZO)
def ZbO:SM:=(mIf (ZH (mOp eqM (ZJ ["End"] "nxt" (Zd 0)) (ZJ ["End"] "una" (Zd 0)))) (zu (mCB Z7 (Zc (Zd 0) (Zc (Zd 1) Zk)))) ZO)
def zL:SM:=(Zn zp
  (Zn (ZL 2 (mOp Zdj (ZJ ["End"] "wnd" (Zd 0)) (mCB zB (Zc (ZJ ["End"] "nxt" (Zd 0)) (Zc (ZJ ["End"] "una" (Zd 0)) Zk)))))
  (Zn Zal
  (Zn ZbO
  (Zn (ZI ["End"] "owes_answer" (Zd 0) (mC (.bl false)))
  (ZP (mCB ZaW (Zc (Zd 0) (Zc (Zd 2) Zk)))))))))
def Z6:GM:=ZQ 2 3 zL
def ZhE:SM:=(ZP (mOp geM (mOp Zdj (Zd 1) (ZJ ["End"] "since" (Zd 0))) (ZJ ["End"] "wait" (Zd 0))))
def Zc4:GM:=ZQ 2 2 ZhE
def zd:SM:=(mIf (mOr (ZH (mOp neM (ZJ ["End"] "nxt" (Zd 0)) (ZJ ["End"] "una" (Zd 0)))) (mOr (ZH (mOp neM (ZJ ["End"] "wnd" (Zd 0)) (mC (.int 0)))) (ZdI (zR (mCB ZbM (Zc (Zd 0) Zk)))))) (Zn (ZI ["End"] "probes" (Zd 0) (mC (.bl false)))
    (ZP (mC .non))) ZO)
def ZaA:SM:=(mIf (ZdI (zR (ZJ ["End"] "probes" (Zd 0)))) (Zn (ZI ["End"] "probes" (Zd 0) (mC (.bl true)))
    (zu (mCB Z7 (Zc (Zd 0) (Zc (Zd 1) Zk))))) ZO)
def Zaz:SM:=(mIf (ZdI (zR (mCB Zc4 (Zc (Zd 0) (Zc (Zd 1) Zk))))) (ZP (mC .non)) ZO)
def zo:SM:=(Zn zd
  (Zn ZaA
  (Zn Zaz
  (Zn (ZI ["End"] "since" (Zd 0) (Zd 1))
  (ZP (mCB ZaW (Zc (Zd 0) (Zc (mC (.int 1)) Zk))))))))
def Z8:GM:=ZQ 2 2 zo
def ZeN:SM:=(Zn (ZL 1 (ZJ ["End"] "owed_reset" (Zd 0)))
  (Zn (ZI ["End"] "owed_reset" (Zd 0) (mC .non))
  (ZP (Zd 1))))
def ZcR:GM:=ZQ 1 2 ZeN
def Zdp:SM:=(mIf (ZH (mOp Zgp (ZJ ["End"] "owed_reset" (Zd 0)) (mC .non))) (ZP (mCB ZcR (Zc (Zd 0) Zk))) ZO)
def ZeT:SM:=(mIf (Zfc (ZH (mOp eqM (ZJ ["End"] "state" (Zd 0)) (mC (.str "time wait")))) (ZH (mOp geM (mOp Zdj (Zd 1) (ZJ ["End"] "since" (Zd 0))) (mC (.int 120000))))) (ZI ["End"] "state" (Zd 0) (mC (.str "closed"))) ZO)
def ZbW:SM:=(mIf (ZH (mOp inM (ZJ ["End"] "state" (Zd 0)) (Za7 (Zc (mC (.str "closed")) (Zc (mC (.str "listen")) Zk))))) (ZP (mC .non)) ZO)
def ZcB:SM:=(mIf (Zfc (ZH (mOp neM (ZJ ["End"] "nxt" (Zd 0)) (ZJ ["End"] "una" (Zd 0)))) (zR (mCB Zc4 (Zc (Zd 0) (Zc (Zd 1) Zk))))) (ZP (mCB Zdm (Zc (Zd 0) (Zc (Zd 1) Zk)))) ZO)
def ZbV:SM:=(mIf (ZH (mOp isM (Zd 2) (mC .non))) (ZL 2 (mCB Z8 (Zc (Zd 0) (Zc (Zd 1) Zk)))) ZO)
def ZbU:SM:=(mIf (ZH (mOp isM (Zd 2) (mC .non))) (ZL 2 (mCB zU (Zc (Zd 0) Zk))) ZO)
def Ze6:SM:=(Zn Zdp
  (Zn ZeT
  (Zn ZbW
  (Zn ZcB
  (Zn (ZL 2 (mCB Z6 (Zc (Zd 0) (Zc (Zd 1) Zk))))
  (Zn ZbV
  (Zn ZbU
  (ZP (Zd 2)))))))))
def ZdU:GM:=ZQ 2 3 Ze6
def Zhz:SM:=(Zn (ZL 2 (mCB ZdU (Zc (Zd 0) (Zc (Zd 1) Zk))))
  (ZP (Zep (ZH (mOp isM (Zd 2) (mC .non))) (ZbN Zk) (mCB ZkS (Zc (Zd 2) Zk)))))
def ZcF:GM:=ZQ 2 3 Zhz
def ZhA:SM:=(ZP (mCB (mkG "End" Zch) (Zc (Zd 0) (Zc (Zd 1) (Zc (Zd 2) (Zc (Zd 3) Zk))))))
def Zev:GM:=ZQ 4 4 ZhA
end
end My
namespace My
open PySem L2 L2.MM
noncomputable section
inductive State where
  | closed | listen | synSent | synCome | opn | waitOne | waitTwo | closeWait | closing | lastAck | timeWait
  deriving DecidableEq
def State.s:State→Str
  | .closed=>"closed" | .listen=>"listen" | .synSent=>"syn sent" | .synCome=>"syn come" | .opn=>"open" | .waitOne=>"wait one" | .waitTwo=>"wait two" | .closeWait=>"close wait" | .closing=>"closing" | .lastAck=>"last ack" | .timeWait=>"time wait"
inductive Err where
  | none | refused | reset | time
  deriving DecidableEq
def Err.s:Err→Str
  | .none=>"" | .refused=>"refused" | .reset=>"reset" | .time=>"time"
structure Zv where
  ours:Int
  theirs:Int
  state:State
  error:Err
  first:Int
  una:Int
  nxt:Int
  rcv:Int
  wnd:Int
  told:Int
  told_by:Int
  most:Int
  written:List Int
  come:List Int
  early:List (Int×Int)
  early_fin:Option Int
  has_closed:Bool
  behind:Int
  owed_reset:Option Seg
  owes_syn:Bool
  owes_answer:Bool
  probes:Bool
  since:Int
  wait:Int
  tries:Int
def Zdv:Option Int→D
  | none=>.non
  | some i=>.int i
def Zbv:Option Seg→D
  | none=>.non
  | some s=>s.d
def fields (l:Nat) (e:Zv):List (Str×D):=[("ours",.int e.ours),("theirs",.int e.theirs),("state",.str e.state.s),("error",.str e.error.s),("first",.int e.first),("una",.int e.una),("nxt",.int e.nxt),("rcv",.int e.rcv),("wnd",.int e.wnd),("told",.int e.told),("told_by",.int e.told_by),("most",.int e.most),("written",.ref (l+1)),("come",.ref (l+2)),("early",.ref (l+3)),("early_fin",Zdv e.early_fin),("has_closed",.bl e.has_closed),("behind",.int e.behind),("owed_reset",Zbv e.owed_reset),("owes_syn",.bl e.owes_syn),("owes_answer",.bl e.owes_answer),("probes",.bl e.probes),("since",.int e.since),("wait",.int e.wait),("tries",.int e.tries)]
def c0 (l:Nat) (e:Zv):Cell:=.ins "End" (fields l e)
def c1 (e:Zv):Cell:=.ins "Pile" [("row",il e.written)]
def c2 (e:Zv):Cell:=.ins "Pile" [("row",il e.come)]
def c3 (e:Zv):Cell:=.dK (e.early.map fun p=>(Sum.inl p.1,D.int p.2))
def upE (θ:Sto) (l:Nat) (e:Zv):Sto:=(((θ.set l (c0 l e)).set (l+1) (c1 e)).set (l+2) (c2 e)).set (l+3) (c3 e)
@[simp] theorem Zwo (θ:Sto) (l:Nat) (e:Zv):(upE θ l e).length=θ.length:=by simp [upE]
theorem at0 {θ:Sto} {l:Nat} (h:l+3 < θ.length) (e:Zv):(upE θ l e)[l]?=some (c0 l e):=by
  unfold upE
  rw [List.getElem?_set_ne (by omega),List.getElem?_set_ne (by omega),List.getElem?_set_ne (by omega),List.getElem?_set_self (by omega)]
theorem at1 {θ:Sto} {l:Nat} (h:l+3 < θ.length) (e:Zv):(upE θ l e)[l+1]?=some (c1 e):=by
  unfold upE
  rw [List.getElem?_set_ne (by omega),List.getElem?_set_ne (by omega),List.getElem?_set_self (by simp; omega)]
theorem Zwe {θ:Sto} {l:Nat} (h:l+3 < θ.length) (e:Zv):(upE θ l e)[l+2]?=some (c2 e):=by
  unfold upE
  rw [List.getElem?_set_ne (by omega),List.getElem?_set_self (by simp; omega)]
theorem Zen {θ:Sto} {l:Nat} (h:l+3 < θ.length) (e e':Zv) (h1:e'.written=e.written) (h2:e'.come=e.come) (h3:e'.early=e.early):(upE θ l e).set l (c0 l e')=upE θ l e':=by
  unfold upE
  rw [show c1 e'=c1 e by unfold c1; rw [h1],show c2 e'=c2 e by unfold c2; rw [h2],show c3 e'=c3 e by unfold c3; rw [h3]]
  apply List.ext_getElem?
  intro i
  simp only [List.getElem?_set,List.length_set]
  by_cases h3:l=i
  · subst h3; simp
  · simp [h3]
theorem ZaK {θ:Sto} {l:Nat} (h:l+3 < θ.length) (e:Zv):ZeF (upE θ l e) (.ref l)=some (l,("End":Str),fields l e):=by
  show (match (upE θ l e)[l]? with | some (Cell.ins C fs)=>some (l,C,fs) | _=>none)=_
  rw [at0 h]
  rfl
theorem ce:(["End"]:List Str).contains "End"=true:=by decide +kernel
theorem cp:(["Pile"]:List Str).contains "Pile"=true:=by decide +kernel
@[simp] theorem Zzp {θ:Sto} {l:Nat} (h:l+3 < θ.length) (e:Zv):zK ["End"] "ours" (.ref l) (upE θ l e)=.ok (.int e.ours) (upE θ l e):=by
  unfold zK
  rw [ZaK h]
  simp only [ce,if_true]
  rw [show (fields l e).lookup ("ours":Str)=some (.int e.ours) by with_unfolding_all rfl]
@[simp] theorem ZvY {θ:Sto} {l:Nat} (h:l+3 < θ.length) (e:Zv):zK ["End"] "theirs" (.ref l) (upE θ l e)=.ok (.int e.theirs) (upE θ l e):=by
  unfold zK
  rw [ZaK h]
  simp only [ce,if_true]
  rw [show (fields l e).lookup ("theirs":Str)=some (.int e.theirs) by with_unfolding_all rfl]
@[simp] theorem ZwB {θ:Sto} {l:Nat} (h:l+3 < θ.length) (e:Zv):zK ["End"] "state" (.ref l) (upE θ l e)=.ok (.str e.state.s) (upE θ l e):=by
  unfold zK
  rw [ZaK h]
  simp only [ce,if_true]
  rw [show (fields l e).lookup ("state":Str)=some (.str e.state.s) by with_unfolding_all rfl]
@[simp] theorem ZwD {θ:Sto} {l:Nat} (h:l+3 < θ.length) (e:Zv):zK ["End"] "first" (.ref l) (upE θ l e)=.ok (.int e.first) (upE θ l e):=by
  unfold zK
  rw [ZaK h]
  simp only [ce,if_true]
  rw [show (fields l e).lookup ("first":Str)=some (.int e.first) by with_unfolding_all rfl]
@[simp] theorem Zz7 {θ:Sto} {l:Nat} (h:l+3 < θ.length) (e:Zv):zK ["End"] "una" (.ref l) (upE θ l e)=.ok (.int e.una) (upE θ l e):=by
  unfold zK
  rw [ZaK h]
  simp only [ce,if_true]
  rw [show (fields l e).lookup ("una":Str)=some (.int e.una) by with_unfolding_all rfl]
@[simp] theorem Zz9 {θ:Sto} {l:Nat} (h:l+3 < θ.length) (e:Zv):zK ["End"] "nxt" (.ref l) (upE θ l e)=.ok (.int e.nxt) (upE θ l e):=by
  unfold zK
  rw [ZaK h]
  simp only [ce,if_true]
  rw [show (fields l e).lookup ("nxt":Str)=some (.int e.nxt) by with_unfolding_all rfl]
@[simp] theorem Zz8 {θ:Sto} {l:Nat} (h:l+3 < θ.length) (e:Zv):zK ["End"] "rcv" (.ref l) (upE θ l e)=.ok (.int e.rcv) (upE θ l e):=by
  unfold zK
  rw [ZaK h]
  simp only [ce,if_true]
  rw [show (fields l e).lookup ("rcv":Str)=some (.int e.rcv) by with_unfolding_all rfl]
@[simp] theorem Zz6 {θ:Sto} {l:Nat} (h:l+3 < θ.length) (e:Zv):zK ["End"] "wnd" (.ref l) (upE θ l e)=.ok (.int e.wnd) (upE θ l e):=by
  unfold zK
  rw [ZaK h]
  simp only [ce,if_true]
  rw [show (fields l e).lookup ("wnd":Str)=some (.int e.wnd) by with_unfolding_all rfl]
@[simp] theorem Zzm {θ:Sto} {l:Nat} (h:l+3 < θ.length) (e:Zv):zK ["End"] "told" (.ref l) (upE θ l e)=.ok (.int e.told) (upE θ l e):=by
  unfold zK
  rw [ZaK h]
  simp only [ce,if_true]
  rw [show (fields l e).lookup ("told":Str)=some (.int e.told) by with_unfolding_all rfl]
@[simp] theorem ZuM {θ:Sto} {l:Nat} (h:l+3 < θ.length) (e:Zv):zK ["End"] "told_by" (.ref l) (upE θ l e)=.ok (.int e.told_by) (upE θ l e):=by
  unfold zK
  rw [ZaK h]
  simp only [ce,if_true]
  rw [show (fields l e).lookup ("told_by":Str)=some (.int e.told_by) by with_unfolding_all rfl]
@[simp] theorem Zzq {θ:Sto} {l:Nat} (h:l+3 < θ.length) (e:Zv):zK ["End"] "most" (.ref l) (upE θ l e)=.ok (.int e.most) (upE θ l e):=by
  unfold zK
  rw [ZaK h]
  simp only [ce,if_true]
  rw [show (fields l e).lookup ("most":Str)=some (.int e.most) by with_unfolding_all rfl]
@[simp] theorem ZuL {θ:Sto} {l:Nat} (h:l+3 < θ.length) (e:Zv):zK ["End"] "written" (.ref l) (upE θ l e)=.ok (.ref (l+1)) (upE θ l e):=by
  unfold zK
  rw [ZaK h]
  simp only [ce,if_true]
  rw [show (fields l e).lookup ("written":Str)=some (.ref (l+1)) by with_unfolding_all rfl]
@[simp] theorem Zzr {θ:Sto} {l:Nat} (h:l+3 < θ.length) (e:Zv):zK ["End"] "come" (.ref l) (upE θ l e)=.ok (.ref (l+2)) (upE θ l e):=by
  unfold zK
  rw [ZaK h]
  simp only [ce,if_true]
  rw [show (fields l e).lookup ("come":Str)=some (.ref (l+2)) by with_unfolding_all rfl]
@[simp] theorem ZwE {θ:Sto} {l:Nat} (h:l+3 < θ.length) (e:Zv):zK ["End"] "early" (.ref l) (upE θ l e)=.ok (.ref (l+3)) (upE θ l e):=by
  unfold zK
  rw [ZaK h]
  simp only [ce,if_true]
  rw [show (fields l e).lookup ("early":Str)=some (.ref (l+3)) by with_unfolding_all rfl]
@[simp] theorem ZsP {θ:Sto} {l:Nat} (h:l+3 < θ.length) (e:Zv):zK ["End"] "early_fin" (.ref l) (upE θ l e)=.ok (Zdv e.early_fin) (upE θ l e):=by
  unfold zK
  rw [ZaK h]
  simp only [ce,if_true]
  rw [show (fields l e).lookup ("early_fin":Str)=some (Zdv e.early_fin) by with_unfolding_all rfl]
@[simp] theorem Zr7 {θ:Sto} {l:Nat} (h:l+3 < θ.length) (e:Zv):zK ["End"] "has_closed" (.ref l) (upE θ l e)=.ok (.bl e.has_closed) (upE θ l e):=by
  unfold zK
  rw [ZaK h]
  simp only [ce,if_true]
  rw [show (fields l e).lookup ("has_closed":Str)=some (.bl e.has_closed) by with_unfolding_all rfl]
@[simp] theorem Zv0 {θ:Sto} {l:Nat} (h:l+3 < θ.length) (e:Zv):zK ["End"] "behind" (.ref l) (upE θ l e)=.ok (.int e.behind) (upE θ l e):=by
  unfold zK
  rw [ZaK h]
  simp only [ce,if_true]
  rw [show (fields l e).lookup ("behind":Str)=some (.int e.behind) by with_unfolding_all rfl]
@[simp] theorem Zr6 {θ:Sto} {l:Nat} (h:l+3 < θ.length) (e:Zv):zK ["End"] "owed_reset" (.ref l) (upE θ l e)=.ok (Zbv e.owed_reset) (upE θ l e):=by
  unfold zK
  rw [ZaK h]
  simp only [ce,if_true]
  rw [show (fields l e).lookup ("owed_reset":Str)=some (Zbv e.owed_reset) by with_unfolding_all rfl]
@[simp] theorem Zuf {θ:Sto} {l:Nat} (h:l+3 < θ.length) (e:Zv):zK ["End"] "owes_syn" (.ref l) (upE θ l e)=.ok (.bl e.owes_syn) (upE θ l e):=by
  unfold zK
  rw [ZaK h]
  simp only [ce,if_true]
  rw [show (fields l e).lookup ("owes_syn":Str)=some (.bl e.owes_syn) by with_unfolding_all rfl]
@[simp] theorem Zq5 {θ:Sto} {l:Nat} (h:l+3 < θ.length) (e:Zv):zK ["End"] "owes_answer" (.ref l) (upE θ l e)=.ok (.bl e.owes_answer) (upE θ l e):=by
  unfold zK
  rw [ZaK h]
  simp only [ce,if_true]
  rw [show (fields l e).lookup ("owes_answer":Str)=some (.bl e.owes_answer) by with_unfolding_all rfl]
@[simp] theorem ZvZ {θ:Sto} {l:Nat} (h:l+3 < θ.length) (e:Zv):zK ["End"] "probes" (.ref l) (upE θ l e)=.ok (.bl e.probes) (upE θ l e):=by
  unfold zK
  rw [ZaK h]
  simp only [ce,if_true]
  rw [show (fields l e).lookup ("probes":Str)=some (.bl e.probes) by with_unfolding_all rfl]
@[simp] theorem ZwC {θ:Sto} {l:Nat} (h:l+3 < θ.length) (e:Zv):zK ["End"] "since" (.ref l) (upE θ l e)=.ok (.int e.since) (upE θ l e):=by
  unfold zK
  rw [ZaK h]
  simp only [ce,if_true]
  rw [show (fields l e).lookup ("since":Str)=some (.int e.since) by with_unfolding_all rfl]
@[simp] theorem Zzl {θ:Sto} {l:Nat} (h:l+3 < θ.length) (e:Zv):zK ["End"] "wait" (.ref l) (upE θ l e)=.ok (.int e.wait) (upE θ l e):=by
  unfold zK
  rw [ZaK h]
  simp only [ce,if_true]
  rw [show (fields l e).lookup ("wait":Str)=some (.int e.wait) by with_unfolding_all rfl]
@[simp] theorem ZwA {θ:Sto} {l:Nat} (h:l+3 < θ.length) (e:Zv):zK ["End"] "tries" (.ref l) (upE θ l e)=.ok (.int e.tries) (upE θ l e):=by
  unfold zK
  rw [ZaK h]
  simp only [ce,if_true]
  rw [show (fields l e).lookup ("tries":Str)=some (.int e.tries) by with_unfolding_all rfl]
@[simp] theorem Zvh {θ:Sto} {l:Nat} (h:l+3 < θ.length) (e:Zv) (v:Int):zb ["End"] "theirs" (.int v) (.ref l) (upE θ l e)=some (upE θ l { e with theirs:=v }):=by
  unfold zb
  rw [ZaK h]
  simp only [ce]
  rw [if_pos ⟨trivial,show 25<1000 by decide⟩,show ZaL ("theirs":Str) (.int v) (fields l e)=fields l { e with theirs:=v } by with_unfolding_all rfl]
  exact congrArg some (Zen h e { e with theirs:=v } rfl rfl rfl)
@[simp] theorem Zwu {θ:Sto} {l:Nat} (h:l+3 < θ.length) (e:Zv) (v:State):zb ["End"] "state" (.str v.s) (.ref l) (upE θ l e)=some (upE θ l { e with state:=v }):=by
  unfold zb
  rw [ZaK h]
  simp only [ce]
  rw [if_pos ⟨trivial,show 25<1000 by decide⟩,show ZaL ("state":Str) (.str v.s) (fields l e)=fields l { e with state:=v } by with_unfolding_all rfl]
  exact congrArg some (Zen h e { e with state:=v } rfl rfl rfl)
@[simp] theorem Zww {θ:Sto} {l:Nat} (h:l+3 < θ.length) (e:Zv) (v:Err):zb ["End"] "error" (.str v.s) (.ref l) (upE θ l e)=some (upE θ l { e with error:=v }):=by
  unfold zb
  rw [ZaK h]
  simp only [ce]
  rw [if_pos ⟨trivial,show 25<1000 by decide⟩,show ZaL ("error":Str) (.str v.s) (fields l e)=fields l { e with error:=v } by with_unfolding_all rfl]
  exact congrArg some (Zen h e { e with error:=v } rfl rfl rfl)
@[simp] theorem ZzX {θ:Sto} {l:Nat} (h:l+3 < θ.length) (e:Zv) (v:Int):zb ["End"] "una" (.int v) (.ref l) (upE θ l e)=some (upE θ l { e with una:=v }):=by
  unfold zb
  rw [ZaK h]
  simp only [ce]
  rw [if_pos ⟨trivial,show 25<1000 by decide⟩,show ZaL ("una":Str) (.int v) (fields l e)=fields l { e with una:=v } by with_unfolding_all rfl]
  exact congrArg some (Zen h e { e with una:=v } rfl rfl rfl)
@[simp] theorem ZzZ {θ:Sto} {l:Nat} (h:l+3 < θ.length) (e:Zv) (v:Int):zb ["End"] "nxt" (.int v) (.ref l) (upE θ l e)=some (upE θ l { e with nxt:=v }):=by
  unfold zb
  rw [ZaK h]
  simp only [ce]
  rw [if_pos ⟨trivial,show 25<1000 by decide⟩,show ZaL ("nxt":Str) (.int v) (fields l e)=fields l { e with nxt:=v } by with_unfolding_all rfl]
  exact congrArg some (Zen h e { e with nxt:=v } rfl rfl rfl)
@[simp] theorem ZzY {θ:Sto} {l:Nat} (h:l+3 < θ.length) (e:Zv) (v:Int):zb ["End"] "rcv" (.int v) (.ref l) (upE θ l e)=some (upE θ l { e with rcv:=v }):=by
  unfold zb
  rw [ZaK h]
  simp only [ce]
  rw [if_pos ⟨trivial,show 25<1000 by decide⟩,show ZaL ("rcv":Str) (.int v) (fields l e)=fields l { e with rcv:=v } by with_unfolding_all rfl]
  exact congrArg some (Zen h e { e with rcv:=v } rfl rfl rfl)
@[simp] theorem ZzW {θ:Sto} {l:Nat} (h:l+3 < θ.length) (e:Zv) (v:Int):zb ["End"] "wnd" (.int v) (.ref l) (upE θ l e)=some (upE θ l { e with wnd:=v }):=by
  unfold zb
  rw [ZaK h]
  simp only [ce]
  rw [if_pos ⟨trivial,show 25<1000 by decide⟩,show ZaL ("wnd":Str) (.int v) (fields l e)=fields l { e with wnd:=v } by with_unfolding_all rfl]
  exact congrArg some (Zen h e { e with wnd:=v } rfl rfl rfl)
@[simp] theorem Zy2 {θ:Sto} {l:Nat} (h:l+3 < θ.length) (e:Zv) (v:Int):zb ["End"] "told" (.int v) (.ref l) (upE θ l e)=some (upE θ l { e with told:=v }):=by
  unfold zb
  rw [ZaK h]
  simp only [ce]
  rw [if_pos ⟨trivial,show 25<1000 by decide⟩,show ZaL ("told":Str) (.int v) (fields l e)=fields l { e with told:=v } by with_unfolding_all rfl]
  exact congrArg some (Zen h e { e with told:=v } rfl rfl rfl)
@[simp] theorem ZuD {θ:Sto} {l:Nat} (h:l+3 < θ.length) (e:Zv) (v:Int):zb ["End"] "told_by" (.int v) (.ref l) (upE θ l e)=some (upE θ l { e with told_by:=v }):=by
  unfold zb
  rw [ZaK h]
  simp only [ce]
  rw [if_pos ⟨trivial,show 25<1000 by decide⟩,show ZaL ("told_by":Str) (.int v) (fields l e)=fields l { e with told_by:=v } by with_unfolding_all rfl]
  exact congrArg some (Zen h e { e with told_by:=v } rfl rfl rfl)
@[simp] theorem Zy5 {θ:Sto} {l:Nat} (h:l+3 < θ.length) (e:Zv) (v:Int):zb ["End"] "most" (.int v) (.ref l) (upE θ l e)=some (upE θ l { e with most:=v }):=by
  unfold zb
  rw [ZaK h]
  simp only [ce]
  rw [if_pos ⟨trivial,show 25<1000 by decide⟩,show ZaL ("most":Str) (.int v) (fields l e)=fields l { e with most:=v } by with_unfolding_all rfl]
  exact congrArg some (Zen h e { e with most:=v } rfl rfl rfl)
@[simp] theorem ZkN {θ:Sto} {l:Nat} (h:l+3 < θ.length) (e:Zv) (v:Option Int):zb ["End"] "early_fin" (Zdv v) (.ref l) (upE θ l e)=some (upE θ l { e with early_fin:=v }):=by
  unfold zb
  rw [ZaK h]
  simp only [ce]
  rw [if_pos ⟨trivial,show 25<1000 by decide⟩,show ZaL ("early_fin":Str) (Zdv v) (fields l e)=fields l { e with early_fin:=v } by with_unfolding_all rfl]
  exact congrArg some (Zen h e { e with early_fin:=v } rfl rfl rfl)
@[simp] theorem ZfC {θ:Sto} {l:Nat} (h:l+3 < θ.length) (e:Zv) (v:Option Seg):zb ["End"] "owed_reset" (Zbv v) (.ref l) (upE θ l e)=some (upE θ l { e with owed_reset:=v }):=by
  unfold zb
  rw [ZaK h]
  simp only [ce]
  rw [if_pos ⟨trivial,show 25<1000 by decide⟩,show ZaL ("owed_reset":Str) (Zbv v) (fields l e)=fields l { e with owed_reset:=v } by with_unfolding_all rfl]
  exact congrArg some (Zen h e { e with owed_reset:=v } rfl rfl rfl)
@[simp] theorem Zts {θ:Sto} {l:Nat} (h:l+3 < θ.length) (e:Zv) (v:Bool):zb ["End"] "owes_syn" (.bl v) (.ref l) (upE θ l e)=some (upE θ l { e with owes_syn:=v }):=by
  unfold zb
  rw [ZaK h]
  simp only [ce]
  rw [if_pos ⟨trivial,show 25<1000 by decide⟩,show ZaL ("owes_syn":Str) (.bl v) (fields l e)=fields l { e with owes_syn:=v } by with_unfolding_all rfl]
  exact congrArg some (Zen h e { e with owes_syn:=v } rfl rfl rfl)
@[simp] theorem Zq4 {θ:Sto} {l:Nat} (h:l+3 < θ.length) (e:Zv) (v:Bool):zb ["End"] "owes_answer" (.bl v) (.ref l) (upE θ l e)=some (upE θ l { e with owes_answer:=v }):=by
  unfold zb
  rw [ZaK h]
  simp only [ce]
  rw [if_pos ⟨trivial,show 25<1000 by decide⟩,show ZaL ("owes_answer":Str) (.bl v) (fields l e)=fields l { e with owes_answer:=v } by with_unfolding_all rfl]
  exact congrArg some (Zen h e { e with owes_answer:=v } rfl rfl rfl)
@[simp] theorem Zvi {θ:Sto} {l:Nat} (h:l+3 < θ.length) (e:Zv) (v:Bool):zb ["End"] "probes" (.bl v) (.ref l) (upE θ l e)=some (upE θ l { e with probes:=v }):=by
  unfold zb
  rw [ZaK h]
  simp only [ce]
  rw [if_pos ⟨trivial,show 25<1000 by decide⟩,show ZaL ("probes":Str) (.bl v) (fields l e)=fields l { e with probes:=v } by with_unfolding_all rfl]
  exact congrArg some (Zen h e { e with probes:=v } rfl rfl rfl)
@[simp] theorem Zwv {θ:Sto} {l:Nat} (h:l+3 < θ.length) (e:Zv) (v:Int):zb ["End"] "since" (.int v) (.ref l) (upE θ l e)=some (upE θ l { e with since:=v }):=by
  unfold zb
  rw [ZaK h]
  simp only [ce]
  rw [if_pos ⟨trivial,show 25<1000 by decide⟩,show ZaL ("since":Str) (.int v) (fields l e)=fields l { e with since:=v } by with_unfolding_all rfl]
  exact congrArg some (Zen h e { e with since:=v } rfl rfl rfl)
@[simp] theorem Zy1 {θ:Sto} {l:Nat} (h:l+3 < θ.length) (e:Zv) (v:Int):zb ["End"] "wait" (.int v) (.ref l) (upE θ l e)=some (upE θ l { e with wait:=v }):=by
  unfold zb
  rw [ZaK h]
  simp only [ce]
  rw [if_pos ⟨trivial,show 25<1000 by decide⟩,show ZaL ("wait":Str) (.int v) (fields l e)=fields l { e with wait:=v } by with_unfolding_all rfl]
  exact congrArg some (Zen h e { e with wait:=v } rfl rfl rfl)
@[simp] theorem Zwt {θ:Sto} {l:Nat} (h:l+3 < θ.length) (e:Zv) (v:Int):zb ["End"] "tries" (.int v) (.ref l) (upE θ l e)=some (upE θ l { e with tries:=v }):=by
  unfold zb
  rw [ZaK h]
  simp only [ce]
  rw [if_pos ⟨trivial,show 25<1000 by decide⟩,show ZaL ("tries":Str) (.int v) (fields l e)=fields l { e with tries:=v } by with_unfolding_all rfl]
  exact congrArg some (Zen h e { e with tries:=v } rfl rfl rfl)
section
variable {θ:Sto} {l:Nat}
@[simp] theorem Zzn (h:l+3 < θ.length) (e:Zv):zK ["Pile"] "row" (.ref (l+1)) (upE θ l e)=.ok (il e.written) (upE θ l e):=by
  have:ZeF (upE θ l e) (.ref (l+1))=some (l+1,("Pile":Str),[(("row":Str),il e.written)]):=by
    show (match (upE θ l e)[l+1]? with | some (Cell.ins C fs)=>some (l+1,C,fs) | _=>none)=_
    rw [at1 h]
    rfl
  unfold zK
  rw [this]
  simp only [cp,if_true]
  rw [show ([("row",il e.written)]:List (Str×D)).lookup ("row":Str)=some (il e.written) by with_unfolding_all rfl]
@[simp] theorem Zzo (h:l+3 < θ.length) (e:Zv):zK ["Pile"] "row" (.ref (l+2)) (upE θ l e)=.ok (il e.come) (upE θ l e):=by
  have:ZeF (upE θ l e) (.ref (l+2))=some (l+2,("Pile":Str),[(("row":Str),il e.come)]):=by
    show (match (upE θ l e)[l+2]? with | some (Cell.ins C fs)=>some (l+2,C,fs) | _=>none)=_
    rw [Zwe h]
    rfl
  unfold zK
  rw [this]
  simp only [cp,if_true]
  rw [show ([("row",il e.come)]:List (Str×D)).lookup ("row":Str)=some (il e.come) by with_unfolding_all rfl]
@[simp] theorem Zy3 (h:l+3 < θ.length) (e:Zv) (r:List Int):zb ["Pile"] "row" (il r) (.ref (l+1)) (upE θ l e)=some (upE θ l { e with written:=r }):=by
  have:ZeF (upE θ l e) (.ref (l+1))=some (l+1,("Pile":Str),[(("row":Str),il e.written)]):=by
    show (match (upE θ l e)[l+1]? with | some (Cell.ins C fs)=>some (l+1,C,fs) | _=>none)=_
    rw [at1 h]
    rfl
  unfold zb
  rw [this]
  simp only [cp]
  rw [if_pos ⟨trivial,show 1<1000 by decide⟩,show ZaL ("row":Str) (il r) [("row",il e.written)]=[(("row":Str),il r)] by with_unfolding_all rfl]
  congr 1
  unfold upE
  apply List.ext_getElem?
  intro i
  simp only [List.getElem?_set,List.length_set]
  by_cases q:l+1=i
  · subst q; simp [c1]
  · simp [q,c0,c2,c3,fields]
@[simp] theorem Zy4 (h:l+3 < θ.length) (e:Zv) (r:List Int):zb ["Pile"] "row" (il r) (.ref (l+2)) (upE θ l e)=some (upE θ l { e with come:=r }):=by
  have:ZeF (upE θ l e) (.ref (l+2))=some (l+2,("Pile":Str),[(("row":Str),il e.come)]):=by
    show (match (upE θ l e)[l+2]? with | some (Cell.ins C fs)=>some (l+2,C,fs) | _=>none)=_
    rw [Zwe h]
    rfl
  unfold zb
  rw [this]
  simp only [cp]
  rw [if_pos ⟨trivial,show 1<1000 by decide⟩,show ZaL ("row":Str) (il r) [("row",il e.come)]=[(("row":Str),il r)] by with_unfolding_all rfl]
  congr 1
  unfold upE
  apply List.ext_getElem?
  intro i
  simp only [List.getElem?_set,List.length_set]
  by_cases q:l+2=i
  · subst q; simp [c2]
  · simp [q,c0,c1,c3,fields]
end
@[simp] theorem Zu1:("closed":Str)=State.closed.s:=nr rfl
@[simp] theorem Zu0:("listen":Str)=State.listen.s:=nr rfl
@[simp] theorem Zuv:("syn sent":Str)=State.synSent.s:=nr rfl
@[simp] theorem Zuw:("syn come":Str)=State.synCome.s:=nr rfl
@[simp] theorem ZyJ:("open":Str)=State.opn.s:=nr rfl
@[simp] theorem Zuu:("wait one":Str)=State.waitOne.s:=nr rfl
@[simp] theorem Zut:("wait two":Str)=State.waitTwo.s:=nr rfl
@[simp] theorem Zsp:("close wait":Str)=State.closeWait.s:=nr rfl
@[simp] theorem Zuz:("closing":Str)=State.closing.s:=nr rfl
@[simp] theorem Zuy:("last ack":Str)=State.lastAck.s:=nr rfl
@[simp] theorem Zs3:("time wait":Str)=State.timeWait.s:=nr rfl
@[simp] theorem ZyK:("":Str)=Err.none.s:=nr rfl
@[simp] theorem Zux:("refused":Str)=Err.refused.s:=nr rfl
@[simp] theorem Zwn:("reset":Str)=Err.reset.s:=nr rfl
@[simp] theorem ZyI:("time":Str)=Err.time.s:=nr rfl
theorem State.inj:∀a b:State,a.s=b.s↔a=b:=by
  intro a b
  constructor
  · intro h
    cases a<;>cases b<;>first | rfl | (exact absurd h (by decide +kernel))
  · intro h; rw [h]
theorem ZtF (k:Nat) (x:Str):pl k (.str x)=PyData.strOk x:=by cases k<;>simp [pl]
theorem State.ok (a:State) (k:Nat):pl k (.str a.s)=true:=by
  rw [ZtF]
  cases a<;>decide +kernel
section
variable {θ:Sto}
@[simp] theorem Zv6 (a b:State):eqM (.str a.s) (.str b.s) θ=.ok (.bl (decide (a=b))) θ:=by
  rw [Zi7 (x:=.str a.s) (y:=.str b.s) (Zd3 (State.ok a 9) (State.ok b 9) rfl rfl)]
  simp [State.inj]
@[simp] theorem ZvO (a b:State):neM (.str a.s) (.str b.s) θ=.ok (.bl (!decide (a=b))) θ:=by
  rw [Zhh (x:=.str a.s) (y:=.str b.s) (Zd3 (State.ok a 9) (State.ok b 9) rfl rfl)]
  simp [State.inj]
theorem Zfq (a:State):∀bs:List State,ZhO (bs.map fun b=>D.str b.s)=true∧memS a.s (bs.map fun b=>D.str b.s)=decide (a∈bs)
  | []=>⟨rfl,by simp [memS]⟩
  | b::bs=>by
    obtain ⟨h1,h2⟩:=Zfq a bs
    refine ⟨h1,?_⟩
    rw [List.map_cons]
    show (decide (b.s=a.s) || memS a.s (bs.map fun b=>D.str b.s))=_
    rw [h2,Bool.eq_iff_iff]
    simp only [Bool.or_eq_true,decide_eq_true_eq,List.mem_cons,State.inj]
    constructor
    · rintro (h | h)
      · exact .inl h.symm
      · exact .inr h
    · rintro (h | h)
      · exact .inl h.symm
      · exact .inr h
theorem Zgq (a:State) (bs:List State):inM (.str a.s) (.tup (bs.map fun b=>.str b.s)) θ=.ok (.bl (decide (a∈bs))) θ:=by
  obtain ⟨h1,h2⟩:=Zfq a bs
  have e:inD θ (.str a.s) (.tup (bs.map fun b=>D.str b.s))=some (decide (a∈bs)):=by
    unfold inD
    simp only [Zgx]
    rw [if_pos h1,h2]
  unfold inM
  rw [e]
theorem ZiV (a:State) (bs:List State):ZdV (.str a.s) (.tup (bs.map fun b=>.str b.s)) θ=.ok (.bl (!decide (a∈bs))) θ:=by
  obtain ⟨h1,h2⟩:=Zfq a bs
  have e:inD θ (.str a.s) (.tup (bs.map fun b=>D.str b.s))=some (decide (a∈bs)):=by
    unfold inD
    simp only [Zgx]
    rw [if_pos h1,h2]
  unfold ZdV
  rw [e]
@[simp] theorem Zz2 (a b c:State):inM (.str a.s) (.tup [.str b.s,.str c.s]) θ=.ok (.bl (decide (a∈[b,c]))) θ:=Zgq a [b,c]
@[simp] theorem Zz1 (a b c d:State):inM (.str a.s) (.tup [.str b.s,.str c.s,.str d.s]) θ=.ok (.bl (decide (a∈[b,c,d]))) θ:=Zgq a [b,c,d]
@[simp] theorem Zz0 (a b c d e f:State):inM (.str a.s) (.tup [.str b.s,.str c.s,.str d.s,.str e.s,.str f.s]) θ=.ok (.bl (decide (a∈[b,c,d,e,f]))) θ:=Zgq a [b,c,d,e,f]
@[simp] theorem ZvN (a b c d:State):ZdV (.str a.s) (.tup [.str b.s,.str c.s,.str d.s]) θ=.ok (.bl (!decide (a∈[b,c,d]))) θ:=ZiV a [b,c,d]
end
end
end My
namespace My
open PySem L2 L2.MM
noncomputable section
def Zu (n k:Int):Int:=(n+k) % 4294967296
def zg (n b:Int):Int:=(n-b+2147483648) % 4294967296-2147483648
def zH (e:Zv) (now:Int):Zv:={ e with since:=now,wait:=1000,tries:=0 }
def ZW (e:Zv):Int:=64-(e.come.length:Int)
def zI (e:Zv):Int:=if 16<e.most then 16 else e.most
def ZdJ (e:Zv) (now:Int):Bool:=decide (e.wait≤now-e.since)
def ZbP (e:Zv) (n f:Int) (data:List Int):Seg:=⟨e.ours,e.theirs,n,e.rcv,f+16,ZW e,0,data⟩
def ZfH (e:Zv):Seg:=if e.state=.synSent then ⟨e.ours,e.theirs,e.first,0,2,64,16,[]⟩ else ⟨e.ours,e.theirs,e.first,e.rcv,18,64,16,[]⟩
def mn (i j:Int):Int:=if j<i then j else i
def Zcn (e:Zv):List Int:=ZbF e.written none (some (mn (zg e.nxt e.una) (zI e)))
def again (e:Zv) (now:Int):Option Seg×Zv:=
  if e.tries=6 then (none,{ e with state:=.closed,error:=.time })
  else
    let e1:={ e with tries:=e.tries+1,wait:=mn (2*e.wait) 16000,since:=now }
    if e.state=.synSent∨e.state=.synCome then (some (ZfH e1),{ e1 with owes_syn:=false })
    else (some (ZbP e1 e.una (if 0<(Zcn e).length then 0 else 1) (Zcn e)),e1)
def ZcE (e:Zv):Int:=zg e.behind e.nxt
def ZaZ (e:Zv):Bool:=decide (e.state∈[State.opn,.waitOne,.closeWait,.closing,.lastAck]) && decide (0<ZcE e)
def hasNewFin (e:Zv):Bool:=decide (e.state∈[State.waitOne,.closing,.lastAck]) && decide (ZcE e=0)
def hasMore (e:Zv):Bool:=ZaZ e || hasNewFin e
section
variable {θ:Sto} {l:Nat} {e:Zv} {now n k:Int}
@[simp] theorem ZyL:zA [.int n,.int k] θ=.ok (.int (Zu n k)) θ:=by simp [zA,Zlu,Zu]
@[simp] theorem Zu5:zB [.int n,.int k] θ=.ok (.int (zg n k)) θ:=by simp [zB,ZhB,zg]
@[simp] theorem ZqZ (h:l+3 < θ.length):Z7 [.ref l,.int now] (upE θ l e)=.ok .non (upE θ l (zH e now)):=by
  simp [Z7,Zek,h,zH]
@[simp] theorem Zq9 (h:l+3 < θ.length):ZfI [.ref l] (upE θ l e)=.ok (.str e.state.s) (upE θ l e):=by
  simp [ZfI,ZiF,h]
@[simp] theorem Zwp (h:l+3 < θ.length):Zfo [.ref (l+2)] (upE θ l e)=.ok (.int (ZW e)) (upE θ l e):=by
  simp [Zfo,Zlt,h,ZW]
@[simp] theorem Zrb (h:l+3 < θ.length):zM [.ref l] (upE θ l e)=.ok (.int (ZW e)) (upE θ l e):=by
  simp [zM,ZeO,h]
@[simp] theorem Zpi (h:l+3 < θ.length):Zaf [.ref l] (upE θ l e)=.ok (.int (zI e)) (upE θ l e):=by
  simp [Zaf,ZdK,h,zI]
@[simp] theorem Zu8 (h:l+3 < θ.length):Zc4 [.ref l,.int now] (upE θ l e)=.ok (.bl (ZdJ e now)) (upE θ l e):=by
  simp [Zc4,ZhE,h,ZdJ]
theorem ZsC (a b c d f g i:Int) (x:List Int):D.tup [.int a,.int b,.int c,.int d,.int f,.int g,.int i,itp x]=(Seg.mk a b c d f g i x).d:=rfl
theorem ZiP (a b c d f g i:Int):D.tup [.int a,.int b,.int c,.int d,.int f,.int g,.int i,.tup []]=(Seg.mk a b c d f g i []).d:=rfl
@[simp] theorem Zta (h:l+3 < θ.length):ZbK [.ref l] (upE θ l e)=.ok (ZfH e).d (upE θ l { e with owes_syn:=false }):=by
  by_cases c:e.state=.synSent<;>simp [ZbK,ZfX,ZeM,h,ZfH,c,ZiP]
@[simp] theorem Zra {f:Int} {data:List Int} (h:l+3 < θ.length):zz [.ref l,.int n,.int f,il data] (upE θ l e)=.ok (ZbP e n f data).d (upE θ l e):=by
  simp [zz,ZeK,h,ZbP,ZsC]
theorem Zrm (h:l+3 < θ.length):Zdm [.ref l,.int now] (upE θ l e)=.ok (Zbv (again e now).1) (upE θ l (again e now).2):=by
  by_cases c:e.tries=6
  · simp [Zdm,ZdP,ZcC,h,again,c,Zbv]
  · by_cases c2:e.state=.synSent∨e.state=.synCome
    · simp [Zdm,ZdP,ZcC,Zds,h,again,c,c2,Zbv,ZeY,mn]
    · have am:∀e':Zv,e'.most=e.most→zI e'=zI e:=fun e' h=>by unfold zI; rw [h]
      have ad:Zcn e=ZbF e.written none (some (mn (zg e.nxt e.una) (zI e))):=rfl
      have sl:∀e':Zv,e'.written=e.written→Zfn (upE θ l e') (il e'.written) none (some (if zI e<zg e.nxt e.una then zI e else zg e.nxt e.una))=some (il (Zcn e)):=fun e' h'=>by
        rw [ZmM,h']; rfl
      unfold again
      rw [if_neg c,if_neg c2]
      have c2':¬(e.state=State.synSent∨e.state=State.synCome):=c2
      by_cases c3:0<(Zcn e).length
      · rw [if_pos c3]
        have c3':(0:Int)<(Zcn e).length:=by omega
        simp [Zdm,ZdP,ZcC,Zds,h,c,c2',ZeY,mn,am,sl,c3,c3',Zbv,-ZmM,ZbP,ZW]
      · rw [if_neg c3]
        have c3':¬(0:Int)<(Zcn e).length:=by omega
        simp [Zdm,ZdP,ZcC,Zds,h,c,c2',ZeY,mn,am,sl,c3,c3',Zbv,-ZmM,ZbP,ZW]
@[simp] theorem Zu2 (h:l+3 < θ.length):ZbC [.ref l] (upE θ l e)=.ok (.int (ZcE e)) (upE θ l e):=by
  simp [ZbC,Zhw,h,ZcE]
@[simp] theorem Zpk (h:l+3 < θ.length):Zah [.ref l] (upE θ l e)=.ok (.bl (ZaZ e)) (upE θ l e):=by
  simp [Zah,ZdN,h,ZaZ]
@[simp] theorem Zq1 (h:l+3 < θ.length):ZbD [.ref l] (upE θ l e)=.ok (.bl (hasNewFin e)) (upE θ l e):=by
  simp [ZbD,Zel,h,hasNewFin]
@[simp] theorem Zti (h:l+3 < θ.length):ZbM [.ref l] (upE θ l e)=.ok (.bl (hasMore e)) (upE θ l e):=by
  simp [ZbM,Zf0,h,hasMore]
end
def mn3 (i j k:Int):Int:=if j<i then (if k<j then k else j) else (if k<i then k else i)
def ZgX (e:Zv) (room:Int):Int:=mn3 (zI e) (ZcE e) room
def ZfM (e:Zv) (room:Int):Seg×Zv:=
  let e1:={ e with nxt:=Zu e.nxt (ZgX e room) }
  (ZbP e1 e.nxt (if ZcE e1=0 then 8 else 0) (ZbF e.written (some (zg e.nxt e.una)) (some (zg e.nxt e.una+ZgX e room))),e1)
def ZiW (e:Zv):Seg×Zv:=(ZbP e e.nxt 1 [],{ e with nxt:=Zu e.nxt 1 })
def Zcx (e:Zv) (room:Int):Seg×Zv:=if ZaZ e=true then ZfM { e with probes:=false } room else ZiW { e with probes:=false }
def Zfp (e:Zv) (now:Int):Seg×Zv:=
  let e1:=if e.nxt=e.una then zH e now else e
  (ZfH { e1 with nxt:=Zu e.first 1 },{ e1 with nxt:=Zu e.first 1,owes_syn:=false })
def zJ (e:Zv) (now:Int):Option Seg×Zv:=
  if e.state=.synSent∨e.state=.synCome then
    if e.nxt=e.first∨e.owes_syn=true then (some (Zfp e now).1,(Zfp e now).2) else (none,e)
  else
    if e.wnd-zg e.nxt e.una≤0∨hasMore e=false then (none,e)
    else
      let e1:=if e.nxt=e.una then zH e now else e
      (some (Zcx { e1 with owes_answer:=false } (e.wnd-zg e.nxt e.una)).1,(Zcx { e1 with owes_answer:=false } (e.wnd-zg e.nxt e.una)).2)
def zl (e:Zv) (now:Int):Option Seg×Zv:=
  if ¬e.nxt=e.una∨¬e.wnd=0∨hasMore e=false then (none,{ e with probes:=false })
  else
    let e1:=if e.probes=true then e else zH { e with probes:=true } now
    if ZdJ e1 now=true then (some (Zcx { e1 with since:=now } 1).1,(Zcx { e1 with since:=now } 1).2) else (none,e1)
def z9 (e:Zv):Option Seg×Zv:=if e.owes_answer=true then (some (ZbP e e.nxt 0 []),{ e with owes_answer:=false }) else (none,e)
def Zcr (e:Zv) (now:Int):Option Seg×Zv:=
  match zJ e now with
  | (some s,e1)=>(some s,e1)
  | (none,e1)=>match zl e1 now with
    | (some s,e2)=>(some s,e2)
    | (none,e2)=>z9 e2
def Za2 (e:Zv) (now:Int):Option Seg×Zv:=
  match e.owed_reset with
  | some s=>(some s,{ e with owed_reset:=none })
  | none=>
    let e1:=if e.state=.timeWait∧120000≤now-e.since then { e with state:=.closed } else e
    if e1.state=.closed∨e1.state=.listen then (none,e1)
    else if ¬e1.nxt=e1.una∧ZdJ e1 now=true then again e1 now
    else Zcr e1 now
section
variable {θ:Sto} {l:Nat} {e:Zv} {now n k:Int}
@[simp] theorem Ztb {r:Int} (h:l+3 < θ.length):Zce [.ref l,.int r] (upE θ l e)=.ok (ZfM e r).1.d (upE θ l (ZfM e r).2):=by
  have em:(if ZcE e<zI e then (if r<ZcE e then r else ZcE e) else (if r<zI e then r else zI e))=ZgX e r:=rfl
  by_cases c:ZcE { e with nxt:=Zu e.nxt (ZgX e r) }=0
  · simp [Zce,Zd7,h,em]
    simp [ZfM,c,ZbP,ZW,h]
  · simp [Zce,Zd7,h,em]
    simp [ZfM,c,ZbP,ZW,h]
@[simp] theorem ZuB (h:l+3 < θ.length):ZdG [.ref l] (upE θ l e)=.ok (ZiW e).1.d (upE θ l (ZiW e).2):=by
  simp [ZdG,ZgG,h,ZiW,ZbP,ZW,Zc9]
@[simp] theorem Zsu {r:Int} (h:l+3 < θ.length):ZaW [.ref l,.int r] (upE θ l e)=.ok (Zcx e r).1.d (upE θ l (Zcx e r).2):=by
  have hp:ZaZ { e with probes:=false }=ZaZ e:=rfl
  by_cases c:ZaZ e=true
  · simp [ZaW,Zdz,h,Zcx,c,hp]
  · simp [ZaW,Zdz,h,Zcx,c,hp]
@[simp] theorem ZuA (h:l+3 < θ.length):ZcV [.ref l,.int now] (upE θ l e)=.ok (Zfp e now).1.d (upE θ l (Zfp e now).2):=by
  by_cases c:e.nxt=e.una
  · simp [ZcV,ZeP,Zdy,h,Zfp,c,zH]
  · simp [ZcV,ZeP,Zdy,h,Zfp,c]
theorem Zc0 (h:l+3 < θ.length):Z6 [.ref l,.int now] (upE θ l e)=.ok (Zbv (zJ e now).1) (upE θ l (zJ e now).2):=by
  by_cases c1:e.state=.synSent∨e.state=.synCome
  · by_cases c2:e.nxt=e.first∨e.owes_syn=true
    · simp [Z6,zL,zp,h,zJ,c1,c2,Zbv]
    · simp [Z6,zL,zp,h,zJ,c1,c2,Zbv]
  · by_cases c3:e.wnd-zg e.nxt e.una≤0
    · simp [Z6,zL,zp,Zal,h,zJ,c1,c3,Zbv]
    · by_cases c4:hasMore e=true
      · by_cases c5:e.nxt=e.una
        · have c3':=c3
          rw [c5] at c3'
          simp [Z6,zL,zp,Zal,ZbO,h,zJ,c1,c3',c4,c5,Zbv,zH]
        · simp [Z6,zL,zp,Zal,ZbO,h,zJ,c1,c3,c4,c5,Zbv]
      · simp [Z6,zL,zp,Zal,h,zJ,c1,c3,c4,Zbv]
theorem ZdC (h:l+3 < θ.length):Z8 [.ref l,.int now] (upE θ l e)=.ok (Zbv (zl e now).1) (upE θ l (zl e now).2):=by
  by_cases c1:e.nxt=e.una
  · by_cases c2:e.wnd=0
    · by_cases c3:hasMore e=true
      · by_cases c4:e.probes=true
        · by_cases c5:ZdJ e now=true
          · simp [Z8,zo,zd,ZaA,Zaz,h,zl,c1,c2,c3,c4,c5,Zbv]
          · simp [Z8,zo,zd,ZaA,Zaz,h,zl,c1,c2,c3,c4,c5,Zbv]
        · have c5:ZdJ (zH { e with probes:=true } now) now=false:=by simp [ZdJ,zH]
          simp [Z8,zo,zd,ZaA,Zaz,h,zl,c1,c2,c3,c4,Zbv] at c5 ⊢
          simp [c5,ZdJ,zH]
      · simp [Z8,zo,zd,h,zl,c1,c2,c3,Zbv]
    · simp [Z8,zo,zd,h,zl,c1,c2,Zbv]
  · simp [Z8,zo,zd,h,zl,c1,Zbv]
theorem Zfz (h:l+3 < θ.length):zU [.ref l] (upE θ l e)=.ok (Zbv (z9 e).1) (upE θ l (z9 e).2):=by
  by_cases c:e.owes_answer=true
  · simp [zU,ZbA,Za8,h,z9,c,Zbv,Zc9,ZbP,ZW]
  · simp [zU,ZbA,Za8,h,z9,c,Zbv]
@[simp] theorem ZuF:Zbv none=.non:=rfl
@[simp] theorem ZuE (s:Seg):Zbv (some s)=s.d:=rfl
@[simp] theorem Zwz (s:Seg):ZcA s.d=false:=rfl
@[simp] theorem ZuJ:ZcA .non=true:=nr rfl
@[simp] theorem ZsE (h:l+3 < θ.length) (e:Zv):zb ["End"] "owed_reset" .non (.ref l) (upE θ l e)=some (upE θ l { e with owed_reset:=none }):=ZfC h e none
@[simp] theorem ZsD (h:l+3 < θ.length) (e:Zv) (s:Seg):zb ["End"] "owed_reset" s.d (.ref l) (upE θ l e)=some (upE θ l { e with owed_reset:=some s }):=ZfC h e (some s)
theorem Zh3 (h:l+3 < θ.length) (x:Sl):Zg9 (ZL 2 (mCB Z6 (Zc (Zd 0) (Zc (Zd 1) Zk))) [.val (.ref l),.val (.int now),x] (upE θ l e)) (Zn ZbV (Zn ZbU (ZP (Zd 2)))) =
    .ok (.rt (Zbv (Zcr e now).1),[.val (.ref l),.val (.int now),.val (Zbv (Zcr e now).1)]) (upE θ l (Zcr e now).2):=by
  unfold Zcr
  cases c1:zJ e now with
  | mk r1 e1=>
    cases r1 with
    | some s=>simp [h,Zc0,c1,ZbV,ZbU]
    | none=>
      cases c2:zl e1 now with
      | mk r2 e2=>
        cases r2 with
        | some s=>simp [h,Zc0,c1,ZbV,ZbU,ZdC,c2]
        | none=>simp [h,Zc0,c1,ZbV,ZbU,ZdC,c2,Zfz]
theorem Zme (h:l+3 < θ.length):ZdU [.ref l,.int now] (upE θ l e)=.ok (Zbv (Za2 e now).1) (upE θ l (Za2 e now).2):=by
  cases c0:e.owed_reset with
  | some s=>simp [ZdU,Ze6,Zdp,h,Za2,c0,ZcR,ZeN]
  | none=>
    have key:∀e1:Zv,(Zg9 (ZbW [.val (.ref l),.val (.int now),.no] (upE θ l e1)) (Zn ZcB (Zn (ZL 2 (mCB Z6 (Zc (Zd 0) (Zc (Zd 1) Zk)))) (Zn ZbV (Zn ZbU (ZP (Zd 2))))))).bind (fun p θ=>match p.1 with | .nx=>.ok .non θ | .rt d=>.ok d θ | _=>.bad) =
        .ok (Zbv (if e1.state=.closed∨e1.state=.listen then (none,e1) else if ¬e1.nxt=e1.una∧ZdJ e1 now=true then again e1 now else Zcr e1 now).1) (upE θ l (if e1.state=.closed∨e1.state=.listen then (none,e1) else if ¬e1.nxt=e1.una∧ZdJ e1 now=true then again e1 now else Zcr e1 now).2):=fun e1=>by
      by_cases c1:e1.state=.closed∨e1.state=.listen
      · simp [ZbW,h,c1]
      · by_cases c2:e1.nxt=e1.una
        · have g:=Zh3 (e:=e1) (now:=now) h .no
          simp at g
          simp [ZbW,ZcB,h,c1,c2]
          rw [g]
          simp
        · by_cases c3:ZdJ e1 now=true
          · simp [ZbW,ZcB,h,c1,c2,c3,Zrm]
          · have g:=Zh3 (e:=e1) (now:=now) h .no
            simp at g
            simp [ZbW,ZcB,h,c1,c2,c3]
            rw [g]
            simp
    by_cases c1:e.state=.timeWait∧120000≤now-e.since
    · have:=key { e with state:=.closed }
      simp [ZdU,Ze6,Zdp,ZeT,h,Za2,c0,c1] at this ⊢
      exact this
    · have:=key e
      simp [ZdU,Ze6,Zdp,ZeT,h,Za2,c0,c1] at this ⊢
      exact this
def ZiO (e:Zv) (now:Int):List Int:=match (Za2 e now).1 with
  | none=>[]
  | some s=>putL s
theorem Zs8 (h:l+3 < θ.length) (hp:∀s,(Za2 e now).1=some s→s.Put):ZcF [.ref l,.int now] (upE θ l e)=.ok (il (ZiO e now)) (upE θ l (Za2 e now).2):=by
  unfold ZiO
  cases c:(Za2 e now).1 with
  | none=>simp [ZcF,Zhz,Zme,h,c,Zc9]
  | some s=>simp [ZcF,Zhz,Zme,h,c,Zu4 (hp s c)]
def newEnd (ours theirs first:Int) (active:Bool):Zv:=⟨ours,theirs,if active then .synSent else .listen,.none,first,first,first,0,0,0,0,12,[],[],[],none,false,Zu first 1,none,false,false,false,0,1000,0⟩
def cells (l:Nat) (e:Zv):Sto:=[c0 l e,c1 e,c2 e,c3 e]
theorem Znx (θ r:Sto) (C:Str) (fs:List (Str×D)):ZeF (θ++.ins C fs::r) (.ref θ.length)=some (θ.length,C,fs):=by
  show (match (θ++.ins C fs::r)[θ.length]? with | some (Cell.ins C fs)=>some (θ.length,C,fs) | _=>none)=_
  rw [List.getElem?_append_right (Nat.le_refl _),Nat.sub_self]
  rfl
theorem Zia {f:Str} {y:D}:∀{fs:List (Str×D)},(fs.map Prod.fst).contains f=false→ZaL f y fs=fs++[(f,y)]
  | [],_=>rfl
  | (g,x)::r,h=>by
    rw [List.map_cons,List.contains_cons,Bool.or_eq_false_iff] at h
    have hn:¬g=f:=fun e=>by rw [e,beq_self_eq_true] at h; cases h.1
    unfold ZaL
    rw [if_neg hn,Zia h.2]
    rfl
theorem Z2 {C f:Str} {y:D} (θ r:Sto) {fs:List (Str×D)} (h0:[C].contains C=true) (h1:(fs.map Prod.fst).contains f=false) (h2:fs.length<1000):zb [C] f y (.ref θ.length) (θ++.ins C fs::r)=some (θ++.ins C (fs++[(f,y)])::r):=by
  unfold zb
  rw [Znx]
  simp only [h0]
  rw [if_pos ⟨trivial,h2⟩,Zia h1]
  congr 1
  rw [List.set_append,if_neg (Nat.lt_irrefl _),Nat.sub_self]
  rfl
theorem ZmF (S:Sto):mkG "Pile" ZbT [] S=.ok (.ref S.length) (S++[.ins "Pile" [("row",il [])]]):=by
  have:=Z2 (C:="Pile") (f:="row") (y:=il []) S [] (fs:=[]) (by decide +kernel) rfl (by decide)
  simp [mkG,ZbT,Zfk,Zc9,this]
theorem ZpU (θ r:Sto) (y:D):zb ["End"] "ours" y (.ref θ.length) (θ++.ins "End" []::r)=some (θ++.ins "End" [("ours",y)]::r):=Z2 θ r ce (by simp only [List.map_cons,List.map_nil]; decide +kernel) (by simp only [List.length_cons,List.length_nil]; decide)
theorem ZkW (θ r:Sto) (x0 y:D):zb ["End"] "theirs" y (.ref θ.length) (θ++.ins "End" [("ours",x0)]::r)=some (θ++.ins "End" [("ours",x0),("theirs",y)]::r):=Z2 θ r ce (by simp only [List.map_cons,List.map_nil]; decide +kernel) (by simp only [List.length_cons,List.length_nil]; decide)
theorem Zmw (θ r:Sto) (x0 x1 y:D):zb ["End"] "state" y (.ref θ.length) (θ++.ins "End" [("ours",x0),("theirs",x1)]::r)=some (θ++.ins "End" [("ours",x0),("theirs",x1),("state",y)]::r):=Z2 θ r ce (by simp only [List.map_cons,List.map_nil]; decide +kernel) (by simp only [List.length_cons,List.length_nil]; decide)
theorem ZmB (θ r:Sto) (x0 x1 x2 y:D):zb ["End"] "error" y (.ref θ.length) (θ++.ins "End" [("ours",x0),("theirs",x1),("state",x2)]::r)=some (θ++.ins "End" [("ours",x0),("theirs",x1),("state",x2),("error",y)]::r):=Z2 θ r ce (by simp only [List.map_cons,List.map_nil]; decide +kernel) (by simp only [List.length_cons,List.length_nil]; decide)
theorem ZmA (θ r:Sto) (x0 x1 x2 x3 y:D):zb ["End"] "first" y (.ref θ.length) (θ++.ins "End" [("ours",x0),("theirs",x1),("state",x2),("error",x3)]::r)=some (θ++.ins "End" [("ours",x0),("theirs",x1),("state",x2),("error",x3),("first",y)]::r):=Z2 θ r ce (by simp only [List.map_cons,List.map_nil]; decide +kernel) (by simp only [List.length_cons,List.length_nil]; decide)
theorem ZsJ (θ r:Sto) (x0 x1 x2 x3 x4 y:D):zb ["End"] "una" y (.ref θ.length) (θ++.ins "End" [("ours",x0),("theirs",x1),("state",x2),("error",x3),("first",x4)]::r)=some (θ++.ins "End" [("ours",x0),("theirs",x1),("state",x2),("error",x3),("first",x4),("una",y)]::r):=Z2 θ r ce (by simp only [List.map_cons,List.map_nil]; decide +kernel) (by simp only [List.length_cons,List.length_nil]; decide)
theorem ZsL (θ r:Sto) (x0 x1 x2 x3 x4 x5 y:D):zb ["End"] "nxt" y (.ref θ.length) (θ++.ins "End" [("ours",x0),("theirs",x1),("state",x2),("error",x3),("first",x4),("una",x5)]::r)=some (θ++.ins "End" [("ours",x0),("theirs",x1),("state",x2),("error",x3),("first",x4),("una",x5),("nxt",y)]::r):=Z2 θ r ce (by simp only [List.map_cons,List.map_nil]; decide +kernel) (by simp only [List.length_cons,List.length_nil]; decide)
theorem ZsK (θ r:Sto) (x0 x1 x2 x3 x4 x5 x6 y:D):zb ["End"] "rcv" y (.ref θ.length) (θ++.ins "End" [("ours",x0),("theirs",x1),("state",x2),("error",x3),("first",x4),("una",x5),("nxt",x6)]::r)=some (θ++.ins "End" [("ours",x0),("theirs",x1),("state",x2),("error",x3),("first",x4),("una",x5),("nxt",x6),("rcv",y)]::r):=Z2 θ r ce (by simp only [List.map_cons,List.map_nil]; decide +kernel) (by simp only [List.length_cons,List.length_nil]; decide)
theorem ZsI (θ r:Sto) (x0 x1 x2 x3 x4 x5 x6 x7 y:D):zb ["End"] "wnd" y (.ref θ.length) (θ++.ins "End" [("ours",x0),("theirs",x1),("state",x2),("error",x3),("first",x4),("una",x5),("nxt",x6),("rcv",x7)]::r)=some (θ++.ins "End" [("ours",x0),("theirs",x1),("state",x2),("error",x3),("first",x4),("una",x5),("nxt",x6),("rcv",x7),("wnd",y)]::r):=Z2 θ r ce (by simp only [List.map_cons,List.map_nil]; decide +kernel) (by simp only [List.length_cons,List.length_nil]; decide)
theorem ZpT (θ r:Sto) (x0 x1 x2 x3 x4 x5 x6 x7 x8 y:D):zb ["End"] "told" y (.ref θ.length) (θ++.ins "End" [("ours",x0),("theirs",x1),("state",x2),("error",x3),("first",x4),("una",x5),("nxt",x6),("rcv",x7),("wnd",x8)]::r)=some (θ++.ins "End" [("ours",x0),("theirs",x1),("state",x2),("error",x3),("first",x4),("una",x5),("nxt",x6),("rcv",x7),("wnd",x8),("told",y)]::r):=Z2 θ r ce (by simp only [List.map_cons,List.map_nil]; decide +kernel) (by simp only [List.length_cons,List.length_nil]; decide)
theorem Zig (θ r:Sto) (x0 x1 x2 x3 x4 x5 x6 x7 x8 x9 y:D):zb ["End"] "told_by" y (.ref θ.length) (θ++.ins "End" [("ours",x0),("theirs",x1),("state",x2),("error",x3),("first",x4),("una",x5),("nxt",x6),("rcv",x7),("wnd",x8),("told",x9)]::r)=some (θ++.ins "End" [("ours",x0),("theirs",x1),("state",x2),("error",x3),("first",x4),("una",x5),("nxt",x6),("rcv",x7),("wnd",x8),("told",x9),("told_by",y)]::r):=Z2 θ r ce (by simp only [List.map_cons,List.map_nil]; decide +kernel) (by simp only [List.length_cons,List.length_nil]; decide)
theorem ZpV (θ r:Sto) (x0 x1 x2 x3 x4 x5 x6 x7 x8 x9 x10 y:D):zb ["End"] "most" y (.ref θ.length) (θ++.ins "End" [("ours",x0),("theirs",x1),("state",x2),("error",x3),("first",x4),("una",x5),("nxt",x6),("rcv",x7),("wnd",x8),("told",x9),("told_by",x10)]::r)=some (θ++.ins "End" [("ours",x0),("theirs",x1),("state",x2),("error",x3),("first",x4),("una",x5),("nxt",x6),("rcv",x7),("wnd",x8),("told",x9),("told_by",x10),("most",y)]::r):=Z2 θ r ce (by simp only [List.map_cons,List.map_nil]; decide +kernel) (by simp only [List.length_cons,List.length_nil]; decide)
theorem Zif (θ r:Sto) (x0 x1 x2 x3 x4 x5 x6 x7 x8 x9 x10 x11 y:D):zb ["End"] "written" y (.ref θ.length) (θ++.ins "End" [("ours",x0),("theirs",x1),("state",x2),("error",x3),("first",x4),("una",x5),("nxt",x6),("rcv",x7),("wnd",x8),("told",x9),("told_by",x10),("most",x11)]::r)=some (θ++.ins "End" [("ours",x0),("theirs",x1),("state",x2),("error",x3),("first",x4),("una",x5),("nxt",x6),("rcv",x7),("wnd",x8),("told",x9),("told_by",x10),("most",x11),("written",y)]::r):=Z2 θ r ce (by simp only [List.map_cons,List.map_nil]; decide +kernel) (by simp only [List.length_cons,List.length_nil]; decide)
theorem ZpX (θ r:Sto) (x0 x1 x2 x3 x4 x5 x6 x7 x8 x9 x10 x11 x12 y:D):zb ["End"] "come" y (.ref θ.length) (θ++.ins "End" [("ours",x0),("theirs",x1),("state",x2),("error",x3),("first",x4),("una",x5),("nxt",x6),("rcv",x7),("wnd",x8),("told",x9),("told_by",x10),("most",x11),("written",x12)]::r)=some (θ++.ins "End" [("ours",x0),("theirs",x1),("state",x2),("error",x3),("first",x4),("una",x5),("nxt",x6),("rcv",x7),("wnd",x8),("told",x9),("told_by",x10),("most",x11),("written",x12),("come",y)]::r):=Z2 θ r ce (by simp only [List.map_cons,List.map_nil]; decide +kernel) (by simp only [List.length_cons,List.length_nil]; decide)
theorem ZmC (θ r:Sto) (x0 x1 x2 x3 x4 x5 x6 x7 x8 x9 x10 x11 x12 x13 y:D):zb ["End"] "early" y (.ref θ.length) (θ++.ins "End" [("ours",x0),("theirs",x1),("state",x2),("error",x3),("first",x4),("una",x5),("nxt",x6),("rcv",x7),("wnd",x8),("told",x9),("told_by",x10),("most",x11),("written",x12),("come",x13)]::r)=some (θ++.ins "End" [("ours",x0),("theirs",x1),("state",x2),("error",x3),("first",x4),("una",x5),("nxt",x6),("rcv",x7),("wnd",x8),("told",x9),("told_by",x10),("most",x11),("written",x12),("come",x13),("early",y)]::r):=Z2 θ r ce (by simp only [List.map_cons,List.map_nil]; decide +kernel) (by simp only [List.length_cons,List.length_nil]; decide)
theorem Zgy (θ r:Sto) (x0 x1 x2 x3 x4 x5 x6 x7 x8 x9 x10 x11 x12 x13 x14 y:D):zb ["End"] "early_fin" y (.ref θ.length) (θ++.ins "End" [("ours",x0),("theirs",x1),("state",x2),("error",x3),("first",x4),("una",x5),("nxt",x6),("rcv",x7),("wnd",x8),("told",x9),("told_by",x10),("most",x11),("written",x12),("come",x13),("early",x14)]::r)=some (θ++.ins "End" [("ours",x0),("theirs",x1),("state",x2),("error",x3),("first",x4),("una",x5),("nxt",x6),("rcv",x7),("wnd",x8),("told",x9),("told_by",x10),("most",x11),("written",x12),("come",x13),("early",x14),("early_fin",y)]::r):=Z2 θ r ce (by simp only [List.map_cons,List.map_nil]; decide +kernel) (by simp only [List.length_cons,List.length_nil]; decide)
theorem ZfK (θ r:Sto) (x0 x1 x2 x3 x4 x5 x6 x7 x8 x9 x10 x11 x12 x13 x14 x15 y:D):zb ["End"] "has_closed" y (.ref θ.length) (θ++.ins "End" [("ours",x0),("theirs",x1),("state",x2),("error",x3),("first",x4),("una",x5),("nxt",x6),("rcv",x7),("wnd",x8),("told",x9),("told_by",x10),("most",x11),("written",x12),("come",x13),("early",x14),("early_fin",x15)]::r)=some (θ++.ins "End" [("ours",x0),("theirs",x1),("state",x2),("error",x3),("first",x4),("una",x5),("nxt",x6),("rcv",x7),("wnd",x8),("told",x9),("told_by",x10),("most",x11),("written",x12),("come",x13),("early",x14),("early_fin",x15),("has_closed",y)]::r):=Z2 θ r ce (by simp only [List.map_cons,List.map_nil]; decide +kernel) (by simp only [List.length_cons,List.length_nil]; decide)
theorem Zk0 (θ r:Sto) (x0 x1 x2 x3 x4 x5 x6 x7 x8 x9 x10 x11 x12 x13 x14 x15 x16 y:D):zb ["End"] "behind" y (.ref θ.length) (θ++.ins "End" [("ours",x0),("theirs",x1),("state",x2),("error",x3),("first",x4),("una",x5),("nxt",x6),("rcv",x7),("wnd",x8),("told",x9),("told_by",x10),("most",x11),("written",x12),("come",x13),("early",x14),("early_fin",x15),("has_closed",x16)]::r)=some (θ++.ins "End" [("ours",x0),("theirs",x1),("state",x2),("error",x3),("first",x4),("una",x5),("nxt",x6),("rcv",x7),("wnd",x8),("told",x9),("told_by",x10),("most",x11),("written",x12),("come",x13),("early",x14),("early_fin",x15),("has_closed",x16),("behind",y)]::r):=Z2 θ r ce (by simp only [List.map_cons,List.map_nil]; decide +kernel) (by simp only [List.length_cons,List.length_nil]; decide)
theorem ZfJ (θ r:Sto) (x0 x1 x2 x3 x4 x5 x6 x7 x8 x9 x10 x11 x12 x13 x14 x15 x16 x17 y:D):zb ["End"] "owed_reset" y (.ref θ.length) (θ++.ins "End" [("ours",x0),("theirs",x1),("state",x2),("error",x3),("first",x4),("una",x5),("nxt",x6),("rcv",x7),("wnd",x8),("told",x9),("told_by",x10),("most",x11),("written",x12),("come",x13),("early",x14),("early_fin",x15),("has_closed",x16),("behind",x17)]::r)=some (θ++.ins "End" [("ours",x0),("theirs",x1),("state",x2),("error",x3),("first",x4),("una",x5),("nxt",x6),("rcv",x7),("wnd",x8),("told",x9),("told_by",x10),("most",x11),("written",x12),("come",x13),("early",x14),("early_fin",x15),("has_closed",x16),("behind",x17),("owed_reset",y)]::r):=Z2 θ r ce (by simp only [List.map_cons,List.map_nil]; decide +kernel) (by simp only [List.length_cons,List.length_nil]; decide)
theorem Zhf (θ r:Sto) (x0 x1 x2 x3 x4 x5 x6 x7 x8 x9 x10 x11 x12 x13 x14 x15 x16 x17 x18 y:D):zb ["End"] "owes_syn" y (.ref θ.length) (θ++.ins "End" [("ours",x0),("theirs",x1),("state",x2),("error",x3),("first",x4),("una",x5),("nxt",x6),("rcv",x7),("wnd",x8),("told",x9),("told_by",x10),("most",x11),("written",x12),("come",x13),("early",x14),("early_fin",x15),("has_closed",x16),("behind",x17),("owed_reset",x18)]::r)=some (θ++.ins "End" [("ours",x0),("theirs",x1),("state",x2),("error",x3),("first",x4),("una",x5),("nxt",x6),("rcv",x7),("wnd",x8),("told",x9),("told_by",x10),("most",x11),("written",x12),("come",x13),("early",x14),("early_fin",x15),("has_closed",x16),("behind",x17),("owed_reset",x18),("owes_syn",y)]::r):=Z2 θ r ce (by simp only [List.map_cons,List.map_nil]; decide +kernel) (by simp only [List.length_cons,List.length_nil]; decide)
theorem Zfg (θ r:Sto) (x0 x1 x2 x3 x4 x5 x6 x7 x8 x9 x10 x11 x12 x13 x14 x15 x16 x17 x18 x19 y:D):zb ["End"] "owes_answer" y (.ref θ.length) (θ++.ins "End" [("ours",x0),("theirs",x1),("state",x2),("error",x3),("first",x4),("una",x5),("nxt",x6),("rcv",x7),("wnd",x8),("told",x9),("told_by",x10),("most",x11),("written",x12),("come",x13),("early",x14),("early_fin",x15),("has_closed",x16),("behind",x17),("owed_reset",x18),("owes_syn",x19)]::r)=some (θ++.ins "End" [("ours",x0),("theirs",x1),("state",x2),("error",x3),("first",x4),("una",x5),("nxt",x6),("rcv",x7),("wnd",x8),("told",x9),("told_by",x10),("most",x11),("written",x12),("come",x13),("early",x14),("early_fin",x15),("has_closed",x16),("behind",x17),("owed_reset",x18),("owes_syn",x19),("owes_answer",y)]::r):=Z2 θ r ce (by simp only [List.map_cons,List.map_nil]; decide +kernel) (by simp only [List.length_cons,List.length_nil]; decide)
theorem ZkX (θ r:Sto) (x0 x1 x2 x3 x4 x5 x6 x7 x8 x9 x10 x11 x12 x13 x14 x15 x16 x17 x18 x19 x20 y:D):zb ["End"] "probes" y (.ref θ.length) (θ++.ins "End" [("ours",x0),("theirs",x1),("state",x2),("error",x3),("first",x4),("una",x5),("nxt",x6),("rcv",x7),("wnd",x8),("told",x9),("told_by",x10),("most",x11),("written",x12),("come",x13),("early",x14),("early_fin",x15),("has_closed",x16),("behind",x17),("owed_reset",x18),("owes_syn",x19),("owes_answer",x20)]::r)=some (θ++.ins "End" [("ours",x0),("theirs",x1),("state",x2),("error",x3),("first",x4),("una",x5),("nxt",x6),("rcv",x7),("wnd",x8),("told",x9),("told_by",x10),("most",x11),("written",x12),("come",x13),("early",x14),("early_fin",x15),("has_closed",x16),("behind",x17),("owed_reset",x18),("owes_syn",x19),("owes_answer",x20),("probes",y)]::r):=Z2 θ r ce (by simp only [List.map_cons,List.map_nil]; decide +kernel) (by simp only [List.length_cons,List.length_nil]; decide)
theorem Zmx (θ r:Sto) (x0 x1 x2 x3 x4 x5 x6 x7 x8 x9 x10 x11 x12 x13 x14 x15 x16 x17 x18 x19 x20 x21 y:D):zb ["End"] "since" y (.ref θ.length) (θ++.ins "End" [("ours",x0),("theirs",x1),("state",x2),("error",x3),("first",x4),("una",x5),("nxt",x6),("rcv",x7),("wnd",x8),("told",x9),("told_by",x10),("most",x11),("written",x12),("come",x13),("early",x14),("early_fin",x15),("has_closed",x16),("behind",x17),("owed_reset",x18),("owes_syn",x19),("owes_answer",x20),("probes",x21)]::r)=some (θ++.ins "End" [("ours",x0),("theirs",x1),("state",x2),("error",x3),("first",x4),("una",x5),("nxt",x6),("rcv",x7),("wnd",x8),("told",x9),("told_by",x10),("most",x11),("written",x12),("come",x13),("early",x14),("early_fin",x15),("has_closed",x16),("behind",x17),("owed_reset",x18),("owes_syn",x19),("owes_answer",x20),("probes",x21),("since",y)]::r):=Z2 θ r ce (by simp only [List.map_cons,List.map_nil]; decide +kernel) (by simp only [List.length_cons,List.length_nil]; decide)
theorem ZpS (θ r:Sto) (x0 x1 x2 x3 x4 x5 x6 x7 x8 x9 x10 x11 x12 x13 x14 x15 x16 x17 x18 x19 x20 x21 x22 y:D):zb ["End"] "wait" y (.ref θ.length) (θ++.ins "End" [("ours",x0),("theirs",x1),("state",x2),("error",x3),("first",x4),("una",x5),("nxt",x6),("rcv",x7),("wnd",x8),("told",x9),("told_by",x10),("most",x11),("written",x12),("come",x13),("early",x14),("early_fin",x15),("has_closed",x16),("behind",x17),("owed_reset",x18),("owes_syn",x19),("owes_answer",x20),("probes",x21),("since",x22)]::r)=some (θ++.ins "End" [("ours",x0),("theirs",x1),("state",x2),("error",x3),("first",x4),("una",x5),("nxt",x6),("rcv",x7),("wnd",x8),("told",x9),("told_by",x10),("most",x11),("written",x12),("come",x13),("early",x14),("early_fin",x15),("has_closed",x16),("behind",x17),("owed_reset",x18),("owes_syn",x19),("owes_answer",x20),("probes",x21),("since",x22),("wait",y)]::r):=Z2 θ r ce (by simp only [List.map_cons,List.map_nil]; decide +kernel) (by simp only [List.length_cons,List.length_nil]; decide)
theorem Zmv (θ r:Sto) (x0 x1 x2 x3 x4 x5 x6 x7 x8 x9 x10 x11 x12 x13 x14 x15 x16 x17 x18 x19 x20 x21 x22 x23 y:D):zb ["End"] "tries" y (.ref θ.length) (θ++.ins "End" [("ours",x0),("theirs",x1),("state",x2),("error",x3),("first",x4),("una",x5),("nxt",x6),("rcv",x7),("wnd",x8),("told",x9),("told_by",x10),("most",x11),("written",x12),("come",x13),("early",x14),("early_fin",x15),("has_closed",x16),("behind",x17),("owed_reset",x18),("owes_syn",x19),("owes_answer",x20),("probes",x21),("since",x22),("wait",x23)]::r)=some (θ++.ins "End" [("ours",x0),("theirs",x1),("state",x2),("error",x3),("first",x4),("una",x5),("nxt",x6),("rcv",x7),("wnd",x8),("told",x9),("told_by",x10),("most",x11),("written",x12),("come",x13),("early",x14),("early_fin",x15),("has_closed",x16),("behind",x17),("owed_reset",x18),("owes_syn",x19),("owes_answer",x20),("probes",x21),("since",x22),("wait",x23),("tries",y)]::r):=Z2 θ r ce (by simp only [List.map_cons,List.map_nil]; decide +kernel) (by simp only [List.length_cons,List.length_nil]; decide)
theorem Ztf {a b c:Int} {act:Bool} (θ:Sto):Zch [.ref θ.length,.int a,.int b,.int c,.bl act] (θ++[.ins "End" []])=.ok .non (θ++cells θ.length (newEnd a b c act)):=by
  cases act with
  | true=>
    simp [Zch,Zeb,ZmF,ZpU,ZkW,Zmw,ZmB,ZmA,ZsJ,ZsL,ZsK,ZsI,ZpT,Zig,ZpV,Zif,ZpX,ZmC,Zgy,ZfK,Zk0,ZfJ,Zhf,Zfg,ZkX,Zmx,ZpS,Zmv]
    rfl
  | false=>
    simp [Zch,Zeb,ZmF,ZpU,ZkW,Zmw,ZmB,ZmA,ZsJ,ZsL,ZsK,ZsI,ZpT,Zig,ZpV,Zif,ZpX,ZmC,Zgy,ZfK,Zk0,ZfJ,Zhf,Zfg,ZkX,Zmx,ZpS,Zmv]
    rfl
theorem Zph {a b c:Int} {act:Bool} (θ:Sto):Zev [.int a,.int b,.int c,.bl act] θ=.ok (.ref θ.length) (θ++cells θ.length (newEnd a b c act)):=by
  simp [Zev,ZhA,mkG,Ztf]
theorem ZqJ (e:Zv):cells 0 e=upE (cells 0 e) 0 e:=by
  simp [cells,upE]
end
end
end My
namespace L2
open PySem PySem.Spec PyProof.Rows
open AutoSeq1 (wpAny_loadPart')
theorem Zr9 (tp:Addr) (its:Array Value) (k:Nat) (dct:Option Addr) (sl:Array (Option Value)) :
    Meets (Builtin.«enumerate.__new__» ⟨[.type "enumerate",.ref tp],[]⟩) (fun _ R s=>s.heap.get? tp=some { cls:=.type "tuple",dict:=dct,data:=.seq its k,slots:=sl }∧
      R (.ok (.ret (.ref (s.heap.push { cls:=.type "tuple_iterator",data:=.fields #[.ref tp,.int 0 0] }).objs.size)))
        { s with heap:=(s.heap.push { cls:=.type "tuple_iterator",data:=.fields #[.ref tp,.int 0 0] }).push { cls:=.type "enumerate",data:=.fields #[.none,.bool false,.ref s.heap.objs.size,rawInt 0,.none,.none] } }):=by
  refine .of_wp fun prog w A R s h=>?_
  obtain ⟨hp,g,d,tk,os⟩:=s
  obtain ⟨ht,h⟩:=h
  have hsub:=sub_enumerate
  have hT:Heap.IsTuple (Shared.heap ⟨hp,g,d,tk,os⟩) tp its:=⟨_,ht,rfl,k,rfl⟩
  wp_walk using wpAny_loadPart' ht
  refine wpAny_stack_any fun st=>?_
  refine wpAny_pure ?_
  split
  · rename_i c _ _ _ _ _
    cases (c == Value.type "enumerate")<;>(wp_walk using wpAny_loadPart' ht,wpAny_pyIter_tuple hT; exact ⟨_,rfl,h⟩)
  · wp_walk using wpAny_loadPart' ht,wpAny_pyIter_tuple hT; exact ⟨_,rfl,h⟩
section
variable {prog:Program} {w:World} {A:Around} {E:Value→Shared→Prop} {s:Shared}
theorem ZqL {tp:Addr} {its:Array Value} {Q:Value→Shared→Prop} (hT:s.heap.IsTuple tp its)
    (h:∀h',IsEnum h' (s.heap.objs.size+1) s.heap.objs.size 0 .none→h'.IsTupleIter s.heap.objs.size tp 0→h'.objs.size=s.heap.objs.size+2→(∀b o,s.heap.get? b=some o→h'.get? b=some o)→Q (.ref (s.heap.objs.size+1)) { s with heap:=h' }) :
    wpAny (model prog w) A (call (.type "enumerate") [.ref tp]) Q E s:=by
  obtain ⟨⟨c,dct,dt,sl⟩,ht,hc,k,hd⟩:=hT
  cases (show c=.type "tuple" from hc)
  cases (show dt=.seq its k from hd)
  refine callType_new F.called_enumerate (by decide) (F.typeCall_enumerate_1 _) (F.newCall_enumerate_1 _) (fun obj=>F.args_object_init_2 obj _) F.entry_enumerate_new (Zr9 tp its k dct sl) ⟨ht,?_⟩
  have hz:(s.heap.push { cls:=.type "tuple_iterator",data:=.fields #[.ref tp,.int 0 0] }).objs.size=s.heap.objs.size+1:=Heap.size_push ..
  show _∧_
  rw [hz]
  have he:IsEnum ((s.heap.push { cls:=.type "tuple_iterator",data:=.fields #[.ref tp,.int 0 0] }).push { cls:=.type "enumerate",data:=.fields #[.none,.bool false,.ref s.heap.objs.size,rawInt 0,.none,.none] }) (s.heap.objs.size+1) s.heap.objs.size 0 .none:=by
    have q:=Heap.get?_push_size (s.heap.push { cls:=.type "tuple_iterator",data:=.fields #[.ref tp,.int 0 0] }) (o:={ cls:=.type "enumerate",data:=.fields #[.none,.bool false,.ref s.heap.objs.size,rawInt 0,.none,.none] }) rfl
    rw [hz] at q
    exact q
  exact ⟨⟨_,he,rfl⟩,h _ he ⟨_,Heap.get?_push_of_some _ (Heap.get?_push_size _ rfl),rfl,rfl⟩ (by rw [Heap.size_push,hz]) fun b o x=>Heap.get?_push_of_some _ (Heap.get?_push_of_some _ x)⟩
theorem ZlM {it tp:Addr} {i:Nat} {its} {x:Value} {Q:Value→Shared→Prop} (hit:s.heap.IsTupleIter it tp i) (ht:s.heap.IsTuple tp its) (hx:its[i]?=some x)
    (hQ:∀h',h'.IsTupleIter it tp (i+1)→Heap.SameBut it s.heap h'→Q x { s with heap:=h' }):wpAny (model prog w) A (Builtin.SmallTypes.nextOf (.ref it)) Q E s:=by
  obtain ⟨o,ho,hc,hd⟩:=id hit
  obtain ⟨ol,hol,_,nl,hdl⟩:=ht
  unfold Builtin.SmallTypes.nextOf
  refine wpAny_bind (wpAny_callSpecial?_slot (name:=Str.ofString "__next__") hit.typeIs F.slot_tuple_iterator_next (wpAny_call_entry F.slot_tuple_iterator_next hit.typeIs F.entry_tuple_iterator_next ?_ (F.args_tuple_iterator_next_1 _)))
  show wpAny _ _ (field (.ref it) 0 >>= _) _ _ s
  refine wpAny_bind (wpAny_field ho hd (x:=.ref tp) rfl ?_)
  rw [if_neg (show ¬((Value.ref tp == Value.none)=true) from Bool.false_ne_true)]
  refine wpAny_bind (wpAny_field ho hd (x:=.int i 0) rfl (wpAny_bind (wpAny_seqItems hol hdl ?_)))
  simp only [Int.toNat_natCast,hx]
  refine wpAny_bind (wpAny_setField ho hd (by simp) (wpAny_pure ⟨x,rfl,wpAny_pure (hQ _ ⟨_,Heap.get?_update_self _ ho (Obj.isFreed_of_fields (Obj.data_mapFields hd _)),(Obj.cls_mapFields ..).trans hc,?_⟩ (Heap.SameBut.update ..))⟩))
  rw [Obj.data_mapFields hd]
  simp [rawInt]
theorem Znq {it tp:Addr} {i:Nat} {its} {Q:Value→Shared→Prop} (hh:A.handled=none) (hit:s.heap.IsTupleIter it tp i) (ht:s.heap.IsTuple tp its) (hx:its[i]?=none)
    (hE:∀h' e,Heap.ExtBut it s.heap h'→(∃o,h'.get? e=some o∧o.cls=.type "StopIteration")→E (.ref e) { s with heap:=h' }):wpAny (model prog w) A (Builtin.SmallTypes.nextOf (.ref it)) Q E s:=by
  obtain ⟨o,ho,hc,hd⟩:=id hit
  obtain ⟨ol,hol,_,nl,hdl⟩:=ht
  unfold Builtin.SmallTypes.nextOf
  refine wpAny_bind (wpAny_callSpecial?_slot (name:=Str.ofString "__next__") hit.typeIs F.slot_tuple_iterator_next (wpAny_call_entry F.slot_tuple_iterator_next hit.typeIs F.entry_tuple_iterator_next ?_ (F.args_tuple_iterator_next_1 _)))
  show wpAny _ _ (field (.ref it) 0 >>= _) _ _ s
  refine wpAny_bind (wpAny_field ho hd (x:=.ref tp) rfl ?_)
  rw [if_neg (show ¬((Value.ref tp == Value.none)=true) from Bool.false_ne_true)]
  refine wpAny_bind (wpAny_field ho hd (x:=.int i 0) rfl (wpAny_bind (wpAny_seqItems hol hdl ?_)))
  simp only [Int.toNat_natCast,hx]
  refine wpAny_bind (wpAny_rule (wpAny_bind (wpAny_setField ho hd (by simp) ?_)))
  refine wpAny_bind (m:=newExc (.type "StopIteration") []) ?_
  simp only [newExc,newTuple]
  refine wpAny_bind (wpAny_newObj_type (wpAny_bind (m:=firstArgMember _ _) (wpAny_of_eq (a:=Value.none) (by first | rfl | (simp only [firstArgMember]; rfl)) (wpAny_newObj_type ?_ (by size_fits)))) (by size_fits))
  simp only [raiseNew]
  refine wpAny_bind (wpAny_handled ?_)
  rw [show A.in1.handled=none from hh]
  exact wpAny_bind (wpAny_pure (wpAny_throw (hE _ _ (((Heap.SameBut.update ..).extBut.push _).push _) ⟨_,Heap.get?_push_size _ rfl,rfl⟩)))
theorem Zqv {e it tp:Addr} {i:Nat} {its:Array Value} {x old:Value} {Q:Value→Shared→Prop} (he:IsEnum s.heap e it i old) (hit:s.heap.IsTupleIter it tp i) (ht:s.heap.IsTuple tp its) (hx:its[i]?=some x) (hne:e≠it)
    (hQ:∀h',IsEnumOut h' e it ((i:Int)+1) x s.heap.objs.size→h'.IsTupleIter it tp (i+1)→h'.get? s.heap.objs.size=some { cls:=.type "tuple",data:=.seq #[.int i s.toks,x] }→h'.objs.size=s.heap.objs.size+1→(∀b o,b≠e→b≠it→s.heap.get? b=some o→h'.get? b=some o)→Q (.ref s.heap.objs.size) { s with heap:=h',toks:=s.toks+1 }) :
    wpAny (model prog w) A (Builtin.«enumerate.__next__» ⟨[.ref e],[]⟩) (fun fin s'=>∃v,fin=.done (.ret v)∧Q v s') E s:=by
  obtain ⟨hp,g,d,tk,os⟩:=s
  show wpAny _ _ (field (.ref e) 2 >>= _) _ _ _
  refine wpAny_bind (wpAny_field he rfl (x:=.ref it) rfl (wpAny_bind (ZlM hit ht hx fun h1 hit1 hs1=>?_)))
  replace hs1:Heap.SameBut it hp h1:=hs1
  have he1:IsEnum h1 e it i old:=(hs1.2 e hne).trans he
  refine wpAny_bind (wpAny_field (s:=⟨h1,g,d,tk,os⟩) he1 rfl (x:=rawInt i) rfl ?_)
  refine wpAny_bind (wpAny_field (s:=⟨h1,g,d,tk,os⟩) he1 rfl (x:=.none) rfl ?_)
  show wpAny _ _ (mkInt i >>= _) _ _ ⟨h1,g,d,tk,os⟩
  refine wpAny_bind (wpAny_mkInt ?_)
  show wpAny _ _ (setField (.ref e) 3 (rawInt ((i:Int)+1)) >>= _) _ _ ⟨h1,g,d,tk+1,os⟩
  refine wpAny_bind (wpAny_setField_rec he1 (by simp) fun h2 he2 hs2=>?_)
  replace hs2:Heap.SameBut e h1 h2:=hs2
  replace he2:IsEnum h2 e it ((i:Int)+1) old:=he2
  show wpAny _ _ (setField (.ref e) 4 .none >>= _) _ _ ⟨h2,g,d,tk+1,os⟩
  refine wpAny_bind (wpAny_setField_rec he2 (by simp) fun h3 he3 hs3=>?_)
  replace hs3:Heap.SameBut e h2 h3:=hs3
  replace he3:IsEnum h3 e it ((i:Int)+1) old:=he3
  show wpAny _ _ (newTuple [.int i tk,x] >>= _) _ _ ⟨h3,g,d,tk+1,os⟩
  refine wpAny_bind (wpAny_newTuple ?_)
  have he4:IsEnum (h3.push { cls:=.type "tuple",data:=.seq #[.int i tk,x] }) e it ((i:Int)+1) old:=Heap.get?_push_of_some _ he3
  obtain ⟨h4,hh4⟩:∃z,z=h3.push { cls:=.type "tuple",data:=.seq #[.int i tk,x] }:=⟨_,rfl⟩
  rw [←hh4] at he4
  have hsz:h3.objs.size=hp.objs.size:=by rw [hs3.1,hs2.1,hs1.1]
  have hel:hp.objs.size≠e:=Nat.ne_of_gt (Heap.lt_size he)
  have ht4:h4.get? hp.objs.size=some { cls:=.type "tuple",data:=.seq #[.int i tk,x] }:=by rw [hh4,←hsz]; exact Heap.get?_push_size _ rfl
  have hz4:h4.objs.size=hp.objs.size+1:=by rw [hh4,Heap.size_push,hsz]
  have hk4:∀b o,b≠e→b≠it→hp.get? b=some o→h4.get? b=some o:=fun b o q1 q2 q3=>by
    rw [hh4]
    exact Heap.get?_push_of_some _ (hs3.extBut b o q1 (hs2.extBut b o q1 (hs1.extBut b o q2 q3)))
  have hit4:h4.IsTupleIter it tp (i+1):=by
    obtain ⟨o,ho,r⟩:=(hit1.extBut hs2.extBut (Ne.symm hne)).extBut hs3.extBut (Ne.symm hne)
    exact ⟨o,by rw [hh4]; exact Heap.get?_push_of_some _ ho,r⟩
  show wpAny _ _ (Builtin.SmallTypes.ownedTupleIsFree (.ref e) >>= _) _ _ ⟨h3.push { cls:=.type "tuple",data:=.seq #[.int i tk,x] },g,d,tk+1,os⟩
  rw [←hh4,hsz]
  refine wpAny_bind ?_
  unfold Builtin.SmallTypes.ownedTupleIsFree
  refine wpAny_bind (wpAny_field he4 rfl (x:=.none) rfl (wpAny_pure ?_))
  simp only [if_true]
  refine wpAny_bind (wpAny_rule (wpAny_bind (wpAny_field he4 rfl (x:=old) rfl (wpAny_bind (wpAny_setField_rec he4 (by simp) fun h5 he5 hs5=>?_)))))
  replace hs5:Heap.SameBut e h4 h5:=hs5
  replace he5:IsEnum h5 e it ((i:Int)+1) x:=he5
  refine wpAny_bind (m:=Builtin.SmallTypes.ownedTupleHandOut (.ref e) (.ref hp.objs.size)) ?_
  unfold Builtin.SmallTypes.ownedTupleHandOut
  refine wpAny_bind (wpAny_setField_rec he5 (by simp) fun h6 he6 hs6=>?_)
  replace hs6:Heap.SameBut e h5 h6:=hs6
  replace he6:IsEnumOut h6 e it ((i:Int)+1) x hp.objs.size:=he6
  refine wpAny_setField_rec he6 (by simp) fun h7 he7 hs7=>?_
  replace hs7:Heap.SameBut e h6 h7:=hs7
  replace he7:IsEnumOut h7 e it ((i:Int)+1) x hp.objs.size:=he7
  have up:∀b o,b≠e→h4.get? b=some o→h7.get? b=some o:=fun b o q1 q2=>hs7.extBut b o q1 (hs6.extBut b o q1 (hs5.extBut b o q1 q2))
  refine wpAny_bind (wpAny_letGo (wpAny_pure ⟨_,rfl,hQ h7 he7 ?_ (up _ _ hel ht4) (by rw [hs7.1,hs6.1,hs5.1,hz4]) fun b o q1 q2 q3=>up b o q1 (hk4 b o q1 q2 q3)⟩))
  obtain ⟨o,ho,r⟩:=hit4
  exact ⟨o,up _ _ (Ne.symm hne) ho,r⟩
theorem Zqw {e it tp:Addr} {i:Nat} {its:Array Value} {x old:Value} {Q:Option Value→Shared→Prop} (he:IsEnum s.heap e it i old) (hit:s.heap.IsTupleIter it tp i) (ht:s.heap.IsTuple tp its) (hx:its[i]?=some x) (hne:e≠it)
    (hQ:∀h',IsEnumOut h' e it ((i:Int)+1) x s.heap.objs.size→h'.IsTupleIter it tp (i+1)→h'.get? s.heap.objs.size=some { cls:=.type "tuple",data:=.seq #[.int i s.toks,x] }→h'.objs.size=s.heap.objs.size+1→(∀b o,b≠e→b≠it→s.heap.get? b=some o→h'.get? b=some o)→Q (some (.ref s.heap.objs.size)) { s with heap:=h',toks:=s.toks+1 }) :
    wpAny (model prog w) A (pyNext (.ref e)) Q E s:=by
  have hT:s.TypeIs (.ref e) "enumerate":=⟨_,he,rfl⟩
  unfold pyNext
  exact wpAny_bind (wpAny_attempt (wpAny_callSpecial?_slot (name:=Str.ofString "__next__") hT F.slot_enumerate_next (wpAny_call_entry F.slot_enumerate_next hT F.entry_enumerate_next (Zqv he hit ht hx hne fun h' a b c d k=>wpAny_pure (hQ h' a b c d k)) (F.args_enumerate_next_1 _))))
theorem Zsa {e it tp:Addr} {i:Nat} {its:Array Value} {old:Value} {Q:Option Value→Shared→Prop} (hh:A.handled=none) (he:IsEnum s.heap e it i old) (hit:s.heap.IsTupleIter it tp i) (ht:s.heap.IsTuple tp its) (hx:its[i]?=none)
    (hQ:∀h',Heap.ExtBut it s.heap h'→Q none { s with heap:=h' }):wpAny (model prog w) A (pyNext (.ref e)) Q E s:=by
  have hT:s.TypeIs (.ref e) "enumerate":=⟨_,he,rfl⟩
  unfold pyNext
  refine wpAny_bind (wpAny_attempt (wpAny_callSpecial?_slot (name:=Str.ofString "__next__") hT F.slot_enumerate_next (wpAny_call_entry F.slot_enumerate_next hT F.entry_enumerate_next ?_ (F.args_enumerate_next_1 _))))
  show wpAny _ _ (field (.ref e) 2 >>= _) _ _ _
  refine wpAny_bind (wpAny_field he rfl (x:=.ref it) rfl (wpAny_bind (Znq hh hit ht hx fun h' x he' hx'=>?_)))
  obtain ⟨o,ho,hc⟩:=hx'
  exact wpAny_bind (wpAny_isInstance (T:="StopIteration") (b:=true) ⟨o,ho,hc⟩ isSubtype_stop (wpAny_pure (hQ _ he')))
def Ite (K:PySem.W.Frag) (a:Addr):It:=
  ⟨fun i H=>∃xs x,SqT K H a xs∧xs[i]?=some x,fun i H x H'=>∃p v,x=.ref p∧H p=none∧H'=upd H p (.tup [.int i,v])∧∀xs,SqT K H a xs→xs[i]?=some v,fun i H=>∃xs,SqT K H a xs∧xs.length≤i⟩
theorem Zpe {P:Program} {w:World} {K:PySem.W.Frag} {es:List Expr} {x1} {pos:Pos} (a e it:Addr) (hne:e≠it) (ha:a≠e) (hb:a≠it):ZnK P w K (.Tuple es x1 pos) (Ite K a) [e,it] e (fun i h=>(∃old,IsEnum h e it i old)∧h.IsTupleIter it a i) where
  mem:=by simp
  obj:=fun i h st b hb=>by
    obtain ⟨⟨old,st1⟩,o,e1,c,d⟩:=st
    have q:b=e∨b=it:=by simpa using hb
    rcases q with rfl | rfl
    · exact ⟨_,st1,fun v z=>by
        have z':Data.fields _=Data.cell v:=z
        cases z'⟩
    · exact ⟨o,e1,fun v z=>by rw [d] at z; cases z⟩
  keep:=fun i h h' st k=>by
    obtain ⟨⟨old,st1⟩,o,e1,r⟩:=st
    exact ⟨⟨old,k e (by simp) _ st1⟩,o,k it (by simp) o e1,r⟩
  item:=by
    intro X hP hw hK hc i pins s σ H E I hf st hg
    subst hP hw hK
    obtain ⟨⟨old,st1⟩,st2⟩:=st
    obtain ⟨xs,x,hq,hx⟩:=hg
    obtain ⟨its,rv,p,hz⟩:=I.tuple hq
    obtain ⟨u,hu,ru⟩:=rv.get hx
    obtain ⟨f0,f1,f2,f3,f4,f5⟩:=hf e (by simp)
    obtain ⟨g0,g1,g2,g3,g4,g5⟩:=hf it (by simp)
    refine Zqw st1 st2 (show s.heap.IsTuple a its.toArray from p) (x:=u) (by simpa using hu) hne fun h' out it' tp' sz' kk=>?_
    have hes:e<s.heap.objs.size:=Heap.lt_size st1
    have his:it<s.heap.objs.size:=by obtain ⟨o,q,_⟩:=st2; exact Heap.lt_size q
    refine ⟨_,rfl,wpAny_letOwnedTupleGo_enum out fun h2 e2 s2=>?_⟩
    replace s2:Heap.SameBut e h' h2:=s2
    have tp2:h2.get? s.heap.objs.size=some { cls:=.type "tuple",data:=.seq #[.int i s.toks,u] }:=s2.extBut _ _ (Nat.ne_of_gt hes) tp'
    have k2:∀b o,b≠e→b≠it→s.heap.get? b=some o→h2.get? b=some o:=fun b o q1 q2 q3=>s2.extBut b o q1 (kk b o q1 q2 q3)
    have hn:H s.heap.objs.size=none:=I.hok.fresh (Nat.le_refl _)
    have nn:∀{b:Addr} {o:HO},H b=some o→b≠s.heap.objs.size:=fun q=>zi q hn
    have nch:∀{b:Addr},b∉[e,it]→b≠e∧b≠it:=fun hb=>⟨fun z=>hb (by simp [z]),fun z=>hb (by simp [z])⟩
    have new:ObjOk X.prog X.w (upd H s.heap.objs.size (.tup [.int i,x])) h2 s.heap.objs.size (.tup [.int i,x]):=⟨by show 2≤sizeLine; decide,[.int i s.toks,u],.cons ⟨_,rfl⟩ (.cons ru .nil),⟨_,tp2,rfl,_,rfl⟩⟩
    have I1:Inv X pins σ (upd H s.heap.objs.size (.tup [.int i,x])) { s with heap:=h2,toks:=s.toks+1 }:=by
      refine I.step (g':=s.gens) (d':=s.drawn) (ch:=[e,it]) (fun b hb=>?_) (fun b o _ _ hc e' _=>k2 b o (nch hc).1 (nch hc).2 e') (fun b o _ _ hc e' _=>⟨o.slots,k2 b o (nch hc).1 (nch hc).2 e'⟩) (fun b o _ e' n=>by rw [ZS (Nat.ne_of_lt (Heap.lt_size e'))]; exact n)
        (fun b o hc e'=>⟨o,k2 b o (nch hc).1 (nch hc).2 e'⟩) (fun b _ q=>by rw [ZS (nn q)]; exact q) (fun b _ _ q=>by rw [ZS (nn q)]; exact q) (fun b ps q=>⟨#[],by rw [ZS (nn q),q]; simp⟩) (fun m hm=>?_) (fun b v q=>?_) I.bare
      · have z:b=e∨b=it:=by simpa using hb
        rcases z with rfl | rfl
        · exact ⟨f3,f1,f4,f5⟩
        · exact ⟨g3,g1,g4,g5⟩
      · obtain ⟨o,es,ep,ho,r⟩:=hm
        exact ⟨o,es,ep,k2 _ o (Ne.symm f1) (Ne.symm g1) ho,r⟩
      · by_cases hb:b=s.heap.objs.size
        · subst hb; rw [zy] at q; cases q; exact new
        · rw [ZS hb] at q
          refine (I.hok b v q).stay (fun c o hc z=>k2 c o ?_ ?_ z) (fun c z=>by rw [ZS (nn z)]; exact z) fun c _ z=>by rw [ZS (nn z)]; exact z
          · rcases hc with z | z
            · rw [z]; exact fun y=>by rw [y,f0] at q; cases q
            · exact fun y=>by rw [y,f0] at z; cases z
          · rcases hc with z | z
            · rw [z]; exact fun y=>by rw [y,g0] at q; cases q
            · exact fun y=>by rw [y,g0] at z; cases z
    refine ⟨.ref s.heap.objs.size,_,I1,rfl,⟨_,x,rfl,hn,rfl,fun ys hy=>by rw [I.tuple_inj hy hq]; exact hx⟩,⟨⟨_,by simpa using e2⟩,?_⟩,fun b hb=>?_⟩
    · obtain ⟨o,q,r⟩:=it'
      exact ⟨o,s2.extBut _ _ (Ne.symm hne) q,r⟩
    · have z:b=e∨b=it:=by simpa using hb
      rcases z with rfl | rfl
      · rw [ZS (Nat.ne_of_lt hes)]; exact f0
      · rw [ZS (Nat.ne_of_lt his)]; exact g0
  done:=by
    intro X hP hw hK hc i pins s σ H E I hf st hg
    subst hP hw hK
    obtain ⟨⟨old,st1⟩,st2⟩:=st
    obtain ⟨xs,hq,hx⟩:=hg
    obtain ⟨its,rv,p,hz⟩:=I.tuple hq
    obtain ⟨f0,f1,f2,f3,f4,f5⟩:=hf it (by simp)
    have hl:=rv.length
    exact Zsa (I.ok.hd hc) st1 st2 (show s.heap.IsTuple a its.toArray from p) (by simp; omega) fun h' eb=>⟨rfl,I.turned (t':=s.toks) (fun b o hb e=>eb b o hb e) f0 f1 f3 f4 f5⟩
  self:=fun _ _ _ _ _ st h=>by
    obtain ⟨⟨old,st1⟩,_⟩:=st
    exact wpAny_pyIter_enum st1 h
end
end L2
namespace L2
open PySem PySem.Spec PyProof.Rows
section
variable {X:Cx}
def Zzk (K:PySem.W.Frag) (ta:TA):TI:=fun σ H R=>ta σ H fun vs H1=>∃a,vs=[.ref a]∧(∃xs,SqT K H1 a xs)∧R (Ite K a) H1
theorem ZtJ {l:Expr} {ta:TA} {es:List Expr} {x1} {p pos tp:Pos} (hg:Gl X "enumerate") (hm:X.mg "enumerate"=none) (ha:PA X [l] ta) (hs:starEach [l] X.env=[(false,eval l X.env)]:=by rfl):PI X (.Tuple es x1 tp) (.Call (.Name "enumerate" p) [l] [] pos) (Zzk X.K ta):=by
  intro pins s σ H R I h
  refine Call_ (Zhl I hg hm boot_enumerate (PyProof.Rows.callWith_type1 (thn (ha pos pins s σ H _ I h) fun us s1 ⟨vs,H1,I1,r1,q1⟩=>?_) hs rfl))
  obtain ⟨a,e,⟨xs,hq⟩,q⟩:=q1
  subst e
  obtain ⟨u,rfl,ru⟩:=Zfw r1
  cases ru
  obtain ⟨its,rv,t1,hz⟩:=I1.tuple hq
  have T1:s1.heap.IsTuple a its.toArray:=t1
  have al:a<s1.heap.objs.size:=by obtain ⟨o,z,_⟩:=T1; exact Heap.lt_size z
  refine ZqL T1 fun h' e' i' z' k'=>wpAny_pyIter_enum (s:={ s1 with heap:=h' }) e' ?_
  have I2:Inv X pins σ H1 { s1 with heap:=h' }:=I1.kept (t':=s1.toks) k'
  refine ⟨s1.heap.objs.size+1,[s1.heap.objs.size+1,s1.heap.objs.size],_,_,H1,rfl,I2,Zpe a _ _ (Nat.succ_ne_self _) (Nat.ne_of_lt (Nat.lt_succ_of_lt al)) (Nat.ne_of_lt al),⟨⟨_,e'⟩,i'⟩,fun b hb=>?_,q⟩
  have z:b=s1.heap.objs.size+1∨b=s1.heap.objs.size:=by simpa using hb
  have hb':s1.heap.objs.size≤b:=z.elim (fun y=>by rw [y]; exact Nat.le_succ _) fun y=>by rw [y]; exact Nat.le_refl _
  exact I1.fpOk hb' (I1.hok.fresh hb')
end
end L2
namespace L2.MM
open PySem PySem.Spec PyProof.Rows
section
variable {X:Cx}
def forE (i j:Nat) (body:SM):Nat→List D→SM
  | _,[]=>fun ρ θ=>.ok (.nx,ρ) θ
  | k,x::r=>fun ρ θ=>(body ((ρ.set i (.val (.int (k:Nat)))).set j (.val x)) θ).bind (Zef (forE i j body (k+1) r))
def Zqc (fa:AM) (i j:Nat) (body:SM):SM:=fun ρ θ=>(fa ρ θ).bind fun ds θ=>match ds with
  | [.tup xs]=>forE i j body 0 xs ρ θ
  | _=>.bad
theorem ZrU {l:Expr} {body:List Stmt} {fa:AM} {fb:SM} {x y:Str} {x1} {p p1 p2 tp cp pos:Pos} (i j:Nat) (hN:X.N.Nodup) (hp:PassesOwn (model X.prog X.w) X.A X.env X.xe) (hm:X.mg "enumerate"=none) (ha:MA X [l] fa) (hb:MSs X body fb) (hc:X.calm=true:=by rfl)
    (hg:Gl X "enumerate":=by rfl) (hs:starEach [l] X.env=[(false,eval l X.env)]:=by rfl)
    (hi:X.N[i]?=some x:=by rfl) (hx:Loc X.env.scope x:=by first | exact Or.inl rfl | exact Or.inr rfl) (hf:X.fn x=true∨X.env.scope.names.lookup x=some .local:=by first | exact .inl rfl | exact .inr rfl)
    (hj:X.N[j]?=some y:=by rfl) (hy:Loc X.env.scope y:=by first | exact Or.inl rfl | exact Or.inr rfl) (hf':X.fn y=true∨X.env.scope.names.lookup y=some .local:=by first | exact .inl rfl | exact .inr rfl)
    (hse:∀z,foldedSetIterable (.Call (.Name "enumerate" p) [l] [] cp) X.env z=pure z:=by intro _; rfl)
    (ha1:(assignEach [.Name x p1,.Name y p2] X.env).map (·.2)=assign (.Name x p1) X.env::(assignEach [.Name y p2] X.env).map (·.2):=by rfl) (ha2:(assignEach [.Name y p2] X.env).map (·.2)=assign (.Name y p2) X.env::(assignEach [] X.env).map (·.2):=by rfl)
    (hn:(assignEach [.Name x p1,.Name y p2] X.env).length=2:=by rfl) (hst:(assignEach [.Name x p1,.Name y p2] X.env).findIdx? (·.1)=none:=by rfl) :
    MS X (.For (.Tuple [.Name x p1,.Name y p2] x1 tp) (.Call (.Name "enumerate" p) [l] [] cp) body [] pos) (Zqc fa i j fb):=
  PS.imp (ZpB hp hc (ZtJ hg hm ha hs) (ZtK hc (ZkR (ZfG hN hi hx hf) (ZkR (ZfG hN hj hy hf') ZrH ha2) ha1) hn hst) hb hse) fun Dn σ H h=>by
  obtain ⟨B,θ,ρ,F,w⟩:=h
  refine ZbX (Zpp F w) ?_
  rintro vs H1 ⟨B1,θ1,ds,E1,F1,rd,w1⟩
  split at w1
  · rename_i xs
    obtain ⟨v,rfl,rv⟩:=rd.one
    obtain ⟨a,us,rfl,g1,okA,ru⟩:=rv
    refine ⟨a,rfl,⟨us,SqT.of g1⟩,fun k m σ H=>∃B θ ρ,Frm X.cl B θ ρ σ H∧RepV B H (.tup xs) (.ref a)∧m=xs.length-k∧k≤xs.length∧wpS X σ B H (forE i j fb k (xs.drop k) ρ θ) Dn,⟨xs.length,B1,θ1,ρ,F1,⟨a,us,rfl,g1,okA,ru⟩,rfl,Nat.zero_le _,w1⟩,?_⟩
    rintro k m σ2 H2 ⟨B2,θ2,ρ2,F2,rv2,rfl,hk,w2⟩
    obtain ⟨a',us2,e2,g2,ok2,ru2⟩:=id rv2
    cases e2
    by_cases hlt:k<xs.length
    · rw [List.drop_eq_getElem_cons hlt] at w2
      unfold forE at w2
      obtain ⟨v,q1,q2⟩:=ru2.get (List.getElem?_eq_getElem hlt)
      refine .inr ⟨⟨us2,v,SqT.of g2,q1⟩,fun σ' H'=>∃B' θ' ρ',ExtS B2 B' H2 H'∧Frm X.cl B' θ' ρ' σ' H'∧wpS X σ' B' H' (forE i j fb (k+1) (xs.drop (k+1)) ρ' θ') Dn,?_,fun z H' hz=>?_⟩
      · rintro σ' H' ⟨B',θ',ρ',E',F',w'⟩
        exact ⟨xs.length-(k+1),by omega,B',θ',ρ',F',rv2.ext E',rfl,hlt,w'⟩
      · obtain ⟨t,v',rfl,ht,rfl,hv⟩:=hz
        have:=hv us2 (SqT.of g2)
        rw [q1] at this
        cases this
        have E3:=ZcS F2.good ht (.tup [.int k,v])
        have F3:=F2.ext E3 (ZeH F2.good ht (.tup [.int k,v]))
        refine ⟨t,[.int k,v],rfl,SqT.of zy,rfl,.int k,[v],rfl,v,[],rfl,rfl,?_⟩
        have F4:=(F3.set i (d:=.int (k:Nat)) (v:=.int k) rfl).set j (q2.ext E3.toExtS)
        refine ⟨B2,θ2,_,F4,?_⟩
        exact wpS.trans (wpS.loop w2) E3.toExtS
    · have e:k=xs.length:=by omega
      subst e
      rw [List.drop_length] at w2
      unfold forE at w2
      exact .inl ⟨⟨us2,SqT.of g2,by rw [ru2.len]; exact Nat.le_refl _⟩,ZdQ F2 w2⟩
  · exact w1.elim
end
end L2.MM
namespace L2
open PySem PySem.Spec PyProof.Rows
section
variable {X:Cx} {pins:List (Addr×Obj)} {σ:St} {H:Hp} {s:Shared} {a:Addr} {kvs:List (Key×V)} {k:Key} {z:V} {u r:Value} {A:Around} {E:Value→Shared→Prop}
theorem Zui {Q:Value→Shared→Prop} (I:Inv X pins σ H s) (e:H a=some (.dK kvs)) (ry:RelV (kV k) u) (rz:RelV z r) (hl:kvs.length<sizeLine)
    (h1:∀v w' s',valV kvs k=some v→Inv X pins σ H s'→RelV v w'→Q w' s') (h2:valV kvs k=none→∀s',Inv X pins σ (upd H a (.dK (Zdu kvs k z))) s'→Q r s'):wpAny (model X.prog X.w) A (call (.builtin "dict.setdefault") [.ref a,u,r]) Q E s:=by
  obtain ⟨z1,hd,vs,rel,dd⟩:=ZmT I.hok e
  have hv:vs.length≤sizeLine:=by rw [←rel.length]; exact z1
  refine call_meetsIn PySem.F.slot_dict_setdefault dd.typeIs PySem.F.entry_dict_setdefault (PySem.F.args_dict_setdefault_3 _ _ _) (kt_meets_setdefault (Zas X.prog X.w) a (Ziq ry) hd r) ⟨vs,dd,hv,fun v q=>?_,fun q h' dd' hs=>?_⟩
  · cases l:valV kvs k with
    | none=>
      have:valueAt vs k=none:=RelO.none_of (by rw [←l]; exact rel.val k)
      rw [this] at q
      cases q
    | some v0=>
      obtain ⟨w1,hw,r1⟩:=RelO.some_of (v:=v0) (o:=valueAt vs k) (by rw [←l]; exact rel.val k)
      have z2:w1=v:=by rw [hw] at q; injection q
      subst z2
      exact h1 v0 w1 _ l (I.tok _) r1
  · have l:valV kvs k=none:=by
      cases l:valV kvs k with
      | none=>rfl
      | some v0=>
        obtain ⟨w',hw,rw'⟩:=RelO.some_of (v:=v0) (o:=valueAt vs k) (by rw [←l]; exact rel.val k)
        rw [hw] at q
        cases q
    have hl2:(Zdu kvs k z).length≤sizeLine:=by have:=ZeB kvs k z; omega
    have he:∃q,h'.get? a=some q:=let ⟨q,_,_,hq,_⟩:=dd'; ⟨q,hq⟩
    exact h2 l _ (ZfV I (by rw [e]; exact True.intro) hs he (Zi8 hl2 hd (rel.put k rz) dd'))
end
def Zto (td ty tx:TE):TE:=fun σ H Q=>td σ H fun x H1=>∃a,x=.ref a∧IsD H1 a∧ty σ H1 fun y H2=>tx σ H2 fun z H3=>∃kvs k,H3 a=some (.dK kvs)∧y=kV k∧kvs.length<sizeLine∧
  (∀v,valV kvs k=some v→Q v H3)∧(valV kvs k=none→Q z (upd H3 a (.dK (Zdu kvs k z))))
theorem ZpJ {X:Cx} {o e f:Expr} {apos cpos:Pos} {td ty tx:TE} (ho:PE X o td) (he:PE X e ty) (hf:PE X f tx) (m:M2 X o "setdefault" apos e f cpos):PE X (.Call (.Attribute o "setdefault" apos) [e,f] [] cpos) (Zto td ty tx):=by
  intro pins s σ H Q I h
  refine wpAny_Call_method m.base m.few m.line PySem.F.plainAttrs_dict PySem.F.slot_dict_setdefault PySem.F.type_dict_setdefault (thn (ho pins s σ H _ I h) fun u s1 ⟨x,H1,I1,rx,a,ex,d,q1⟩=>?_)
  subst ex
  cases (show u=Value.ref a from rx)
  obtain ⟨t1,t2,_⟩:=Zql I1 d
  refine ⟨t1,t2,?_⟩
  rw [m.trees]
  refine Calls.callWith_builtin rfl (Calls.evalArgs_plain (Calls.spliced_cons (thn (he pins s1 σ H1 _ I1 q1) fun iv s2 ⟨y,H2,I2,ry,q2⟩=>Calls.spliced_cons (thn (hf pins s2 σ H2 _ I2 q2) fun fv s3 ⟨z,H3,I3,rz,kvs,k,ea,ey,hl,q3,q4⟩=>Calls.spliced_nil ?_))))
  subst ey
  exact Zui I3 ea ry rz hl (fun v w' s4 l I4 rw'=>⟨v,H3,I4,rw',q3 v l⟩) fun l s4 I4=>⟨z,_,I4,rz,q4 l⟩
end L2
namespace L2.MM
open PySem PySem.Spec PyProof.Rows
def valD (kvs:List (Key×D)) (k:Key):Option D:=(kvs.find? fun kv=>decide (kv.1=k)).map (·.2)
def putD (kvs:List (Key×D)) (k:Key) (v:D):List (Key×D):=
  if (kvs.any fun kv=>decide (kv.1=k))=true then kvs.map (fun kv=>if kv.1=k then (kv.1,v) else kv) else kvs++[(k,v)]
def dropD (kvs:List (Key×D)) (k:Key):List (Key×D):=kvs.filter fun kv=>decide (kv.1≠k)
def Zhm:D→Option Key
  | .int n=>some (.inl n)
  | .str x=>some (.inr x)
  | _=>none
def dkOf (θ:Sto):D→Option (Nat×List (Key×D))
  | .ref l=>match θ[l]? with
    | some (.dK kvs)=>some (l,kvs)
    | _=>none
  | _=>none
section
variable {B:Bx} {H:Hp}
theorem RepKV.valD (k:Key):∀{ks:List (Key×D)} {vs:List (Key×V)},RepKV B H ks vs→(L2.MM.valD ks k=Option.none∧valV vs k=Option.none)∨∃d v,L2.MM.valD ks k=some d∧valV vs k=some v∧RepV B H d v
  | _,_,.nil=>.inl ⟨rfl,rfl⟩
  | (k1,d1)::ks,(k2,v2)::vs,.cons ⟨h1,h2⟩ t=>by
    cases (show k1=k2 from h1)
    by_cases e:k1=k
    · refine .inr ⟨d1,v2,?_,?_,h2⟩<;>simp [L2.MM.valD,valV,List.find?_cons,e]
    · have:=RepKV.valD k t
      simpa [L2.MM.valD,valV,List.find?_cons,e] using this
theorem RepKV.any (k:Key):∀{ks:List (Key×D)} {vs:List (Key×V)},RepKV B H ks vs→(ks.any fun kv=>decide (kv.1=k))=(vs.any fun kv=>decide (kv.1=k))
  | _,_,.nil=>rfl
  | (k1,d1)::ks,(k2,v2)::vs,.cons ⟨h1,h2⟩ t=>by
    cases (show k1=k2 from h1)
    rw [List.any_cons,List.any_cons,RepKV.any k t]
theorem RepKV.snoc {k:Key} {d:D} {v:V} (r:RepV B H d v):∀{ks:List (Key×D)} {vs:List (Key×V)},RepKV B H ks vs→RepKV B H (ks++[(k,d)]) (vs++[(k,v)])
  | _,_,.nil=>.cons ⟨rfl,r⟩ .nil
  | _,_,.cons h t=>.cons h (RepKV.snoc r t)
theorem RepKV.over {k:Key} {d:D} {v:V} (r:RepV B H d v):∀{ks:List (Key×D)} {vs:List (Key×V)},RepKV B H ks vs→RepKV B H (ks.map fun kv=>if kv.1=k then (kv.1,d) else kv) (vs.map fun kv=>if kv.1=k then (kv.1,v) else kv)
  | _,_,.nil=>.nil
  | (k1,d1)::ks,(k2,v2)::vs,.cons ⟨h1,h2⟩ t=>by
    cases (show k1=k2 from h1)
    rw [List.map_cons,List.map_cons]
    refine .cons ?_ (RepKV.over r t)
    by_cases e:k1=k
    · rw [if_pos (show (k1,d1).1=k from e),if_pos (show (k1,v2).1=k from e)]; exact ⟨rfl,r⟩
    · rw [if_neg (show ¬(k1,d1).1=k from e),if_neg (show ¬(k1,v2).1=k from e)]; exact ⟨rfl,h2⟩
theorem RepKV.putD {k:Key} {d:D} {v:V} (r:RepV B H d v) {ks:List (Key×D)} {vs:List (Key×V)} (h:RepKV B H ks vs):RepKV B H (L2.MM.putD ks k d) (Zdu vs k v):=by
  unfold L2.MM.putD Zdu
  rw [h.any k]
  split
  · exact h.over r
  · exact h.snoc r
theorem RepKV.dropD (k:Key):∀{ks:List (Key×D)} {vs:List (Key×V)},RepKV B H ks vs→RepKV B H (L2.MM.dropD ks k) (Zfi vs k)
  | _,_,.nil=>.nil
  | (k1,d1)::ks,(k2,v2)::vs,.cons ⟨h1,h2⟩ t=>by
    cases (show k1=k2 from h1)
    have ih:=RepKV.dropD k t
    unfold L2.MM.dropD Zfi at ih ⊢
    by_cases e:k1=k
    · rw [List.filter_cons_of_neg (by simpa using e),List.filter_cons_of_neg (by simpa using e)]; exact ih
    · rw [List.filter_cons_of_pos (by simpa using e),List.filter_cons_of_pos (by simpa using e)]; exact .cons ⟨rfl,h2⟩ ih
theorem keyD_rep {d:D} {v:V} {k:Key} (r:RepV B H d v) (h:Zhm d=some k):v=kV k:=by
  cases d with
  | int n=>cases h; exact r
  | str x=>cases h; exact r
  | _=>cases h
theorem Ze5 {cl:Mo} {θ:Sto} (G:Good cl B θ H) {d:D} {v:V} {l:Nat} {kvs:List (Key×D)} (r:RepV B H d v) (h:dkOf θ d=some (l,kvs)):l<B.n∧v=.ref (B.m l)∧∃vs,H (B.m l)=some (.dK vs)∧RepKV B H kvs vs:=by
  cases d with
  | ref k=>
    simp only [dkOf] at h
    split at h
    · rename_i kvs' e
      cases h
      obtain ⟨hl,rfl⟩:=r
      obtain ⟨vs,h1,h2⟩:=G.cel _ _ e
      exact ⟨hl,rfl,vs,h1,h2⟩
    · cases h
  | _=>cases h
end
section
variable {X:Cx}
theorem Zpd {k:Nat} {A:Around} (hr:Room k A):A.units+1<cLine:=by have:=hr.un; omega
def ZlS (fi fo:EM):EM:=fun ρ θ=>(fi ρ θ).bind fun y θ=>(fo ρ θ).bind fun d θ=>match Zhm y,dkOf θ d with
  | some k,some (_,kvs)=>.ok (.bl (valD kvs k).isSome) θ
  | _,_=>.bad
theorem Zsc {fi fo:EM} (σ:St) (H:Hp) (Q:VK) (h:tM X (ZlS fi fo) σ H Q):Zvd (tM X fi) (tM X fo) σ H Q:=by
  obtain ⟨B,θ,ρ,F,w⟩:=h
  refine ZZ (step F w) ?_
  rintro y H1 ⟨B1,θ1,dy,E1,F1,ry,w1⟩
  refine ZZ (step F1 w1) ?_
  rintro v H2 ⟨B2,θ2,d,E2,F2,rd,w2⟩
  split at w2
  · rename_i k l kvs ek ed
    obtain ⟨hl,rfl,vs,h1,h2⟩:=Ze5 F2.good rd ed
    cases keyD_rep ry ek
    refine ⟨_,valV vs k,rfl,DGet.k h1,?_⟩
    have e:(valD kvs k).isSome=(valV vs k).isSome:=by
      rcases h2.valD k with ⟨q1,q2⟩ | ⟨d,v,q1,q2,_⟩<;>(rw [q1,q2]; rfl)
    rw [←e]
    exact ZR (Rel:=RepV) F2.good (show RepV B2 H2 (.bl (valD kvs k).isSome) (.bl (valD kvs k).isSome) from rfl) w2
  · exact w2.elim
theorem Zp2 {i o:Expr} {fi fo:EM} {pos:Pos} {k:Nat} (hr:Room k X.A) (hi:ME X i fi) (ho:ME X o fo) (hm:behindInMarks .In o=false:=by rfl):MT X (.Compare i [.In] [o] pos) (ZH (ZlS fi fo)):=by
  refine PT.imp (ZtC (ZtS (Zpd hr) hi ho) hm) fun σ H Q h=>?_
  exact Zsc σ H _ (Zhb σ H Q h)
def ZmJ (fo fe:EM):EM:=fun ρ θ=>(fo ρ θ).bind fun d θ=>match dkOf θ d with
  | none=>.bad
  | some _=>(fe ρ θ).bind fun y θ=>match Zhm y,dkOf θ d with
    | some k,some (l,kvs)=>match valD kvs k with
      | some v=>.ok v (θ.set l (.dK (dropD kvs k)))
      | none=>.bad
    | _,_=>.bad
theorem ZmG {o e:Expr} {fo fe:EM} {apos cpos:Pos} (ho:ME X o fo) (he:ME X e fe) (m:M1 X o "pop" apos e cpos):ME X (.Call (.Attribute o "pop" apos) [e] [] cpos) (ZmJ fo fe):=by
  refine PE.imp (ZpK ho he m) fun σ H Q h=>?_
  obtain ⟨B,θ,ρ,F,w⟩:=h
  refine ZZ (step F w) ?_
  rintro v H1 ⟨B1,θ1,d,E1,F1,rd,w1⟩
  split at w1
  · exact w1.elim
  · rename_i q ed
    obtain ⟨l,kvs⟩:=q
    obtain ⟨hl,rfl,vs,h1,h2⟩:=Ze5 F1.good rd ed
    refine ⟨_,rfl,.inl ⟨vs,.inl h1⟩,?_⟩
    refine ZZ (step F1 w1) ?_
    rintro y H2 ⟨B2,θ2,dy,E2,F2,ry,w2⟩
    split at w2
    · rename_i k l2 kvs2 ek ed2
      obtain ⟨hl2,e2,vs2,h3,h4⟩:=Ze5 F2.good (rd.ext E2.toExtS) ed2
      cases keyD_rep ry ek
      have e3:B1.m l=B2.m l2:=by injection e2
      rw [e3]
      rcases h4.valD k with ⟨q1,q2⟩ | ⟨dv,v,q1,q2,rv⟩
      · rw [q1] at w2; exact w2.elim
      · rw [q1] at w2
        refine ⟨vs2,k,v,h3,rfl,q2,?_⟩
        have E3:=ZfU F2.good hl2 (.dK (Zfi vs2 k))
        have G3:=ZfT F2.good hl2 (o:=.dK (Zfi vs2 k)) (c:=.dK (dropD kvs2 k)) ⟨_,zy,(h4.dropD k).ext E3.toExtS⟩
        exact w2 _ _ _ E3 G3 (rv.ext E3.toExtS)
    · exact w2.elim
def ZlR (fo fe ff:EM):EM:=fun ρ θ=>(fo ρ θ).bind fun d θ=>match dkOf θ d with
  | none=>.bad
  | some _=>(fe ρ θ).bind fun y θ=>(ff ρ θ).bind fun z θ=>match Zhm y,dkOf θ d with
    | some k,some (l,kvs)=>if kvs.length<BIG then (match valD kvs k with
      | some v=>.ok v θ
      | none=>.ok z (θ.set l (.dK (putD kvs k z)))) else .bad
    | _,_=>.bad
theorem Zqa {o e f:Expr} {fo fe ff:EM} {apos cpos:Pos} (ho:ME X o fo) (he:ME X e fe) (hf:ME X f ff) (m:M2 X o "setdefault" apos e f cpos):ME X (.Call (.Attribute o "setdefault" apos) [e,f] [] cpos) (ZlR fo fe ff):=by
  refine PE.imp (ZpJ ho he hf m) fun σ H Q h=>?_
  obtain ⟨B,θ,ρ,F,w⟩:=h
  refine ZZ (step F w) ?_
  rintro v H1 ⟨B1,θ1,d,E1,F1,rd,w1⟩
  split at w1
  · exact w1.elim
  · rename_i q ed
    obtain ⟨l,kvs⟩:=q
    obtain ⟨hl,rfl,vs,h1,h2⟩:=Ze5 F1.good rd ed
    refine ⟨_,rfl,.inl ⟨vs,.inl h1⟩,?_⟩
    refine ZZ (step F1 w1) ?_
    rintro y H2 ⟨B2,θ2,dy,E2,F2,ry,w2⟩
    refine ZZ (step F2 w2) ?_
    rintro z H3 ⟨B3,θ3,dz,E3,F3,rz,w3⟩
    split at w3
    · rename_i k l2 kvs2 ek ed2
      obtain ⟨hl2,e2,vs2,h3,h4⟩:=Ze5 F3.good ((rd.ext E2.toExtS).ext E3.toExtS) ed2
      cases keyD_rep ry ek
      have e3:B1.m l=B3.m l2:=by injection e2
      rw [e3]
      split at w3
      · rename_i hb
        refine ⟨vs2,k,h3,rfl,?_,fun v hv=>?_,fun hn=>?_⟩
        · have:=Zak (n:=kvs2.length+1) hb
          rw [RepKV.len h4]; omega
        · rcases h4.valD k with ⟨q1,q2⟩ | ⟨dv,v',q1,q2,rv⟩
          · rw [q2] at hv; cases hv
          · rw [q2] at hv; cases hv
            rw [q1] at w3
            exact ZR (Rel:=RepV) F3.good rv w3
        · rcases h4.valD k with ⟨q1,q2⟩ | ⟨dv,v',q1,q2,rv⟩
          · rw [q1] at w3
            have E4:=ZfU F3.good hl2 (.dK (Zdu vs2 k z))
            have G4:=ZfT F3.good hl2 (o:=.dK (Zdu vs2 k z)) (c:=.dK (putD kvs2 k dz)) ⟨_,zy,(h4.putD rz).ext E4.toExtS⟩
            exact w3 _ _ _ E4 G4 (rz.ext E4.toExtS)
          · rw [q2] at hn; cases hn
      · exact w3.elim
    · exact w3.elim
end
end L2.MM
namespace My
open PySem L2 L2.MM
noncomputable section
def Zm1:SM:=(Zn (ZL 2 (mSl (Zd 1) Zat (ZaO (mCB Zfo (Zc (Zd 0) Zk)))))
  (Zn (ZI ["Pile"] "row" (Zd 0) (mOp ZN (ZJ ["Pile"] "row" (Zd 0)) (Zd 2)))
  (ZP (mCB Zd0 (Zc (Zd 2) Zk)))))
def ZkT:GM:=ZQ 2 3 Zm1
def Zda:SM:=(Zn (ZL 2 (mCB ZrX (Zc (Zd 1) (Zc (mC (.int 0)) Zk))))
  (Zn (ZL 3 (mSl (ZJ ["Pile"] "row" (Zd 0)) Zat (ZaO (Zd 2))))
  (Zn (ZI ["Pile"] "row" (Zd 0) (mSl (ZJ ["Pile"] "row" (Zd 0)) (ZaO (Zd 2)) Zat))
  (ZP (Zd 3)))))
def Zcc:GM:=ZQ 2 4 Zda
def Zlv:SM:=(ZP (mOp gtM (mCB zB (Zc (Zd 0) (Zc (Zd 1) Zk))) (mC (.int 0))))
def Zcd:GM:=ZQ 2 2 Zlv
def ZdM:SM:=(ZP (mCB Zcd (Zc (ZJ ["End"] "nxt" (Zd 0)) (Zc (ZJ ["End"] "behind" (Zd 0)) Zk))))
def Zbf:GM:=ZQ 1 1 ZdM
def ZiG:SM:=(ZP (mOp eqM (mCB Zff (Zc (mOp ixM (Zd 0) (mC (.int 4))) (Zc (Zd 1) Zk))) (mC (.int 1))))
def Z4:GM:=ZQ 2 2 ZiG
def ZcJ:SM:=(mIf (zR (mCB Z4 (Zc (Zd 0) (Zc (mC (.int 16)) Zk)))) (ZP (mOp ZN (Zd 1) (Za7 (Zc (mOp ixM (Zd 0) (mC (.int 3))) (Zc (mC (.int 0)) (Zc (mC (.int 4)) (Zc (mC (.int 0)) (Zc (mC (.int 0)) (Zc (Za7 Zk) Zk))))))))) ZO)
def Zdx:SM:=(Zn (ZL 1 (Za7 (Zc (mOp ixM (Zd 0) (mC (.int 1))) (Zc (mOp ixM (Zd 0) (mC (.int 0))) Zk))))
  (Zn ZcJ
  (ZP (mOp ZN (Zd 1) (Za7 (Zc (mC (.int 0)) (Zc (mCB zA (Zc (mOp ixM (Zd 0) (mC (.int 2))) (Zc (mCB Zcv (Zc (Zd 0) Zk)) Zk))) (Zc (mOp ZN (mC (.int 4)) (mC (.int 16))) (Zc (mC (.int 0)) (Zc (mC (.int 0)) (Zc (Za7 Zk) Zk)))))))))))
def ZbR:GM:=ZQ 1 2 Zdx
def Zbz:SM:=(mIf (ZdI (zR (mCB Z4 (Zc (Zd 1) (Zc (mC (.int 4)) Zk))))) (ZI ["End"] "owed_reset" (Zd 0) (mCB ZbR (Zc (Zd 1) Zk))) ZO)
def Zb2:SM:=Zbz
def Z0:GM:=ZQ 2 2 Zb2
def Zdf:SM:=(zu (mCB Z0 (Zc (Zd 0) (Zc (Zd 1) Zk))))
def ZaM:GM:=ZQ 2 2 Zdf
def ZeR:SM:=(mIf (ZH (mOp neM (mOp ixM (Zd 1) (mC (.int 6))) (mC (.int 0)))) (ZI ["End"] "most" (Zd 0) (mOp ixM (Zd 1) (mC (.int 6)))) ZO)
def ZfZ:SM:=(Zn (ZI ["End"] "rcv" (Zd 0) (mCB zA (Zc (mOp ixM (Zd 1) (mC (.int 2))) (Zc (mC (.int 1)) Zk))))
  (Zn (ZI ["End"] "wnd" (Zd 0) (mOp ixM (Zd 1) (mC (.int 5))))
  (Zn (ZI ["End"] "told" (Zd 0) (mOp ixM (Zd 1) (mC (.int 2))))
  (Zn (ZI ["End"] "told_by" (Zd 0) (Zep (zR (mCB Z4 (Zc (Zd 1) (Zc (mC (.int 16)) Zk)))) (mOp ixM (Zd 1) (mC (.int 3))) (mC (.int 0))))
  ZeR))))
def ZbL:GM:=ZQ 2 2 ZfZ
def zT:SM:=(mIf (zR (mCB Z4 (Zc (Zd 1) (Zc (mC (.int 4)) Zk)))) ZfN ZO)
def ZaD:SM:=(mIf (zR (mCB Z4 (Zc (Zd 1) (Zc (mC (.int 2)) Zk)))) (Zn (ZI ["End"] "theirs" (Zd 0) (mOp ixM (Zd 1) (mC (.int 0))))
      (Zn (zu (mCB ZbL (Zc (Zd 0) (Zc (Zd 1) Zk))))
      (ZI ["End"] "state" (Zd 0) (mC (.str "syn come"))))) ZO)
def ZaC:SM:=(mIf (zR (mCB Z4 (Zc (Zd 1) (Zc (mC (.int 16)) Zk)))) (zu (mCB Z0 (Zc (Zd 0) (Zc (Zd 1) Zk)))) ZaD)
def Zam:SM:=(Zn zT
  ZaC)
def zt:GM:=ZQ 2 2 Zam
def Zem:SM:=(ZP (Zca (mOp neM (ZJ ["End"] "nxt" (Zd 0)) (ZJ ["End"] "first" (Zd 0))) (mOp eqM (mOp ixM (Zd 1) (mC (.int 3))) (mCB zA (Zc (ZJ ["End"] "first" (Zd 0)) (Zc (mC (.int 1)) Zk))))))
def ZbE:GM:=ZQ 2 2 Zem
def Zar:SM:=(mIf (zR (mCB Z4 (Zc (Zd 1) (Zc (mC (.int 16)) Zk)))) (Zn (ZI ["End"] "una" (Zd 0) (mOp ixM (Zd 1) (mC (.int 3))))
    (Zn (ZI ["End"] "state" (Zd 0) (mC (.str "open")))
    (ZI ["End"] "owes_answer" (Zd 0) (mC (.bl true))))) (Zn (ZI ["End"] "state" (Zd 0) (mC (.str "syn come")))
    (Zn (zu (mCB Z7 (Zc (Zd 0) (Zc (Zd 2) Zk))))
    (ZI ["End"] "owes_syn" (Zd 0) (mC (.bl true))))))
def ZaR:SM:=Zar
def zF:GM:=ZQ 3 3 ZaR
def Zd6:SM:=(mIf (zR (mCB Z4 (Zc (Zd 1) (Zc (mC (.int 16)) Zk)))) (Zn (ZI ["End"] "state" (Zd 0) (mC (.str "closed")))
    (ZI ["End"] "error" (Zd 0) (mC (.str "refused")))) ZO)
def Zfs:SM:=Zd6
def Zeu:GM:=ZQ 2 2 Zfs
def zD:SM:=(mIf (zR (mCB Z4 (Zc (Zd 1) (Zc (mC (.int 2)) Zk)))) (Zn (zu (mCB ZbL (Zc (Zd 0) (Zc (Zd 1) Zk))))
        (zu (mCB zF (Zc (Zd 0) (Zc (Zd 1) (Zc (Zd 2) Zk)))))) ZO)
def Z5:SM:=(mIf (zR (mCB Z4 (Zc (Zd 1) (Zc (mC (.int 4)) Zk)))) (zu (mCB Zeu (Zc (Zd 0) (Zc (Zd 1) Zk)))) zD)
def ZY:SM:=(mIf (Zfc (zR (mCB Z4 (Zc (Zd 1) (Zc (mC (.int 16)) Zk)))) (ZdI (zR (mCB ZbE (Zc (Zd 0) (Zc (Zd 1) Zk)))))) (zu (mCB Z0 (Zc (Zd 0) (Zc (Zd 1) Zk)))) Z5)
def Z3:SM:=ZY
def ZU:GM:=ZQ 3 3 Z3
def ZdL:SM:=(ZP (ZbZ leM ltM (mC (.int 0)) (mCB zB (Zc (Zd 1) (Zc (ZJ ["End"] "rcv" (Zd 0)) Zk))) (mCB zM (Zc (Zd 0) Zk))))
def zk:GM:=ZQ 2 2 ZdL
def Zft:SM:=(mIf (ZH (mOp eqM (Zd 2) (mC (.int 0)))) (ZP (ZbZ leM leM (mC (.int 0)) (mCB zB (Zc (mOp ixM (Zd 1) (mC (.int 2))) (Zc (ZJ ["End"] "rcv" (Zd 0)) Zk))) (mC (.int 64)))) ZO)
def ZhG:SM:=(Zn (ZL 2 (mCB Zcv (Zc (Zd 1) Zk)))
  (Zn Zft
  (Zn (ZL 3 (mCB zA (Zc (mOp ixM (Zd 1) (mC (.int 2))) (Zc (mOp Zdj (Zd 2) (mC (.int 1))) Zk))))
  (ZP (ZlQ (mCB zk (Zc (Zd 0) (Zc (mOp ixM (Zd 1) (mC (.int 2))) Zk))) (mCB zk (Zc (Zd 0) (Zc (Zd 3) Zk))))))))
def Zgf:GM:=ZQ 2 4 ZhG
def zh:SM:=(mIf (mOr (ZdI (zR (mCB Zbf (Zc (Zd 0) Zk)))) (ZH (mOp neM (ZJ ["End"] "una" (Zd 0)) (ZJ ["End"] "nxt" (Zd 0))))) ZfN ZO)
def ZaU:SM:=(mIf (ZH (mOp eqM (ZJ ["End"] "state" (Zd 0)) (mC (.str "last ack")))) (ZI ["End"] "state" (Zd 0) (mC (.str "closed"))) ZO)
def ZaT:SM:=(mIf (ZH (mOp eqM (ZJ ["End"] "state" (Zd 0)) (mC (.str "closing")))) (Zn (ZI ["End"] "state" (Zd 0) (mC (.str "time wait")))
      (ZI ["End"] "since" (Zd 0) (Zd 1))) ZaU)
def ZaS:SM:=(mIf (ZH (mOp eqM (ZJ ["End"] "state" (Zd 0)) (mC (.str "wait one")))) (ZI ["End"] "state" (Zd 0) (mC (.str "wait two"))) ZaT)
def zm:SM:=(Zn zh
  ZaS)
def ZT:GM:=ZQ 2 2 zm
def Zej:SM:=(Zn (ZI ["End"] "wnd" (Zd 0) (mOp ixM (Zd 1) (mC (.int 5))))
  (Zn (ZI ["End"] "told" (Zd 0) (mOp ixM (Zd 1) (mC (.int 2))))
  (ZI ["End"] "told_by" (Zd 0) (mOp ixM (Zd 1) (mC (.int 3))))))
def ZaF:GM:=ZQ 2 2 Zej
def z7:SM:=(mIf (mOr (ZH (mOp eqM (ZJ ["End"] "nxt" (Zd 0)) (ZJ ["End"] "first" (Zd 0)))) (ZH (mOp neM (mOp ixM (Zd 1) (mC (.int 3))) (ZJ ["End"] "nxt" (Zd 0))))) (Zn (zu (mCB Z0 (Zc (Zd 0) (Zc (Zd 1) Zk))))
    (ZP (mC (.bl false)))) ZO)
def Zay:SM:=(Zn z7
  (Zn (ZI ["End"] "una" (Zd 0) (mOp ixM (Zd 1) (mC (.int 3))))
  (Zn (ZI ["End"] "state" (Zd 0) (Zep (zR (ZJ ["End"] "has_closed" (Zd 0))) (mC (.str "wait one")) (mC (.str "open"))))
  (Zn (zu (mCB ZaF (Zc (Zd 0) (Zc (Zd 1) Zk))))
  (ZP (mC (.bl true)))))))
def zn:GM:=ZQ 2 2 Zay
def ZeQ:SM:=(mIf (ZH (mOp eqM (mOp ixM (Zd 1) (mC (.int 2))) (ZJ ["End"] "told" (Zd 0)))) (ZP (ZmH (mCB Zcd (Zc (ZJ ["End"] "told_by" (Zd 0)) (Zc (mOp ixM (Zd 1) (mC (.int 3))) Zk))))) ZO)
def ZfY:SM:=(Zn ZeQ
  (ZP (mCB Zcd (Zc (mOp ixM (Zd 1) (mC (.int 2))) (Zc (ZJ ["End"] "told" (Zd 0)) Zk)))))
def Zc3:GM:=ZQ 2 2 ZfY
def Zb5:SM:=(mIf (ZH (mOp neM (ZJ ["End"] "una" (Zd 0)) (ZJ ["End"] "nxt" (Zd 0)))) (zu (mCB Z7 (Zc (Zd 0) (Zc (Zd 2) Zk)))) ZO)
def Zax:SM:=(mIf (zR (Zd 4)) (Zn (zu (mCB Zcc (Zc (ZJ ["End"] "written" (Zd 0)) (Zc (mCB zB (Zc (Zd 3) (Zc (ZJ ["End"] "una" (Zd 0)) Zk))) Zk))))
    (Zn (ZI ["End"] "una" (Zd 0) (Zd 3))
    Zb5)) ZO)
def Zaw:SM:=(mIf (zR (mCB Zcd (Zc (ZJ ["End"] "una" (Zd 0)) (Zc (Zd 3) Zk)))) ZfN ZO)
def Zbd:SM:=(mIf (mOr (zR (Zd 4)) (zR (mCB Zc3 (Zc (Zd 0) (Zc (Zd 1) Zk))))) (zu (mCB ZaF (Zc (Zd 0) (Zc (Zd 1) Zk)))) ZO)
def Zbc:SM:=(mIf (mOr (zR (Zd 5)) (ZH (mOp eqM (ZJ ["End"] "wnd" (Zd 0)) (mC (.int 0))))) (ZI ["End"] "tries" (Zd 0) (mC (.int 0))) ZO)
def Za4:SM:=(Zn (ZL 3 (mOp ixM (Zd 1) (mC (.int 3))))
  (Zn (ZL 4 (mCB Zcd (Zc (Zd 3) (Zc (ZJ ["End"] "una" (Zd 0)) Zk))))
  (Zn Zax
  (Zn Zaw
  (Zn (ZL 5 (mOp eqM (ZJ ["End"] "wnd" (Zd 0)) (mC (.int 0))))
  (Zn Zbd
  Zbc))))))
def zN:GM:=ZQ 3 6 Za4
def zw:SM:=(mIf (ZH (mOp eqM (ZJ ["End"] "state" (Zd 0)) (mC (.str "syn come")))) (ZP (mCB zn (Zc (Zd 0) (Zc (Zd 1) Zk)))) ZO)
def z8:SM:=(mIf (zR (mCB Zcd (Zc (mOp ixM (Zd 1) (mC (.int 3))) (Zc (ZJ ["End"] "nxt" (Zd 0)) Zk)))) (Zn (ZI ["End"] "owes_answer" (Zd 0) (mC (.bl true)))
    (ZP (mC (.bl false)))) ZO)
def zE:SM:=(Zn zw
  (Zn z8
  (Zn (zu (mCB zN (Zc (Zd 0) (Zc (Zd 1) (Zc (Zd 2) Zk)))))
  (Zn (zu (mCB ZT (Zc (Zd 0) (Zc (Zd 2) Zk))))
  (ZP (mOp neM (ZJ ["End"] "state" (Zd 0)) (mC (.str "closed"))))))))
def Z1:GM:=ZQ 3 3 zE
def Zcm:SM:=(mIf (ZH (mOp eqM (ZJ ["End"] "state" (Zd 0)) (mC (.str "time wait")))) ZfN ZO)
def Zcl:SM:=(mIf (ZH (mOp eqM (mOp ixM (Zd 1) (mC (.int 2))) (ZJ ["End"] "rcv" (Zd 0)))) (Zn (ZI ["End"] "state" (Zd 0) (mC (.str "closed")))
    (ZI ["End"] "error" (Zd 0) (mC (.str "reset")))) (ZI ["End"] "owes_answer" (Zd 0) (mC (.bl true))))
def Zdd:SM:=(Zn Zcm
  Zcl)
def Zbo:GM:=ZQ 2 2 Zdd
def ZbB:SM:=(zY (Zfc (ZH (mOp neM (ZJ ["End"] "rcv" (Zd 0)) (ZJ ["End"] "early_fin" (Zd 0)))) (ZH (ZlS (ZJ ["End"] "rcv" (Zd 0)) (ZJ ["End"] "early" (Zd 0))))) (Zn (ZdZ 1 (ZmJ (ZJ ["End"] "early" (Zd 0)) (ZJ ["End"] "rcv" (Zd 0))))
    (ZI ["End"] "rcv" (Zd 0) (mCB zA (Zc (ZJ ["End"] "rcv" (Zd 0)) (Zc (mC (.int 1)) Zk))))) 200)
def Zdq:SM:=(Zn (ZgZ 1 Zk)
  (Zn ZbB
  (ZdY 1 (zu (mCB ZkT (Zc (ZJ ["End"] "come" (Zd 0)) (Zc (Zd 1) Zk)))))))
def Za0:GM:=ZQ 1 2 Zdq
def ZeS:SM:=(mIf (ZH (mOp eqM (ZJ ["End"] "state" (Zd 0)) (mC (.str "wait one")))) (ZI ["End"] "state" (Zd 0) (mC (.str "closing"))) (Zn (ZI ["End"] "state" (Zd 0) (mC (.str "time wait")))
      (ZI ["End"] "since" (Zd 0) (Zd 1))))
def Zde:SM:=(mIf (ZH (mOp eqM (ZJ ["End"] "state" (Zd 0)) (mC (.str "open")))) (ZI ["End"] "state" (Zd 0) (mC (.str "close wait"))) ZeS)
def Zd9:SM:=(Zn (ZI ["End"] "rcv" (Zd 0) (mCB zA (Zc (ZJ ["End"] "rcv" (Zd 0)) (Zc (mC (.int 1)) Zk))))
  Zde)
def Zcg:GM:=ZQ 2 2 Zd9
def Za3:SM:=(mIf (zR (mCB zk (Zc (Zd 0) (Zc (Zd 4) Zk)))) (zu (ZlR (ZJ ["End"] "early" (Zd 0)) (Zd 4) (Zd 3))) ZO)
def ZcL:SM:=(Zqc (Zc (mOp ixM (Zd 1) (mC (.int 7))) Zk) 2 3 (Zn (ZL 4 (mCB zA (Zc (mOp ixM (Zd 1) (mC (.int 2))) (Zc (Zd 2) Zk))))
    Za3))
def ZcK:SM:=(mIf (ZH (mOp gtM (mCB Zd0 (Zc (mOp ixM (Zd 1) (mC (.int 7))) Zk)) (mC (.int 0)))) (ZI ["End"] "owes_answer" (Zd 0) (mC (.bl true))) ZO)
def ZdA:SM:=(Zn ZcL
  ZcK)
def ZbS:GM:=ZQ 2 5 ZdA
def Zdc:SM:=(mIf (ZdI (zR (mCB Z4 (Zc (Zd 1) (Zc (mC (.int 1)) Zk))))) ZfN ZO)
def ZaQ:SM:=(mIf (Zfc (ZH (mOp isM (ZJ ["End"] "early_fin" (Zd 0)) (mC .non))) (zR (mCB zk (Zc (Zd 0) (Zc (Zd 2) Zk))))) (ZI ["End"] "early_fin" (Zd 0) (Zd 2)) ZO)
def Zd8:SM:=(Zn Zdc
  (Zn (ZI ["End"] "owes_answer" (Zd 0) (mC (.bl true)))
  (Zn (ZL 2 (mCB zA (Zc (mOp ixM (Zd 1) (mC (.int 2))) (Zc (mCB Zd0 (Zc (mOp ixM (Zd 1) (mC (.int 7))) Zk)) Zk))))
  ZaQ)))
def Zcf:GM:=ZQ 2 3 Zd8
def Zbb:SM:=(mIf (ZH (mOp ZdV (ZJ ["End"] "state" (Zd 0)) (Za7 (Zc (mC (.str "open")) (Zc (mC (.str "wait one")) (Zc (mC (.str "wait two")) Zk)))))) ZfN ZO)
def Zb4:SM:=(mIf (ZH (mOp eqM (ZJ ["End"] "rcv" (Zd 0)) (ZJ ["End"] "early_fin" (Zd 0)))) (zu (mCB Zcg (Zc (Zd 0) (Zc (Zd 2) Zk)))) ZO)
def ZbJ:SM:=(Zn Zbb
  (Zn (zu (mCB ZbS (Zc (Zd 0) (Zc (Zd 1) Zk))))
  (Zn (zu (mCB Zcf (Zc (Zd 0) (Zc (Zd 1) Zk))))
  (Zn (zu (mCB Za0 (Zc (Zd 0) Zk)))
  Zb4))))
def ZaG:GM:=ZQ 3 3 ZbJ
def ZbI:SM:=(mIf (zR (mCB Z4 (Zc (Zd 1) (Zc (mC (.int 4)) Zk)))) ZfN ZO)
def ZcI:SM:=(mIf (Zfc (ZH (mOp eqM (ZJ ["End"] "state" (Zd 0)) (mC (.str "syn come")))) (Zfc (zR (mCB Z4 (Zc (Zd 1) (Zc (mC (.int 2)) Zk)))) (ZdI (zR (mCB Z4 (Zc (Zd 1) (Zc (mC (.int 16)) Zk))))))) (ZI ["End"] "owes_syn" (Zd 0) (mC (.bl true))) (ZI ["End"] "owes_answer" (Zd 0) (mC (.bl true))))
def ZcH:SM:=(mIf (ZH (mOp eqM (ZJ ["End"] "state" (Zd 0)) (mC (.str "time wait")))) (ZI ["End"] "since" (Zd 0) (Zd 2)) ZO)
def Zcs:SM:=(Zn ZbI
  (Zn ZcI
  ZcH))
def Zbe:GM:=ZQ 3 3 Zcs
def ZaB:SM:=(mIf (Zfc (zR (mCB Z4 (Zc (Zd 1) (Zc (mC (.int 16)) Zk)))) (zR (mCB Z1 (Zc (Zd 0) (Zc (Zd 1) (Zc (Zd 2) Zk)))))) (zu (mCB ZaG (Zc (Zd 0) (Zc (Zd 1) (Zc (Zd 2) Zk))))) ZO)
def zS:SM:=(mIf (zR (mCB Z4 (Zc (Zd 1) (Zc (mC (.int 2)) Zk)))) (ZI ["End"] "owes_answer" (Zd 0) (mC (.bl true))) ZaB)
def zv:SM:=(mIf (zR (mCB Z4 (Zc (Zd 1) (Zc (mC (.int 4)) Zk)))) (zu (mCB Zbo (Zc (Zd 0) (Zc (Zd 1) Zk)))) zS)
def ze:SM:=(mIf (ZdI (zR (mCB Zgf (Zc (Zd 0) (Zc (Zd 1) Zk))))) (zu (mCB Zbe (Zc (Zd 0) (Zc (Zd 1) (Zc (Zd 2) Zk))))) zv)
def zq:SM:=ze
def Z9:GM:=ZQ 3 3 zq
def ZhD:SM:=(ZP (Zca (mOp eqM (mOp ixM (Zd 1) (mC (.int 1))) (ZJ ["End"] "ours" (Zd 0))) (ZlQ (mOp inM (ZJ ["End"] "state" (Zd 0)) (Za7 (Zc (mC (.str "closed")) (Zc (mC (.str "listen")) Zk)))) (mOp eqM (mOp ixM (Zd 1) (mC (.int 0))) (ZJ ["End"] "theirs" (Zd 0))))))
def Zew:GM:=ZQ 2 2 ZhD
def Zb9:SM:=(mIf (ZdI (zR (mCB Zag (Zc (Zd 1) Zk)))) (ZP (mC (.bl false))) ZO)
def Zb8:SM:=(mIf (ZdI (zR (mCB Zew (Zc (Zd 0) (Zc (Zd 3) Zk))))) (ZP (mC (.bl false))) ZO)
def Zea:SM:=(mIf (ZH (mOp eqM (ZJ ["End"] "state" (Zd 0)) (mC (.str "syn sent")))) (zu (mCB ZU (Zc (Zd 0) (Zc (Zd 3) (Zc (Zd 2) Zk))))) (zu (mCB Z9 (Zc (Zd 0) (Zc (Zd 3) (Zc (Zd 2) Zk))))))
def ZcT:SM:=(mIf (ZH (mOp eqM (ZJ ["End"] "state" (Zd 0)) (mC (.str "listen")))) (zu (mCB zt (Zc (Zd 0) (Zc (Zd 3) Zk)))) Zea)
def Zb7:SM:=(mIf (ZH (mOp eqM (ZJ ["End"] "state" (Zd 0)) (mC (.str "closed")))) (zu (mCB ZaM (Zc (Zd 0) (Zc (Zd 3) Zk)))) ZcT)
def Zdg:SM:=(Zn Zb9
  (Zn (ZL 3 (mCB Zic (Zc (Zd 1) Zk)))
  (Zn Zb8
  (Zn Zb7
  (ZP (mC (.bl true)))))))
def zG:GM:=ZQ 3 4 Zdg
def Zdb:SM:=(mIf (Zfc (zR (Zd 2)) (Zfc (ZH (mOp gtM (mCB zM (Zc (Zd 0) Zk)) (mC (.int 0)))) (ZH (mOp inM (ZJ ["End"] "state" (Zd 0)) (Za7 (Zc (mC (.str "open")) (Zc (mC (.str "wait one")) (Zc (mC (.str "wait two")) Zk)))))))) (ZI ["End"] "owes_answer" (Zd 0) (mC (.bl true))) ZO)
def ZeL:SM:=(Zn (ZL 2 (mOp eqM (mCB zM (Zc (Zd 0) Zk)) (mC (.int 0))))
  (Zn (ZL 3 (mCB Zcc (Zc (ZJ ["End"] "come" (Zd 0)) (Zc (Zd 1) Zk))))
  (Zn Zdb
  (ZP (Zd 3)))))
def ZdT:GM:=ZQ 2 4 ZeL
def Zlx:SM:=(ZP (mOp Zap (mOp ZN (Zd 0) (Zd 1)) (mC (.int 4294967296))))
def Zbx:GM:=ZQ 2 2 Zlx
def ZgK:SM:=(mIf (ZH (mOp eqM (mOp Zap (Zd 0) (mC (.int 2))) (mC (.int 0)))) (ZP (mOp Zap (mOp Zdj (mC (.int 4294967296)) (mOp Zap (mOp ZeI (Zd 0) (mC (.int 2))) (mC (.int 90)))) (mC (.int 4294967296)))) ZO)
def ZiI:SM:=(Zn ZgK
  (ZP (Zd 0)))
def Ze0:GM:=ZQ 1 1 ZiI
def ZgJ:SM:=(ZP (Za7 (Zc (mOp ixM (Zd 0) (mC (.int 1))) (Zc (mOp ixM (Zd 0) (mC (.int 0))) (Zc (Zd 1) (Zc (Zd 2) (Zc (Zd 3) (Zc (Zd 4) (Zc (mC (.int 0)) (Zc (mCB Zfm (Zc (Zd 5) Zk)) Zk))))))))))
def ZaP:GM:=ZQ 6 6 ZgJ
def Zlz:SM:=(ZP (Zca (mCB ZgD (Zc (Zd 0) (Zc (mC (.ty "int")) Zk))) (Zca (ZmH (mCB ZgD (Zc (Zd 0) (Zc (mC (.ty "bool")) Zk)))) (ZbZ leM leM (mC (.int 0)) (Zd 0) (mC (.int 255))))))
def Zgn:GM:=ZQ 1 1 Zlz
def b_l_read_1:SM:=(mIf (mOr (ZdI (zR (mCB ZgD (Zc (Zd 0) (Zc (mC (.ty "list")) Zk))))) (ZH (mOp ltM (mCB Zd0 (Zc (Zd 0) Zk)) (mC (.int 20))))) (ZP (mC .non)) ZO)
def b_l_read_2:SM:=(mIf (ZdI (zR (mCB ZqV (Zc (ZcP (mIn (Zd 0)) [] (mCB Zgn (Zc (Zd 0) Zk))) Zk)))) (ZP (mC .non)) ZO)
def b_l_read_3:SM:=(mIf (mOr (ZH (mOp ZdV (mOp ixM (Zd 0) (mC (.int 12))) (Za7 (Zc (mC (.int 80)) (Zc (mC (.int 96)) Zk))))) (mOr (ZH (mOp gtM (mOp ixM (Zd 0) (mC (.int 13))) (mC (.int 31)))) (ZH (mOp gtM (mOp ZN (mOp ixM (Zd 0) (mC (.int 18))) (mOp ixM (Zd 0) (mC (.int 19)))) (mC (.int 0)))))) (ZP (mC .non)) ZO)
def b_l_read_4:SM:=(mIf (mOr (ZdI (ZH (ZbZ leM leM (Zd 1) (mCB Zd0 (Zc (Zd 0) Zk)) (mOp ZN (Zd 1) (mC (.int 16)))))) (ZH (mOp neM (mCB Zcz (Zc (Zd 0) Zk)) (mC (.int 65535))))) (ZP (mC .non)) ZO)
def ZhH:SM:=(mIf (mOr (ZH (mOp eqM (mOp Zap (mOp ZeI (mOp ixM (Zd 0) (mC (.int 13))) (mC (.int 2))) (mC (.int 2))) (mC (.int 0)))) (mOr (ZH (mOp neM (mSl (Zd 0) (ZaO (mC (.int 20))) (ZaO (mC (.int 22)))) (ZbN (Zc (mC (.int 2)) (Zc (mC (.int 4)) Zk))))) (ZH (mOp ltM (Zd 2) (mC (.int 4)))))) (ZP (mC .non)) ZO)
def b_l_read_6:SM:=(mIf (ZH (mOp eqM (Zd 1) (mC (.int 24)))) (Zn (ZL 2 (mOp ZN (mOp Zc6 (mOp ixM (Zd 0) (mC (.int 22))) (mC (.int 256))) (mOp ixM (Zd 0) (mC (.int 23)))))
    ZhH) ZO)
def Zlw:SM:=(Zn b_l_read_1
  (Zn b_l_read_2
  (Zn (ZL 1 (mOp ZeI (mOp ixM (Zd 0) (mC (.int 12))) (mC (.int 4))))
  (Zn b_l_read_3
  (Zn b_l_read_4
  (Zn (ZL 2 (mC (.int 0)))
  (Zn b_l_read_6
  (Zn (ZL 3 (ZcP (Zcy (Zc (mC (.int 8)) Zk)) [0] (mOp ZN (mOp Zc6 (mC (.int 256)) (mOp ixM (Zd 1) (mOp Zc6 (mC (.int 2)) (Zd 0)))) (mOp ixM (Zd 1) (mOp ZN (mOp Zc6 (mC (.int 2)) (Zd 0)) (mC (.int 1)))))))
  (Zn (ZL 4 (Za7 (Zc (mOp ixM (Zd 3) (mC (.int 0))) (Zc (mOp ixM (Zd 3) (mC (.int 1))) (Zc (mOp ZN (mOp Zc6 (mOp ixM (Zd 3) (mC (.int 2))) (mC (.int 65536))) (mOp ixM (Zd 3) (mC (.int 3)))) (Zc (mOp ZN (mOp Zc6 (mOp ixM (Zd 3) (mC (.int 4))) (mC (.int 65536))) (mOp ixM (Zd 3) (mC (.int 5)))) Zk))))))
  (ZP (mOp ZN (Zd 4) (Za7 (Zc (mOp ixM (Zd 0) (mC (.int 13))) (Zc (mOp ixM (Zd 3) (mC (.int 7))) (Zc (Zd 2) (Zc (mCB Zfm (Zc (mSl (Zd 0) (ZaO (Zd 1)) Zat) Zk)) Zk))))))))))))))))
def Zgk:GM:=ZQ 1 5 Zlw
def Zdt:SM:=(mIf (ZH (mOp eqM (Zd 4) (ZbN Zk))) (ZdY 2 (ZP (Zd 2))) ZO)
def ZeV:SM:=(ZgS (Zcy (Zc (mC (.int 40)) Zk)) (gNm 3) (Zn (ZL 4 (mCB ZcF (Zc (Zd 0) (Zc (Zd 1) Zk))))
    (Zn Zdt
    (ZdZ 2 (mCB Zgk (Zc (Zd 4) Zk))))))
def ZiH:SM:=(Zn (ZgZ 2 Zk)
  (Zn ZeV
  (ZdY 2 (ZP (Zd 2)))))
def Zd1:GM:=ZQ 2 5 ZiH
def ZhI:SM:=(Zn (ZL 4 (Za7 (Zc (mOp Zap (mCB Zao (Zc (Zd 0) (Zc (Zd 1) Zk))) (mC (.int 65536))) (Zc (mOp Zap (mCB Zao (Zc (Zd 0) (Zc (mOp ZN (Zd 1) (mC (.int 1))) Zk))) (mC (.int 65536))) Zk))))
  (Zn (ZL 5 (mCB Ze0 (Zc (mCB Zao (Zc (Zd 0) (Zc (mOp ZN (Zd 1) (mC (.int 2))) Zk))) Zk)))
  (Zn (ZL 6 (mCB Ze0 (Zc (mCB Zao (Zc (Zd 0) (Zc (mOp ZN (Zd 1) (mC (.int 3))) Zk))) Zk)))
  (Zn (ZL 7 (mCB Zev (Zc (mOp ixM (Zd 4) (mC (.int 0))) (Zc (mC (.int 7)) (Zc (Zd 5) (Zc (mC (.bl false)) Zk))))))
  (Zn (zu (mCB zG (Zc (Zd 7) (Zc (mCB Zba (Zc (Za7 (Zc (mOp ixM (Zd 4) (mC (.int 1))) (Zc (mOp ixM (Zd 4) (mC (.int 0))) (Zc (Zd 6) (Zc (mC (.int 0)) (Zc (mC (.int 2)) (Zc (Zd 2) (Zc (Zd 3) (Zc (Za7 Zk) Zk))))))))) Zk)) (Zc (mC (.int 0)) Zk)))))
  (Zn (zu (mCB ZcF (Zc (Zd 7) (Zc (mC (.int 0)) Zk))))
  (Zn (zu (mCB zG (Zc (Zd 7) (Zc (mCB Zba (Zc (Za7 (Zc (mOp ixM (Zd 4) (mC (.int 1))) (Zc (mOp ixM (Zd 4) (mC (.int 0))) (Zc (mCB Zbx (Zc (Zd 6) (Zc (mC (.int 1)) Zk))) (Zc (mCB Zbx (Zc (Zd 5) (Zc (mC (.int 1)) Zk))) (Zc (mC (.int 16)) (Zc (Zd 2) (Zc (mC (.int 0)) (Zc (Za7 Zk) Zk))))))))) Zk)) (Zc (mC (.int 0)) Zk)))))
  (ZP (Za7 (Zc (Zd 7) (Zc (Zd 4) (Zc (mCB Zbx (Zc (Zd 5) (Zc (mC (.int 1)) Zk))) (Zc (mCB Zbx (Zc (Zd 6) (Zc (mC (.int 1)) Zk))) Zk)))))))))))))
def Zc8:GM:=ZQ 4 8 ZhI
end
end My
namespace My
open PySem L2 L2.MM
noncomputable section
def bears (s:Seg) (f:Int):Bool:=decide (bit s.flags f=1)
def ZlT (s:Seg):Int:=s.data.length+bit s.flags 2+bit s.flags 1
def ZfD (s:Seg):Seg:=if bears s 16=true then ⟨s.goal,s.src,s.ans,0,4,0,0,[]⟩ else ⟨s.goal,s.src,0,Zu s.num (ZlT s),20,0,0,[]⟩
def Zbg (e:Zv) (s:Seg):Zv:=if bears s 4=true then e else { e with owed_reset:=some (ZfD s) }
def hearSyn (e:Zv) (s:Seg):Zv:={ e with rcv:=Zu s.num 1,wnd:=s.win,told:=s.num,told_by:=if bears s 16=true then s.ans else 0,most:=if s.most=0 then e.most else s.most }
def Zbl (e:Zv) (s:Seg):Zv:=
  if bears s 4=true then e
  else if bears s 16=true then Zbg e s
  else if bears s 2=true then { hearSyn { e with theirs:=s.src } s with state:=.synCome }
  else e
def Zec (e:Zv) (s:Seg):Bool:=!decide (e.nxt=e.first) && decide (s.ans=Zu e.first 1)
def Zaa (e:Zv) (s:Seg) (now:Int):Zv:=
  if bears s 16=true∧Zec e s=false then Zbg e s
  else if bears s 4=true then (if bears s 16=true then { e with state:=.closed,error:=.refused } else e)
  else if bears s 2=true then
    (if bears s 16=true then { hearSyn e s with una:=s.ans,state:=.opn,owes_answer:=true }
     else { zH { hearSyn e s with state:=.synCome } now with owes_syn:=true })
  else e
def ZeE (e:Zv) (s:Seg):Bool:=decide (s.goal=e.ours) && (decide (e.state∈[State.closed,.listen]) || decide (s.src=e.theirs))
section
variable {θ:Sto} {l:Nat} {e:Zv} {s:Seg} {now f:Int}
@[simp] theorem Zwr:Z4 [s.d,.int f] θ=.ok (.bl (bears s f)) θ:=by
  simp [Z4,ZiG,bears]
theorem Zf8:Zcv [s.d] θ=.ok (.int (ZlT s)) θ:=Zpj s θ
@[simp] theorem Zss:ZbR [s.d] θ=.ok (ZfD s).d θ:=by
  by_cases c:bears s 16=true
  · simp [ZbR,Zdx,ZcJ,c,ZfD,ZiP]
  · simp [ZbR,Zdx,ZcJ,c,ZfD,ZiP,Zf8]
@[simp] theorem Zst (h:l+3 < θ.length):Z0 [.ref l,s.d] (upE θ l e)=.ok .non (upE θ l (Zbg e s)):=by
  by_cases c:bears s 4=true
  · simp [Z0,Zb2,Zbz,h,c,Zbg]
  · simp [Z0,Zb2,Zbz,h,c,Zbg]
@[simp] theorem Znc (h:l+3 < θ.length):ZaM [.ref l,s.d] (upE θ l e)=.ok .non (upE θ l (Zbg e s)):=by
  simp [ZaM,Zdf,h]
@[simp] theorem Ztg (h:l+3 < θ.length):ZbL [.ref l,s.d] (upE θ l e)=.ok .non (upE θ l (hearSyn e s)):=by
  by_cases c:bears s 16=true<;>by_cases c2:s.most=0<;>simp [ZbL,ZfZ,ZeR,h,c,c2,hearSyn]
@[simp] theorem Znb (h:l+3 < θ.length):zt [.ref l,s.d] (upE θ l e)=.ok .non (upE θ l (Zbl e s)):=by
  by_cases c:bears s 4=true
  · simp [zt,Zam,zT,h,c,Zbl]
  · by_cases c1:bears s 16=true
    · simp [zt,Zam,zT,ZaD,ZaC,h,c,c1,Zbl]
    · by_cases c2:bears s 2=true
      · simp [zt,Zam,zT,ZaD,ZaC,h,c,c1,c2,Zbl]
      · simp [zt,Zam,zT,ZaD,ZaC,h,c,c1,c2,Zbl]
@[simp] theorem Zq2 (h:l+3 < θ.length):ZbE [.ref l,s.d] (upE θ l e)=.ok (.bl (Zec e s)) (upE θ l e):=by
  by_cases c:e.nxt=e.first<;>simp [ZbE,Zem,h,Zec,c]
@[simp] theorem ZlE (h:l+3 < θ.length):ZU [.ref l,s.d,.int now] (upE θ l e)=.ok .non (upE θ l (Zaa e s now)):=by
  by_cases c:bears s 16=true
  · by_cases c1:Zec e s=true
    · by_cases c2:bears s 4=true
      · simp [ZU,Z3,ZY,Z5,Zeu,Zfs,Zd6,h,c,c1,c2,Zaa]
      · by_cases c3:bears s 2=true
        · simp [ZU,Z3,ZY,Z5,zD,zF,ZaR,Zar,h,c,c1,c2,c3,Zaa]
        · simp [ZU,Z3,ZY,Z5,zD,h,c,c1,c2,c3,Zaa]
    · simp [ZU,Z3,ZY,h,c,c1,Zaa]
  · by_cases c2:bears s 4=true
    · simp [ZU,Z3,ZY,Z5,Zeu,Zfs,Zd6,h,c,c2,Zaa]
    · by_cases c3:bears s 2=true
      · simp [ZU,Z3,ZY,Z5,zD,zF,ZaR,Zar,h,c,c2,c3,Zaa]
      · simp [ZU,Z3,ZY,Z5,zD,h,c,c2,c3,Zaa]
@[simp] theorem Zu7 (h:l+3 < θ.length):Zew [.ref l,s.d] (upE θ l e)=.ok (.bl (ZeE e s)) (upE θ l e):=by
  simp [Zew,ZhD,h,ZeE]
theorem ZgR (h:l+3 < θ.length) {r:List Int} (hb:Byt r) (hr:Zav r=true) (hf:ZeE e (Zby r)=true) (hs:e.state=.closed):zG [.ref l,il r,.int now] (upE θ l e)=.ok (.bl true) (upE θ l (Zbg e (Zby r))):=by
  simp [zG,Zdg,Zb9,Zb8,Zb7,ZcZ hb,hr,Zmf hb hr,h,hf,hs]
theorem ZgQ (h:l+3 < θ.length) {r:List Int} (hb:Byt r) (hr:Zav r=true) (hf:ZeE e (Zby r)=true) (hs:e.state=.listen):zG [.ref l,il r,.int now] (upE θ l e)=.ok (.bl true) (upE θ l (Zbl e (Zby r))):=by
  simp [zG,Zdg,Zb9,Zb8,Zb7,ZcT,ZcZ hb,hr,Zmf hb hr,h,hf,hs]
theorem Zga (h:l+3 < θ.length) {r:List Int} (hb:Byt r) (hr:Zav r=true) (hf:ZeE e (Zby r)=true) (hs:e.state=.synSent):zG [.ref l,il r,.int now] (upE θ l e)=.ok (.bl true) (upE θ l (Zaa e (Zby r) now)):=by
  simp [zG,Zdg,Zb9,Zb8,Zb7,ZcT,Zea,ZcZ hb,hr,Zmf hb hr,h,hf,hs]
@[simp] theorem Zwq {n k:Int}:Zbx [.int n,.int k] θ=.ok (.int (Zu n k)) θ:=by simp [Zbx,Zlx,Zu]
def Zbt (n:Int):Int:=if n % 2=0 then (4294967296-n/2 % 90) % 4294967296 else n
@[simp] theorem Zu6 {n:Int}:Ze0 [.int n] θ=.ok (.int (Zbt n)) θ:=by
  by_cases c:n % 2=0<;>simp [Ze0,ZiI,ZgK,Zbt,c]
end
end
end My
namespace My
open PySem L2 L2.MM
noncomputable section
section
variable {θ:Sto} {ρ:List Sl} {fi fo fe ff:EM} {fa:AM} {i j k:Nat} {b:SM} {x:D} {r:List D}
theorem nr' {p:Prop} (h:p):p:=h
@[simp] theorem ZzQ:ZlS fi fo ρ θ=(fi ρ θ).bind fun y θ=>(fo ρ θ).bind fun d θ=>match Zhm y,dkOf θ d with
  | some k,some (_,kvs)=>.ok (.bl (valD kvs k).isSome) θ
  | _,_=>.bad:=nr' rfl
@[simp] theorem ZyE:ZmJ fo fe ρ θ=(fo ρ θ).bind fun d θ=>match dkOf θ d with
  | none=>.bad
  | some _=>(fe ρ θ).bind fun y θ=>match Zhm y,dkOf θ d with
    | some k,some (l,kvs)=>match valD kvs k with
      | some v=>.ok v (θ.set l (.dK (dropD kvs k)))
      | none=>.bad
    | _,_=>.bad:=nr' rfl
@[simp] theorem Zwk:ZlR fo fe ff ρ θ=(fo ρ θ).bind fun d θ=>match dkOf θ d with
  | none=>.bad
  | some _=>(fe ρ θ).bind fun y θ=>(ff ρ θ).bind fun z θ=>match Zhm y,dkOf θ d with
    | some k,some (l,kvs)=>if kvs.length<BIG then (match valD kvs k with
      | some v=>.ok v θ
      | none=>.ok z (θ.set l (.dK (putD kvs k z)))) else .bad
    | _,_=>.bad:=nr' rfl
@[simp] theorem ZyB {n:Int}:Zhm (.int n)=some (.inl n):=nr' rfl
end
abbrev EL:=List (Int×Int)
def atE (m:EL) (n:Int):Option Int:=(m.find? fun p=>decide (p.1=n)).map (·.2)
def Zb0 (m:EL) (n:Int):EL:=m.filter fun p=>decide (p.1≠n)
def ZeC (m:EL) (n b:Int):EL:=match atE m n with | some _=>m | none=>m++[(n,b)]
abbrev ed (p:Int×Int):Key×D:=(Sum.inl p.1,D.int p.2)
theorem Zfx (n:Int):∀m:EL,valD (m.map ed) (.inl n)=(atE m n).map D.int
  | []=>rfl
  | p::r=>by
    have ih:=Zfx n r
    unfold valD atE at ih ⊢
    by_cases e:p.1=n
    · simp [ed,e]
    · simpa [ed,e] using ih
theorem Zlj (n:Int):∀m:EL,dropD (m.map ed) (.inl n)=(Zb0 m n).map ed
  | []=>rfl
  | p::r=>by
    have ih:=Zlj n r
    unfold dropD Zb0 at ih ⊢
    by_cases e:p.1=n
    · simpa [ed,e] using ih
    · simpa [ed,e] using ih
theorem ZqT (n:Int):∀m:EL,((m.map ed).any fun kv=>decide (kv.1=Sum.inl n))=(atE m n).isSome
  | []=>rfl
  | p::r=>by
    have ih:=ZqT n r
    unfold atE at ih ⊢
    by_cases e:p.1=n
    · simp [ed,e]
    · simpa [ed,e] using ih
theorem Zrw (n b:Int) (m:EL) (h:atE m n=none):putD (m.map ed) (.inl n) (.int b)=(m++[(n,b)]).map ed:=by
  unfold putD
  rw [ZqT,h]
  simp [ed]
section
variable {θ:Sto} {l:Nat} {e:Zv} {s:Seg} {now:Int}
theorem dk3 (h:l+3 < θ.length):dkOf (upE θ l e) (.ref (l+3))=some (l+3,e.early.map ed):=by
  have:(upE θ l e)[l+3]?=some (c3 e):=by
    unfold upE
    rw [List.getElem?_set_self (by simpa using h)]
  show (match (upE θ l e)[l+3]? with | some (Cell.dK kvs)=>some (l+3,kvs) | _=>none)=_
  rw [this]
  rfl
theorem Zvg (h:l+3 < θ.length) (m:EL):(upE θ l e).set (l+3) (.dK (m.map ed))=upE θ l { e with early:=m }:=by
  unfold upE
  rw [List.set_set]
  rfl
end
def inWin (e:Zv) (n:Int):Bool:=decide (0≤zg n e.rcv) && decide (zg n e.rcv<ZW e)
def Zfh (e:Zv) (s:Seg):Bool:=if ZlT s=0 then decide (0≤zg s.num e.rcv) && decide (zg s.num e.rcv≤64) else inWin e s.num || inWin e (Zu s.num (ZlT s-1))
def ZdB (e:Zv) (s:Seg) (now:Int):Zv:=
  if bears s 4=true then e
  else if e.state=.timeWait then { e with owes_answer:=true,since:=now }
  else if e.state=.synCome∧bears s 2=true∧bears s 16=false then { e with owes_syn:=true }
  else { e with owes_answer:=true }
def Ze1 (e:Zv) (s:Seg):Zv:=if e.state=.timeWait then e else if s.num=e.rcv then { e with state:=.closed,error:=.reset } else { e with owes_answer:=true }
def ZbQ (a b:Int):Bool:=decide (0<zg a b)
def Zdk (e:Zv) (s:Seg):Zv:={ e with wnd:=s.win,told:=s.num,told_by:=s.ans }
def ZaE (e:Zv) (s:Seg):Bool×Zv:=
  if e.nxt=e.first∨¬s.ans=e.nxt then (false,Zbg e s)
  else (true,Zdk { e with una:=s.ans,state:=if e.has_closed=true then .waitOne else .opn } s)
def isNewer (e:Zv) (s:Seg):Bool:=if s.num=e.told then !ZbQ e.told_by s.ans else ZbQ s.num e.told
def Zcq (e:Zv) (s:Seg) (now:Int):Zv:=
  if ZbQ s.ans e.una=true then
    (if s.ans=e.nxt then { e with written:=e.written.drop (zg s.ans e.una).toNat,una:=s.ans } else zH { e with written:=e.written.drop (zg s.ans e.una).toNat,una:=s.ans } now)
  else e
def zC (e:Zv) (s:Seg) (now:Int):Zv:=
  let e1:=Zcq e s now
  if ZbQ e1.una s.ans=true then e1
  else
    let e2:=if (ZbQ s.ans e.una || isNewer e1 s)=true then Zdk e1 s else e1
    if e1.wnd=0∨e2.wnd=0 then { e2 with tries:=0 } else e2
def ZfB (e:Zv):Bool:=ZbQ e.nxt e.behind
def endAcked (e:Zv) (now:Int):Zv:=
  if ZfB e=false∨¬e.una=e.nxt then e
  else if e.state=.waitOne then { e with state:=.waitTwo }
  else if e.state=.closing then { e with state:=.timeWait,since:=now }
  else if e.state=.lastAck then { e with state:=.closed }
  else e
def Zaq (e:Zv) (s:Seg) (now:Int):Bool×Zv:=
  if e.state=.synCome then ZaE e s
  else if ZbQ s.ans e.nxt=true then (false,{ e with owes_answer:=true })
  else (!decide ((endAcked (zC e s now) now).state=.closed),endAcked (zC e s now) now)
def keepAll (e:Zv) (num:Int):Nat→List Int→Zv
  | _,[]=>e
  | k,b::r=>keepAll (if inWin e (Zu num k)=true then { e with early:=ZeC e.early (Zu num k) b } else e) num (k+1) r
def zX (e:Zv) (s:Seg):Zv:=if 0<s.data.length then { keepAll e s.num 0 s.data with owes_answer:=true } else keepAll e s.num 0 s.data
def Zbs (e:Zv) (s:Seg):Zv:=
  if bears s 1=false then e
  else if e.early_fin=none∧inWin e (Zu s.num s.data.length)=true then { e with owes_answer:=true,early_fin:=some (Zu s.num s.data.length) }
  else { e with owes_answer:=true }
def drawn:Nat→Zv→List Int×Zv
  | 0,e=>([],e)
  | n+1,e=>if e.early_fin=some e.rcv then ([],e) else match atE e.early e.rcv with
    | none=>([],e)
    | some b=>(b::(drawn n { e with early:=Zb0 e.early e.rcv,rcv:=Zu e.rcv 1 }).1,(drawn n { e with early:=Zb0 e.early e.rcv,rcv:=Zu e.rcv 1 }).2)
def ZfP (e:Zv) (r:List Int):Zv:={ e with come:=e.come++ZbF r none (some (ZW e)) }
def Ze2 (e:Zv) (now:Int):Zv:=
  if e.state=.opn then { e with rcv:=Zu e.rcv 1,state:=.closeWait }
  else if e.state=.waitOne then { e with rcv:=Zu e.rcv 1,state:=.closing }
  else { e with rcv:=Zu e.rcv 1,state:=.timeWait,since:=now }
section
variable {θ:Sto} {l:Nat} {e:Zv} {s:Seg} {now n a b:Int}
@[simp] theorem ZyM:Zcd [.int a,.int b] θ=.ok (.bl (ZbQ a b)) θ:=by simp [Zcd,Zlv,ZbQ]
@[simp] theorem Zs7 (h:l+3 < θ.length):Zbf [.ref l] (upE θ l e)=.ok (.bl (ZfB e)) (upE θ l e):=by
  simp [Zbf,ZdM,h,ZfB]
@[simp] theorem Zsv (h:l+3 < θ.length):zk [.ref l,.int n] (upE θ l e)=.ok (.bl (inWin e n)) (upE θ l e):=by
  by_cases c:0≤zg n e.rcv<;>simp [zk,ZdL,h,inWin,ZW,c]<;>exact decide_eq_decide.mpr Iff.rfl
@[simp] theorem ZyN (h:l+3 < θ.length):Zgf [.ref l,s.d] (upE θ l e)=.ok (.bl (Zfh e s)) (upE θ l e):=by
  by_cases c:ZlT s=0
  · by_cases c1:0≤zg s.num e.rcv<;>simp [Zgf,ZhG,Zft,h,Zf8,c,c1,Zfh]
  · by_cases c1:inWin e s.num=true<;>simp [Zgf,ZhG,Zft,h,Zf8,c,c1,Zfh]
@[simp] theorem Zsr (h:l+3 < θ.length):Zbe [.ref l,s.d,.int now] (upE θ l e)=.ok .non (upE θ l (ZdB e s now)):=by
  by_cases c4:bears s 4=true
  · simp [Zbe,Zcs,ZbI,h,c4,ZdB]
  · by_cases ct:e.state=.timeWait
    · simp [Zbe,Zcs,ZbI,ZcI,ZcH,h,c4,ct,ZdB]
    · by_cases cs:e.state=.synCome<;>by_cases c2:bears s 2=true<;>by_cases c16:bears s 16=true<;>simp [Zbe,Zcs,ZbI,ZcI,ZcH,h,c4,ct,cs,c2,c16,ZdB]
@[simp] theorem Zrh (h:l+3 < θ.length):Zbo [.ref l,s.d] (upE θ l e)=.ok .non (upE θ l (Ze1 e s)):=by
  by_cases ct:e.state=.timeWait
  · simp [Zbo,Zdd,Zcm,Zcl,h,ct,Ze1]
  · by_cases c:s.num=e.rcv<;>simp [Zbo,Zdd,Zcm,Zcl,h,ct,c,Ze1]
@[simp] theorem ZqY (h:l+3 < θ.length):ZaF [.ref l,s.d] (upE θ l e)=.ok .non (upE θ l (Zdk e s)):=by
  simp [ZaF,Zej,h,Zdk]
@[simp] theorem Zpm (h:l+3 < θ.length):zn [.ref l,s.d] (upE θ l e)=.ok (.bl (ZaE e s).1) (upE θ l (ZaE e s).2):=by
  by_cases c1:e.nxt=e.first
  · simp [zn,Zay,z7,h,c1,ZaE]
  · by_cases c2:s.ans=e.nxt
    · by_cases c3:e.has_closed=true<;>simp [zn,Zay,z7,h,c1,c2,c3,ZaE]
    · simp [zn,Zay,z7,h,c1,c2,ZaE]
@[simp] theorem Zte (h:l+3 < θ.length):Zc3 [.ref l,s.d] (upE θ l e)=.ok (.bl (isNewer e s)) (upE θ l e):=by
  by_cases c:s.num=e.told<;>simp [Zc3,ZfY,ZeQ,h,c,isNewer]
theorem Zq8 (h:l+3 < θ.length):Zcc [.ref (l+1),.int n] (upE θ l e)=.ok (il (e.written.take n.toNat)) (upE θ l { e with written:=e.written.drop n.toNat }):=by
  by_cases c:0<n
  · simp [Zcc,Zda,h,Zdw,Zb1,c,show 0≤n by omega,show ¬n<0 by omega]
  · have z:n.toNat=0:=by omega
    by_cases c0:n<0
    · simp [Zcc,Zda,h,Zdw,Zb1,z,c0,Zc9]
    · have n0:n=0:=by omega
      simp [Zcc,Zda,h,Zdw,Zb1,n0,Zc9]
theorem Zq7 (h:l+3 < θ.length):Zcc [.ref (l+2),.int n] (upE θ l e)=.ok (il (e.come.take n.toNat)) (upE θ l { e with come:=e.come.drop n.toNat }):=by
  by_cases c:0<n
  · simp [Zcc,Zda,h,Zdw,Zb1,c,show 0≤n by omega,show ¬n<0 by omega]
  · have z:n.toNat=0:=by omega
    by_cases c0:n<0
    · simp [Zcc,Zda,h,Zdw,Zb1,z,c0,Zc9]
    · have n0:n=0:=by omega
      simp [Zcc,Zda,h,Zdw,Zb1,n0,Zc9]
@[simp] theorem Zq0 (h:l+3 < θ.length):zN [.ref l,s.d,.int now] (upE θ l e)=.ok .non (upE θ l (zC e s now)):=by
  have tk:=fun (e:Zv) (n:Int)=>Zq8 (θ:=θ) (l:=l) (e:=e) (n:=n) h
  have h2:Zax [.val (.ref l),.val s.d,.val (.int now),.val (.int s.ans),.val (.bl (ZbQ s.ans e.una)),.no] (upE θ l e)=.ok (.nx,[.val (.ref l),.val s.d,.val (.int now),.val (.int s.ans),.val (.bl (ZbQ s.ans e.una)),.no]) (upE θ l (Zcq e s now)):=by
    unfold Zcq
    by_cases c1:ZbQ s.ans e.una=true
    · rw [if_pos c1]
      by_cases c2:s.ans=e.nxt
      · rw [if_pos c2,c1]
        simp [Zax,Zb5,h,tk,c2]
      · rw [if_neg c2,c1]
        simp [Zax,Zb5,h,tk,c2]
    · rw [if_neg c1]
      simp [Zax,c1]
  unfold zC
  obtain ⟨e1,he1⟩:∃x,x=Zcq e s now:=⟨_,rfl⟩
  rw [←he1] at h2 ⊢
  obtain ⟨g,hg⟩:∃x,x=ZbQ s.ans e.una:=⟨_,rfl⟩
  rw [←hg] at h2 ⊢
  clear he1
  by_cases c3:ZbQ e1.una s.ans=true
  · simp [zN,Za4,h,←hg,h2,Zaw,c3]
  · have w0:∀x:Zv,(if (g || isNewer e1 s)=true then Zdk e1 s else e1)=x→zN [.ref l,s.d,.int now] (upE θ l e)=.ok .non (upE θ l (if e1.wnd=0∨x.wnd=0 then { x with tries:=0 } else x)):=by
      intro x hx
      have h4:Zbd [.val (.ref l),.val s.d,.val (.int now),.val (.int s.ans),.val (.bl g),.val (.bl (decide (e1.wnd=0)))] (upE θ l e1)=.ok (.nx,[.val (.ref l),.val s.d,.val (.int now),.val (.int s.ans),.val (.bl g),.val (.bl (decide (e1.wnd=0)))]) (upE θ l x):=by
        rw [←hx]
        cases g
        · by_cases c:isNewer e1 s=true<;>simp [Zbd,h,c]
        · simp [Zbd,h]
      by_cases c5:e1.wnd=0
      · rw [if_pos (.inl c5)]
        simp [zN,Za4,h,←hg,h2,Zaw,c3,c5] at h4 ⊢
        simp [h4,Zbc,h]
      · by_cases c6:x.wnd=0
        · rw [if_pos (.inr c6)]
          simp [zN,Za4,h,←hg,h2,Zaw,c3,c5] at h4 ⊢
          simp [h4,Zbc,h,c6]
        · rw [if_neg (by intro z; exact z.elim c5 c6)]
          simp [zN,Za4,h,←hg,h2,Zaw,c3,c5] at h4 ⊢
          simp [h4,Zbc,h,c6]
    simp only [if_neg c3]
    exact w0 _ rfl
@[simp] theorem Zsw (h:l+3 < θ.length):ZT [.ref l,.int now] (upE θ l e)=.ok .non (upE θ l (endAcked e now)):=by
  by_cases c1:ZfB e=true
  · by_cases c2:e.una=e.nxt
    · cases c:e.state<;>simp [ZT,zm,zh,ZaU,ZaT,ZaS,h,c,c1,c2,endAcked]
    · simp [ZT,zm,zh,h,c1,c2,endAcked]
  · simp [ZT,zm,zh,h,c1,endAcked]
@[simp] theorem ZuC (h:l+3 < θ.length):Z1 [.ref l,s.d,.int now] (upE θ l e)=.ok (.bl (Zaq e s now).1) (upE θ l (Zaq e s now).2):=by
  by_cases c1:e.state=.synCome
  · simp [Z1,zE,zw,h,c1,Zaq]
  · by_cases c2:ZbQ s.ans e.nxt=true
    · simp [Z1,zE,zw,z8,h,c1,c2,Zaq]
    · simp [Z1,zE,zw,z8,h,c1,c2,Zaq]
end
end
end My
namespace My
open PySem L2 L2.MM
noncomputable section
theorem Zip (m:EL) (n b:Int):(ZeC m n b).length≤m.length+1:=by
  unfold ZeC
  cases atE m n<;>simp
section
variable {θ:Sto} {l:Nat} {e:Zv} {s:Seg} {now n b:Int}
abbrev keepB:SM:=Zn (ZL 4 (mCB zA (Zc (mOp ixM (Zd 1) (mC (.int 2))) (Zc (Zd 2) Zk)))) Za3
theorem Zrg (h:l+3 < θ.length) (k:Nat) (x:Sl) (he:e.early.length<1000):keepB [.val (.ref l),.val s.d,.val (.int k),.val (.int b),x] (upE θ l e)=.ok (.nx,[.val (.ref l),.val s.d,.val (.int k),.val (.int b),.val (.int (Zu s.num k))]) (upE θ l (if inWin e (Zu s.num k)=true then { e with early:=ZeC e.early (Zu s.num k) b } else e)):=by
  have hd:=fun (e:Zv)=>dk3 (θ:=θ) (l:=l) (e:=e) h
  have hs:=fun (e:Zv) (m:EL)=>Zvg (θ:=θ) (l:=l) (e:=e) h m
  have hB:(e.early.map ed).length<BIG:=by simp [BIG]; omega
  obtain ⟨n,hn⟩:∃n,n=Zu s.num k:=⟨_,rfl⟩
  by_cases c:inWin e n=true
  · unfold ZeC
    cases c2:atE e.early n with
    | some v=>
      simp [Za3,h,←hn,c,hd,hB,Zfx,c2,-List.length_map]
    | none=>
      simp [Za3,h,←hn,c,hd,hB,Zfx,c2,Zrw,hs,-List.length_map,-List.map_append]
  · simp [Za3,h,←hn,c]
theorem Zmd (h:l+3 < θ.length):∀(r:List Int) (k:Nat) (x y z:Sl) (e:Zv),e.early.length+r.length<1000→
    ∃x' y' z',forE 2 3 keepB k (r.map D.int) [.val (.ref l),.val s.d,x,y,z] (upE θ l e)=.ok (.nx,[.val (.ref l),.val s.d,x',y',z']) (upE θ l (keepAll e s.num k r))
  | [],k,x,y,z,e,_=>⟨x,y,z,rfl⟩
  | b::r,k,x,y,z,e,hl=>by
    have hl':e.early.length+r.length+1<1000:=by simpa [Nat.add_assoc] using hl
    show ∃x' y' z',(keepB [.val (.ref l),.val s.d,.val (.int k),.val (.int b),z] (upE θ l e)).bind (Zef (forE 2 3 keepB (k+1) (r.map D.int)))=_
    rw [Zrg h k z (by omega)]
    exact Zmd h r (k+1) _ _ _ _ (by
      split
      · have:=Zip e.early (Zu s.num k) b
        show (ZeC e.early (Zu s.num k) b).length+r.length<1000
        omega
      · omega)
@[simp] theorem ZkE (h:l+3 < θ.length) (hl:e.early.length+s.data.length<1000):ZbS [.ref l,s.d] (upE θ l e)=.ok .non (upE θ l (zX e s)):=by
  obtain ⟨x,y,z,g⟩:=Zmd (s:=s) h s.data 0 .no .no .no e hl
  have h2:ZcL [.val (.ref l),.val s.d,.no,.no,.no] (upE θ l e)=.ok (.nx,[.val (.ref l),.val s.d,x,y,z]) (upE θ l (keepAll e s.num 0 s.data)):=by
    rw [←g]
    simp [ZcL,Zqc]
    rfl
  obtain ⟨e1,he1⟩:∃q,q=keepAll e s.num 0 s.data:=⟨_,rfl⟩
  unfold zX
  rw [←he1] at h2 ⊢
  by_cases c:0<s.data.length
  · rw [if_pos c]
    simp [ZbS,ZdA,h2,ZcK,h,c]
  · rw [if_neg c]
    simp [ZbS,ZdA,h2,ZcK,h,c]
@[simp] theorem Ztt (h:l+3 < θ.length) (e:Zv) (n:Int):zb ["End"] "early_fin" (.int n) (.ref l) (upE θ l e)=some (upE θ l { e with early_fin:=some n }):=ZkN h e (some n)
@[simp] theorem ZuK (r:Option Int):ZcA (Zdv r)=r.isNone:=by cases r<;>rfl
theorem ZkD (h:l+3 < θ.length):ZaQ [.val (.ref l),.val s.d,.val (.int n)] (upE θ l e)=.ok (.nx,[.val (.ref l),.val s.d,.val (.int n)]) (upE θ l (if e.early_fin=none∧inWin e n=true then { e with early_fin:=some n } else e)):=by
  by_cases c2:e.early_fin=none
  · by_cases c3:inWin e n=true
    · rw [if_pos ⟨c2,c3⟩]
      have q:∀f,e.early_fin=f→f=none→ZaQ [.val (.ref l),.val s.d,.val (.int n)] (upE θ l e)=.ok (.nx,[.val (.ref l),.val s.d,.val (.int n)]) (upE θ l { e with early_fin:=some n }):=by
        intro f hf h0
        have h1:e.early_fin.isNone=true:=by rw [hf,h0]; rfl
        simp [ZaQ,h,h1,c3]
      exact q _ rfl c2
    · rw [if_neg fun z=>c3 z.2]
      have h1:e.early_fin.isNone=true:=by rw [c2]; rfl
      simp [ZaQ,h,h1,c3]
  · rw [if_neg fun z=>c2 z.1]
    have h1:e.early_fin.isNone=false:=by cases q:e.early_fin<;>first | exact absurd q c2 | rfl
    simp [ZaQ,h,h1]
@[simp] theorem ZlD (h:l+3 < θ.length):Zcf [.ref l,s.d] (upE θ l e)=.ok .non (upE θ l (Zbs e s)):=by
  unfold Zbs
  by_cases c1:bears s 1=true
  · obtain ⟨n,hn⟩:∃n,n=Zu s.num s.data.length:=⟨_,rfl⟩
    have k2:=ZkD (e:={ e with owes_answer:=true }) (s:=s) (n:=n) h
    rw [←hn,c1]
    simp [Zcf,Zd8,Zdc,h,c1,←hn,k2]
    rfl
  · simp [Zcf,Zd8,Zdc,c1]
@[simp] theorem Zzc (n:Int) (r:Option Int):neM (.int n) (Zdv r) θ=.ok (.bl (!decide (r=some n))) θ:=by
  cases r with
  | none=>rw [Zhh (by exact Zd3 rfl rfl rfl rfl)]; simp [look,Zdv]
  | some m=>simp [Zdv,eq_comm]
@[simp] theorem Zzv (n:Int) (r:Option Int):eqM (.int n) (Zdv r) θ=.ok (.bl (decide (r=some n))) θ:=by
  cases r with
  | none=>rw [Zi7 (by exact Zd3 rfl rfl rfl rfl)]; simp [look,Zdv]
  | some m=>simp [Zdv,eq_comm]
abbrev ZqC:TMr:=Zfc (ZH (mOp neM (ZJ ["End"] "rcv" (Zd 0)) (ZJ ["End"] "early_fin" (Zd 0)))) (ZH (ZlS (ZJ ["End"] "rcv" (Zd 0)) (ZJ ["End"] "early" (Zd 0))))
abbrev ZqD:SM:=Zn (ZdZ 1 (ZmJ (ZJ ["End"] "early" (Zd 0)) (ZJ ["End"] "rcv" (Zd 0))))
    (ZI ["End"] "rcv" (Zd 0) (mCB zA (Zc (ZJ ["End"] "rcv" (Zd 0)) (Zc (mC (.int 1)) Zk))))
theorem Zrk (h:l+3 < θ.length) (x:Sl):ZqC [.val (.ref l),x] (upE θ l e)=.ok (!decide (e.early_fin=some e.rcv) && (atE e.early e.rcv).isSome) (upE θ l e):=by
  have hd:=fun (e:Zv)=>dk3 (θ:=θ) (l:=l) (e:=e) h
  by_cases c:e.early_fin=some e.rcv<;>simp [h,hd,Zfx,c]
theorem Zrl (h:l+3 < θ.length) {b:Int} (xs:List D) (hx:xs.length<BIG) (hv:atE e.early e.rcv=some b):ZqD [.val (.ref l),.own xs] (upE θ l e)=.ok (.nx,[.val (.ref l),.own (xs++[.int b])]) (upE θ l { e with early:=Zb0 e.early e.rcv,rcv:=Zu e.rcv 1 }):=by
  have hd:=fun (e:Zv)=>dk3 (θ:=θ) (l:=l) (e:=e) h
  have hs:=fun (e:Zv) (m:EL)=>Zvg (θ:=θ) (l:=l) (e:=e) h m
  simp [h,hd,Zfx,hv,Zlj,hs,hx]
theorem ZqA {m:EL} {n b:Int} (h:atE m n=some b):(Zb0 m n).length<m.length:=by
  induction m with
  | nil=>simp [atE] at h
  | cons p r ih=>
    unfold Zb0 atE at *
    by_cases e:p.1=n
    · simp [e]
      exact Nat.lt_succ_of_le (List.length_filter_le ..)
    · simp [e] at h ⊢
      have:=ih (by simpa using h)
      simpa using this
theorem Zmg (h:l+3 < θ.length):∀(n:Nat) (e:Zv) (xs:List Int),e.early.length<n→xs.length+n<1000→zY ZqC ZqD n [.val (.ref l),.own (xs.map D.int)] (upE θ l e)=.ok (.nx,[.val (.ref l),.own ((xs++(drawn n e).1).map D.int)]) (upE θ l (drawn n e).2)
  | 0,e,xs,hn,_=>absurd hn (Nat.not_lt_zero _)
  | n+1,e,xs,hn,hx=>by
    rw [ZgU,Zrk h]
    unfold drawn
    by_cases c:e.early_fin=some e.rcv
    · simp [c]
    · cases c2:atE e.early e.rcv with
      | none=>simp [c]
      | some b=>
        have:=Zmg h n { e with early:=Zb0 e.early e.rcv,rcv:=Zu e.rcv 1 } (xs++[b]) (by have:=ZqA c2; simp only; omega) (by simp; omega)
        rw [if_neg c]
        simp only [c,decide_false,Bool.not_false,Bool.true_and,Option.isSome_some,R.bind,if_true]
        rw [Zrl h (xs.map D.int) (by simp [BIG]; omega) c2]
        simp only [R.bind,Zef]
        rw [List.map_append] at this
        simpa [List.append_assoc] using this
theorem Zht:∀(n:Nat) (e:Zv),(drawn n e).2.come=e.come
  | 0,e=>rfl
  | n+1,e=>by
    unfold drawn
    split
    · rfl
    · split
      · rfl
      · exact Zht n _
theorem Zsd {r:List Int} {k:Int} (h:0≤k):((ZbF r none (some k)).length:Int)≤k:=by
  rw [Zdw r h]
  have:=List.length_take_le k.toNat r
  omega
theorem Ztd (h:l+3 < θ.length) (hc:e.come.length≤64) (r:List Int):ZkT [.ref (l+2),il r] (upE θ l e)=.ok (.int (ZbF r none (some (ZW e))).length) (upE θ l (ZfP e r)):=by
  have h1:e.come.length+(ZbF r none (some (ZW e))).length≤100000:=by
    have:=Zsd (r:=r) (k:=ZW e) (by unfold ZW; omega)
    unfold ZW at *
    omega
  simp [ZkT,Zm1,h,ZfP,h1]
def Ze4 (e:Zv):Zv:=ZfP (drawn 200 e).2 (drawn 200 e).1
theorem ZgO (h:l+3 < θ.length) (hc:e.come.length≤64) (he:e.early.length<200):Za0 [.ref l] (upE θ l e)=.ok .non (upE θ l (Ze4 e)):=by
  have g:=Zmg h 200 e [] he (by simp)
  have g1:ZbB [.val (.ref l),.own []] (upE θ l e)=.ok (.nx,[.val (.ref l),.own ((drawn 200 e).1.map D.int)]) (upE θ l (drawn 200 e).2):=by
    have q:ZbB=zY ZqC ZqD 200:=rfl
    rw [q]
    simpa using g
  have hc1:(drawn 200 e).2.come.length≤64:=by rw [Zht]; exact hc
  obtain ⟨e1,he1⟩:∃q,q=(drawn 200 e).2:=⟨_,rfl⟩
  obtain ⟨r1,hr1⟩:∃q,q=(drawn 200 e).1:=⟨_,rfl⟩
  unfold Ze4
  rw [←he1,←hr1] at g1 ⊢
  rw [←he1] at hc1
  have tl:=Ztd (e:=e1) h hc1 r1
  simp [Za0,Zdq,g1,h,tl]
@[simp] theorem Zth (h:l+3 < θ.length):Zcg [.ref l,.int now] (upE θ l e)=.ok .non (upE θ l (Ze2 e now)):=by
  by_cases c1:e.state=.opn
  · simp [Zcg,Zd9,Zde,h,c1,Ze2]
  · by_cases c2:e.state=.waitOne<;>simp [Zcg,Zd9,ZeS,Zde,h,c1,c2,Ze2]
def streamed (e:Zv) (s:Seg):Zv:=Ze4 (Zbs (zX e s) s)
def Zbj (e:Zv) (s:Seg) (now:Int):Zv:=
  if e.state=.opn∨e.state=.waitOne∨e.state=.waitTwo then
    (if (streamed e s).early_fin=some (streamed e s).rcv then Ze2 (streamed e s) now else streamed e s)
  else e
theorem ZgB (num:Int):∀(r:List Int) (k:Nat) (e:Zv),(keepAll e num k r).early.length≤e.early.length+r.length
  | [],k,e=>Nat.le_refl _
  | b::r,k,e=>by
    unfold keepAll
    refine Nat.le_trans (ZgB num r (k+1) _) ?_
    split
    · have:=Zip e.early (Zu num k) b
      simp only [List.length_cons]
      omega
    · simp only [List.length_cons]; omega
theorem ZhV (e:Zv) (s:Seg):(Zbs e s).early=e.early:=by
  unfold Zbs
  split
  · rfl
  · split<;>rfl
theorem Zi2 (e:Zv) (s:Seg):(zX e s).early.length≤e.early.length+s.data.length:=by
  unfold zX
  split<;>exact ZgB ..
theorem ZfQ (num:Int):∀(r:List Int) (k:Nat) (e:Zv),(keepAll e num k r).come=e.come
  | [],k,e=>rfl
  | b::r,k,e=>by
    unfold keepAll
    rw [ZfQ num r (k+1) _]
    split<;>rfl
theorem Zi1 (e:Zv) (s:Seg):(Zbs e s).come=e.come:=by
  unfold Zbs
  split
  · rfl
  · split<;>rfl
theorem ZhW (e:Zv) (s:Seg):(zX e s).come=e.come:=by
  unfold zX
  split<;>exact ZfQ ..
theorem ZhS (h:l+3 < θ.length) (hc:e.come.length≤64) (hl:e.early.length+s.data.length<200):ZaG [.ref l,s.d,.int now] (upE θ l e)=.ok .non (upE θ l (Zbj e s now)):=by
  unfold Zbj
  by_cases c:e.state=.opn∨e.state=.waitOne∨e.state=.waitTwo
  · rw [if_pos c]
    have k1:=ZkE (e:=e) (s:=s) h (by omega)
    have k2:=ZlD (e:=zX e s) (s:=s) h
    have k3:=ZgO (e:=Zbs (zX e s) s) h (by rw [Zi1,ZhW]; exact hc) (by rw [ZhV]; have:=Zi2 e s; omega)
    have k4:Ze4 (Zbs (zX e s) s)=streamed e s:=rfl
    rw [k4] at k3
    obtain ⟨e3,he3⟩:∃q,q=streamed e s:=⟨_,rfl⟩
    rw [←he3] at k3 ⊢
    have c':e.state∈[State.opn,.waitOne,.waitTwo]:=by simpa using c
    by_cases c2:e3.early_fin=some e3.rcv
    · simp [ZaG,ZbJ,Zbb,h,c,k1,k2,k3,Zb4,c2]
    · simp [ZaG,ZbJ,Zbb,h,c,k1,k2,k3,Zb4,c2]
  · rw [if_neg c]
    simp [ZaG,ZbJ,Zbb,h,c]
def Zab (e:Zv) (s:Seg) (now:Int):Zv:=
  if Zfh e s=false then ZdB e s now
  else if bears s 4=true then Ze1 e s
  else if bears s 2=true then { e with owes_answer:=true }
  else if bears s 16=true then (if (Zaq e s now).1=true then Zbj (Zaq e s now).2 s now else (Zaq e s now).2)
  else e
theorem Zi6 (e:Zv) (s:Seg) (now:Int):(Zaq e s now).2.early=e.early:=by
  unfold Zaq
  split
  · unfold ZaE
    split
    · unfold Zbg; split<;>rfl
    · rfl
  · split
    · rfl
    · show (endAcked (zC e s now) now).early=e.early
      have h1:(Zcq e s now).early=e.early:=by
        unfold Zcq
        split
        · split<;>rfl
        · rfl
      have h2:(zC e s now).early=e.early:=by
        unfold zC
        simp only
        split
        · exact h1
        · split
          · split<;>exact h1
          · split<;>exact h1
      unfold endAcked
      split
      · exact h2
      · split
        · exact h2
        · split
          · exact h2
          · split<;>exact h2
theorem Zld (e:Zv) (s:Seg) (now:Int):(Zaq e s now).2.come=e.come:=by
  unfold Zaq
  split
  · unfold ZaE
    split
    · unfold Zbg; split<;>rfl
    · rfl
  · split
    · rfl
    · show (endAcked (zC e s now) now).come=e.come
      have h1:(Zcq e s now).come=e.come:=by
        unfold Zcq
        split
        · split<;>rfl
        · rfl
      have h2:(zC e s now).come=e.come:=by
        unfold zC
        simp only
        split
        · exact h1
        · split
          · split<;>exact h1
          · split<;>exact h1
      unfold endAcked
      split
      · exact h2
      · split
        · exact h2
        · split
          · exact h2
          · split<;>exact h2
theorem Zf9 (h:l+3 < θ.length) (hc:e.come.length≤64) (hl:e.early.length+s.data.length<200):Z9 [.ref l,s.d,.int now] (upE θ l e)=.ok .non (upE θ l (Zab e s now)):=by
  unfold Zab
  by_cases c1:Zfh e s=true
  · by_cases c2:bears s 4=true
    · simp [Z9,zq,ze,zv,h,c1,c2]
    · by_cases c3:bears s 2=true
      · simp [Z9,zq,ze,zv,zS,h,c1,c2,c3]
      · by_cases c4:bears s 16=true
        · have hs:=ZhS (e:=(Zaq e s now).2) (s:=s) (now:=now) h (by rw [Zld]; exact hc) (by rw [Zi6]; exact hl)
          by_cases c5:(Zaq e s now).1=true
          · simp [Z9,zq,ze,zv,zS,ZaB,h,c1,c2,c3,c4,c5,hs]
          · simp [Z9,zq,ze,zv,zS,ZaB,h,c1,c2,c3,c4,c5]
        · simp [Z9,zq,ze,zv,zS,ZaB,h,c1,c2,c3,c4]
  · simp [Z9,zq,ze,h,c1]
theorem ZgP (h:l+3 < θ.length) (hc:e.come.length≤64) {r:List Int} (hb:Byt r) (hr:Zav r=true) (hf:ZeE e (Zby r)=true) (hl:e.early.length+(Zby r).data.length<200) (h1:¬e.state=.closed) (h2:¬e.state=.listen) (h3:¬e.state=.synSent):zG [.ref l,il r,.int now] (upE θ l e)=.ok (.bl true) (upE θ l (Zab e (Zby r) now)):=by
  simp [zG,Zdg,Zb9,Zb8,Zb7,ZcT,Zea,ZcZ hb,hr,Zmf hb hr,h,hf,h1,h2,h3,Zf9 h hc hl]
def comes (e:Zv) (s:Seg) (now:Int):Zv:=
  match e.state with
  | .closed=>Zbg e s
  | .listen=>Zbl e s
  | .synSent=>Zaa e s now
  | _=>Zab e s now
theorem ZcQ (h:l+3 < θ.length) (hc:e.come.length≤64) (hs:s.Ok) (hf:ZeE e s=true) (hl:e.early.length<150):zG [.ref l,il (putL s),.int now] (upE θ l e)=.ok (.bl true) (upE θ l (comes e s now)):=by
  have hb:=Zmp hs.put
  have hr:=Zh9 hs
  have hg:=ZmN hs
  have hd:s.data.length≤16:=hs.data.2
  unfold comes
  cases c:e.state
  · simp only
    rw [ZgR h hb hr (by rw [hg]; exact hf) c,hg]
  · simp only
    rw [ZgQ h hb hr (by rw [hg]; exact hf) c,hg]
  · simp only
    rw [Zga h hb hr (by rw [hg]; exact hf) c,hg]
  all_goals
    simp only
    rw [ZgP h hc hb hr (by rw [hg]; exact hf) (by rw [hg]; omega) (by rw [c]; decide) (by rw [c]; decide) (by rw [c]; decide),hg]
def Zps (e:Zv) (n:Int):Zv:=
  if ZW e=0∧0<ZW { e with come:=e.come.drop n.toNat }∧e.state∈[State.opn,.waitOne,.waitTwo] then { e with come:=e.come.drop n.toNat,owes_answer:=true } else { e with come:=e.come.drop n.toNat }
theorem Zs9 (h:l+3 < θ.length):ZdT [.ref l,.int n] (upE θ l e)=.ok (il (e.come.take n.toNat)) (upE θ l (Zps e n)):=by
  have tk:=Zq7 (θ:=θ) (l:=l) (e:=e) (n:=n) h
  obtain ⟨e1,he1⟩:∃q:Zv,q={ e with come:=e.come.drop n.toNat }:=⟨_,rfl⟩
  obtain ⟨k1,hk1⟩:∃q,q=il (e.come.take n.toNat):=⟨_,rfl⟩
  have s1:e.state=e1.state:=by rw [he1]
  unfold Zps
  have e2:({ e with come:=e.come.drop n.toNat,owes_answer:=true }:Zv)={ e1 with owes_answer:=true }:=by rw [he1]
  rw [e2,←he1,←hk1,s1]
  rw [←he1,←hk1] at tk
  by_cases c1:ZW e=0
  · by_cases c2:0<ZW e1
    · by_cases c3:e1.state∈[State.opn,.waitOne,.waitTwo]
      · have c3':e1.state=State.opn∨e1.state=State.waitOne∨e1.state=State.waitTwo:=by simpa using c3
        simp [ZdT,ZeL,Zdb,h,tk,c1,c2,c3']
      · have c3':¬(e1.state=State.opn∨e1.state=State.waitOne∨e1.state=State.waitTwo):=by simpa using c3
        simp [ZdT,ZeL,Zdb,h,tk,c1,c2,c3']
    · simp [ZdT,ZeL,Zdb,h,tk,c1,c2]
  · simp [ZdT,ZeL,Zdb,h,tk,c1]
end
end
end My
namespace My
open PySem L2 L2.MM
noncomputable section
theorem ZpR {n k:Int} (h : -2147483648≤k∧k<2147483648):zg (Zu n k) n=k:=by
  unfold zg Zu; omega
theorem Zie {n j k:Int} (h : -2147483648≤j-k∧j-k<2147483648):zg (Zu n j) (Zu n k)=j-k:=by
  unfold zg Zu; omega
@[simp] theorem ZkU (n:Int):zg n n=0:=by
  unfold zg; omega
@[simp] theorem Zcb (n:Int):ZbQ n n=false:=by simp [ZbQ]
theorem Zac (n j k:Int):Zu (Zu n j) k=Zu n (j+k):=by
  unfold Zu; omega
theorem Zcp (n k:Int):0≤Zu n k∧Zu n k≤4294967295:=by
  unfold Zu; omega
theorem Znk {n:Int} (h:0≤n∧n≤4294967295):Zu n 0=n:=by
  unfold Zu; omega
theorem ZrF {n k:Int} (h:0<k∧k<4294967296):¬Zu n k=n:=by
  unfold Zu; omega
theorem ZfF {n j k:Int} (h:0≤j∧0≤k∧j<4294967296∧k<4294967296):Zu n j=Zu n k↔j=k:=by
  unfold Zu; omega
def Zer (num:Int):Nat→List Int→EL
  | _,[]=>[]
  | k,b::r=>(Zu num k,b)::Zer num (k+1) r
theorem Zsk (n:Int):atE [] n=none:=rfl
theorem Zbn (p:Int×Int) (m:EL) (n:Int):atE (p::m) n=if p.1=n then some p.2 else atE m n:=by
  unfold atE
  by_cases h:p.1=n<;>simp [h]
theorem Zje (m m':EL) (n:Int) (h:atE m n=none):atE (m++m') n=atE m' n:=by
  induction m with
  | nil=>rfl
  | cons p r ih=>
    rw [Zbn] at h
    rw [List.cons_append,Zbn]
    by_cases e:p.1=n
    · rw [if_pos e] at h; cases h
    · rw [if_neg e] at h ⊢
      exact ih h
theorem Zm6 (num:Int):∀(r:List Int) (k j:Nat),j<k→k+r.length<4294967296→atE (Zer num k r) (Zu num j)=none
  | [],k,j,_,_=>rfl
  | b::r,k,j,h,hl=>by
    have hl':k+r.length+1<4294967296:=by simpa [Nat.add_assoc] using hl
    rw [Zer,Zbn,if_neg (by rw [ZfF (by omega)]; omega)]
    exact Zm6 num r (k+1) j (by omega) (by omega)
theorem Zl1 (m:EL) (n:Int) (h:atE m n=none):Zb0 m n=m:=by
  induction m with
  | nil=>rfl
  | cons p r ih=>
    rw [Zbn] at h
    by_cases e:p.1=n
    · rw [if_pos e] at h; cases h
    · rw [if_neg e] at h
      unfold Zb0 at *
      rw [List.filter_cons_of_pos (by simp [e]),ih h]
theorem ZnC (num b:Int) (r:List Int) (k:Nat) (hl:k+1+r.length<4294967296):Zb0 ((Zu num k,b)::Zer num (k+1) r) (Zu num k)=Zer num (k+1) r:=by
  have:=Zl1 (Zer num (k+1) r) (Zu num k) (Zm6 num r (k+1) k (by omega) hl)
  unfold Zb0 at *
  rw [List.filter_cons_of_neg (by simp),this]
theorem Zhn (num:Int):∀(r:List Int) (k:Nat) (e:Zv),k+r.length<4294967296→(∀i:Nat,k≤i→i<k+r.length→inWin e (Zu num i)=true∧atE e.early (Zu num i)=none)→keepAll e num k r={ e with early:=e.early++Zer num k r }
  | [],k,e,_,_=>by simp [keepAll,Zer]
  | b::r,k,e,hl,h=>by
    have hl':k+r.length+1<4294967296:=by simpa [Nat.add_assoc] using hl
    obtain ⟨h1,h2⟩:=h k (Nat.le_refl _) (by simp)
    unfold keepAll
    rw [if_pos h1]
    have h3:ZeC e.early (Zu num k) b=e.early++[(Zu num k,b)]:=by unfold ZeC; rw [h2]
    rw [h3,Zhn num r (k+1) _ (by omega)]
    · simp [Zer]
    · intro i hi hj
      obtain ⟨g1,g2⟩:=h i (by omega) (by simp; omega)
      refine ⟨g1,?_⟩
      show atE (e.early++[(Zu num k,b)]) (Zu num i)=none
      rw [Zje _ _ _ g2,Zbn,if_neg (by rw [ZfF (by omega)]; omega)]
      rfl
theorem Zlk (num:Int):∀(r:List Int) (k n:Nat) (e:Zv),k+r.length<4294967296→r.length<n→e.rcv=Zu num k→e.early=Zer num k r→(∀i:Nat,k≤i→i<k+r.length→¬e.early_fin=some (Zu num i))→drawn n e=(r,{ e with early:=[],rcv:=Zu num (k+r.length:Nat) })
  | [],k,0,e,_,hn,_,_,_=>by simp at hn
  | [],k,n+1,e,_,_,h1,h2,_=>by
    unfold drawn
    have:atE e.early e.rcv=none:=by rw [h2]; rfl
    have he:e={ e with early:=[],rcv:=Zu num k }:=by
      obtain ⟨_⟩:=e
      simp only [Zer] at h1 h2
      subst h1 h2
      rfl
    split
    · simpa using he
    · rw [this]
      simpa using he
  | b::r,k,0,e,_,hn,_,_,_=>by simp at hn
  | b::r,k,n+1,e,hl,hn,h1,h2,h3=>by
    have hl':k+r.length+1<4294967296:=by simpa [Nat.add_assoc] using hl
    have hn':r.length<n:=by simpa using hn
    unfold drawn
    rw [if_neg (by rw [h1]; exact h3 k (Nat.le_refl _) (by simp))]
    have:atE e.early e.rcv=some b:=by rw [h2,h1,Zer,Zbn]; simp
    rw [this]
    simp only
    have g:=Zlk num r (k+1) n { e with early:=Zb0 e.early e.rcv,rcv:=Zu e.rcv 1 } (by omega) hn' (by show Zu e.rcv 1=_; rw [h1,Zac]; simp) (by show Zb0 e.early e.rcv=_; rw [h2,h1,Zer,ZnC _ _ _ _ (by omega)]) (fun i hi hj=>h3 i (by omega) (by simp; omega))
    rw [g]
    simp [Nat.add_assoc,Nat.add_comm 1]
theorem ZmV {r:List Int} {k:Int} (h:(r.length:Int)≤k):ZbF r none (some k)=r:=by
  rw [Zdw r (by omega)]
  exact List.take_of_length_le (by omega)
theorem ZkH {e:Zv} {s:Seg} (hd:s.data.length≤16) (hn:s.num=e.rcv) (hr:0≤e.rcv∧e.rcv≤4294967295) (he:e.early=[]) (hf:e.early_fin=none) (hw:e.come.length+s.data.length+(if bears s 1=true then 1 else 0)≤64) :
    streamed e s={ e with come:=e.come++s.data,rcv:=Zu e.rcv s.data.length,owes_answer:=e.owes_answer || decide (0<s.data.length) || bears s 1,early_fin:=if bears s 1=true then some (Zu e.rcv s.data.length) else none }:=by
  have w:∀i:Nat,i<s.data.length∨(i=s.data.length∧bears s 1=true)→inWin e (Zu e.rcv i)=true:=by
    intro i hi
    unfold inWin ZW
    rw [ZpR (by omega)]
    have:(i:Int)<64-e.come.length:=by
      rcases hi with hi | ⟨rfl,hi⟩
      · omega
      · rw [if_pos hi] at hw; omega
    simp; omega
  have k1:keepAll e s.num 0 s.data={ e with early:=Zer e.rcv 0 s.data }:=by
    rw [hn,Zhn e.rcv s.data 0 e (by omega) (fun i _ hi=>⟨w i (.inl (by omega)),by rw [he]; rfl⟩),he]
    rfl
  have k2:zX e s={ e with early:=Zer e.rcv 0 s.data,owes_answer:=e.owes_answer || decide (0<s.data.length) }:=by
    unfold zX
    rw [k1]
    by_cases c:0<s.data.length
    · rw [if_pos c]; simp [c]
    · rw [if_neg c]; simp [c]
  obtain ⟨oa,hoa⟩:∃x,x=(e.owes_answer || decide (0<s.data.length)):=⟨_,rfl⟩
  rw [←hoa] at k2 ⊢
  have k3:Zbs (zX e s) s={ e with early:=Zer e.rcv 0 s.data,owes_answer:=oa || bears s 1,early_fin:=if bears s 1=true then some (Zu e.rcv s.data.length) else none }:=by
    rw [k2]
    unfold Zbs
    by_cases c:bears s 1=true
    · have iw:inWin ({ e with early:=Zer e.rcv 0 s.data,owes_answer:=oa }) (Zu s.num s.data.length)=true:=by
        rw [hn]; exact w _ (.inr ⟨rfl,c⟩)
      rw [if_neg (by simp [c]),if_pos ⟨hf,iw⟩,hn]
      simp [c]
    · rw [if_pos (by simpa using c)]
      simp [c,hf]
  unfold streamed Ze4
  rw [k3]
  obtain ⟨bf,hbf⟩:∃x,x=bears s 1:=⟨_,rfl⟩
  rw [←hbf]
  rw [Zlk e.rcv s.data 0 200 _ (by omega) (by omega) (by simpa using (Znk hr).symm) rfl (by
    intro i _ hi
    simp only
    cases bf
    · simp
    · simp only [if_true,Option.some.injEq]
      rw [ZfF (by omega)]
      omega)]
  unfold ZfP
  simp only
  rw [ZmV (by unfold ZW; simp only; split at hw<;>omega)]
  simp [he]
end
end My
namespace My
open PySem L2 L2.MM
noncomputable section
@[simp] theorem ZAe {f:Int} (h0:0≤f) (h1:f≤31):bit f 1=f % 2:=(ZqR ⟨h0,h1⟩).1
@[simp] theorem Zwc {f:Int} (h0:0≤f) (h1:f≤31):bit f 2=f/2 % 2:=(ZqR ⟨h0,h1⟩).2.1
@[simp] theorem ZAd {f:Int} (h0:0≤f) (h1:f≤31):bit f 4=f/4 % 2:=(ZqR ⟨h0,h1⟩).2.2.1
@[simp] theorem Zzy {f:Int} (h0:0≤f) (h1:f≤31):bit f 16=f/16 % 2:=(ZqR ⟨h0,h1⟩).2.2.2.2
@[simp] theorem Zwd {a b c d f w m k:Int} {x:List Int}:bears ⟨a,b,c,d,f,w,m,x⟩ k=decide (bit f k=1):=rfl
@[simp] theorem Zr1 {a b c d f w m:Int} {x:List Int}:ZlT ⟨a,b,c,d,f,w,m,x⟩=x.length+bit f 2+bit f 1:=rfl
def Zpr:Option Seg→List Int
  | none=>[]
  | some s=>putL s
@[simp] theorem Ztx:Zpr none=[]:=rfl
@[simp] theorem Ztw (s:Seg):Zpr (some s)=putL s:=rfl
theorem Zmm {base:Sto} {l:Nat} {e:Zv} {t:Int} {r:Option Seg} {e':Zv} (hl:l+3<base.length) (g:Za2 e t=(r,e')) (hp:∀s,r=some s→s.Put):ZcF [.ref l,.int t] (upE base l e)=.ok (il (Zpr r)) (upE base l e'):=by
  rw [Zs8 hl (by rw [g]; exact hp),g]
  unfold ZiO
  rw [g]
  cases r<;>rfl
theorem Znh {base:Sto} {l:Nat} {e:Zv} {t:Int} {e':Zv} (hl:l+3<base.length) (g:Za2 e t=(none,e')):ZcF [.ref l,.int t] (upE base l e)=.ok (il []) (upE base l e'):=Zmm hl g (fun s h=>by cases h)
theorem Zh7 {base:Sto} {l:Nat} {e:Zv} {t:Int} {e':Zv} {s:Seg} (hl:l+3<base.length) (g:Za2 e t=(some s,e')) (hp:s.Ok):ZcF [.ref l,.int t] (upE base l e)=.ok (il (putL s)) (upE base l e'):=Zmm hl g (fun s h=>by cases h; exact hp.put)
theorem ZtA (s:Seg):putL s≠[]:=fun z=>by
  have:=Zmo (s:=s)
  rw [z] at this
  simp at this
  split at this<;>omega
def synE (a b f g W m:Int):Zv:={ newEnd a b f false with state:=.synCome,rcv:=Zu g 1,wnd:=W,told:=g,told_by:=0,most:=if m=0 then 12 else m }
def Zdl (a b f g W m t:Int):Zv:={ synE a b f g W m with nxt:=Zu f 1,since:=t }
def Zdn (a b f g W m t:Int):Zv:={ newEnd a b f false with state:=.opn,una:=Zu f 1,nxt:=Zu f 1,rcv:=Zu g 1,wnd:=W,told:=Zu g 1,told_by:=Zu f 1,most:=if m=0 then 12 else m,since:=t }
section
variable {a b f g W m t t' x:Int} {ex:List Int} {fl:Int}
theorem ZvH (hf:fl=2∨fl=3):comes (newEnd a x f false) ⟨b,a,g,0,fl,W,m,ex⟩ t=synE a b f g W m:=by
  rcases hf with rfl | rfl<;>simp [comes,newEnd,Zbl,hearSyn,synE]
theorem ZvG:Za2 (synE a b f g W m) t=(some ⟨a,b,f,Zu g 1,18,64,16,[]⟩,Zdl a b f g W m t):=by
  simp [Za2,Zcr,zJ,Zfp,newEnd,ZfH,zH,synE,Zdl]
theorem ZvF:comes (Zdl a b f g W m t) ⟨b,a,Zu g 1,Zu f 1,16,W,0,[]⟩ t'=Zdn a b f g W m t:=by
  have h2:¬Zu f 1=f:=ZrF (by omega)
  have ft:Zfh (Zdl a b f g W m t) ⟨b,a,Zu g 1,Zu f 1,16,W,0,[]⟩=true:=by
    simp [Zfh,Zdl,synE,newEnd]
  have go:Zaq (Zdl a b f g W m t) ⟨b,a,Zu g 1,Zu f 1,16,W,0,[]⟩ t'=(true,Zdn a b f g W m t):=by
    simp [Zaq,ZaE,Zdl,synE,newEnd,h2,Zdk,Zdn]
  have st:streamed (Zdn a b f g W m t) ⟨b,a,Zu g 1,Zu f 1,16,W,0,[]⟩=Zdn a b f g W m t:=by
    rw [ZkH (by simp) rfl (Zcp _ _) rfl rfl (by simp [Zdn,newEnd])]
    simp [Zdn,newEnd,Zac]
  have hs:Zbj (Zdn a b f g W m t) ⟨b,a,Zu g 1,Zu f 1,16,W,0,[]⟩ t'=Zdn a b f g W m t:=by
    unfold Zbj
    rw [st]
    simp [Zdn,newEnd]
  have:comes (Zdl a b f g W m t) ⟨b,a,Zu g 1,Zu f 1,16,W,0,[]⟩ t'=Zab (Zdl a b f g W m t) ⟨b,a,Zu g 1,Zu f 1,16,W,0,[]⟩ t':=rfl
  rw [this]
  unfold Zab
  rw [ft,go,hs]
  simp
end
section
variable {θ:Sto} {l:Nat} {e:Zv} {s:Seg} {now n:Int}
theorem Zlo (θ:Sto) (e e':Zv):upE (θ++cells θ.length e) θ.length e'=θ++cells θ.length e':=by
  have h0:∀(i:Nat) (c:Cell) (r:Sto),(θ++r).set (θ.length+i) c=θ++r.set i c:=by
    intro i c r
    rw [List.set_append_right _ _ (by omega)]
    congr 2
    omega
  have h1:∀(c:Cell) (r:Sto),(θ++r).set θ.length c=θ++r.set 0 c:=fun c r=>h0 0 c r
  unfold upE cells
  rw [h1,h0,h0,h0]
  rfl
theorem Zha {a b n k f w:Int} {x:List Int} (θ:Sto):ZaP [.tup [.int a,.int b],.int n,.int k,.int f,.int w,il x] θ=.ok (Seg.mk b a n k f w 0 x).d θ:=by
  simp [ZaP,ZgJ,ZsC]
theorem Zid {a b n k f w m:Int} {x:List Int} (ha:0≤a∧a≤65535) (hb:0≤b∧b≤65535) (hn:0≤n∧n≤4294967295) (hk:0≤k∧k≤4294967295) (hf:0≤f∧f≤31) (hw:0≤w∧w≤65535) (hm:m=0∨(4≤m∧m≤65535∧f/2 % 2=1)) (hx:(∀z∈x,0≤z∧z≤255)∧x.length≤16):(Seg.mk a b n k f w m x).Ok:=⟨ha,hb,hn,hk,hf,hw,hm,hx⟩
theorem ZgW:(∀z∈([]:List Int),0≤z∧z≤255)∧([]:List Int).length≤16:=⟨by simp,by simp⟩
theorem Zlh {n:Int} (h:0≤n∧n≤4294967295):0≤Zbt n∧Zbt n≤4294967295:=by
  unfold Zbt
  split<;>omega
theorem Zna {ns:List Int} {base W m:Int} (θ:Sto) (hW:0≤W∧W≤65535) (hm:m=0∨(4≤m∧m≤65535)) :
    Zc8 [.scr ns,.int base,.int W,.int m] θ=.ok (.tup [.ref θ.length,.tup [.int (mix ns base % 65536),.int (mix ns (base+1) % 65536)],.int (Zu (Zbt (mix ns (base+2))) 1),.int (Zu (Zbt (mix ns (base+3))) 1)])
      (θ++cells θ.length (Zdn (mix ns base % 65536) (mix ns (base+1) % 65536) (Zbt (mix ns (base+2))) (Zbt (mix ns (base+3))) W m 0)):=by
  obtain ⟨a,ha⟩:∃x,x=mix ns base % 65536:=⟨_,rfl⟩
  obtain ⟨b,hb⟩:∃x,x=mix ns (base+1) % 65536:=⟨_,rfl⟩
  obtain ⟨f,hf⟩:∃x,x=Zbt (mix ns (base+2)):=⟨_,rfl⟩
  obtain ⟨g,hg⟩:∃x,x=Zbt (mix ns (base+3)):=⟨_,rfl⟩
  have ra:0≤a∧a≤65535:=by omega
  have rb:0≤b∧b≤65535:=by omega
  have rf:0≤f∧f≤4294967295:=by rw [hf]; exact Zlh (by have:=Zp4 ns (base+2); omega)
  have rg:0≤g∧g≤4294967295:=by rw [hg]; exact Zlh (by have:=Zp4 ns (base+3); omega)
  rw [←ha,←hb,←hf,←hg]
  have k1:(Seg.mk b a g 0 2 W m []).Ok:=Zid rb ra rg (by omega) (by omega) hW (hm.imp id fun h=>⟨h.1,h.2,by decide⟩) ZgW
  have k2:(Seg.mk a b f (Zu g 1) 18 64 16 []).Ok:=Zid ra rb rf (Zcp _ _) (by omega) (by omega) (.inr (by decide)) ZgW
  have k3:(Seg.mk b a (Zu g 1) (Zu f 1) 16 W 0 []).Ok:=Zid rb ra (Zcp _ _) (Zcp _ _) (by omega) hW (.inl rfl) ZgW
  have hl:θ.length+3<(θ++cells θ.length (newEnd a 7 f false)).length:=by simp [cells]
  have q1:=Zph (a:=a) (b:=7) (c:=f) (act:=false) θ
  have q2:=ZcQ (e:=newEnd a 7 f false) (now:=0) hl (by simp [newEnd]) k1 (by simp [ZeE,newEnd]) (by simp [newEnd])
  have q3:=Zh7 hl (ZvG (a:=a) (b:=b) (f:=f) (g:=g) (W:=W) (m:=m) (t:=0)) k2
  have q4:=ZcQ (e:=Zdl a b f g W m 0) (now:=0) hl (by simp [Zdl,synE,newEnd]) k3 (by simp [ZeE,newEnd,Zdl,synE]) (by simp [newEnd,Zdl,synE])
  rw [ZvH (.inl rfl)] at q2
  rw [ZvF] at q4
  rw [Zlo,Zlo] at q2 q3 q4
  have b1:=fun θ=>Zfy k1 θ
  have b3:=fun θ=>Zfy k3 θ
  obtain ⟨e1,he1⟩:∃x,x=newEnd a 7 f false:=⟨_,rfl⟩
  obtain ⟨e2,he2⟩:∃x,x=synE a b f g W m:=⟨_,rfl⟩
  obtain ⟨e3,he3⟩:∃x,x=Zdl a b f g W m 0:=⟨_,rfl⟩
  obtain ⟨e4,he4⟩:∃x,x=Zdn a b f g W m 0:=⟨_,rfl⟩
  rw [←he1] at q1 q2
  rw [←he2] at q2 q3
  rw [←he3] at q3 q4
  rw [←he4] at q4 ⊢
  simp [Zc8,ZhI,←ha,←hb,←hf,←hg,ZiP,b1,b3,q1,q2,q3,q4]
end
end
end My
namespace My
open PySem L2 L2.MM
noncomputable section
theorem ZrR (x y z:Int) (θ:Sto):ZdV (.int x) (.tup [.int y,.int z]) θ=.ok (.bl (!decide (x=y∨x=z))) θ:=by
  have e:inD θ (.int x) (.tup [.int y,.int z])=some (decide (y=x) || (decide (z=x) || false)):=rfl
  have e2:(decide (y=x) || (decide (z=x) || false))=decide (x=y∨x=z):=by
    rw [Bool.eq_iff_iff]
    simp only [Bool.or_eq_true,decide_eq_true_eq,Bool.false_eq_true,or_false]
    constructor
    · rintro (h | h)
      · exact .inl h.symm
      · exact .inr h.symm
    · rintro (h | h)
      · exact .inl h.symm
      · exact .inr h.symm
  unfold ZdV
  rw [e,e2]
theorem Zrf {z:Int} (h:0≤z∧z≤255) (θ:Sto):Zgn [.int z] θ=.ok (.bl true) θ:=by
  have h1:ZgD [.int z,.ty "int"] θ=.ok (.bl true) θ:=rfl
  have h2:ZgD [.int z,.ty "bool"] θ=.ok (.bl false) θ:=rfl
  simp [Zgn,Zlz,h1,h2,h.1,h.2]
theorem Zsf {α:Type} (xs:List α):Zjb (xs.map fun _=>D.bl true)=some (List.replicate xs.length true):=by
  induction xs with
  | nil=>rfl
  | cons x xs ih=>rw [List.map_cons,Zjb,ih]; rfl
theorem ZqU (n:Nat):(List.replicate n true).all id=true:=by
  induction n with
  | zero=>rfl
  | succ n ih=>rw [List.replicate_succ,List.all_cons,ih]; rfl
theorem Zrc {a:List Int} (h:Byt a) (hr:Zav a=true) (θ:Sto):Zgk [il a] θ=.ok (Zby a).d θ:=by
  obtain ⟨l1,l2,l3,l4⟩:=ZgC hr
  have hr':=hr
  unfold Zav at hr'
  simp only [Bool.and_eq_true,decide_eq_true_eq,Bool.or_eq_true] at hr'
  obtain ⟨r1,r2,r3,r4,r5,r6,r7⟩:=hr'
  have gg:∀i:Nat,i<a.length→0≤gt a i∧gt a i≤255:=fun i hi=>by
    unfold gt
    have:=h.1 a[i] (List.getElem_mem hi)
    rw [List.getD_eq_getElem?_getD,List.getElem?_eq_getElem hi]
    exact this
  have b13:=gg 13 (by omega)
  have b18:=gg 18 (by omega)
  have b19:=gg 19 (by omega)
  have ix:∀i:Nat,i<a.length→ixM (il a) (.int (i:Int)) θ=.ok (.int (gt a i)) θ:=fun i hi=>Zbi (a:=a) (θ:=θ) (i:=(i:Int)) (by omega) (by omega)
  have i12:ixM (il a) (.int 12) θ=.ok (.int (gt a 12)) θ:=ix 12 (by omega)
  have i13:ixM (il a) (.int 13) θ=.ok (.int (gt a 13)) θ:=ix 13 (by omega)
  have i18:ixM (il a) (.int 18) θ=.ok (.int (gt a 18)) θ:=ix 18 (by omega)
  have i19:ixM (il a) (.int 19) θ=.ok (.int (gt a 19)) θ:=ix 19 (by omega)
  have z5:gt a 18+gt a 19=0:=by unfold at2 at r5; simp only [Nat.reduceAdd] at r5; omega
  have len20:¬(a.length:Int)<20:=by omega
  have R1:∀r,b_l_read_1 (.val (il a)::r) θ=.ok (.nx,.val (il a)::r) θ:=by
    intro r
    simp [b_l_read_1,isT,len20]
  have R2:∀r,b_l_read_2 (.val (il a)::r) θ=.ok (.nx,.val (il a)::r) θ:=by
    intro r
    have cp:=Znr (ρ:=.val (il a)::r) (θ:=θ) (fi:=mIn (Zd 0)) (src:=[]) (elt:=mCB Zgn (Zc (Zd 0) Zk)) (d:=il a) (xs:=a.map D.int) (θ':=θ) (fun _=>.bl true) (by simp) rfl (by have:=h.2; simp [BIG]; omega) (by
      intro x hx
      obtain ⟨z,hz,rfl⟩:=List.mem_map.mp hx
      simp [Zrf (h.1 z hz)])
    have al:ZqV [D.lst ((a.map D.int).map fun _=>D.bl true)] θ=.ok (.bl true) θ:=by
      rw [ZuZ,Zsf]
      simp only [ZqU]
    obtain ⟨q,hq⟩:∃x,x=D.lst ((a.map D.int).map fun _=>D.bl true):=⟨_,rfl⟩
    rw [←hq] at cp al
    simp [b_l_read_2,cp,al]
  have hb:Zbk a=gt a 12/4:=by unfold Zbk; rcases r2 with e | e<;>rw [e]<;>rfl
  have q4:gt a 12/4≤a.length∧(a.length:Int)≤gt a 12/4+16:=by rw [←hb]; omega
  have R3:∀r,b_l_read_3 (.val (il a)::r) θ=.ok (.nx,.val (il a)::r) θ:=by
    intro r
    simp [b_l_read_3,i12,i13,i18,i19,ZrR,r2,z5,show ¬(31:Int)<gt a 13 by omega]
  have fo:=Zh0 h θ
  rw [r7] at fo
  have R4:∀r,b_l_read_4 (.val (il a)::.val (.int (gt a 12/4))::r) θ=.ok (.nx,.val (il a)::.val (.int (gt a 12/4))::r) θ:=by
    intro r
    simp [b_l_read_4,fo,q4.1,q4.2]
  obtain ⟨hd,hhd⟩:∃x,x=gt a 12/4:=⟨_,rfl⟩
  rw [←hhd] at R4 hb q4
  have R6:∀x y,b_l_read_6 [.val (il a),.val (.int hd),.val (.int 0),x,y] θ=.ok (.nx,[.val (il a),.val (.int hd),.val (.int (if Zbk a=24 then at2 a 22 else 0)),x,y]) θ:=by
    intro x y
    by_cases c:hd=24
    · have lo:=(l2.resolve_left (by rw [hb,c]; decide)).2
      have i20:gt a 20=2∧gt a 21=4∧gt a 13/2 % 2=1∧4≤at2 a 22:=by
        have:=lo.2
        unfold longOk at this
        simp only [Bool.and_eq_true,decide_eq_true_eq] at this
        obtain ⟨t1,t2,t3,t4⟩:=this
        rw [Zwc (by omega) (by omega)] at t1
        exact ⟨t2,t3,t1,t4⟩
      obtain ⟨e20,e21,e13,e22⟩:=i20
      have i22:ixM (il a) (.int 22) θ=.ok (.int (gt a 22)) θ:=ix 22 (by omega)
      have i23:ixM (il a) (.int 23) θ=.ok (.int (gt a 23)) θ:=ix 23 (by omega)
      have cu:ZbF a (some 20) (some 22)=[2,4]:=by
        have:ZbF a (some 20) (some 22)=[gt a 20,gt a 21]:=by
          rw [ZmU _ (by decide) (by decide),show (20:Int).toNat=20 from rfl,show (22:Int).toNat-20=2 from rfl,List.drop_eq_getElem_cons (show 20<a.length by omega),List.drop_eq_getElem_cons (show 21<a.length by omega)]
          rw [List.take_succ_cons,List.take_succ_cons,List.take_zero]
          unfold gt
          rw [List.getD_eq_getElem?_getD,List.getD_eq_getElem?_getD,List.getElem?_eq_getElem (show 20<a.length by omega),List.getElem?_eq_getElem (show 21<a.length by omega)]
          rfl
        rw [this,e20,e21]
      have m22:gt a 22*256+gt a 23=at2 a 22:=by unfold at2; simp only [Nat.reduceAdd]; omega
      have mb:ZeY (gt a 22) 256:=.inr (by omega)
      rw [hb,if_pos c]
      simp [b_l_read_6,ZhH,c,i22,i23,i13,e13,cu,m22,mb,show ¬at2 a 22<4 by omega]
    · rw [hb,if_neg c]
      simp [b_l_read_6,c]
  have cp:=fun y z=>Zin (ρ:=[.val (il a),.val (.int hd),.val (.int (if Zbk a=24 then at2 a 22 else 0)),y,z]) (θ:=θ) (fi:=Zcy (Zc (mC (.int 8)) Zk)) (src:=[0])
    (elt:=mOp ZN (mOp Zc6 (mC (.int 256)) (mOp ixM (Zd 1) (mOp Zc6 (mC (.int 2)) (Zd 0)))) (mOp ixM (Zd 1) (mOp ZN (mOp Zc6 (mC (.int 2)) (Zd 0)) (mC (.int 1))))) (lo:=0) (n:=8) (θ':=θ) (fun k=>.int (256*gt a (2*k).toNat+gt a (2*k+1).toNat))
    (by simp) (by simp [BIG]) (by
      intro i hi
      have j1:=Zbi (a:=a) (θ:=θ) (i:=2*(i:Int)) (by omega) (by omega)
      have j2:=Zbi (a:=a) (θ:=θ) (i:=2*(i:Int)+1) (by omega) (by omega)
      simp [ZeY,j1,j2])
  have wl:(List.range 8).map (fun (i:Nat)=>D.int (256*gt a (2*((0:Int)+(i:Int))).toNat+gt a (2*((0:Int)+(i:Int))+1).toNat))=[.int (at2 a 0),.int (at2 a 2),.int (at2 a 4),.int (at2 a 6),.int (at2 a 8),.int (at2 a 10),.int (at2 a 12),.int (at2 a 14)]:=rfl
  have dr:ZbF a (some hd) none=a.drop hd.toNat:=Zb1 a (by omega)
  have c4:at2 a 4*65536+at2 a 6=at4 a 4:=by unfold at4; simp only [Nat.reduceAdd]; omega
  have c8:at2 a 8*65536+at2 a 10=at4 a 8:=by unfold at4; simp only [Nat.reduceAdd]; omega
  obtain ⟨most,hmo⟩:∃x,x=if Zbk a=24 then at2 a 22 else 0:=⟨_,rfl⟩
  rw [←hmo] at R6 cp
  unfold Zby
  rw [←hmo,hb]
  obtain ⟨W,hW⟩:∃x,x=(List.range 8).map (fun (i:Nat)=>D.int (256*gt a (2*((0:Int)+(i:Int))).toNat+gt a (2*((0:Int)+(i:Int))+1).toNat)):=⟨_,rfl⟩
  rw [←hW] at wl
  simp only [←hW] at cp
  have w0:ixM (.lst W) (.int 0) θ=.ok (.int (at2 a 0)) θ:=by rw [wl]; rfl
  have w1:ixM (.lst W) (.int 1) θ=.ok (.int (at2 a 2)) θ:=by rw [wl]; rfl
  have w2:ixM (.lst W) (.int 2) θ=.ok (.int (at2 a 4)) θ:=by rw [wl]; rfl
  have w3:ixM (.lst W) (.int 3) θ=.ok (.int (at2 a 6)) θ:=by rw [wl]; rfl
  have w4:ixM (.lst W) (.int 4) θ=.ok (.int (at2 a 8)) θ:=by rw [wl]; rfl
  have w5:ixM (.lst W) (.int 5) θ=.ok (.int (at2 a 10)) θ:=by rw [wl]; rfl
  have w7:ixM (.lst W) (.int 7) θ=.ok (.int (at2 a 14)) θ:=by rw [wl]; rfl
  obtain ⟨wd,hwd⟩:∃x,x=D.lst W:=⟨_,rfl⟩
  rw [←hwd] at w0 w1 w2 w3 w4 w5 w7
  simp only [←hwd] at cp
  have mb:∀x:Int,ZeY x 65536:=fun x=>.inr (by omega)
  simp [Zgk,Zlw,R1,R2,i12,R3,←hhd,R4,R6,cp,w0,w1,w2,w3,w4,w5,w7,mb,i13,dr,c4,c8,Seg.d]
end
end My
namespace My
open PySem L2 L2.MM
noncomputable section
inductive Zf6 (t:Int):Zv→List Seg→Zv→Prop
  | nil {e e':Zv} (h:Za2 e t=(none,e')):Zf6 t e [] e'
  | cons {e e1 e':Zv} {s:Seg} {r:List Seg} (h:Za2 e t=(some s,e1)) (hs:s.Ok) (hr:Zf6 t e1 r e'):Zf6 t e (s::r) e'
section
variable {θ:Sto} {l:Nat} {t:Int}
abbrev Zue:SM:=Zn (ZL 4 (mCB ZcF (Zc (Zd 0) (Zc (Zd 1) Zk)))) (Zn Zdt (ZdZ 2 (mCB Zgk (Zc (Zd 4) Zk))))
theorem Ztl (h:l+3 < θ.length) {e e':Zv} (g:Za2 e t=(none,e')) (acc:List D) (x y:Sl):Zue [.val (.ref l),.val (.int t),.own acc,x,y] (upE θ l e)=.ok (.rt (.lst acc),[.val (.ref l),.val (.int t),.val (.lst acc),x,.val (il [])]) (upE θ l e'):=by
  simp [Znh h g,Zdt,Zc9]
theorem Ztk (h:l+3 < θ.length) {e e':Zv} {s:Seg} (g:Za2 e t=(some s,e')) (hs:s.Ok) (acc:List D) (ha:acc.length<BIG) (x y:Sl):Zue [.val (.ref l),.val (.int t),.own acc,x,y] (upE θ l e)=.ok (.nx,[.val (.ref l),.val (.int t),.own (acc++[s.d]),x,.val (il (putL s))]) (upE θ l e'):=by
  have lr:=Zrc (Zmp hs.put) (Zh9 hs) (upE θ l e')
  rw [ZmN hs] at lr
  simp [Zh7 h g hs,Zdt,Zc9,ZtA,lr,ha]
theorem Ztj (h:l+3 < θ.length) {e e':Zv} {segs:List Seg} (g:Zf6 t e segs e'):∀(xs:List D) (acc:List D) (x y:Sl),segs.length<xs.length→acc.length+segs.length<1000→
    ∃ρ,Zd2 (.rng 0 40) ((List.range 40).map fun (i:Nat)=>D.int (0+(i:Int))) (gNm 3) Zue xs [.val (.ref l),.val (.int t),.own acc,x,y] (upE θ l e)=.ok (.rt (.lst (acc++segs.map Seg.d)),ρ) (upE θ l e'):=by
  induction g with
  | nil g=>
    intro xs acc x y hx ha
    match xs,hx with
    | d::xs,_=>
      refine ⟨[.val (.ref l),.val (.int t),.val (.lst acc),.val d,.val (il [])],?_⟩
      simp only [Zd2,ZcU,if_true]
      have:gNm 3 d [.val (.ref l),.val (.int t),.own acc,x,y]=some [.val (.ref l),.val (.int t),.own acc,.val d,y]:=rfl
      rw [this]
      simp only
      rw [Ztl h g]
      simp [Zef,R.bind]
  | cons g hs _ ih=>
    intro xs acc x y hx ha
    match xs,hx with
    | d::xs,hx=>
      obtain ⟨ρ,q⟩:=ih xs (acc++[Seg.d _]) (.val d) (.val (il (putL _))) (by simpa using hx) (by simp at ha ⊢; omega)
      refine ⟨ρ,?_⟩
      simp only [Zd2,ZcU,if_true]
      have:gNm 3 d [.val (.ref l),.val (.int t),.own acc,x,y]=some [.val (.ref l),.val (.int t),.own acc,.val d,y]:=rfl
      rw [this]
      simp only
      rw [Ztk h g hs acc (by simp [BIG] at ha ⊢; omega)]
      simp only [R.bind,Zef]
      rw [q]
      simp
theorem ZiK (h:l+3 < θ.length) {e e':Zv} {segs:List Seg} (g:Zf6 t e segs e') (hl:segs.length<40):Zd1 [.ref l,.int t] (upE θ l e)=.ok (.lst (segs.map Seg.d)) (upE θ l e'):=by
  obtain ⟨ρ,q⟩:=Ztj h g ((List.range 40).map fun (i:Nat)=>D.int (0+(i:Int))) [] .no .no (by simpa using hl) (by simp; omega)
  have q2:ZeV [.val (.ref l),.val (.int t),.own [],.no,.no] (upE θ l e)=.ok (.rt (.lst (segs.map Seg.d)),ρ) (upE θ l e'):=by
    rw [List.nil_append] at q
    rw [←q]
    simp [ZeV,ZgS]
  simp [Zd1,ZiH,q2]
end
end
end My
namespace My
open PySem L2 L2.MM
noncomputable section
theorem Zlm {nE:EM} {src:List Nat} {elt:EM} {ρ:List Sl} {θ:Sto} {j:Int} (F:Nat→Int) (hn:nE ρ θ=.ok (.int j) θ) (h0:0≤j) (h1:j≤1000) (he:∀i:Nat,i<j.toNat→elt (ZeG src ρ (.int (i:Int))) θ=.ok (.int (F i)) θ) :
    ZcP (Zcy (Zc nE Zk)) src elt ρ θ=.ok (il ((List.range j.toNat).map F)) θ:=by
  have:=Zin (ρ:=ρ) (θ:=θ) (fi:=Zcy (Zc nE Zk)) (src:=src) (elt:=elt) (lo:=0) (n:=j.toNat) (θ':=θ) (fun k=>.int (F k.toNat)) (by simp [hn]; omega) (by simp [BIG]; omega) (by
    intro i hi
    simpa using he i hi)
  rw [this]
  simp [il]
end
end My
namespace My
open PySem L2 L2.MM
noncomputable section
structure Q where
  st:State
  una:Int
  nxt:Int
  beh:Int
  rcv:Int
  told:Int
  by_:Int
  wnd:Int
  most:Int
  written:List Int
  come:List Int
  fin:Option Int
  cl:Bool
  oa:Bool
  pr:Bool
  since:Int
  wait:Int
  tries:Int
def qE (a b f g:Int) (q:Q):Zv:=⟨a,b,q.st,.none,f,Zu f q.una,Zu f q.nxt,Zu g q.rcv,q.wnd,Zu g q.told,Zu f q.by_,q.most,q.written,q.come,[],q.fin.map (Zu g ·),q.cl,Zu f q.beh,none,false,q.oa,q.pr,q.since,q.wait,q.tries⟩
def q0 (W m:Int) (t:Int):Q:=⟨.opn,1,1,1,1,1,1,W,if m=0 then 12 else m,[],[],none,false,false,false,t,1000,0⟩
theorem ZtT (a b f g W m t:Int):Zdn a b f g W m t=qE a b f g (q0 W m t):=rfl
theorem ZrG (n:Nat) (xs:List Int):pls n (xs.map D.int)=true:=by
  induction xs with
  | nil=>simp [pls]
  | cons x r ih=>simp [pls,ih,pl]
theorem Zp0 (xs:List Int):Zeo (xs.map D.int)=true:=by
  induction xs with
  | nil=>simp [Zeo]
  | cons x r ih=>simp [Zeo,ih,noB]
theorem ZtG (n:Nat) (s:Seg):pl (n+2) s.d=true:=by
  unfold Seg.d
  simp only [pl,pls,pl,Bool.true_and,Bool.and_true]
  unfold itp
  simp only [pl]
  exact ZrG _ _
theorem ZrS (s:Seg):noB s.d=true:=by
  unfold Seg.d
  simp only [noB,Zeo,Bool.true_and,Bool.and_true]
  unfold itp
  simp only [noB]
  exact Zp0 _
theorem ZkQ (n:Nat) (r:List Seg):pls (n+2) (r.map Seg.d)=true:=by
  induction r with
  | nil=>simp [pls]
  | cons s r ih=>simp [pls,ih,ZtG]
theorem Zih (r:List Seg):Zeo (r.map Seg.d)=true:=by
  induction r with
  | nil=>simp [Zeo]
  | cons s r ih=>simp [Zeo,ih,ZrS]
theorem Zrp {s t:Seg} (h:s.d=t.d):s=t:=by
  obtain ⟨⟩:=s
  obtain ⟨⟩:=t
  unfold Seg.d itp at h
  simp only [D.tup.injEq,List.cons.injEq,D.int.injEq,and_true] at h
  obtain ⟨h1,h2,h3,h4,h5,h6,h7,h8⟩:=h
  have:∀xs ys:List Int,xs.map D.int=ys.map D.int→xs=ys:=by
    intro xs
    induction xs with
    | nil=>intro ys hy; cases ys with
      | nil=>rfl
      | cons _ _=>simp at hy
    | cons x xs ih=>intro ys hy; cases ys with
      | nil=>simp at hy
      | cons y ys=>
        simp only [List.map_cons,List.cons.injEq,D.int.injEq] at hy
        rw [hy.1,ih ys hy.2]
  have:=this _ _ h8
  subst h1 h2 h3 h4 h5 h6 h7 this
  rfl
open Classical in
theorem ZmE (x y:List Seg) (θ:Sto):neM (.lst (x.map Seg.d)) (.lst (y.map Seg.d)) θ=.ok (.bl (!decide (x=y))) θ:=by
  rw [Zhh (Zd3 (by simpa [pl,look] using ZkQ 6 x) (by simpa [pl,look] using ZkQ 6 y) (by simpa [noB,look] using Zih x) (by simpa [noB,look] using Zih y))]
  congr 3
  simp only [look,D.lst.injEq]
  have:∀x y:List Seg,x.map Seg.d=y.map Seg.d↔x=y:=by
    intro x
    induction x with
    | nil=>intro y; cases y<;>simp
    | cons s x ih=>intro y; cases y with
      | nil=>simp
      | cons t y=>
        simp only [List.map_cons,List.cons.injEq,ih]
        exact ⟨fun h=>⟨Zrp h.1,h.2⟩,fun h=>⟨by rw [h.1],h.2⟩⟩
  exact decide_eq_decide.mpr (this x y)
end
end My
namespace My
open PySem L2 L2.MM
noncomputable section
section
variable {e:Zv} {t:Int}
structure Calm (e:Zv) (t:Int):Prop where
  rst:e.owed_reset=none
  st:e.state∉[State.closed,.listen,.synSent,.synCome]
  tw:e.state=.timeWait→t-e.since<120000
  due:¬e.nxt=e.una→t-e.since<e.wait
theorem Calm.go (c:Calm e t):Za2 e t=Zcr e t:=by
  have hs:=c.st
  simp only [List.mem_cons,List.not_mem_nil,or_false,not_or] at hs
  have h1:¬(e.state=.timeWait∧120000≤t-e.since):=fun h=>by have:=c.tw h.1; omega
  have h2:¬(e.state=.closed∨e.state=.listen):=fun h=>h.elim hs.1 hs.2.1
  have h3:¬(¬e.nxt=e.una∧ZdJ e t=true):=fun h=>by
    have:=c.due h.1
    have h2:=h.2
    unfold ZdJ at h2
    simp at h2
    omega
  unfold Za2
  rw [c.rst]
  simp only [if_neg h1]
  rw [if_neg h2,if_neg h3]
theorem Calm.notSyn (c:Calm e t):¬(e.state=.synSent∨e.state=.synCome):=by
  have hs:=c.st
  simp only [List.mem_cons,List.not_mem_nil,or_false,not_or] at hs
  exact fun h=>h.elim hs.2.2.1 hs.2.2.2
theorem Calm.quiet (c:Calm e t) (hm:hasMore e=false∨(¬e.nxt=e.una∧e.wnd-zg e.nxt e.una≤0)) (hp:e.probes=false):Za2 e t=z9 e:=by
  have a1:zJ e t=(none,e):=by
    unfold zJ
    rw [if_neg c.notSyn,if_pos (hm.elim .inr fun h=>.inl h.2)]
  have a2:zl e t=(none,e):=by
    unfold zl
    rw [if_pos (hm.elim (fun h=>.inr (.inr h)) fun h=>.inl h.1)]
    obtain ⟨⟩:=e
    simp only at hp
    subst hp
    rfl
  rw [c.go]
  unfold Zcr
  rw [a1]
  simp only [a2]
theorem Zle (c:Calm e t) (hm:hasMore e=false∨(¬e.nxt=e.una∧e.wnd-zg e.nxt e.una≤0)) (hp:e.probes=false) (ho:e.owes_answer=false):Za2 e t=(none,e):=by
  rw [c.quiet hm hp]
  simp [z9,ho]
theorem Zit (c:Calm e t) (hm:hasMore e=false∨(¬e.nxt=e.una∧e.wnd-zg e.nxt e.una≤0)) (hp:e.probes=false) (ho:e.owes_answer=true):Za2 e t=(some (ZbP e e.nxt 0 []),{ e with owes_answer:=false }):=by
  rw [c.quiet hm hp]
  simp [z9,ho]
end
section
variable {e:Zv} {s:Seg} {t:Int}
theorem Zse (hs:e.state∉[State.closed,.listen,.synSent]) (hf:Zfh e s=true) (h4:bears s 4=false) (h2:bears s 2=false) (h16:bears s 16=true):comes e s t=if (Zaq e s t).1=true then Zbj (Zaq e s t).2 s t else (Zaq e s t).2:=by
  have:comes e s t=Zab e s t:=by
    unfold comes
    simp only [List.mem_cons,List.not_mem_nil,or_false,not_or] at hs
    split
    · rename_i h; exact absurd h hs.1
    · rename_i h; exact absurd h hs.2.1
    · rename_i h; exact absurd h hs.2.2
    · rfl
  rw [this]
  unfold Zab
  rw [hf,h4,h2,h16]
  simp
theorem ZqI (hs:e.state∉[State.closed,.listen,.synSent]):comes e s t=Zab e s t:=by
  unfold comes
  simp only [List.mem_cons,List.not_mem_nil,or_false,not_or] at hs
  split
  · rename_i h; exact absurd h hs.1
  · rename_i h; exact absurd h hs.2.1
  · rename_i h; exact absurd h hs.2.2
  · rfl
end
end
end My
namespace My
open PySem L2 L2.MM
noncomputable section
section
variable {a b f g W m t:Int}
structure ZAf (q:Q) (t:Int):Prop where
  st:q.st∉[State.closed,.listen,.synSent,.synCome]
  tw:q.st=.timeWait→t-q.since<120000
  due:¬q.nxt=q.una→t-q.since<q.wait
  pr:q.pr=false
  un:q.beh≤q.nxt∧q.nxt-q.beh<1000∧0≤q.una∧q.una≤q.nxt∧q.nxt<1000
  fin:q.beh=q.nxt→q.st∉[State.waitOne,.closing,.lastAck]
end
end
end My
namespace My
open PySem L2 L2.MM
noncomputable section
end
end My
namespace L2.MM
open PySem PySem.Spec PyProof.Rows
def kvS (kvs:List (Str×Str)):List (Key×V):=kvs.map fun p=>(.inr p.1,.str p.2)
def trS (kvs:List (Str×Str)):List (TE×TE):=kvs.map fun p=>(tC (.str p.1),tC (.str p.2))
section
variable {X:Cx}
def ZmI (fo fi fv:EM):SM:=fun ρ θ=>(fv ρ θ).bind fun v θ=>(fo ρ θ).bind fun d θ=>(fi ρ θ).bind fun y θ=>match Zhm y,dkOf θ d with
  | some k,some (l,kvs)=>if kvs.length<BIG then .ok (.nx,ρ) (θ.set l (.dK (putD kvs k v))) else .bad
  | _,_=>.bad
theorem ZrV {o i value:Expr} {fo fi fv:EM} {pos pos':Pos} {k:Nat} (hr:Room k X.A) (ho:ME X o fo) (hi:ME X i fi) (hv:ME X value fv) (hs:swapsWith value (some (.Subscript o i pos')) pos.line X.env=pure false:=by rfl):MS X (.Assign [.Subscript o i pos'] value pos) (ZmI fo fi fv):=
  PS.imp (ZrB (Zpd hr) ho hi hv hs) fun D σ H h=>by
  obtain ⟨B,θ,ρ,F,w⟩:=h
  refine ZZ (Zfe F w) ?_
  rintro v H1 ⟨B1,θ1,dv,E1,F1,rv,w1⟩
  refine ZZ (Zfe F1 w1) ?_
  rintro x H2 ⟨B2,θ2,d,E2,F2,rd,w2⟩
  refine ZZ (Zfe F2 w2) ?_
  rintro y H3 ⟨B3,θ3,dy,E3,F3,ry,w3⟩
  split at w3
  · rename_i k l kvs ek ed
    split at w3
    · rename_i hb
      obtain ⟨hl,rfl,vs,h1,h2⟩:=Ze5 F3.good (rd.ext E3.toExtS) ed
      cases keyD_rep ry ek
      have hz:vs.length<sizeLine:=by
        have:=Zak (n:=kvs.length+1) hb
        rw [RepKV.len h2]; omega
      refine ⟨_,_,rfl,DPut.k h1 hz,?_⟩
      have E4:=ZfU F3.good hl (.dK (Zdu vs k v))
      have G4:=ZfT F3.good hl (o:=.dK (Zdu vs k v)) (c:=.dK (putD kvs k dv)) ⟨_,zy,(h2.putD ((rv.ext E2.toExtS).ext E3.toExtS)).ext E4.toExtS⟩
      exact w3 _ _ _ E4.toExtS (F3.ext E4 G4)
    · exact w3.elim
  · exact w3.elim
end
section
variable {ρ:List Sl} {θ:Sto}
@[simp] theorem x_dput (fo fi fv:EM):ZmI fo fi fv ρ θ=(fv ρ θ).bind fun v θ=>(fo ρ θ).bind fun d θ=>(fi ρ θ).bind fun y θ=>match Zhm y,dkOf θ d with
  | some k,some (l,kvs)=>if kvs.length<BIG then .ok (.nx,ρ) (θ.set l (.dK (putD kvs k v))) else .bad
  | _,_=>.bad:=nr rfl
end
end L2.MM
namespace L2.MM
open PySem L2
structure BE (X:Cx) (e:Expr) (f:EM):Prop where
  h:ME X e f
structure BA (X:Cx) (es:List Expr) (f:AM):Prop where
  h:MA X es f
structure BS (X:Cx) (st:Stmt) (f:SM):Prop where
  h:MS X st f
section
variable {X:Cx} {e:Expr} {es:List Expr} {f:EM} {fs:AM} {pos:Pos}
end
end L2.MM
namespace L2.MM
open PySem PySem.Spec PyProof.Rows
structure BP (X:Cx) (pos:Pos) (keys:List (Option Expr)) (values:List Expr) (kvs:List (Str×Str)):Prop where
  h:PPs X pos keys values (trS kvs)
  m:Zt4 [] (kvS kvs)=kvS kvs
  a:keys.all (·.isSome)=true
  l:keys.length=values.length
  n:kvs.length=keys.length
section
variable {X:Cx} {pos apos cpos pos' p1 p2:Pos} {k0:Option Expr} {keys:List (Option Expr)} {values:List Expr} {kvs:List (Str×Str)} {x y:Str} {fi ff:EM} {k:Nat}
variable {e:Expr} {es:List Expr} {f:EM} {fs:AM}
end
end L2.MM
namespace My
open PySem L2 L2.MM
noncomputable section
def room (q:Q):Int:=q.wnd-(q.nxt-q.una)
def ZsW (q:Q):Prop:=q.st∈[State.opn,.waitOne,.closeWait,.closing,.lastAck]∧q.nxt<q.beh
def ZsV (q:Q):Prop:=q.st∈[State.waitOne,.closing,.lastAck]∧q.nxt=q.beh
instance (q:Q):Decidable (ZsW q):=by unfold ZsW; infer_instance
instance (q:Q):Decidable (ZsV q):=by unfold ZsV; infer_instance
structure WF (q:Q):Prop where
  una:0≤q.una∧q.una≤q.nxt
  nxt:q.nxt≤q.beh+1∧q.beh<1000000
  wr:q.una≤q.beh→(q.written.length:Int)=q.beh-q.una
  wnd:0≤q.wnd∧q.wnd≤65535
  most:4≤q.most
  come:q.come.length≤64
  byt:∀z∈q.written,0≤z∧z≤255
structure ZAh (q:Q) (t:Int):Prop where
  st:q.st∉[State.closed,.listen,.synSent,.synCome]
  tw:q.st=.timeWait→t-q.since<120000
  due:¬q.nxt=q.una→t-q.since<q.wait
section
variable {a b f g t:Int} {q:Q}
end
section
variable {a b f g t:Int}
end
end
end My
namespace My
open PySem L2 L2.MM
noncomputable section
structure ZAq (q q':Q):Prop where
  st:q'.st=q.st
  una:q'.una=q.una
  beh:q'.beh=q.beh
  rcv:q'.rcv=q.rcv
  told:q'.told=q.told
  by_:q'.by_=q.by_
  wnd:q'.wnd=q.wnd
  most:q'.most=q.most
  written:q'.written=q.written
  come:q'.come=q.come
  fin:q'.fin=q.fin
  cl:q'.cl=q.cl
section
variable {a b f g t:Int}
end
section
variable {a b f g t:Int}
end
end
end My
namespace My
open PySem L2 L2.MM
noncomputable section
section
variable {a b f g t:Int}
end
end
end My
namespace My
open PySem L2 L2.MM
noncomputable section
section
variable {a b f g t:Int} {q:Q}
structure Due (q:Q) (t:Int):Prop where
  st:q.st∉[State.closed,.listen,.synSent,.synCome,.timeWait]
  nx:¬q.nxt=q.una
  due:q.wait≤t-q.since
end
end
end My
namespace My
open PySem L2 L2.MM
noncomputable section
section
variable {a b f g t:Int} {q:Q}
end
end
end My
namespace My
open PySem L2 L2.MM
noncomputable section
section
variable {a b f g t:Int} {q:Q}
end
end
end My
namespace My
open PySem L2 L2.MM
noncomputable section
structure Ear (g R hi:Int) (l:EL) (F:Int→Option Int):Prop where
  at_:∀x,R≤x→x<hi→atE l (Zu g x)=F x
  keys:∀k∈l.map (·.1),∃x,R≤x∧x<hi∧k=Zu g x
  nd:(l.map (·.1)).Nodup
  out:∀x,¬(R≤x∧x<hi)→F x=none
theorem pig (f:Nat→Int):∀(n:Nat) (ks:List Int),ks.Nodup→(∀k∈ks,∃i:Nat,i<n∧k=f i)→ks.length≤n
  | 0,ks,_,h=>by
    cases ks with
    | nil=>simp
    | cons k r=>obtain ⟨i,hi,_⟩:=h k (List.mem_cons_self); omega
  | n+1,ks,hn,h=>by
    have:=pig f n (ks.erase (f n)) (hn.erase _) (by
      intro k hk
      rw [hn.mem_erase_iff] at hk
      obtain ⟨i,hi,e⟩:=h k hk.2
      refine ⟨i,?_,e⟩
      have:i≠n:=fun z=>hk.1 (by rw [e,z])
      omega)
    have l:=List.length_erase (a:=f n) (l:=ks)
    split at l<;>omega
theorem Ear.len {g R hi:Int} {l:EL} {F} (h:Ear g R hi l F) (hw:hi≤R+64):l.length≤64:=by
  have:=pig (fun i=>Zu g (R+i)) 64 (l.map (·.1)) h.nd (by
    intro k hk
    obtain ⟨x,h1,h2,h3⟩:=h.keys k hk
    exact ⟨(x-R).toNat,by omega,by rw [h3]; show Zu g x=Zu g (R+((x-R).toNat:Int)); congr 1; omega⟩)
  simpa using this
theorem Ear.nil (g R hi:Int):Ear g R hi [] (fun _=>none):=⟨fun _ _ _=>rfl,fun k hk=>by simp at hk,by simp,fun _ _=>rfl⟩
theorem Zgd {g R x y:Int} (h1:R≤x∧x<R+1000000) (h2:R≤y∧y<R+1000000):Zu g x=Zu g y↔x=y:=by
  have a1:x=R+(x-R):=by omega
  have a2:y=R+(y-R):=by omega
  rw [a1,a2,←Zac,←Zac,ZfF (by omega)]
  omega
def ZlU (F:Int→Option Int) (x b:Int):Int→Option Int:=fun y=>if y=x then (F x).or (some b) else F y
theorem Ear.keep {g R hi x b:Int} {l:EL} {F} (h:Ear g R hi l F) (hw:hi≤R+64) (h1:R≤x) (h2:x<hi):Ear g R hi (ZeC l (Zu g x) b) (ZlU F x b):=by
  have ax:=h.at_ x h1 h2
  unfold ZeC
  cases e:atE l (Zu g x) with
  | some v=>
    simp only
    refine ⟨?_,h.keys,h.nd,?_⟩
    · intro y a c
      unfold ZlU
      by_cases z:y=x
      · rw [if_pos z,z,ax.symm.trans e,e]; rfl
      · rw [if_neg z]; exact h.at_ y a c
    · intro y hy
      unfold ZlU
      rw [if_neg (by intro z; omega)]
      exact h.out y hy
  | none=>
    simp only
    refine ⟨?_,?_,?_,?_⟩
    · intro y a c
      unfold ZlU
      by_cases z:y=x
      · rw [if_pos z,z,Zje _ _ _ e,Zbn,if_pos rfl,ax.symm.trans e]; rfl
      · rw [if_neg z]
        have ay:=h.at_ y a c
        cases ey:atE l (Zu g y) with
        | none=>
          rw [Zje _ _ _ ey,Zbn,if_neg (by simp only; rw [Zgd (R:=R) (by omega) (by omega)]; omega),Zsk,←ay,ey]
        | some v=>
          rw [←ay,ey]
          unfold atE at ey ⊢
          rw [Option.map_eq_some_iff] at ey
          obtain ⟨p,hp,hv⟩:=ey
          rw [List.find?_append,hp]
          simp [hv]
    · intro k hk
      rw [List.map_append,List.mem_append] at hk
      rcases hk with hk | hk
      · exact h.keys k hk
      · simp only [List.map_cons,List.map_nil,List.mem_singleton] at hk
        exact ⟨x,h1,h2,hk⟩
    · rw [List.map_append,List.nodup_append]
      refine ⟨h.nd,by simp,?_⟩
      intro k hk k' hk'
      simp only [List.map_cons,List.map_nil,List.mem_singleton] at hk'
      subst hk'
      intro z
      subst z
      obtain ⟨p,hp,hpe⟩:=List.mem_map.mp hk
      unfold atE at e
      rw [Option.map_eq_none_iff,List.find?_eq_none] at e
      exact e p hp (by simpa using hpe)
    · intro y hy
      unfold ZlU
      rw [if_neg (by intro z; omega)]
      exact h.out y hy
def layL (R hi:Int):(Int→Option Int)→Int→List Int→(Int→Option Int)
  | F,_,[]=>F
  | F,m,b::r=>layL R hi (if R≤m∧m<hi then ZlU F m b else F) (m+1) r
theorem Zi0 (R hi:Int):∀(r:List Int) (F:Int→Option Int) (m y:Int),layL R hi F m r y=(F y).or (if R≤y∧y<hi∧m≤y then r[(y-m).toNat]? else none)
  | [],F,m,y=>by simp [layL]
  | b::r,F,m,y=>by
    rw [layL,Zi0 R hi r]
    by_cases c:R≤m∧m<hi
    · rw [if_pos c]
      unfold ZlU
      by_cases z:y=m
      · subst z
        have:¬y+1≤y:=by omega
        rw [if_pos rfl,if_neg (by omega),if_pos (by omega),Int.sub_self]
        simp
      · rw [if_neg z]
        by_cases w:R≤y∧y<hi∧m≤y
        · have e:(y-m).toNat=(y-(m+1)).toNat+1:=by omega
          rw [if_pos (by omega),if_pos w,e,List.getElem?_cons_succ]
        · rw [if_neg (by omega),if_neg w]
    · rw [if_neg c]
      by_cases w:R≤y∧y<hi∧m≤y
      · have e:(y-m).toNat=(y-(m+1)).toNat+1:=by omega
        rw [if_pos (by omega),if_pos w,e,List.getElem?_cons_succ]
      · rw [if_neg (by omega),if_neg w]
theorem ZfS {e:Zv} {g R x:Int} (hr:e.rcv=Zu g R) (hx : -1000000<x-R∧x-R<1000000):inWin e (Zu g x)=decide (R≤x∧x<R+(64-(e.come.length:Int))):=by
  unfold inWin ZW
  rw [hr,Zie (by omega),←Bool.decide_and,decide_eq_decide]
  omega
theorem ZeD {g R m:Int}:∀(r:List Int) (k:Nat) (e:Zv) (F:Int→Option Int),e.rcv=Zu g R→-100000<m-R∧m-R<100000→k+r.length<100000→Ear g R (R+(64-(e.come.length:Int))) e.early F→
    ∃l',keepAll e (Zu g m) k r={ e with early:=l' }∧Ear g R (R+(64-(e.come.length:Int))) l' (layL R (R+(64-(e.come.length:Int))) F (m+k) r)
  | [],k,e,F,hr,hm,hk,h=>⟨e.early,rfl,h⟩
  | b::r,k,e,F,hr,hm,hk,h=>by
    have hl':k+r.length+1<100000:=by simpa [Nat.add_assoc] using hk
    have kk:((k+1:Nat):Int)=(k:Int)+1:=by simp
    rw [keepAll,Zac,ZfS hr (by omega)]
    rw [layL]
    by_cases c:R≤m+(k:Int)∧m+(k:Int)<R+(64-(e.come.length:Int))
    · rw [if_pos (by rw [decide_eq_true c]),if_pos c]
      obtain ⟨l',h1,h2⟩:=ZeD r (k+1) { e with early:=ZeC e.early (Zu g (m+k)) b } _ hr hm (by omega) (h.keep (by omega) c.1 c.2 (b:=b))
      refine ⟨l',h1,?_⟩
      have e1:m+(k:Int)+1=m+((k+1:Nat):Int):=by omega
      rw [e1]; exact h2
    · rw [if_neg (by rw [decide_eq_false c]; decide),if_neg c]
      obtain ⟨l',h1,h2⟩:=ZeD r (k+1) e _ hr hm (by omega) h
      refine ⟨l',h1,?_⟩
      have e1:m+(k:Int)+1=m+((k+1:Nat):Int):=by omega
      rw [e1]; exact h2
theorem ZqB (l:EL) (n k:Int) (h:k≠n):atE (Zb0 l n) k=atE l k:=by
  induction l with
  | nil=>rfl
  | cons p r ih=>
    unfold Zb0 at *
    by_cases c:p.1=n
    · rw [List.filter_cons_of_neg (by simp [c]),ih,Zbn,if_neg (by rw [c]; exact fun z=>h z.symm)]
    · rw [List.filter_cons_of_pos (by simp [c]),Zbn,Zbn,ih]
theorem Ear.draw {g R hi b:Int} {l:EL} {F} (h:Ear g R hi l F) (hw:hi≤R+64) (hb:F R=some b):atE l (Zu g R)=some b∧Ear g (R+1) hi (Zb0 l (Zu g R)) (fun y=>if y<R+1 then none else F y):=by
  have hR:R<hi:=by
    by_cases c:R<hi
    · exact c
    · rw [h.out R (by omega)] at hb; cases hb
  refine ⟨by rw [h.at_ R (Int.le_refl _) hR,hb],?_,?_,?_,?_⟩
  · intro x a c
    rw [ZqB _ _ _ (by rw [Ne,Zgd (R:=R) (by omega) (by omega)]; omega),h.at_ x (by omega) c,if_neg (by omega)]
  · intro k hk
    obtain ⟨p,hp,e⟩:=List.mem_map.mp hk
    unfold Zb0 at hp
    rw [List.mem_filter] at hp
    obtain ⟨x,a,c,d⟩:=h.keys p.1 (List.mem_map_of_mem hp.1)
    refine ⟨x,?_,c,by rw [←e]; exact d⟩
    have:x≠R:=fun z=>by
      have:=hp.2
      rw [d,z] at this
      simp at this
    omega
  · exact h.nd.sublist ((List.filter_sublist).map _)
  · intro x hx
    by_cases c:x<R+1
    · rw [if_pos c]
    · rw [if_neg c]; exact h.out x (by omega)
theorem Ziy {g hi:Int}:∀(ys:List Int) (n:Nat) (R:Int) (e:Zv) (F:Int→Option Int),e.rcv=Zu g R→Ear g R hi e.early F→hi≤R+64→ys.length<n→(∀i:Nat,i<ys.length→F (R+i)=ys[i]?∧¬e.early_fin=some (Zu g (R+i)))→(F (R+ys.length)=none∨e.early_fin=some (Zu g (R+ys.length)))→(R+ys.length:Int)≤hi→
    ∃l',drawn n e=(ys,{ e with early:=l',rcv:=Zu g (R+ys.length) })∧Ear g (R+ys.length) hi l' (fun y=>if y<R+ys.length then none else F y)
  | ys,0,R,e,F,_,_,_,hn,_,_,_=>absurd hn (Nat.not_lt_zero _)
  | [],n+1,R,e,F,hr,h,hw,hn,hy,hx,hl=>by
    have e0:R+(([]:List Int).length:Int)=R:=by simp
    rw [e0] at hx hl ⊢
    have hE:Ear g R hi e.early (fun y=>if y<R then none else F y):=by
      have:(fun y=>if y<R then none else F y)=F:=by
        funext y
        by_cases c:y<R
        · rw [if_pos c,h.out y (by omega)]
        · rw [if_neg c]
      rw [this]; exact h
    have he:e={ e with early:=e.early,rcv:=Zu g R }:=by rw [←hr]
    refine ⟨e.early,?_,hE⟩
    unfold drawn
    by_cases c:e.early_fin=some e.rcv
    · rw [if_pos c]; rw [←he]
    · rw [if_neg c]
      have fn:F R=none:=hx.resolve_right (by rw [←hr]; exact c)
      have:atE e.early e.rcv=none:=by
        by_cases cl:R<hi
        · rw [hr,h.at_ R (Int.le_refl _) cl,fn]
        · have ln:e.early=[]:=by
            cases hq:e.early with
            | nil=>rfl
            | cons p r=>
              obtain ⟨x,a,b,_⟩:=h.keys p.1 (by rw [hq]; simp)
              omega
          rw [ln]; rfl
      rw [this]
      simp only
      rw [←he]
  | y::ys,n+1,R,e,F,hr,h,hw,hn,hy,hx,hl=>by
    have hn':ys.length<n:=by simpa using hn
    have l1:R+((y::ys).length:Int)=R+1+(ys.length:Int):=by simp; omega
    rw [l1] at hx hl ⊢
    obtain ⟨f0,nf0⟩:=hy 0 (by simp)
    have r0:R+((0:Nat):Int)=R:=by simp
    rw [r0] at f0 nf0
    have fR:F R=some y:=by simpa using f0
    obtain ⟨d1,d2⟩:=h.draw hw fR
    unfold drawn
    rw [if_neg (by rw [hr]; exact nf0),hr,d1]
    simp only
    obtain ⟨l',g1,g2⟩:=Ziy ys n (R+1) { e with early:=Zb0 e.early (Zu g R),rcv:=Zu (Zu g R) 1 } _ (Zac g R 1) d2 (by omega) hn' (by
      intro i hi
      obtain ⟨a,b⟩:=hy (i+1) (by simpa using hi)
      have e1:R+((i+1:Nat):Int)=R+1+(i:Int):=by omega
      rw [e1] at a b
      refine ⟨?_,b⟩
      rw [if_neg (by omega),a]
      simp) (by
      refine hx.imp (fun z=>?_) id
      rw [if_neg (by omega)]
      exact z) hl
    refine ⟨l',by rw [g1],?_⟩
    have:(fun z=>if z<R+1+(ys.length:Int) then none else F z)=(fun z=>if z<R+1+(ys.length:Int) then none else (fun z=>if z<R+1 then none else F z) z):=by
      funext z
      by_cases c:z<R+1+(ys.length:Int)
      · rw [if_pos c,if_pos c]
      · rw [if_neg c,if_neg c]
        simp only
        rw [if_neg (by omega)]
    rw [this]; exact g2
theorem ZiL {e:Zv} {s:Seg} {g R m:Int} {F:Int→Option Int} {ys:List Int} {fn:Option Int} (hr:e.rcv=Zu g R) (hm : -100000<m-R∧m-R<100000) (hd:s.data.length≤16) (sn:s.num=Zu g m) (hc:e.come.length≤64) (hf:e.early_fin=none) (h:Ear g R (R+(64-(e.come.length:Int))) e.early F)
    (hfn:fn=if bears s 1=true∧R≤m+s.data.length∧m+s.data.length<R+(64-(e.come.length:Int)) then some (Zu g (m+s.data.length)) else none)
    (hy:∀i:Nat,i<ys.length→layL R (R+(64-(e.come.length:Int))) F m s.data (R+i)=ys[i]?∧¬fn=some (Zu g (R+i))) (hx:layL R (R+(64-(e.come.length:Int))) F m s.data (R+ys.length)=none∨fn=some (Zu g (R+ys.length))) :
    ∃l',streamed e s={ e with early:=l',come:=e.come++ys,rcv:=Zu g (R+ys.length),owes_answer:=e.owes_answer || decide (0<s.data.length) || bears s 1,early_fin:=fn }∧Ear g (R+ys.length) (R+(64-(e.come.length:Int))) l' (fun y=>if y<R+ys.length then none else layL R (R+(64-(e.come.length:Int))) F m s.data y):=by
  obtain ⟨l1,k1,E1⟩:=ZeD (g:=g) (R:=R) (m:=m) s.data 0 e F hr hm (by omega) h
  have m0:m+((0:Nat):Int)=m:=by simp
  rw [m0] at E1
  have k2:zX e s={ e with early:=l1,owes_answer:=e.owes_answer || decide (0<s.data.length) }:=by
    unfold zX
    rw [sn,k1]
    by_cases c:0<s.data.length
    · rw [if_pos c]; simp [c]
    · rw [if_neg c]; simp [c]
  obtain ⟨oa,hoa⟩:∃x,x=(e.owes_answer || decide (0<s.data.length)):=⟨_,rfl⟩
  rw [←hoa] at k2 ⊢
  have k3:Zbs (zX e s) s={ e with early:=l1,owes_answer:=oa || bears s 1,early_fin:=fn }:=by
    rw [k2]
    unfold Zbs
    by_cases c:bears s 1=true
    · have iw:inWin { e with early:=l1,owes_answer:=oa } (Zu s.num s.data.length)=decide (R≤m+s.data.length∧m+s.data.length<R+(64-(e.come.length:Int))):=by
        rw [sn,Zac]
        exact ZfS (e:={ e with early:=l1,owes_answer:=oa }) hr (by omega)
      rw [if_neg (by simp [c]),iw,sn,Zac]
      by_cases c2:R≤m+(s.data.length:Int)∧m+(s.data.length:Int)<R+(64-(e.come.length:Int))
      · rw [if_pos ⟨hf,decide_eq_true c2⟩,hfn,if_pos ⟨c,c2⟩]
        simp [c]
      · rw [if_neg (fun z=>by rw [decide_eq_false c2] at z; exact absurd z.2 (by decide)),hfn,if_neg (fun z=>c2 z.2)]
        simp [c,←hf]
    · rw [if_pos (by simpa using c),hfn,if_neg (fun z=>c z.1)]
      simp [c,←hf]
  have yl:(R+ys.length:Int)≤R+(64-(e.come.length:Int)):=by
    cases hq:ys.length with
    | zero=>simp; omega
    | succ n=>
      have hn:=(hy n (by omega)).1
      have hs:ys[n]?=some (ys[n]'(by omega)):=List.getElem?_eq_getElem (by omega)
      rw [hs] at hn
      by_cases c:R+(n:Int)<R+(64-(e.come.length:Int))
      · omega
      · rw [E1.out _ (by omega)] at hn; cases hn
  obtain ⟨l2,k4,E2⟩:=Ziy (g:=g) (hi:=R+(64-(e.come.length:Int))) ys 200 R { e with early:=l1,owes_answer:=oa || bears s 1,early_fin:=fn } _ hr E1 (by omega) (by omega) hy hx yl
  refine ⟨l2,?_,E2⟩
  unfold streamed Ze4
  rw [k3,k4]
  unfold ZfP
  simp only
  rw [ZmV (by unfold ZW; simp only; omega)]
theorem ZnA {e:Zv} {s:Seg} {t:Int} (hst:e.state=.opn) (h1:s.ans=e.una) (h2:e.nxt=e.una) (h3:e.behind=e.nxt) (hw:s.win=e.wnd) (hw0:¬e.wnd=0):∃u v,(Zaq e s t)=(true,{ e with told:=u,told_by:=v })∧((u=e.told∧v=e.told_by)∨(u=s.num∧v=s.ans)):=by
  have ho:Zcq e s t=e:=by
    unfold Zcq
    rw [if_neg (by rw [h1,Zcb]; decide)]
  have he:∀u v,endAcked { e with told:=u,told_by:=v } t={ e with told:=u,told_by:=v }:=by
    intro u v
    unfold endAcked
    have:ZfB { e with told:=u,told_by:=v }=false:=by
      show ZbQ e.nxt e.behind=false
      rw [h3,Zcb]
    rw [if_pos (.inl this)]
  by_cases c:isNewer e s=true
  · refine ⟨s.num,s.ans,?_,.inr ⟨rfl,rfl⟩⟩
    have ha:zC e s t={ e with told:=s.num,told_by:=s.ans }:=by
      unfold zC
      simp only [ho]
      have c':(ZbQ s.ans e.una || isNewer e s)=true:=by simp [c]
      have tk:Zdk e s={ e with told:=s.num,told_by:=s.ans }:=by unfold Zdk; rw [hw]
      have z:¬(e.wnd=0∨({ e with told:=s.num,told_by:=s.ans }:Zv).wnd=0):=fun z=>z.elim hw0 hw0
      rw [if_neg (by rw [h1,Zcb]; decide),if_pos c',tk,if_neg z]
    unfold Zaq
    rw [if_neg (by rw [hst]; decide),if_neg (by rw [h1,h2,Zcb]; decide),ha,he]
    simp [hst]
  · refine ⟨e.told,e.told_by,?_,.inl ⟨rfl,rfl⟩⟩
    have ha:zC e s t=e:=by
      unfold zC
      simp only [ho]
      have c':¬(ZbQ s.ans e.una || isNewer e s)=true:=by rw [h1,Zcb]; simpa using c
      have z:¬(e.wnd=0∨e.wnd=0):=fun z=>z.elim hw0 hw0
      rw [if_neg (by rw [h1,Zcb]; decide),if_neg c',if_neg z]
    unfold Zaq
    have he':=he e.told e.told_by
    rw [if_neg (by rw [hst]; decide),if_neg (by rw [h1,h2,Zcb]; decide),ha]
    have:endAcked e t=e:=he'
    rw [this,decide_eq_false (by rw [hst]; decide)]
    rfl
end
end My
namespace My
open PySem L2 L2.MM
noncomputable section
theorem for_rng {fi:IM} {body:SM} {k:Nat} {ρ:List Sl} {θ:Sto} {lo:Int} {n:Nat} (Inv:Nat→List Sl→Sto→Prop) (hn:fi ρ θ=.ok (.rng lo n) θ) (hi:Inv 0 ρ θ)
    (step:∀(i:Nat) ρ θ,i<n→Inv i ρ θ→∃ρ' θ',body (ρ.set k (.val (.int (lo+(i:Int))))) θ=.ok (.nx,ρ') θ'∧Inv (i+1) ρ' θ') (hk:∀i ρ θ,Inv i ρ θ→k < ρ.length) :
    ∃ρ' θ',ZgS fi (gNm k) body ρ θ=.ok (.nx,ρ') θ'∧Inv n ρ' θ':=by
  obtain ⟨all,hall⟩:∃x,x=(List.range n).map fun (i:Nat)=>D.int (lo+(i:Int)):=⟨_,rfl⟩
  have hm:ZgS fi (gNm k) body ρ θ=Zd2 (.rng lo n) all (gNm k) body all ρ θ:=by
    unfold ZgS
    rw [hn,R.bind_ok]
    simp only [ZcU,←hall]
  rw [hm]
  have key:∀(m:Nat) ρ θ,m≤n→Inv (n-m) ρ θ→∃ρ' θ',Zd2 (.rng lo n) all (gNm k) body (all.drop (n-m)) ρ θ=.ok (.nx,ρ') θ'∧Inv n ρ' θ':=by
    intro m
    induction m with
    | zero=>
      intro ρ θ _ hI
      refine ⟨ρ,θ,?_,by simpa using hI⟩
      rw [Nat.sub_zero,List.drop_eq_nil_of_le (by rw [hall]; simp)]
      simp [Zd2,hall]
    | succ m ih=>
      intro ρ θ hm hI
      have hlt:n-(m+1)<n:=by omega
      have hla:n-(m+1)<all.length:=by rw [hall]; simpa using hlt
      have e:n-(m+1)+1=n-m:=by omega
      have hx:all[n-(m+1)]=D.int (lo+((n-(m+1):Nat):Int)):=by simp [hall]
      have hg:gNm k (D.int (lo+((n-(m+1):Nat):Int))) ρ=some (ρ.set k (.val (.int (lo+((n-(m+1):Nat):Int))))):=by
        have:=hk _ _ _ hI
        simp [gNm,this]
      have hit:(Src.rng lo n).items θ=some all:=by rw [ZcU,hall]
      rw [List.drop_eq_getElem_cons hla,hx,e]
      simp only [Zd2,hit,if_true,hg]
      obtain ⟨ρ',θ',h,hI'⟩:=step _ ρ θ hlt hI
      rw [h,R.bind_ok,ZeZ]
      exact ih ρ' θ' (by omega) (by rw [←e]; exact hI')
  have:=key n ρ θ (Nat.le_refl _) (by rw [Nat.sub_self]; exact hi)
  rw [Nat.sub_self,List.drop_zero] at this
  exact this
def kd (K:List Int):List (Key×D):=K.map fun n=>(Sum.inl n,D.bl true)
def Zl7 (K:List Int) (n:Int):List Int:=if n∈K then K else K++[n]
theorem Zp6 {K:List Int} {n m:Int}:m∈Zl7 K n↔m∈K∨m=n:=by
  unfold Zl7
  split
  · rename_i h
    exact ⟨.inl,fun z=>z.elim id fun e=>e ▸ h⟩
  · simp
theorem Zqd (K:List Int) (n:Int):(Zl7 K n).length≤K.length+1:=by
  unfold Zl7
  split<;>simp
theorem ZgV (n:Int):∀K:List Int,(valD (kd K) (.inl n)).isSome=decide (n∈K)
  | []=>by simp [valD,kd]
  | k::r=>by
    have ih:=ZgV n r
    unfold valD kd at ih ⊢
    by_cases e:k=n
    · simp [e]
    · simp only [List.map_cons,List.find?_cons]
      rw [decide_eq_false (by intro z; exact e (by injection z))]
      simp only
      rw [ih,decide_eq_decide,List.mem_cons]
      exact ⟨.inr,fun z=>z.elim (fun z=>absurd z.symm e) id⟩
theorem Zul (n:Int) (K:List Int):((kd K).any fun kv=>decide (kv.1=Sum.inl n))=decide (n∈K):=by
  unfold kd
  rw [List.any_map]
  induction K with
  | nil=>simp
  | cons k r ih=>
    rw [List.any_cons,ih]
    by_cases e:k=n
    · simp [e]
    · have e2:¬((Sum.inl k:Key)=Sum.inl n):=fun z=>e (by injection z)
      have e3:¬n=k:=fun z=>e z.symm
      simp [e2,e3]
theorem Zrv (n:Int) (K:List Int):putD (kd K) (.inl n) (.bl true)=kd (Zl7 K n):=by
  unfold putD
  rw [Zul]
  unfold Zl7
  by_cases h:n∈K
  · rw [if_pos (decide_eq_true h),if_pos h]
    unfold kd
    rw [List.map_map]
    apply List.map_congr_left
    intro k _
    simp only [Function.comp]
    split<;>rfl
  · rw [if_neg (by simpa using h),if_neg h]
    unfold kd
    simp
theorem Zqk (K:List Int):(kd K).length=K.length:=by simp [kd]
section
variable {B:Sto} {l:Nat} {e:Zv} {m m':List (Key×D)}
theorem ZiJ (h:l+3<B.length) (X:Sto):upE B l e++X=upE (B++X) l e:=by
  unfold upE
  rw [List.set_append_left _ _ (by omega),List.set_append_left _ _ (by simp; omega),List.set_append_left _ _ (by simp; omega),List.set_append_left _ _ (by simp; omega)]
theorem Zl2 (h:l+3<B.length):dkOf (upE (B++[.dK m]) l e) (.ref B.length)=some (B.length,m):=by
  rw [←ZiJ h]
  unfold dkOf
  simp only
  rw [List.getElem?_append_right (by simp)]
  simp
theorem Zuh (h:l+3<B.length):(upE (B++[.dK m]) l e).set B.length (.dK m')=upE (B++[.dK m']) l e:=by
  rw [←ZiJ h,←ZiJ h,List.set_append_right _ _ (by simp)]
  simp
end
@[simp] theorem x_dput {fo fi fv:EM} {ρ:List Sl} {θ:Sto}:ZmI fo fi fv ρ θ=(fv ρ θ).bind fun v θ=>(fo ρ θ).bind fun d θ=>(fi ρ θ).bind fun y θ=>match Zhm y,dkOf θ d with
  | some k,some (l,kvs)=>if kvs.length<BIG then .ok (.nx,ρ) (θ.set l (.dK (putD kvs k v))) else .bad
  | _,_=>.bad:=nr' rfl
theorem ZnB (K:List Int) (c:Int):∃d:Nat,(∀i:Nat,i<d→c+(i:Int)∈K)∧¬c+(d:Int)∈K:=by
  have bound:∀(n:Nat),(∀i:Nat,i<n→c+(i:Int)∈K)→n≤K.length:=by
    intro n h
    have nd:((List.range n).map fun (i:Nat)=>c+(i:Int)).Nodup:=by
      unfold List.Nodup
      rw [List.pairwise_map]
      exact List.Pairwise.imp (fun {i j} (hij:i≠j)=>by omega) (List.nodup_range (n:=n))
    have sub:∀x∈(List.range n).map fun (i:Nat)=>c+(i:Int),∃i:Nat,i<K.length∧x=K.getD i 0:=by
      intro x hx
      obtain ⟨i,hi,rfl⟩:=List.mem_map.mp hx
      obtain ⟨j,hj,e⟩:=List.getElem_of_mem (h i (by simpa using hi))
      exact ⟨j,hj,by rw [List.getD_eq_getElem?_getD,List.getElem?_eq_getElem hj,e]; rfl⟩
    have:=pig (fun i=>K.getD i 0) K.length _ nd sub
    simpa using this
  have go:∀(m n:Nat),(∀i:Nat,i<n→c+(i:Int)∈K)→K.length+1-n≤m→∃d:Nat,(∀i:Nat,i<d→c+(i:Int)∈K)∧¬c+(d:Int)∈K:=by
    intro m
    induction m with
    | zero=>
      intro n h hm
      have:=bound n h
      omega
    | succ m ih=>
      intro n h hm
      by_cases q:c+(n:Int)∈K
      · refine ih (n+1) (fun i hi=>?_) (by omega)
        by_cases z:i=n
        · rw [z]; exact q
        · exact h i (by omega)
      · exact ⟨n,h,q⟩
  exact go (K.length+1) 0 (fun i hi=>by omega) (by omega)
end
end My
namespace My
open PySem L2 L2.MM
noncomputable section
def eW (a b f g W C u v:Int) (cs:List Int) (l:EL) (o:Bool):Zv:={ qE a b f g (q0 W 0 0) with rcv:=Zu g (1+C),come:=cs,early:=l,told:=u,told_by:=v,owes_answer:=o }
def wF (e:Zv) (fn:Option Int):Zv:={ e with early_fin:=fn }
section
variable {a b f g W C u v t:Int} {cs:List Int} {l:EL} {o:Bool}
theorem ZmS (ht:t<1000):Calm (eW a b f g W C u v cs l o) t:=⟨rfl,by show State.opn∉_; decide,fun z=>(by cases z),fun z=>absurd rfl z⟩
theorem ZmP:hasMore (eW a b f g W C u v cs l o)=false:=by
  have:ZcE (eW a b f g W C u v cs l o)=0:=ZkU _
  unfold hasMore ZaZ hasNewFin
  rw [this]
  have:(eW a b f g W C u v cs l o).state=.opn:=rfl
  rw [this]
  simp
def Zgv (a b f g C n:Int):Seg:=⟨a,b,Zu f 1,Zu g (1+C),16,n,0,[]⟩
theorem Zjf (ha:0≤a∧a≤65535) (hb:0≤b∧b≤65535) {n:Int} (hn:0≤n∧n≤65535):(Zgv a b f g C n).Ok:=Zid ha hb (Zcp _ _) (Zcp _ _) (by omega) hn (.inl rfl) ZgW
theorem Zqx (ht:t<1000):Za2 (eW a b f g W C u v cs l false) t=(none,eW a b f g W C u v cs l false):=Zle (ZmS ht) (.inl ZmP) rfl rfl
theorem Zix (ht:t<1000):Zf6 t (eW a b f g W C u v cs l false) [] (eW a b f g W C u v cs l false):=.nil (Zqx ht)
theorem Ziw (ht:t<1000) (ha:0≤a∧a≤65535) (hb:0≤b∧b≤65535) (hc:cs.length≤64):Zf6 t (eW a b f g W C u v cs l true) [Zgv a b f g C (64-(cs.length:Int))] (eW a b f g W C u v cs l false):=by
  have h:=Zit (ZmS (a:=a) (b:=b) (f:=f) (g:=g) (W:=W) (C:=C) (u:=u) (v:=v) (cs:=cs) (l:=l) (o:=true) ht) (.inl ZmP) rfl rfl
  have e:ZbP (eW a b f g W C u v cs l true) (eW a b f g W C u v cs l true).nxt 0 []=Zgv a b f g C (64-(cs.length:Int)):=rfl
  rw [e] at h
  exact .cons h (Zjf ha hb (by omega)) (Zix ht)
def ZaJ (sp far long:Int):Bool:=if long=0 then decide (0≤far∧far≤64) else decide ((0≤far∧far<sp)∨(0≤far+long-1∧far+long-1<sp))
theorem ZmQ {far fg:Int} {x:List Int} (hf : -1000<far∧far<1000) (hx:x.length≤16) (hg:fg=0∨fg=1):Zfh (eW a b f g W C u v cs l o) ⟨b,a,Zu g (1+C+far),Zu f 1,16+fg,W,0,x⟩=ZaJ (64-(cs.length:Int)) far (x.length+fg):=by
  have rc:(eW a b f g W C u v cs l o).rcv=Zu g (1+C):=rfl
  have cm:(eW a b f g W C u v cs l o).come=cs:=rfl
  have bt2:bit (16+fg) 2=0:=by rcases hg with h | h<;>rw [h]<;>simp
  have bt1:bit (16+fg) 1=fg:=by rcases hg with h | h<;>rw [h]<;>simp
  have ls:ZlT ⟨b,a,Zu g (1+C+far),Zu f 1,16+fg,W,0,x⟩=x.length+fg:=by
    rw [Zr1,bt1,bt2]; omega
  unfold Zfh ZaJ
  rw [ls,rc]
  by_cases c:(x.length:Int)+fg=0
  · rw [if_pos c,if_pos c]
    show (decide (0≤zg (Zu g (1+C+far)) (Zu g (1+C))) && decide (zg (Zu g (1+C+far)) (Zu g (1+C))≤64))=_
    rw [Zie (by omega),←Bool.decide_and,decide_eq_decide]
    omega
  · rw [if_neg c,if_neg c]
    show (inWin _ (Zu g (1+C+far)) || inWin _ (Zu (Zu g (1+C+far)) (x.length+fg-1)))=_
    rw [Zac,ZfS rc (by omega),ZfS rc (by omega),←Bool.decide_or,decide_eq_decide,cm]
    omega
theorem Zsb {far fg:Int} {x:List Int} (hf : -1000<far∧far<1000) (hx:x.length≤16) (hg:fg=0∨fg=1) (h:ZaJ (64-(cs.length:Int)) far (x.length+fg)=false):comes (eW a b f g W C u v cs l o) ⟨b,a,Zu g (1+C+far),Zu f 1,16+fg,W,0,x⟩ t=eW a b f g W C u v cs l true:=by
  obtain ⟨s,hsg⟩:∃s:Seg,s=⟨b,a,Zu g (1+C+far),Zu f 1,16+fg,W,0,x⟩:=⟨_,rfl⟩
  have ft:=ZmQ (a:=a) (b:=b) (f:=f) (g:=g) (W:=W) (C:=C) (u:=u) (v:=v) (cs:=cs) (l:=l) (o:=o) hf hx hg
  have b4:bears s 4=false:=by rw [hsg]; rcases hg with h | h<;>rw [h]<;>simp
  rw [h,←hsg] at ft
  rw [←hsg,ZqI (by show State.opn∉_; decide)]
  unfold Zab ZdB
  rw [if_pos ft,if_neg (by rw [b4]; decide)]
  rfl
theorem ZmR {T far fg:Int} {x ys:List Int} {F:Int→Option Int} {fn:Option Int} (hf : -1000<far∧far<1000) (hC:0≤C∧C<10000) (hx:x.length≤16) (hg:fg=0∨fg=1) (hc:cs.length≤64) (hW:¬W=0) (h:ZaJ (64-(cs.length:Int)) far (x.length+fg)=true) (E:Ear g (1+C) (1+C+(64-(cs.length:Int))) l F)
    (hfn:fn=if fg=1∧0≤far+x.length∧far+x.length<64-(cs.length:Int) then some (Zu g (1+C+far+x.length)) else none)
    (hy:∀i:Nat,i<ys.length→layL (1+C) (1+C+(64-(cs.length:Int))) F (1+C+far) x (1+C+i)=ys[i]?∧¬fn=some (Zu g (1+C+i))) (hz:layL (1+C) (1+C+(64-(cs.length:Int))) F (1+C+far) x (1+C+ys.length)=none∨fn=some (Zu g (1+C+ys.length))) :
    ∃u' v' l',comes (eW a b f g W C u v cs l o) ⟨b,a,Zu g (1+C+far),Zu f 1,16+fg,W,0,x⟩ t=(if fn=some (Zu g (1+(C+ys.length))) then Ze2 (wF (eW a b f g W (C+ys.length) u' v' (cs++ys) l' (o || decide (0<x.length) || decide (fg=1))) fn) t else (wF (eW a b f g W (C+ys.length) u' v' (cs++ys) l' (o || decide (0<x.length) || decide (fg=1))) fn))
      ∧Ear g (1+(C+ys.length)) (1+C+(64-(cs.length:Int))) l' (fun y=>if y<1+(C+ys.length) then none else layL (1+C) (1+C+(64-(cs.length:Int))) F (1+C+far) x y):=by
  obtain ⟨s,hsg⟩:∃s:Seg,s=⟨b,a,Zu g (1+C+far),Zu f 1,16+fg,W,0,x⟩:=⟨_,rfl⟩
  have ft:=ZmQ (a:=a) (b:=b) (f:=f) (g:=g) (W:=W) (C:=C) (u:=u) (v:=v) (cs:=cs) (l:=l) (o:=o) hf hx hg
  have b4:bears s 4=false:=by rw [hsg]; rcases hg with h | h<;>rw [h]<;>simp
  have b2:bears s 2=false:=by rw [hsg]; rcases hg with h | h<;>rw [h]<;>simp
  have b16:bears s 16=true:=by rw [hsg]; rcases hg with h | h<;>rw [h]<;>simp
  have b1:bears s 1=decide (fg=1):=by rw [hsg]; rcases hg with h | h<;>rw [h]<;>simp
  have sd:s.data=x:=by rw [hsg]
  have sn:s.num=Zu g (1+C+far):=by rw [hsg]
  rw [h,←hsg] at ft
  obtain ⟨u',v',go,_⟩:=ZnA (e:=eW a b f g W C u v cs l o) (s:=s) (t:=t) rfl (by rw [hsg]; rfl) rfl rfl (by rw [hsg]; rfl) hW
  have gE:({ eW a b f g W C u v cs l o with told:=u',told_by:=v' }:Zv)=eW a b f g W C u' v' cs l o:=rfl
  rw [gE] at go
  have cm:(eW a b f g W C u' v' cs l o).come=cs:=rfl
  obtain ⟨l',st,E'⟩:=ZiL (e:=eW a b f g W C u' v' cs l o) (s:=s) (g:=g) (R:=1+C) (m:=1+C+far) (F:=F) (ys:=ys) (fn:=fn) rfl (by omega) (by rw [sd]; exact hx) sn hc rfl E (by
      rw [hfn,b1,sd,cm]
      by_cases c:fg=1∧0≤far+(x.length:Int)∧far+(x.length:Int)<64-(cs.length:Int)
      · rw [if_pos c,if_pos ⟨decide_eq_true c.1,by omega,by omega⟩]
      · rw [if_neg c,if_neg (fun z=>c ⟨of_decide_eq_true z.1,by omega,by omega⟩)]) (by rw [sd]; exact hy) (by rw [sd]; exact hz)
  rw [sd,cm] at E'
  rw [sd,b1] at st
  have as1:1+C+(ys.length:Int)=1+(C+ys.length):=by omega
  rw [as1] at E' st
  have sE:streamed (eW a b f g W C u' v' cs l o) s=(wF (eW a b f g W (C+ys.length) u' v' (cs++ys) l' (o || decide (0<x.length) || decide (fg=1))) fn):=st
  refine ⟨u',v',l',?_,E'⟩
  rw [←hsg,Zse (by show State.opn∉_; decide) ft b4 b2 b16,go]
  simp only [if_true]
  unfold Zbj
  rw [if_pos (show (eW a b f g W C u' v' cs l o).state=.opn∨_ from .inl rfl),sE]
  have e1:((wF (eW a b f g W (C+ys.length) u' v' (cs++ys) l' (o || decide (0<x.length) || decide (fg=1))) fn):Zv).early_fin=fn:=rfl
  have e2:((wF (eW a b f g W (C+ys.length) u' v' (cs++ys) l' (o || decide (0<x.length) || decide (fg=1))) fn):Zv).rcv=Zu g (1+(C+ys.length)):=rfl
  rw [e1,e2]
end
end
end My
namespace PySem.W.Fast
def tw7630715455698229248:=0
def tw2479183100693308448:=0
def tw9409313353606113376:=0
def tw8630039203480484000:=0
def tw7885159741250712768:=0
def tw12064071902970233024:=0
def tw2278117336154600640:=0
def tw8971562169003018464:=0
def tw5333337865041663200:=0
def tw11504818586989878496:=0
def tw560041548626370976:=0
def tw3727370871135285696:=0
def tw15840174132466963008:=0
def tw6778232033092803168:=0
def tw9233847253553044064:=0
def tw16388724739454563936:=0
def tw4901993826107691648:=0
def tw6023596090714802816:=0
def tw16309097588969506464:=0
def tw16151440101985356480:=0
def tw7869679854405150400:=0
def tw2084518638928305888:=0
def tw2505487320818628320:=0
def tw14340488632864977760:=0
def tw2651403575631986528:=0
def tw12884811461589230432:=0
def tw6749903216244935584:=0
def tw18408895383913314272:=0
def tw16807054273002509345:=0
def tw8644744849097191457:=0
def tw7374952000936536161:=0
def tw11148535963593075809:=0
def tw10083334256758364289:=0
def tw3605011970181020865:=0
def tw11978040455836057793:=0
def tw10220848866970503393:=0
def tw3838830361840939297:=0
def tw15135542651430348129:=0
def tw1420820319725869409:=0
def tw4239732207537804673:=0
def tw6921343737134676385:=0
def tw359228694692180449:=0
def tw4925557782068929057:=0
def tw1848261987046368801:=0
def tw15835944485966735905:=0
def tw5665770834667661889:=0
def tw3442608237908752033:=0
def tw13623655343790442273:=0
def tw3530410806082763585:=0
def tw4734682245277992801:=0
def tw6319374344069357473:=0
def tw7040919056666931105:=0
def tw46954529138351041:=0
def tw17089921959998664641:=0
def tw3930224129627076577:=0
def tw6492548420174684226:=0
def tw581250879884632194:=0
def tw6976262709303812226:=0
def tw8215187775986388098:=0
def tw6576814506419881122:=0
def tw13690612265669500098:=0
def tw4144870060829256898:=0
def tw14891914733239906498:=0
def tw5042694780618630434:=0
def tw16096594546350961058:=0
def tw2889913007609816514:=0
def tw370655865457120738:=0
def tw11236603572624810498:=0
def tw10979409412314897954:=0
def tw8150868335689607714:=0
def tw6424592585009739298:=0
def tw4300619984713742882:=0
def tw9975086354665894466:=0
def tw1924446100881310370:=0
def tw3253994093306286818:=0
def tw899396845207934690:=0
def tw7446642975184296706:=0
def tw13916029214166293314:=0
def tw12951089575728304962:=0
def tw6039155279568492386:=0
def tw10707104346175768514:=0
def tw10761249703481281474:=0
def tw12580439419830360002:=0
def tw2218220749555000258:=0
def tw2567830275064380419:=0
def tw7649509398568239203:=0
def tw13159359202136444003:=0
def tw12175497534618097763:=0
def tw4549319917318856803:=0
def tw10495787599697365283:=0
def tw4662002976993860931:=0
def tw1432762097711045955:=0
def tw15538169900711999843:=0
def tw9155289160595905955:=0
def tw172480410980873635:=0
def tw559952338754648515:=0
def tw6991186896078546403:=0
def tw9680079284473886211:=0
def tw9094404093357754915:=0
def tw7325835375207043619:=0
def tw15158989418891469379:=0
def tw6959403791094773379:=0
def tw17552767738100156099:=0
def tw13598157669029743331:=0
def tw5477583236072422115:=0
def tw16431734809452897059:=0
def tw12071349366260478883:=0
def tw16389579720260866116:=0
def tw13723109399225247844:=0
def tw9139645618955346020:=0
def tw10235854605253537892:=0
def tw11760998515099829412:=0
def tw5570108701884805316:=0
def tw573816524443792644:=0
def tw10696499566844946788:=0
def tw12301740266287419780:=0
def tw9927431192028636580:=0
def tw8532282039682466244:=0
def tw14657665491238230532:=0
def tw4776182816533747236:=0
def tw16136660702389496356:=0
def tw7346403059401334340:=0
def tw2623638057278199396:=0
def tw13788069499361665668:=0
def tw16227851978964233860:=0
def tw13432103314176969380:=0
def tw12362556097060495044:=0
def tw7937045295675992772:=0
def tw8999826204297468644:=0
def tw14111989856459081508:=0
def tw10695216868256510756:=0
def tw15792741190166586180:=0
def tw8870424183553471493:=0
def tw9574882530265441317:=0
def tw10592374152550861893:=0
def tw17928980439459526757:=0
def tw8492859755990449285:=0
def tw3826204389337844901:=0
def tw11530584260519218341:=0
def tw5227082183530911973:=0
def tw2063512806242890053:=0
def tw7495068423417068869:=0
def tw4359186797397194085:=0
def tw4244846246527675781:=0
def tw3884221897408305541:=0
def tw5707990641714191813:=0
def tw945997216521921029:=0
def tw9153919603928028709:=0
def tw16036603685146479173:=0
def tw2596752090433472101:=0
def tw4363371935319655109:=0
def tw8408646086059502341:=0
def tw11458116192870570789:=0
def tw16590878890870198085:=0
def tw745894004758225829:=0
def tw16285611581912339365:=0
def tw277541822632325061:=0
def tw16888834699317312453:=0
def tw223571317888276453:=0
def tw12989783565434093574:=0
def tw5222062207404247046:=0
def tw11819618435831489670:=0
def tw5536289246623141030:=0
def tw7526391981739285702:=0
def tw13055988188324505798:=0
def tw17862205014078004454:=0
def tw3384131477996677382:=0
def tw9848439687777876262:=0
def tw5594885519474948422:=0
def tw15760956488174041446:=0
def tw16511411599883410886:=0
def tw9094226069496772102:=0
def tw15257939928593749510:=0
def tw9836431137082856966:=0
def tw17544358344287541766:=0
def tw14549596841626388006:=0
def tw5208178423759135270:=0
def tw9030186503118725766:=0
def tw9112971914295680678:=0
def tw10583105535803521702:=0
def tw9562832413033910982:=0
def tw5758757369597078278:=0
def tw6981552221851958022:=0
def tw17341725608053991206:=0
def tw18336208515212507942:=0
def tw2829266075887178598:=0
def tw10254747396880036710:=0
def tw561499579830133638:=0
def tw12097868022717178822:=0
def tw4314815855519509511:=0
def tw12195769678592385063:=0
def tw15998697081090668647:=0
def tw4441366550960343175:=0
def tw7211616680622073991:=0
def tw12171639743213701319:=0
def tw10327581553684880615:=0
def tw9089926469820134631:=0
def tw5249243629876494567:=0
def tw18034206345879119175:=0
def tw14067585019825662311:=0
def tw14348047377370982759:=0
def tw15829292790741548391:=0
def tw2793827943419403623:=0
def tw6832575459309489543:=0
def tw15842969701829498247:=0
def tw4853025716457448903:=0
def tw7164536605162027463:=0
def tw5383246451640463815:=0
def tw9473974874013659591:=0
def tw17902637622494855655:=0
def tw8680294602772040167:=0
def tw8729658764889935335:=0
def tw12616243071825607175:=0
def tw1678138901026209287:=0
def tw14226220811885260391:=0
def tw9128909257262529127:=0
def tw11055609859200281287:=0
def tw13580786552362065639:=0
def tw3241746049989647143:=0
def tw12959589542969373543:=0
def tw15695233461186628519:=0
def tw15974199373959962535:=0
def tw1472157430721537959:=0
def tw7535091334962178983:=0
def tw7282358717905046471:=0
def tw3531560466851800136:=0
def tw1542194011817672840:=0
def tw878463283023687816:=0
def tw11767009022695629032:=0
def tw11208155748074201416:=0
def tw6004996413956799816:=0
def tw17078578689527733576:=0
def tw10048257592860733800:=0
def tw6441282784696666728:=0
def tw17440881312234019432:=0
def tw18302237411499908840:=0
def tw4875808984841859880:=0
def tw13679671873622915880:=0
def tw16995848732026979112:=0
def tw14994438317370971976:=0
def tw2564211133848052552:=0
def tw3298459810552119272:=0
def tw3614775834481696809:=0
def tw8871480616388617257:=0
def tw2319177976908428393:=0
def tw16787489432141751401:=0
def tw18322831516143672457:=0
def tw11230820328747884841:=0
def tw10105050190546831753:=0
def tw15371803484222456233:=0
def tw1025998573575706025:=0
def tw18392068924229619145:=0
def tw15346628376910885481:=0
def tw11108185047998886505:=0
def tw16955161390610577065:=0
def tw7766081654100319945:=0
def tw17429642431386880841:=0
def tw4167920021511298953:=0
def tw16499864756990011305:=0
def tw9957474456972085193:=0
def tw11862372494912354281:=0
def tw15840572494674317322:=0
def tw5166723465177648202:=0
def tw5124679930573182026:=0
def tw13672327355113126026:=0
def tw2870076544529110186:=0
def tw8800086299987052746:=0
def tw18199688895006996682:=0
def tw29416773939149162:=0
def tw2067865664894549354:=0
def tw3462896984494852554:=0
def tw16623965140005864938:=0
def tw3153338104955685354:=0
def tw1033096568617845322:=0
def tw13801354014497628746:=0
def tw12230751879871638122:=0
def tw9609122446072871530:=0
def tw5420388483744863882:=0
def tw7125453197557377738:=0
def tw16494748653973159626:=0
def tw17887013662588799818:=0
def tw5204130171306172234:=0
def tw7801327190592105418:=0
def tw5679054981604952042:=0
def tw7679553955750655019:=0
def tw8558823605116361963:=0
def tw14342004439385259275:=0
def tw13922155832335628555:=0
def tw2311759490097650059:=0
def tw17917224038213689739:=0
def tw14838725402774109771:=0
def tw12876114534929870475:=0
def tw11066632806266793643:=0
def tw845825308752112395:=0
def tw2218351366337898283:=0
def tw6875469850991624011:=0
def tw16868314390201300875:=0
def tw15185192569446398859:=0
def tw4802278979697223627:=0
def tw10544706627580788748:=0
def tw15155796581970545676:=0
def tw10037553872386312236:=0
def tw912826684690186380:=0
def tw16071244050194683116:=0
def tw5822534832015335692:=0
def tw4992211398608823596:=0
def tw3783114608186531148:=0
def tw14363292750783495660:=0
def tw17733683610593968620:=0
def tw14971761357356876268:=0
def tw15750915955496811020:=0
def tw3350376456463136300:=0
def tw7480354498116308524:=0
def tw3362058115893118540:=0
def tw8934346122233599628:=0
def tw1292856427735402156:=0
def tw10963558626703215372:=0
def tw1906490196593605388:=0
def tw7961011921955785516:=0
def tw6086187333085710124:=0
def tw7404194292963113772:=0
def tw13274325223883817804:=0
def tw18423777695265814380:=0
def tw15162743269652155276:=0
def tw3064300083755601804:=0
def tw14562783743326070732:=0
def tw5965511714977050604:=0
def tw1030435227154389165:=0
def tw9227809738160854285:=0
def tw12668102905217850829:=0
def tw3772716685317778893:=0
def tw17566013150751978989:=0
def tw14652155872159400493:=0
def tw7643579472259543597:=0
def tw16317984448493015629:=0
def tw8858258068629143149:=0
def tw17618035917488073357:=0
def tw11827818692034090669:=0
def tw40049339486694125:=0
def tw10073605395767815949:=0
def tw1136866561850502957:=0
def tw12962790834666477421:=0
def tw11971004181064455117:=0
def tw13965950865966291054:=0
def tw16989547496674789582:=0
def tw1719509598662587598:=0
def tw1354817704654698734:=0
def tw5284045995673961742:=0
def tw2852897854070697326:=0
def tw5545339201485560174:=0
def tw13627780498171229550:=0
def tw16456033042188796302:=0
def tw4591531387773754766:=0
def tw11081840989373008302:=0
def tw11397434359769323982:=0
def tw9674242780406852078:=0
def tw697959885883518478:=0
def tw8024115923107846894:=0
def tw5169537940201788142:=0
def tw10851618792750587662:=0
def tw931022956540233518:=0
def tw259258334606270286:=0
def tw5961115295306913646:=0
def tw1416123914643066734:=0
def tw11992798145652592590:=0
def tw12794791672939626446:=0
def tw3560954901311747087:=0
def tw843507022859023503:=0
def tw6917856699232239855:=0
def tw5638618574510576911:=0
def tw2683033756207338767:=0
def tw5605178742699391279:=0
def tw10529482600925343087:=0
def tw8916699747420601711:=0
def tw11916485530202183087:=0
def tw9212377541991112207:=0
def tw18099190677510807055:=0
def tw1180384373959932559:=0
def tw5989541562447784591:=0
def tw1571900332610969295:=0
def tw13967276997804973775:=0
def tw9615602984666543855:=0
def tw18433663200386604783:=0
def tw11848241106898581231:=0
def tw6987934430744888111:=0
def tw2689686180440259407:=0
def tw16867276878612180847:=0
def tw10947833713823988623:=0
def tw14946272620279853967:=0
def tw12788857746970228655:=0
def tw2999944128549408719:=0
def tw13335566828332054479:=0
def tw12238995585428679696:=0
def tw10666693888792473648:=0
def tw3314904546694146128:=0
def tw11573457426748478576:=0
def tw17719346413840090224:=0
def tw17011571510742972560:=0
def tw10121084960432965840:=0
def tw13034444146894636272:=0
def tw10483906005218714928:=0
def tw6629082442270142768:=0
def tw2218600837178761584:=0
def tw3273540978935289200:=0
def tw16701718054603950512:=0
def tw12220980256446585360:=0
def tw10270551084732369424:=0
def tw15248354853756139024:=0
def tw3700516215223502384:=0
def tw5673548962269293296:=0
def tw10303900577716420368:=0
def tw6979046508129595184:=0
def tw152132975892712240:=0
def tw7071454966672319344:=0
def tw16689627220004006768:=0
def tw10971690038954393456:=0
def tw8180356696603536272:=0
def tw13485390922868982768:=0
def tw17342899786038578193:=0
def tw1265112848244472849:=0
def tw16432491164764302385:=0
def tw7447800511094740081:=0
def tw15535790360521244817:=0
def tw7258509188975100049:=0
def tw2994207511185832113:=0
def tw1687355957634727089:=0
def tw3642658408609948913:=0
def tw3369243500861691217:=0
def tw16575004507757331793:=0
def tw10992067059621970321:=0
def tw1482314679561635217:=0
def tw12055726606713983473:=0
def tw1124645855588141553:=0
def tw13308331986912056945:=0
def tw3908226986416898769:=0
def tw14065105977005218545:=0
def tw15107346365775274769:=0
def tw8088286057023243057:=0
def tw1177025982808971089:=0
def tw11921697186094418833:=0
def tw16012536839108530065:=0
def tw3921656339649787825:=0
def tw11137403361760894929:=0
def tw6469575970386244561:=0
def tw16689750825983817778:=0
def tw8855072089768388658:=0
def tw11870757787493303378:=0
def tw486037023448897618:=0
def tw18054218416044554418:=0
def tw3008515777095127218:=0
def tw14193238231238562002:=0
def tw17838858735342655730:=0
def tw7810902190613413138:=0
def tw13458014322936308114:=0
def tw4444058791711748562:=0
def tw16865658167624635922:=0
def tw13782984330496676402:=0
def tw9411068147588103730:=0
def tw9113665253580284498:=0
def tw9995424688682451538:=0
def tw3500177639500513906:=0
def tw16986446967000732274:=0
def tw15544465627552196210:=0
def tw5202094008649146994:=0
def tw12618593309345472146:=0
def tw7796299006909440690:=0
def tw8415194522251486930:=0
def tw5263334671633926898:=0
def tw15761626923624199922:=0
def tw17656903315003481874:=0
def tw15348564165467491250:=0
def tw3092212684790284242:=0
def tw17166641786796695506:=0
def tw12425798177425648594:=0
def tw9969249358307650546:=0
def tw3079292006617549843:=0
def tw10267568876307566611:=0
def tw6854606908375720051:=0
def tw12971227527430884499:=0
def tw4608294178985934259:=0
def tw3142178668539677139:=0
def tw15569215588044392947:=0
def tw853834733706651187:=0
def tw12144368561923651155:=0
def tw18408944869432574611:=0
def tw16259859273411045139:=0
def tw11413381979273061139:=0
def tw14619497591238277011:=0
def tw9237108001006122899:=0
def tw13181892849611424691:=0
def tw8399645979479267251:=0
def tw3074863007263536083:=0
def tw16113259318600869908:=0
def tw12629024507443379380:=0
def tw15513325922980796628:=0
def tw14943992042078811348:=0
def tw8203839119906512116:=0
def tw1478267269869322484:=0
def tw1993961112508084564:=0
def tw6867883091430394324:=0
def tw3902752064188660308:=0
def tw14471314663988278900:=0
def tw15508956507660351124:=0
def tw2792391072145557204:=0
def tw262085586073234196:=0
def tw12760727405614496532:=0
def tw17405676428323332916:=0
def tw1026401432243467188:=0
def tw11127556480780108756:=0
def tw17432720248260088853:=0
def tw13669163453097145429:=0
def tw18292759525137329397:=0
def tw10649283256902736117:=0
def tw6521532340528811285:=0
def tw8103268344431188245:=0
def tw14055516126764104981:=0
def tw3994438896706599317:=0
def tw12242829953545877941:=0
def tw4043788476564761205:=0
def tw14380849781848954517:=0
def tw12751909069679225589:=0
def tw1519849589247173429:=0
def tw4625573835422692181:=0
def tw11788692604376713077:=0
def tw2491288984421075829:=0
def tw4725122764787446645:=0
def tw11117167451401932693:=0
def tw5612017653056537525:=0
def tw2182821964306961430:=0
def tw17254787543145150518:=0
def tw17279832566201348214:=0
def tw8521836595746088118:=0
def tw9643979813340503222:=0
def tw1135238560687281366:=0
def tw13466124539753915638:=0
def tw12393307690065348886:=0
def tw2957143761260786006:=0
def tw18340351650579315030:=0
def tw4026049876312286582:=0
def tw10158443914807570806:=0
def tw8470843979026538934:=0
def tw1066789805638984150:=0
def tw16930897562051992086:=0
def tw10784453988815825462:=0
def tw6694487932787084918:=0
def tw677195119226247830:=0
def tw4314328097220973366:=0
def tw5273690442652997462:=0
def tw2832718467094870870:=0
def tw1027695199941999606:=0
def tw814253109899944950:=0
def tw12122411805884262455:=0
def tw6300890588700801111:=0
def tw13358282376922627159:=0
def tw3442367887853258967:=0
def tw16515797298109361399:=0
def tw11132939986802396471:=0
def tw15641883624847693111:=0
def tw18280382143950080343:=0
def tw10176291749435157975:=0
def tw10257624736970210775:=0
def tw10942961804713269751:=0
def tw16821394590135536119:=0
def tw7905430940767296151:=0
def tw8109660920917342903:=0
def tw16899224378295782103:=0
def tw14692152797009897175:=0
def tw1048153108572333783:=0
def tw2299624500314742519:=0
def tw340492273292357367:=0
def tw1069476076871435063:=0
def tw18318594777028035479:=0
def tw16098537075357809559:=0
def tw11254015592148521975:=0
def tw15469785421203825655:=0
def tw15556959750607564856:=0
def tw6383586597762483320:=0
def tw14898179018578885752:=0
def tw872511667400783032:=0
def tw3478278834423853240:=0
def tw12209459072871850264:=0
def tw2520961545664983352:=0
def tw13143230138401735064:=0
def tw13518887114176863672:=0
def tw15007311509827364312:=0
def tw11127114609689914840:=0
def tw12448734673644125656:=0
def tw13957991323364246136:=0
def tw17810632139007325816:=0
def tw10341381038359265944:=0
def tw7109236299850817240:=0
def tw9194327546110059256:=0
def tw7335593881768521464:=0
def tw2020903338602101496:=0
def tw7842901347806857048:=0
def tw266573444282183544:=0
def tw13802031458266318744:=0
def tw9741445382023111576:=0
def tw18138565030663353240:=0
def tw13894899994579758008:=0
def tw15544409839690346424:=0
def tw4269158102932897752:=0
def tw5420078609306896376:=0
def tw18115700637888079993:=0
def tw4240999192712104153:=0
def tw3540871135665317113:=0
def tw299607091833075961:=0
def tw5082480754845876537:=0
def tw2215349618782941497:=0
def tw6867495802295179577:=0
def tw14810984320435749241:=0
def tw3255516016988851577:=0
def tw9666401761877604761:=0
def tw11462748485051533721:=0
def tw13253437169355179449:=0
def tw16253270526989191641:=0
def tw14908423322796936953:=0
def tw13025785956033293049:=0
def tw8676600695877488409:=0
def tw4657593842939607865:=0
def tw3655875487465653049:=0
def tw700356864573156185:=0
def tw11511297159326135129:=0
def tw17626232135238246297:=0
def tw12254302950813837241:=0
def tw16575042122301102009:=0
def tw8143494463110932441:=0
def tw4582232292986250266:=0
def tw18124394717895846938:=0
def tw14974339105435694202:=0
def tw16582603427082263738:=0
def tw6481295000589588698:=0
def tw12478662741937557786:=0
def tw6396259794915194138:=0
def tw6228319065436883322:=0
def tw10217886018646449594:=0
def tw13523798534359706170:=0
def tw14864950841205387898:=0
def tw13809886666719326874:=0
def tw1596610744752901818:=0
def tw2604587506570330842:=0
def tw5576670858770560890:=0
def tw2654782711720053690:=0
def tw15768547920259370938:=0
def tw13280735833895557082:=0
def tw6318565807349917723:=0
def tw12836098819133827131:=0
def tw4770356349372636283:=0
def tw232055988657536123:=0
def tw10152272281576520859:=0
def tw7120413838062891419:=0
def tw16057424134636719515:=0
def tw3434055445694011835:=0
def tw1925850360606635483:=0
def tw13795086870548999707:=0
def tw16624743130774446715:=0
def tw1490492927810951803:=0
def tw8401483620500336251:=0
def tw14425792541681779355:=0
def tw748793090909460219:=0
def tw5043685642628890395:=0
def tw6793993343913603899:=0
def tw670874134448634683:=0
def tw8194903957278013307:=0
def tw7847642890790595515:=0
def tw14504173481584558011:=0
def tw2773990232515769307:=0
def tw11665022249654484955:=0
def tw12236975358801550331:=0
def tw17793388753394715643:=0
def tw1433320877230127099:=0
def tw16083559361040471068:=0
def tw10180116852073257020:=0
def tw16012931409069109340:=0
def tw18297748323880948924:=0
def tw15769988301220892892:=0
def tw11865671263302191484:=0
def tw15349286808668070364:=0
def tw4292209165437836860:=0
def tw7452288869920233020:=0
def tw12530552587126096476:=0
def tw13870272620440793756:=0
def tw6016543324311033532:=0
def tw8784369719442973372:=0
def tw13776018079674872508:=0
def tw5602744206064586460:=0
def tw7959107502081398492:=0
def tw6232390361061193468:=0
def tw5298498175753631516:=0
def tw6983014728150919004:=0
def tw10423947214550751100:=0
def tw3473868753806634908:=0
def tw18233265971204074428:=0
def tw10928715092308348892:=0
def tw1827315272761854972:=0
def tw14769832029526517756:=0
def tw3741319269853487261:=0
def tw18310775267744506045:=0
def tw4055906341233808637:=0
def tw1459328968455752029:=0
def tw9614650007586451805:=0
def tw7263217119014495613:=0
def tw7815119537998259581:=0
def tw16556715517638148509:=0
def tw9672585244704572829:=0
def tw13876281704932848061:=0
def tw4174351234009266621:=0
def tw2736797944123099645:=0
def tw10511821229004847645:=0
def tw13615284864790226525:=0
def tw9012557485660904157:=0
def tw14257267036872264413:=0
def tw11961449141385907933:=0
def tw6449914836864317245:=0
def tw13159222860833811261:=0
def tw14651621215451677533:=0
def tw11825013629713805149:=0
def tw18273341754246526909:=0
def tw11353379800720419805:=0
def tw6409587206638569469:=0
def tw14958143758964073502:=0
def tw1356330164779277342:=0
def tw13464033592608113790:=0
def tw7501948626337096862:=0
def tw3076829854404253886:=0
def tw12565471765416281310:=0
def tw214295355689315614:=0
def tw15073781566208788798:=0
def tw18382306506540624222:=0
def tw9907053244425865598:=0
def tw1859659199389197694:=0
def tw15147173572793268638:=0
def tw4654616716847093182:=0
def tw8643150615903548926:=0
def tw5606376707470815742:=0
def tw9861542494543934014:=0
def tw17528200463637854814:=0
def tw5597155395480842910:=0
def tw9950711892092357310:=0
def tw14201347878764616446:=0
def tw5835967374342892318:=0
def tw13563810152769638270:=0
def tw10701862626825301886:=0
def tw17650665507208902590:=0
def tw6962651053216929823:=0
def tw14225842814173821983:=0
def tw12312327446621523007:=0
def tw16640142884002773087:=0
def tw17439586610380456095:=0
def tw10460693381844589759:=0
def tw14167571215119430911:=0
def tw14475052872645698815:=0
def tw13169968647041398143:=0
def tw14542666810111080863:=0
def tw4528253004534396351:=0
def tw17470726305095907775:=0
def tw18441517708382522847:=0
def tw7800407534146279903:=0
def tw17051487798854690303:=0
def tw14323828351449967135:=0
def tw14579927279682755167:=0
def tw5312740426207989407:=0
def tw11064404214669796031:=0
def tw14439617807726400223:=0
def tw1280182191570873087:=0
def tw15817442036395238175:=0
def tw13689027964955151231:=0
def tw7515987162222152607:=0
def tw8032049639796805631:=0
def tw3374041840863011403:=0
end PySem.W.Fast
namespace My
open PySem L2 L2.MM
noncomputable section
def ZhK:SM:=(zY (ZH (mOp ltM (Zd 3) (Zd 2))) (Zn (ZL 4 (mCB ZhU (Zc (mC (.int 16)) (Zc (mOp Zdj (Zd 2) (Zd 3)) Zk))))
    (Zn (ZL 5 (mCB ZaP (Zc (mOp ixM (Zd 0) (mC (.int 1))) (Zc (mCB Zbx (Zc (mOp ixM (Zd 0) (mC (.int 3))) (Zc (Zd 3) Zk))) (Zc (mOp ixM (Zd 0) (mC (.int 2))) (Zc (mC (.int 16)) (Zc (mC (.int 1000)) (Zc (mSl (Zd 1) (ZaO (Zd 3)) (ZaO (mOp ZN (Zd 3) (Zd 4)))) Zk))))))))
    (Zn (zu (mCB zG (Zc (mOp ixM (Zd 0) (mC (.int 0))) (Zc (mCB Zba (Zc (Zd 5) Zk)) (Zc (mC (.int 1)) Zk)))))
    (ZL 3 (mOp ZN (Zd 3) (Zd 4)))))) 200)
def ZhL:SM:=(Zn (ZL 3 (mC (.int 0)))
  (Zn ZhK
  (zu (mCB Zd1 (Zc (mOp ixM (Zd 0) (mC (.int 0))) (Zc (mC (.int 1)) Zk))))))
def l_fill:GM:=ZQ 3 6 ZhL
def Zbm:SM:=(mIf (ZH (mOp eqM (Zd 2) (mC (.int 0)))) (ZP (ZbZ leM leM (mC (.int 0)) (Zd 1) (mC (.int 64)))) ZO)
def ZcD:SM:=(Zn Zbm
  (ZP (Zca (mOp gtM (Zd 0) (mC (.int 0))) (ZlQ (ZbZ leM ltM (mC (.int 0)) (Zd 1) (Zd 0)) (ZbZ leM ltM (mC (.int 0)) (mOp Zdj (mOp ZN (Zd 1) (Zd 2)) (mC (.int 1))) (Zd 0))))))
def Zck:GM:=ZQ 3 3 ZcD
def Zdi:SM:=(mIf (ZH (ZbZ leM ltM (mC (.int 0)) (mOp ZN (Zd 1) (Zd 7)) (Zd 4))) (ZmI (Zd 5) (mOp ZN (Zd 1) (Zd 7)) (mC (.bl true))) ZO)
def b_l_come_2:SM:=(ZgS (Zcy (Zc (Zd 2) Zk)) (gNm 7) Zdi)
def Zdh:SM:=(mIf (Zfc (ZH (mOp eqM (Zd 3) (mC (.int 1)))) (ZH (ZbZ leM ltM (mC (.int 0)) (mOp ZN (Zd 1) (Zd 2)) (Zd 4)))) (ZL 6 (mOp ZN (Zd 1) (Zd 2))) ZO)
def b_l_come_4:SM:=(mIf (zR (mCB Zck (Zc (Zd 4) (Zc (Zd 1) (Zc (mOp ZN (Zd 2) (Zd 3)) Zk))))) (Zn b_l_come_2
    Zdh) ZO)
def ZhM:SM:=(zY (Zfc (ZH (ZlS (Zd 8) (Zd 5))) (ZH (mOp neM (Zd 8) (Zd 6)))) (ZL 8 (mOp ZN (Zd 8) (mC (.int 1)))) 200)
def Zly:SM:=(Zn (ZL 4 (mOp Zdj (mC (.int 64)) (Zd 0)))
  (Zn (ZL 5 ZiY)
  (Zn (ZL 6 (mC .non))
  (Zn b_l_come_4
  (Zn (ZL 8 (mC (.int 0)))
  (Zn ZhM
  (ZP (Za7 (Zc (mOp ZN (Zd 0) (Zd 8)) (Zc (mOp eqM (Zd 8) (Zd 6)) Zk))))))))))
def Zgl:GM:=ZQ 4 9 Zly
def Ze9:SM:=(mIf (zR (Zd 7)) (ZL 6 (mOp ZN (mC (.int 48)) (mOp Zap (mCB Zao (Zc (Zd 0) (Zc (mC (.int 10)) Zk))) (mC (.int 17))))) ZO)
def Ze8:SM:=(mIf (zR (Zd 7)) (Zn (ZL 10 (mC (.int 0)))
    (Zn (ZL 11 (Zd 9))
    (ZL 12 (mC (.int 1))))) ZO)
def Zgt:SM:=(mIf (ZH (mOp Zgp (mCB zG (Zc (Zd 2) (Zc (mCB Zba (Zc (Zd 15) Zk)) (Zc (mC (.int 2)) Zk)))) (mC (.bl true)))) (ZP (mC (.bl false))) ZO)
def ZcY:SM:=(mIf (mOr (ZH (mOp gtM (mOp ZN (Zd 11) (Zd 12)) (mC (.int 0)))) (ZdI (zR (mCB Zck (Zc (Zd 9) (Zc (Zd 10) (Zc (mC (.int 0)) Zk))))))) (ZL 20 (ZbN (Zc (Za7 (Zc (mOp ixM (Zd 3) (mC (.int 0))) (Zc (mOp ixM (Zd 3) (mC (.int 1))) (Zc (Zd 4) (Zc (Zd 19) (Zc (mC (.int 16)) (Zc (mOp Zdj (mC (.int 64)) (Zd 17)) (Zc (mC (.int 0)) (Zc (Za7 Zk) Zk))))))))) Zk))) ZO)
def Ze7:SM:=(mIf (mOr (ZH (mOp neM (mCB Zd1 (Zc (Zd 2) (Zc (mC (.int 3)) Zk))) (Zd 20))) (ZH (mOp neM (mCB ZfI (Zc (Zd 2) Zk)) (mOp ixM (ZbN (Zc (mC (.str "open")) (Zc (mC (.str "close wait")) Zk))) (mCB ZlX (Zc (Zd 18) Zk)))))) (ZP (mC (.bl false))) ZO)
def Zm5:SM:=(Zn (ZL 1 (mCB Zc8 (Zc (Zd 0) (Zc (mC (.int 0)) (Zc (mC (.int 1000)) (Zc (mC (.int 0)) Zk))))))
  (Zn (ZL 2 (mOp ixM (Zd 1) (mC (.int 0))))
  (Zn (ZL 3 (mOp ixM (Zd 1) (mC (.int 1))))
  (Zn (ZL 4 (mOp ixM (Zd 1) (mC (.int 2))))
  (Zn (ZL 5 (mOp ixM (Zd 1) (mC (.int 3))))
  (Zn (ZL 6 (mOp ixM (ZbN (Zc (mC (.int 0)) (Zc (mC (.int 64)) (Zc (mC (.int 63)) (Zc (mC (.int 60)) (Zc (mC (.int 50)) (Zc (mOp Zap (mCB Zao (Zc (Zd 0) (Zc (mC (.int 10)) Zk))) (mC (.int 65))) Zk))))))) (mOp Zap (mCB Zao (Zc (Zd 0) (Zc (mC (.int 11)) Zk))) (mC (.int 6)))))
  (Zn (ZL 7 (mOp eqM (mOp Zap (mCB Zao (Zc (Zd 0) (Zc (mC (.int 17)) Zk))) (mC (.int 4))) (mC (.int 0))))
  (Zn Ze9
  (Zn (ZL 8 (ZcP (Zcy (Zc (mC (.int 200)) Zk)) [0] (mOp Zap (mCB Zao (Zc (Zd 1) (Zc (Zd 0) Zk))) (mC (.int 256)))))
  (Zn (zu (mCB l_fill (Zc (Zd 1) (Zc (Zd 8) (Zc (Zd 6) Zk)))))
  (Zn (ZL 9 (mOp Zdj (mC (.int 64)) (Zd 6)))
  (Zn (ZL 10 (mOp Zdj (mOp ZN (mOp ixM (ZbN (Zc (mC (.int 0)) (Zc (Zd 9) (Zc (mC (.int 64)) (Zc (ZrZ (mC (.int 16))) Zk))))) (mOp Zap (mCB Zao (Zc (Zd 0) (Zc (mC (.int 12)) Zk))) (mC (.int 4)))) (mOp Zap (mCB Zao (Zc (Zd 0) (Zc (mC (.int 13)) Zk))) (mC (.int 25)))) (mC (.int 12))))
  (Zn (ZL 11 (mOp ixM (ZbN (Zc (mC (.int 0)) (Zc (mC (.int 1)) (Zc (mC (.int 16)) (Zc (mOp Zap (mCB Zao (Zc (Zd 0) (Zc (mC (.int 14)) Zk))) (mC (.int 17))) Zk))))) (mOp Zap (mCB Zao (Zc (Zd 0) (Zc (mC (.int 15)) Zk))) (mC (.int 4)))))
  (Zn (ZL 12 (mOp ZeI (mOp Zap (mCB Zao (Zc (Zd 0) (Zc (mC (.int 16)) Zk))) (mC (.int 3))) (mC (.int 2))))
  (Zn Ze8
  (Zn (ZL 13 (mOp ZN (Zd 6) (Zd 10)))
  (Zn (ZL 14 (ZcP (Zcy (Zc (Zd 11) Zk)) [8,13] (Zep (ZH (mOp geM (mOp ZN (Zd 2) (Zd 0)) (mC (.int 0)))) (mOp ixM (Zd 1) (mOp ZN (Zd 2) (Zd 0))) (mC (.int 7)))))
  (Zn (ZL 15 (mCB ZaP (Zc (Zd 3) (Zc (mCB Zbx (Zc (Zd 5) (Zc (Zd 13) Zk))) (Zc (Zd 4) (Zc (mOp ZN (mC (.int 16)) (Zd 12)) (Zc (mC (.int 1000)) (Zc (Zd 14) Zk))))))))
  (Zn Zgt
  (Zn (ZL 16 (mCB Zgl (Zc (Zd 6) (Zc (Zd 10) (Zc (Zd 11) (Zc (Zd 12) Zk))))))
  (Zn (ZL 17 (mOp ixM (Zd 16) (mC (.int 0))))
  (Zn (ZL 18 (mOp ixM (Zd 16) (mC (.int 1))))
  (Zn (ZL 19 (mCB Zbx (Zc (Zd 5) (Zc (mOp ZN (Zd 17) (mCB ZlX (Zc (Zd 18) Zk))) Zk))))
  (Zn (ZL 20 (ZbN Zk))
  (Zn ZcY
  (Zn Ze7
  (ZP (mOp eqM (mCB ZdT (Zc (Zd 2) (Zc (mC (.int 500)) Zk))) (mSl (Zd 8) Zat (ZaO (Zd 17)))))))))))))))))))))))))))))))
def Zk9:GM:=ZQ 1 21 Zm5
def b_l_fill_1' (n:Nat):SM:=(zY (ZH (mOp ltM (Zd 3) (Zd 2))) (Zn (ZL 4 (mCB ZhU (Zc (mC (.int 16)) (Zc (mOp Zdj (Zd 2) (Zd 3)) Zk))))
    (Zn (ZL 5 (mCB ZaP (Zc (mOp ixM (Zd 0) (mC (.int 1))) (Zc (mCB Zbx (Zc (mOp ixM (Zd 0) (mC (.int 3))) (Zc (Zd 3) Zk))) (Zc (mOp ixM (Zd 0) (mC (.int 2))) (Zc (mC (.int 16)) (Zc (mC (.int 1000)) (Zc (mSl (Zd 1) (ZaO (Zd 3)) (ZaO (mOp ZN (Zd 3) (Zd 4)))) Zk))))))))
    (Zn (zu (mCB zG (Zc (mOp ixM (Zd 0) (mC (.int 0))) (Zc (mCB Zba (Zc (Zd 5) Zk)) (Zc (mC (.int 1)) Zk)))))
    (ZL 3 (mOp ZN (Zd 3) (Zd 4)))))) n)
abbrev Zee (a b f g:Int):D:=.tup [.ref 0,.tup [.int a,.int b],.int (Zu f 1),.int (Zu g 1)]
theorem Zh1 (sp far size:Int) (hz:0≤size) (θ:Sto):Zck [.int sp,.int far,.int size] θ=.ok (.bl (ZaJ sp far size)) θ:=by
  unfold ZaJ
  by_cases c:size=0
  · by_cases c1:0≤far<;>simp [Zck,ZcD,Zbm,c,c1]
  · by_cases c0:0<sp
    · by_cases c1:0≤far
      · by_cases c2:far<sp
        · simp [Zck,ZcD,Zbm,c,c0,c1,c2]
        · by_cases c3:0≤far+size-1
          · simp [Zck,ZcD,Zbm,c,c0,c1,c2,c3]
          · simp [Zck,ZcD,Zbm,c,c0,c1,c2,c3]
      · by_cases c3:0≤far+size-1
        · simp [Zck,ZcD,Zbm,c,c0,c1,c3]
        · simp [Zck,ZcD,Zbm,c,c0,c1,c3]
    · have:¬((0≤far∧far<sp)∨(0≤far+size-1∧far+size-1<sp)):=by omega
      simp [Zck,ZcD,Zbm,c,c0]
      omega
def sgm (S:Int→Int) (T m:Int):List Int:=(List.range (m-T).toNat).map fun (i:Nat)=>S (T+(i:Int))
theorem Za9 (S:Int→Int) (T m:Int):(sgm S T m).length=(m-T).toNat:=by simp [sgm]
theorem ZfA (S:Int→Int) (T m:Int) (i:Nat) (h:i<(sgm S T m).length):(sgm S T m)[i]=S (T+(i:Int)):=by simp [sgm]
theorem Zml (S:Int→Int) {T m:Int} (h:T≤m) (d:Nat):sgm S T m++(List.range d).map (fun (i:Nat)=>S (m+(i:Int)))=sgm S T (m+d):=by
  unfold sgm
  have e:(m+(d:Int)-T).toNat=(m-T).toNat+d:=by omega
  rw [e,List.range_add,List.map_append,List.map_map]
  congr 1
  apply List.map_congr_left
  intro i _
  simp only [Function.comp]
  congr 1
  omega
theorem ZkK (S:Int→Int) {T m:Int} (w:Nat) (h:T≤m):(sgm S T m).take w=sgm S T (if T+w<m then T+w else m):=by
  unfold sgm
  rw [←List.map_take,List.take_range]
  congr 2
  split<;>omega
theorem Zpq (S:Int→Int) {T m:Int} (w:Nat) (h:T≤m):(sgm S T m).drop w=sgm S (if T+w<m then T+w else m) m:=by
  apply List.ext_getElem
  · rw [List.length_drop,Za9,Za9]
    split<;>omega
  · intro i h1 h2
    have h2':=h2
    rw [Za9] at h2'
    rw [List.getElem_drop,ZfA,ZfA]
    congr 1
    split at h2'<;>rename_i c
    · rw [if_pos c]; omega
    · omega
theorem Zhq {e:Zv} {t:Int} (h1:e.owed_reset=none) (h2:e.state=.opn∨e.state=.closeWait) (h3:e.nxt=e.una) (h4:e.behind=e.nxt) (h5:e.probes=false) (hs:(ZbP e e.nxt 0 []).Ok):Zf6 t e (if e.owes_answer=true then [ZbP e e.nxt 0 []] else []) { e with owes_answer:=false }:=by
  have calm:∀o,Calm { e with owes_answer:=o } t:=fun o=>⟨h1,by show e.state∉_; rcases h2 with h | h<;>rw [h]<;>decide,fun z=>(by have z':e.state=.timeWait:=z; rcases h2 with h | h<;>rw [h] at z'<;>cases z'),fun z=>absurd h3 z⟩
  have more:∀o,hasMore { e with owes_answer:=o }=false:=by
    intro o
    have un:ZcE { e with owes_answer:=o }=0:=by show zg e.behind e.nxt=0; rw [h4,ZkU]
    unfold hasMore ZaZ hasNewFin
    rw [un]
    show ((_ && _) || (decide (e.state∈[State.waitOne,.closing,.lastAck]) && _))=false
    rcases h2 with h | h<;>rw [h]<;>simp
  have q:Za2 { e with owes_answer:=false } t=(none,{ e with owes_answer:=false }):=Zle (calm false) (.inl (more false)) h5 rfl
  by_cases c:e.owes_answer=true
  · rw [if_pos c]
    have ee:e={ e with owes_answer:=true }:=by rw [←c]
    have an:=Zit (calm true) (.inl (more true)) h5 rfl
    have sg:ZbP { e with owes_answer:=true } ({ e with owes_answer:=true }:Zv).nxt 0 []=ZbP e e.nxt 0 []:=rfl
    rw [sg,←ee] at an
    exact .cons an hs (.nil q)
  · rw [if_neg c]
    have c':e.owes_answer=false:=by simpa using c
    have ee:e={ e with owes_answer:=false }:=by rw [←c']
    rw [←ee] at q ⊢
    exact .nil q
abbrev noF:Int→Option Int:=fun _=>none
section
variable {S:Int→Int} {a b f g C u v t:Int} {l:EL} {o:Bool} {st:List Int} {B:Sto}
theorem Zv4 {n:Nat} (hn:n≤16) (hC:0≤C) (hCn:C+n≤64) (E:Ear g (1+C) 65 l noF):∃u' v' l',comes (eW a b f g 1000 C u v (sgm S 0 C) l o) ⟨b,a,Zu g (1+C),Zu f 1,16,1000,0,sgm S C (C+n)⟩ t=eW a b f g 1000 (C+n) u' v' (sgm S 0 (C+n)) l' (o || decide (0<n))∧Ear g (1+(C+n)) 65 l' noF:=by
  have cl:((sgm S 0 C).length:Int)=C:=by rw [Za9]; omega
  have xl:(sgm S C (C+n)).length=n:=by rw [Za9]; omega
  have hi1:(1:Int)+C+(64-((sgm S 0 C).length:Int))=65:=by omega
  have G:∀y,layL (1+C) 65 noF (1+C+0) (sgm S C (C+n)) y=if 1+C≤y∧y<1+C+n then some (S (y-1)) else none:=by
    intro y
    rw [Zi0,Option.none_or]
    by_cases c:1+C≤y∧y<1+C+(n:Int)
    · rw [if_pos ⟨c.1,by omega,by omega⟩,if_pos c,List.getElem?_eq_getElem (by rw [xl]; omega),ZfA]
      congr 2
      omega
    · rw [if_neg c]
      split
      · rw [List.getElem?_eq_none (by rw [xl]; omega)]
      · rfl
  have cm:=ZmR (a:=a) (b:=b) (f:=f) (g:=g) (W:=1000) (C:=C) (u:=u) (v:=v) (t:=t) (cs:=sgm S 0 C) (l:=l) (o:=o) (T:=0) (far:=0) (fg:=0) (x:=sgm S C (C+n)) (ys:=sgm S C (C+n)) (F:=noF) (fn:=none) (by omega) (by omega) (by omega) (.inl rfl) (by omega) (by decide) (by
      rw [cl,xl]
      unfold ZaJ
      split
      · simp
      · simp; omega) (by rw [hi1]; exact E) (by simp) (by
      intro j hj
      rw [xl] at hj
      rw [hi1,G,if_pos (by omega),List.getElem?_eq_getElem (by rw [xl]; omega),ZfA]
      refine ⟨?_,by simp⟩
      congr 2
      omega) (by
      left
      rw [hi1,xl,G,if_neg (by omega)])
  obtain ⟨u',v',l',h,E'⟩:=cm
  rw [xl,hi1] at E'
  have e0:(1:Int)+C+0=1+C:=by omega
  have e16:(16:Int)+0=16:=by omega
  rw [if_neg (by simp),xl,e0,e16] at h
  refine ⟨u',v',l',?_,?_⟩
  · rw [h]
    have e1:sgm S 0 C++sgm S C (C+n)=sgm S 0 (C+n):=by
      have:=Zml S (T:=0) (m:=C) hC n
      rw [←this]
      congr 1
      unfold sgm
      have:(C+(n:Int)-C).toNat=n:=by omega
      rw [this]
    rw [e1]
    have d01:decide ((0:Int)=1)=false:=by decide
    rw [d01,Bool.or_false]
    rfl
  · have:(fun y=>if y<1+(C+(n:Int)) then none else layL (1+C) 65 noF (1+C+0) (sgm S C (C+n)) y)=noF:=by
      funext y
      by_cases c:y<1+(C+(n:Int))
      · rw [if_pos c]
      · rw [if_neg c,G,if_neg (by omega)]
    rw [this] at E'
    exact E'
def slF (a b f g:Int) (st:List Int) (full at':Int) (x4 x5:Sl):List Sl:=[.val (Zee a b f g),.val (il st),.val (.int full),.val (.int at'),x4,x5]
theorem ZsS {full:Int} (hf:0≤full∧full≤64) (hl:0+3<B.length) (hst:st=sgm S 0 200) (hS:∀n,0≤S n∧S n≤255) (ra:0≤a∧a≤65535) (rb:0≤b∧b≤65535):∀(m n:Nat) (C u v:Int) (l:EL) (o:Bool) (x4 x5:Sl),0≤C→C≤full→full-C≤16*m→m<n→Ear g (1+C) 65 l noF→
    ∃u' v' l' o' y4 y5,b_l_fill_1' n (slF a b f g st full C x4 x5) (upE B 0 (eW a b f g 1000 C u v (sgm S 0 C) l o))=.ok (.nx,slF a b f g st full full y4 y5) (upE B 0 (eW a b f g 1000 full u' v' (sgm S 0 full) l' o'))∧Ear g (1+full) 65 l' noF
  | m,0,C,u,v,l,o,x4,x5,_,_,_,hn,_=>absurd hn (Nat.not_lt_zero _)
  | 0,n+1,C,u,v,l,o,x4,x5,h0,h1,h2,hn,E=>by
    have e:C=full:=by omega
    subst e
    refine ⟨u,v,l,o,x4,x5,?_,E⟩
    unfold b_l_fill_1'
    simp [zY,slF]
  | m+1,n+1,C,u,v,l,o,x4,x5,h0,h1,h2,hn,E=>by
    by_cases c:C<full
    · obtain ⟨k,hk⟩:∃k:Nat,(k:Int)=(if full-C<16 then full-C else 16):=⟨(if full-C<16 then full-C else 16).toNat,by split<;>omega⟩
      have k16:k≤16:=by split at hk<;>omega
      have ck:C+(k:Int)≤full:=by split at hk<;>omega
      obtain ⟨u1,v1,l1,hc,E1⟩:=Zv4 (S:=S) (a:=a) (b:=b) (f:=f) (u:=u) (v:=v) (t:=1) (o:=o) k16 h0 (by omega) E
      obtain ⟨u',v',l',o',y4,y5,ih,E'⟩:=ZsS hf hl hst hS ra rb m n (C+k) u1 v1 l1 (o || decide (0<k)) (.val (.int (k:Int))) (.val (Seg.mk b a (Zu g (1+C)) (Zu f 1) 16 1000 0 (sgm S C (C+k))).d) (by omega) ck (by split at hk<;>omega) (by omega) E1
      refine ⟨u',v',l',o',y4,y5,?_,E'⟩
      obtain ⟨s,hs⟩:∃s:Seg,s=⟨b,a,Zu g (1+C),Zu f 1,16,1000,0,sgm S C (C+k)⟩:=⟨_,rfl⟩
      have cl:(sgm S 0 C).length=C.toNat:=by rw [Za9]; omega
      have sok:s.Ok:=by
        rw [hs]
        refine Zid rb ra (Zcp _ _) (Zcp _ _) (by omega) (by omega) (.inl rfl) ⟨?_,by rw [Za9]; omega⟩
        intro z hz
        obtain ⟨j,_,rfl⟩:=List.mem_map.mp hz
        exact hS _
      have ar:=ZcQ (θ:=B) (l:=0) (e:=eW a b f g 1000 C u v (sgm S 0 C) l o) (s:=s) (now:=1) hl (by show (sgm S 0 C).length≤64; omega) sok (by rw [hs]; simp [ZeE,eW,qE]) (by have:=E.len (by omega); show l.length<150; omega)
      have ls:∀θ,ZaP [.tup [.int a,.int b],.int (Zu g (1+C)),.int (Zu f 1),.int 16,.int 1000,il (sgm S C (C+k))] θ=.ok s.d θ:=fun θ=>by rw [hs]; exact Zha θ
      have lb:∀θ,Zba [s.d] θ=.ok (il (putL s)) θ:=fun θ=>Zfy sok θ
      have pp:Zu (Zu g 1) C=Zu g (1+C):=Zac _ _ _
      have ct:ZbF st (some C) (some (C+k))=sgm S C (C+k):=by
        rw [hst,ZmU _ h0 (by omega),Zpq S _ (by omega),ZkK S _ (by split<;>omega)]
        have e1:((C.toNat:Nat):Int)=C:=by omega
        rw [e1,if_pos (by omega)]
        have e2:(0:Int)+C=C:=by omega
        rw [e2,if_pos (by omega)]
        congr 1
        omega
      rw [←hs] at hc ih
      rw [hc] at ar
      have un:∀(t:TMr) (b:SM) (ρ:List Sl) (θ:Sto),zY t b (n+1) ρ θ=(t ρ θ).bind fun k θ=>if k=true then (b ρ θ).bind (Zef (zY t b n)) else .ok (.nx,ρ) θ:=fun _ _ _ _=>rfl
      unfold b_l_fill_1' at ih ⊢
      rw [un]
      unfold slF at ih ⊢
      simp [c,←hk,pp,ct,ls,lb,ar]
      simpa using ih
    · have e:C=full:=by omega
      subst e
      refine ⟨u,v,l,o,x4,x5,?_,E⟩
      unfold b_l_fill_1'
      simp [zY,slF]
theorem Zrd {full:Int} (hf:0≤full∧full≤64) (hl:0+3<B.length) (hst:st=sgm S 0 200) (hS:∀n,0≤S n∧S n≤255) (ra:0≤a∧a≤65535) (rb:0≤b∧b≤65535) (E:Ear g (1+0) 65 l noF) :
    ∃u' v' l',l_fill [Zee a b f g,il st,.int full] (upE B 0 (eW a b f g 1000 0 u v [] l false))=.ok .non (upE B 0 (eW a b f g 1000 full u' v' (sgm S 0 full) l' false))∧Ear g (1+full) 65 l' noF:=by
  obtain ⟨u',v',l',o',y4,y5,h,E'⟩:=ZsS (a:=a) (b:=b) (f:=f) (B:=B) hf hl hst hS ra rb 4 200 0 u v l false .no .no (by omega) (by omega) (by omega) (by omega) E
  have s0:sgm S 0 0=[]:=by simp [sgm]
  rw [s0] at h
  refine ⟨u',v',l',?_,E'⟩
  have hb:b_l_fill_1' 200=ZhK:=rfl
  rw [hb] at h
  have m0:∀θ:Sto,ixM (Zee a b f g) (.int 0) θ=.ok (.ref 0) θ:=fun θ=>rfl
  obtain ⟨md,hmd⟩:∃x,x=Zee a b f g:=⟨_,rfl⟩
  have cl:((sgm S 0 full).length:Int)=full:=by rw [Za9]; omega
  unfold slF at h
  rw [←hmd] at h ⊢
  simp only [←hmd] at m0
  cases o' with
  | true=>
    have g1:=ZiK (θ:=B) hl (Ziw (a:=a) (b:=b) (f:=f) (g:=g) (W:=1000) (C:=full) (u:=u') (v:=v') (t:=1) (cs:=sgm S 0 full) (l:=l') (by omega) ra rb (by omega)) (by simp)
    simp [l_fill,ZhL,h,m0,g1]
  | false=>
    have g1:=ZiK (θ:=B) hl (Zix (a:=a) (b:=b) (f:=f) (g:=g) (W:=1000) (C:=full) (u:=u') (v:=v') (t:=1) (cs:=sgm S 0 full) (l:=l') (by omega)) (by simp)
    simp [l_fill,ZhL,h,m0,g1]
end
def slC (full far:Int) (size:Nat) (fg sp:Int) (x6 x7 x8:Sl):List Sl:=[.val (.int full),.val (.int far),.val (.int (size:Int)),.val (.int fg),.val (.int sp),.val (.ref 4),x6,x7,x8]
section
variable {full far fg sp:Int} {size:Nat} {x6 x7 x8:Sl} {B:Sto} {e:Zv} {K:List Int} {last:Option Int}
theorem Zt6 (hB:B.length=4) (hs:size≤16):∃K' y7,b_l_come_2 (slC full far size fg sp x6 x7 x8) (upE (B++[.dK (kd [])]) 0 e)=.ok (.nx,slC full far size fg sp x6 y7 x8) (upE (B++[.dK (kd K')]) 0 e)∧∀n,n∈K'↔∃j:Nat,j<size∧0≤far+j∧far+j<sp∧n=far+j:=by
  have hl:0+3<B.length:=by omega
  have dk:∀K,dkOf (upE (B++[.dK (kd K)]) 0 e) (.ref 4)=some (4,kd K):=fun K=>by have:=Zl2 (B:=B) (l:=0) (e:=e) (m:=kd K) hl; rw [hB] at this; exact this
  have ds:∀K K',(upE (B++[.dK (kd K)]) 0 e).set 4 (.dK (kd K'))=upE (B++[.dK (kd K')]) 0 e:=fun K K'=>by have:=Zuh (B:=B) (l:=0) (e:=e) (m:=kd K) (m':=kd K') hl; rw [hB] at this; exact this
  obtain ⟨ρ',θ',h,K',y7,hρ,hθ,h1,h2⟩:=for_rng (fi:=Zcy (Zc (Zd 2) Zk)) (body:=Zdi) (k:=7) (ρ:=slC full far size fg sp x6 x7 x8) (θ:=upE (B++[.dK (kd [])]) 0 e) (lo:=0) (n:=size)
    (fun i ρ θ'=>∃K' y7,ρ=slC full far size fg sp x6 y7 x8∧θ'=upE (B++[.dK (kd K')]) 0 e∧K'.length≤i∧∀n,n∈K'↔∃j:Nat,j<i∧0≤far+j∧far+j<sp∧n=far+j) (by simp [slC]; omega) ⟨[],_,rfl,rfl,by simp,by simp⟩ (by
      rintro i ρ θ' hi ⟨K',y7,rfl,rfl,h1,h2⟩
      have kl:(kd K').length<BIG:=by rw [Zqk]; simp [BIG]; omega
      by_cases c:0≤far+(i:Int)∧far+(i:Int)<sp
      · refine ⟨slC full far size fg sp x6 (.val (.int (i:Int))) x8,upE (B++[.dK (kd (Zl7 K' (far+i)))]) 0 e,?_,_,_,rfl,rfl,?_,?_⟩
        · simp [slC,Zdi,c.1,c.2,dk,Zrv,ds]
          rw [Zqk]; omega
        · have:=Zqd K' (far+i); omega
        · intro n
          rw [Zp6,h2]
          constructor
          · rintro (⟨j,z2,z3,z4,z5⟩ | z)
            · exact ⟨j,by omega,z3,z4,z5⟩
            · exact ⟨i,by omega,c.1,c.2,z⟩
          · rintro ⟨j,z2,z3,z4,z5⟩
            by_cases q:j=i
            · right; rw [z5,q]
            · exact .inl ⟨j,by omega,z3,z4,z5⟩
      · refine ⟨slC full far size fg sp x6 (.val (.int (i:Int))) x8,upE (B++[.dK (kd K')]) 0 e,?_,_,_,rfl,rfl,by omega,?_⟩
        · by_cases c1:0≤far+(i:Int)
          · have c2:¬far+(i:Int)<sp:=fun z=>c ⟨c1,z⟩
            simp [slC,Zdi,c1,c2]
          · simp [slC,Zdi,c1]
        · intro n
          rw [h2]
          constructor
          · rintro ⟨j,z2,z3,z4,z5⟩
            exact ⟨j,by omega,z3,z4,z5⟩
          · rintro ⟨j,z2,z3,z4,z5⟩
            by_cases q:j=i
            · exact absurd ⟨q ▸ z3,q ▸ z4⟩ c
            · exact ⟨j,by omega,z3,z4,z5⟩) (by rintro i ρ θ' ⟨K',y7,rfl,rfl,h1,h2⟩; simp [slC])
  subst hρ hθ
  exact ⟨K',y7,h,h2⟩
theorem Zmb (hB:B.length=4):∀(d n:Nat) (many:Int),(∀i:Nat,i<d→many+(i:Int)∈K∧¬last=some (many+(i:Int)))→(¬many+(d:Int)∈K∨last=some (many+(d:Int)))→d<n→zY (Zfc (ZH (ZlS (Zd 8) (Zd 5))) (ZH (mOp neM (Zd 8) (Zd 6)))) (ZL 8 (mOp ZN (Zd 8) (mC (.int 1)))) n (slC full far size fg sp (.val (Zdv last)) x7 (.val (.int many))) (upE (B++[.dK (kd K)]) 0 e)=.ok (.nx,slC full far size fg sp (.val (Zdv last)) x7 (.val (.int (many+d)))) (upE (B++[.dK (kd K)]) 0 e)
  | d,0,many,_,_,hn=>absurd hn (Nat.not_lt_zero _)
  | 0,n+1,many,h1,h2,hn=>by
    have hl:0+3<B.length:=by omega
    have dk:dkOf (upE (B++[.dK (kd K)]) 0 e) (.ref 4)=some (4,kd K):=by have:=Zl2 (B:=B) (l:=0) (e:=e) (m:=kd K) hl; rw [hB] at this; exact this
    have h2':¬many∈K∨last=some many:=by simpa using h2
    by_cases c:many∈K
    · have c2:last=some many:=h2'.resolve_left (fun z=>z c)
      simp [zY,slC,dk,ZgV,c,c2]
    · simp [zY,slC,dk,ZgV,c]
  | d+1,n+1,many,h1,h2,hn=>by
    have hl:0+3<B.length:=by omega
    have dk:dkOf (upE (B++[.dK (kd K)]) 0 e) (.ref 4)=some (4,kd K):=by have:=Zl2 (B:=B) (l:=0) (e:=e) (m:=kd K) hl; rw [hB] at this; exact this
    have h0:many∈K∧¬last=some many:=by simpa using h1 0 (by omega)
    have e1:∀i:Nat,many+1+(i:Int)=many+((i+1:Nat):Int):=fun i=>by omega
    have ih:=Zmb hB d n (many+1) (fun i hi=>by rw [e1]; exact h1 (i+1) (by omega)) (by rw [e1]; exact h2) (by omega)
    rw [e1] at ih
    have un:∀(t:TMr) (b:SM) (ρ:List Sl) (θ:Sto),zY t b (n+1) ρ θ=(t ρ θ).bind fun k θ=>if k=true then (b ρ θ).bind (Zef (zY t b n)) else .ok (.nx,ρ) θ:=fun _ _ _ _=>rfl
    rw [un]
    unfold slC at ih ⊢
    simp [dk,ZgV,h0.1,h0.2]
    simpa using ih
def Zbh (sp far:Int) (size:Nat) (fg:Int):Option Int:=if ZaJ sp far (size+fg)=true∧fg=1∧0≤far+size∧far+size<sp then some (far+size) else none
theorem Zre (hB:B.length=4) (hs:size≤16) (hg:fg=0∨fg=1) (hf:0≤full∧full≤64):∃(K:List Int) (d:Nat),Zgl [.int full,.int far,.int (size:Int),.int fg] (upE B 0 e)=.ok (.tup [.int (full+d),.bl (decide (Zbh (64-full) far size fg=some (d:Int)))]) (upE (B++[.dK (kd K)]) 0 e)∧(∀n,n∈K↔(ZaJ (64-full) far (size+fg)=true∧∃j:Nat,j<size∧0≤far+j∧far+j<64-full∧n=far+j))∧(∀i:Nat,i<d→(i:Int)∈K∧¬Zbh (64-full) far size fg=some (i:Int))∧(¬(d:Int)∈K∨Zbh (64-full) far size fg=some (d:Int)):=by
  have hl:0+3<B.length:=by omega
  have lf:=fun θ=>Zh1 (64-full) far (size+fg) (by omega) θ
  have d0:upE B 0 e++[Cell.dK []]=upE (B++[.dK (kd [])]) 0 e:=ZiJ hl _
  obtain ⟨last,hlast⟩:∃x,x=Zbh (64-full) far size fg:=⟨_,rfl⟩
  have mk:∃K y7,b_l_come_4 (slC full far size fg (64-full) (.val .non) .no .no) (upE (B++[.dK (kd [])]) 0 e)=.ok (.nx,slC full far size fg (64-full) (.val (Zdv last)) y7 .no) (upE (B++[.dK (kd K)]) 0 e)∧∀n,n∈K↔(ZaJ (64-full) far (size+fg)=true∧∃j:Nat,j<size∧0≤far+j∧far+j<64-full∧n=far+j):=by
    by_cases c:ZaJ (64-full) far (size+fg)=true
    · obtain ⟨K,y7,hm,hK⟩:=Zt6 (full:=full) (far:=far) (fg:=fg) (sp:=64-full) (x6:=.val .non) (x7:=.no) (x8:=.no) (e:=e) hB hs
      refine ⟨K,y7,?_,fun n=>⟨fun z=>⟨c,(hK n).mp z⟩,fun z=>(hK n).mpr z.2⟩⟩
      unfold slC at hm ⊢
      rw [hlast]
      unfold Zbh
      rcases hg with g0 | g1
      · subst g0
        rw [if_neg (fun z=>absurd z.2.1 (by decide))]
        simp only [Int.add_zero] at lf c
        simp [b_l_come_4,lf,c,hm,Zdh,Zdv]
      · subst g1
        by_cases c1:0≤far+(size:Int)∧far+(size:Int)<64-full
        · rw [if_pos ⟨c,rfl,c1⟩]
          simp [b_l_come_4,lf,c,hm,Zdh,Zdv,c1.1,c1.2]
        · rw [if_neg (fun z=>c1 z.2.2)]
          by_cases c2:0≤far+(size:Int)
          · have c3:¬far+(size:Int)<64-full:=fun z=>c1 ⟨c2,z⟩
            simp [b_l_come_4,lf,c,hm,Zdh,Zdv,c2,c3]
          · simp [b_l_come_4,lf,c,hm,Zdh,Zdv,c2]
    · have c':ZaJ (64-full) far (size+fg)=false:=by simpa using c
      refine ⟨[],.no,?_,fun n=>⟨fun z=>absurd z List.not_mem_nil,fun z=>absurd z.1 c⟩⟩
      have ln:last=none:=by rw [hlast]; unfold Zbh; rw [if_neg (fun z=>c z.1)]
      rw [ln]
      unfold slC
      simp [b_l_come_4,lf,c',Zdv]
  obtain ⟨K,y7,hm,hK⟩:=mk
  obtain ⟨d0',g1,g2⟩:=ZnB K 0
  simp only [Int.zero_add] at g1 g2
  have hd:∃d:Nat,d≤d0'∧(∀i:Nat,i<d→(i:Int)∈K∧¬last=some (i:Int))∧(¬(d:Int)∈K∨last=some (d:Int)):=by
    by_cases c:∃x:Nat,x<d0'∧last=some (x:Int)
    · obtain ⟨x,hx,he⟩:=c
      refine ⟨x,by omega,fun i hi=>⟨g1 i (by omega),fun z=>?_⟩,.inr he⟩
      rw [he] at z
      have:(x:Int)=(i:Int):=by injection z
      omega
    · exact ⟨d0',Nat.le_refl _,fun i hi=>⟨g1 i hi,fun z=>c ⟨i,hi,z⟩⟩,.inl g2⟩
  obtain ⟨d,dle,h1,h2⟩:=hd
  have dl:d≤64:=by
    cases d with
    | zero=>omega
    | succ d=>
      have:=(h1 d (by omega)).1
      rw [hK] at this
      obtain ⟨_,j,j1,j2,j3,j4⟩:=this
      omega
  refine ⟨K,d,?_,hK,?_,?_⟩
  · have hw:=Zmb (full:=full) (far:=far) (size:=size) (fg:=fg) (sp:=64-full) (x7:=y7) (e:=e) (K:=K) (last:=last) hB d 200 0 (by simpa using h1) (by simpa using h2) (by omega)
    rw [Int.zero_add] at hw
    have hw':ZhM (slC full far size fg (64-full) (.val (Zdv last)) y7 (.val (.int 0))) (upE (B++[.dK (kd K)]) 0 e)=_:=hw
    rw [←hlast]
    unfold slC at hm hw'
    simp [Zgl,Zly,d0,hB,hm,hw']
  · rw [←hlast]; exact h1
  · rw [←hlast]; exact h2
end
def ZsO:SM:=(Zn (ZL 16 (mCB Zgl (Zc (Zd 6) (Zc (Zd 10) (Zc (Zd 11) (Zc (Zd 12) Zk))))))
  (Zn (ZL 17 (mOp ixM (Zd 16) (mC (.int 0))))
  (Zn (ZL 18 (mOp ixM (Zd 16) (mC (.int 1))))
  (Zn (ZL 19 (mCB Zbx (Zc (Zd 5) (Zc (mOp ZN (Zd 17) (mCB ZlX (Zc (Zd 18) Zk))) Zk))))
  (Zn (ZL 20 (ZbN Zk))
  (Zn ZcY
  (Zn Ze7
  (ZP (mOp eqM (mCB ZdT (Zc (Zd 2) (Zc (mC (.int 500)) Zk))) (mSl (Zd 8) Zat (ZaO (Zd 17))))))))))))
def Zqh:SM:=(Zn (ZL 13 (mOp ZN (Zd 6) (Zd 10)))
  (Zn (ZL 14 (ZcP (Zcy (Zc (Zd 11) Zk)) [8,13] (Zep (ZH (mOp geM (mOp ZN (Zd 2) (Zd 0)) (mC (.int 0)))) (mOp ixM (Zd 1) (mOp ZN (Zd 2) (Zd 0))) (mC (.int 7)))))
  (Zn (ZL 15 (mCB ZaP (Zc (Zd 3) (Zc (mCB Zbx (Zc (Zd 5) (Zc (Zd 13) Zk))) (Zc (Zd 4) (Zc (mOp ZN (mC (.int 16)) (Zd 12)) (Zc (mC (.int 1000)) (Zc (Zd 14) Zk))))))))
  (Zn Zgt
  ZsO))))
def Zqi:SM:=(Zn (ZL 8 (ZcP (Zcy (Zc (mC (.int 200)) Zk)) [0] (mOp Zap (mCB Zao (Zc (Zd 1) (Zc (Zd 0) Zk))) (mC (.int 256)))))
  (Zn (zu (mCB l_fill (Zc (Zd 1) (Zc (Zd 8) (Zc (Zd 6) Zk)))))
  (Zn (ZL 9 (mOp Zdj (mC (.int 64)) (Zd 6)))
  (Zn (ZL 10 (mOp Zdj (mOp ZN (mOp ixM (ZbN (Zc (mC (.int 0)) (Zc (Zd 9) (Zc (mC (.int 64)) (Zc (ZrZ (mC (.int 16))) Zk))))) (mOp Zap (mCB Zao (Zc (Zd 0) (Zc (mC (.int 12)) Zk))) (mC (.int 4)))) (mOp Zap (mCB Zao (Zc (Zd 0) (Zc (mC (.int 13)) Zk))) (mC (.int 25)))) (mC (.int 12))))
  (Zn (ZL 11 (mOp ixM (ZbN (Zc (mC (.int 0)) (Zc (mC (.int 1)) (Zc (mC (.int 16)) (Zc (mOp Zap (mCB Zao (Zc (Zd 0) (Zc (mC (.int 14)) Zk))) (mC (.int 17))) Zk))))) (mOp Zap (mCB Zao (Zc (Zd 0) (Zc (mC (.int 15)) Zk))) (mC (.int 4)))))
  (Zn (ZL 12 (mOp ZeI (mOp Zap (mCB Zao (Zc (Zd 0) (Zc (mC (.int 16)) Zk))) (mC (.int 3))) (mC (.int 2))))
  (Zn Ze8
  Zqh)))))))
def Zqj:SM:=(Zn (ZL 1 (mCB Zc8 (Zc (Zd 0) (Zc (mC (.int 0)) (Zc (mC (.int 1000)) (Zc (mC (.int 0)) Zk))))))
  (Zn (ZL 2 (mOp ixM (Zd 1) (mC (.int 0))))
  (Zn (ZL 3 (mOp ixM (Zd 1) (mC (.int 1))))
  (Zn (ZL 4 (mOp ixM (Zd 1) (mC (.int 2))))
  (Zn (ZL 5 (mOp ixM (Zd 1) (mC (.int 3))))
  (Zn (ZL 6 (mOp ixM (ZbN (Zc (mC (.int 0)) (Zc (mC (.int 64)) (Zc (mC (.int 63)) (Zc (mC (.int 60)) (Zc (mC (.int 50)) (Zc (mOp Zap (mCB Zao (Zc (Zd 0) (Zc (mC (.int 10)) Zk))) (mC (.int 65))) Zk))))))) (mOp Zap (mCB Zao (Zc (Zd 0) (Zc (mC (.int 11)) Zk))) (mC (.int 6)))))
  (Zn (ZL 7 (mOp eqM (mOp Zap (mCB Zao (Zc (Zd 0) (Zc (mC (.int 17)) Zk))) (mC (.int 4))) (mC (.int 0))))
  (Zn Ze9
  Zqi))))))))
theorem Zqf:Zm5=Zqj:=rfl
def Ziz (S:Int→Int) (beg:Int) (size:Nat):List Int:=(List.range size).map fun (k:Nat)=>if 0≤beg+(k:Int) then S (beg+(k:Int)) else 7
section
variable {S:Int→Int} {a b f g full far fg u v:Int} {size d:Nat} {l:EL} {K:List Int}
theorem Zuj (hf:0≤full∧full≤64) (hfar : -100<far∧far<100) (hs:size≤16) (hg:fg=0∨fg=1) (ra:0≤a∧a≤65535) (rb:0≤b∧b≤65535) (E:Ear g (1+full) 65 l noF)
    (hK:∀n,n∈K↔(ZaJ (64-full) far (size+fg)=true∧∃j:Nat,j<size∧0≤far+j∧far+j<64-full∧n=far+j)) (h1:∀i:Nat,i<d→(i:Int)∈K∧¬Zbh (64-full) far size fg=some (i:Int)) (h2:¬(d:Int)∈K∨Zbh (64-full) far size fg=some (d:Int)) :
    ∃e' e'',comes (eW a b f g 1000 full u v (sgm S 0 full) l false) ⟨b,a,Zu g (1+full+far),Zu f 1,16+fg,1000,0,Ziz S (full+far) size⟩ 2=e'∧Zf6 3 e' (if 0<(size:Int)+fg∨ZaJ (64-full) far 0=false then [Zgv a b f g (full+d+(if Zbh (64-full) far size fg=some (d:Int) then 1 else 0)) (64-(full+d))] else []) e''∧e''.state=(if Zbh (64-full) far size fg=some (d:Int) then .closeWait else .opn)∧e''.come=sgm S 0 (full+d)∧full+d≤64:=by
  have cl:((sgm S 0 full).length:Int)=full:=by rw [Za9]; omega
  obtain ⟨x,hx⟩:∃x,x=Ziz S (full+far) size:=⟨_,rfl⟩
  have xl:x.length=size:=by rw [hx]; simp [Ziz]
  have dl:full+(d:Int)≤64:=by
    cases d with
    | zero=>simp; omega
    | succ d=>
      have:=(h1 d (by omega)).1
      rw [hK] at this
      obtain ⟨_,j,j1,j2,j3,j4⟩:=this
      omega
  rw [←hx]
  by_cases c:ZaJ (64-full) far (size+fg)=true
  · have hi1:(1:Int)+full+(64-((sgm S 0 full).length:Int))=65:=by omega
    obtain ⟨last,hl⟩:∃z,z=Zbh (64-full) far size fg:=⟨_,rfl⟩
    have hl2:last=if fg=1∧0≤far+(size:Int)∧far+(size:Int)<64-full then some (far+size) else none:=by
      rw [hl]
      unfold Zbh
      by_cases q:fg=1∧0≤far+(size:Int)∧far+(size:Int)<64-full
      · rw [if_pos ⟨c,q⟩,if_pos q]
      · rw [if_neg (fun z=>q z.2),if_neg q]
    rw [←hl] at h1 h2 ⊢
    obtain ⟨fn,hfn⟩:∃z:Option Int,z=if fg=1∧0≤far+(x.length:Int)∧far+(x.length:Int)<64-((sgm S 0 full).length:Int) then some (Zu g (1+full+far+x.length)) else none:=⟨_,rfl⟩
    have fi:∀i:Nat,i≤64→(fn=some (Zu g (1+full+i))↔last=some (i:Int)):=by
      intro i hi
      rw [hfn,hl2,cl,xl]
      by_cases q:fg=1∧0≤far+(size:Int)∧far+(size:Int)<64-full
      · rw [if_pos q,if_pos q,Option.some.injEq,Option.some.injEq,Zgd (R:=1+full) (by omega) (by omega)]
        omega
      · rw [if_neg q,if_neg q]; simp
    have G:∀n:Nat,layL (1+full) 65 noF (1+full+far) x (1+full+n)=if (n:Int)∈K then some (S (full+n)) else none:=by
      intro n
      rw [Zi0,Option.none_or]
      by_cases k:(n:Int)∈K
      · rw [if_pos k]
        rw [hK] at k
        obtain ⟨_,j,j1,j2,j3,j4⟩:=k
        rw [if_pos ⟨by omega,by omega,by omega⟩]
        have ej:(1+full+(n:Int)-(1+full+far)).toNat=j:=by omega
        rw [ej,hx]
        unfold Ziz
        rw [List.getElem?_map,List.getElem?_range j1]
        simp only [Option.map_some]
        rw [if_pos (by omega)]
        congr 2
        omega
      · rw [if_neg k]
        split
        · rename_i q
          rw [List.getElem?_eq_none]
          rw [xl]
          by_cases z:(1+full+(n:Int)-(1+full+far)).toNat<size
          · exfalso
            apply k
            rw [hK]
            exact ⟨c,_,z,by omega,by omega,by omega⟩
          · omega
        · rfl
    obtain ⟨ys,hys⟩:∃y,y=(List.range d).map fun (i:Nat)=>S (full+(i:Int)):=⟨_,rfl⟩
    have yl:ys.length=d:=by rw [hys]; simp
    have cm:=ZmR (a:=a) (b:=b) (f:=f) (g:=g) (W:=1000) (C:=full) (u:=u) (v:=v) (t:=2) (cs:=sgm S 0 full) (l:=l) (o:=false) (T:=0) (far:=far) (fg:=fg) (x:=x) (ys:=ys) (F:=noF) (fn:=fn) (by omega) (by omega) (by omega) hg (by omega) (by decide) (by rw [cl,xl]; exact c) (by rw [hi1]; exact E) hfn (by
      intro j hj
      rw [yl] at hj
      rw [hi1,G,if_pos (h1 j hj).1,hys]
      refine ⟨?_,fun z=>(h1 j hj).2 ((fi j (by omega)).mp z)⟩
      rw [List.getElem?_map,List.getElem?_range hj]
      rfl) (by
      rw [hi1,yl]
      rcases h2 with h | h
      · left; rw [G,if_neg h]
      · right; exact (fi d (by omega)).mpr h)
    obtain ⟨u',v',l',h,_⟩:=cm
    rw [yl] at h
    have e1:sgm S 0 full++ys=sgm S 0 (full+d):=by rw [hys]; exact Zml S hf.1 d
    rw [e1,Bool.false_or] at h
    have rr:(1:Int)+(full+d)=1+full+d:=by omega
    have cl2:((sgm S 0 (full+d)).length:Int)=full+d:=by rw [Za9]; omega
    have due:(decide (0<x.length) || decide (fg=1))=decide (0<(size:Int)+fg):=by
      rw [xl,←Bool.decide_or,decide_eq_decide]
      omega
    have f0:0<(size:Int)+fg∨ZaJ (64-full) far 0=false↔0<(size:Int)+fg:=by
      refine ⟨fun z=>z.elim id fun z=>?_,.inl⟩
      by_cases q:0<(size:Int)+fg
      · exact q
      · have:(size:Int)+fg=0:=by omega
        rw [this,z] at c
        cases c
    rw [due] at h
    by_cases ov:last=some (d:Int)
    · rw [if_pos (by rw [rr]; exact (fi d (by omega)).mpr ov)] at h
      have fg1:fg=1:=by
        rw [hl2] at ov
        by_cases q:fg=1∧0≤far+(size:Int)∧far+(size:Int)<64-full
        · exact q.1
        · rw [if_neg q] at ov; cases ov
      have pos:0<(size:Int)+fg:=by omega
      rw [if_pos (.inl pos),if_pos ov,if_pos ov]
      rw [decide_eq_true pos] at h
      obtain ⟨e',he'⟩:∃z,z=Ze2 (wF (eW a b f g 1000 (full+d) u' v' (sgm S 0 (full+d)) l' true) fn) 2:=⟨_,rfl⟩
      rw [←he'] at h
      have he2:e'={ wF (eW a b f g 1000 (full+d) u' v' (sgm S 0 (full+d)) l' true) fn with rcv:=Zu (Zu g (1+(full+d))) 1,state:=.closeWait }:=by rw [he']; rfl
      have sg:ZbP e' e'.nxt 0 []=Zgv a b f g (full+d+1) (64-(full+d)):=by
        rw [he2]
        show Seg.mk a b (Zu f 1) (Zu (Zu g (1+(full+d))) 1) (0+16) (64-((sgm S 0 (full+d)).length:Int)) 0 []=_
        rw [Zac,cl2]
        unfold Zgv
        congr 2
        omega
      have gv:=Zhq (e:=e') (t:=3) (by rw [he2]; rfl) (.inr (by rw [he2])) (by rw [he2]; rfl) (by rw [he2]; rfl) (by rw [he2]; rfl) (by rw [sg]; exact Zjf ra rb (by omega))
      rw [if_pos (by rw [he2]; rfl),sg] at gv
      exact ⟨e',_,h,gv,by show e'.state=_; rw [he2],by show e'.come=_; rw [he2]; rfl,dl⟩
    · rw [if_neg (fun z=>ov ((fi d (by omega)).mp (by rw [←rr]; exact z)))] at h
      rw [if_neg ov,if_neg ov]
      obtain ⟨e',he'⟩:∃z,z=wF (eW a b f g 1000 (full+d) u' v' (sgm S 0 (full+d)) l' (decide (0<(size:Int)+fg))) fn:=⟨_,rfl⟩
      rw [←he'] at h
      have sg:ZbP e' e'.nxt 0 []=Zgv a b f g (full+d+0) (64-(full+d)):=by
        rw [he']
        show Seg.mk a b (Zu f 1) (Zu g (1+(full+d))) (0+16) (64-((sgm S 0 (full+d)).length:Int)) 0 []=_
        rw [cl2]
        unfold Zgv
        congr 2
        omega
      have gv:=Zhq (e:=e') (t:=3) (by rw [he']; rfl) (.inl (by rw [he']; rfl)) (by rw [he']; rfl) (by rw [he']; rfl) (by rw [he']; rfl) (by rw [sg]; exact Zjf ra rb (by omega))
      have oa:e'.owes_answer=decide (0<(size:Int)+fg):=by rw [he']; rfl
      rw [oa,sg] at gv
      refine ⟨e',{ e' with owes_answer:=false },h,?_,by show e'.state=_; rw [he']; rfl,by show e'.come=_; rw [he']; rfl,dl⟩
      by_cases q:0<(size:Int)+fg
      · rw [if_pos (.inl q)]
        rw [if_pos (decide_eq_true q)] at gv
        exact gv
      · rw [if_neg (fun z=>q (f0.mp z))]
        rw [if_neg (by simpa using q)] at gv
        exact gv
  · have c':ZaJ (64-full) far (size+fg)=false:=by simpa using c
    have ln:Zbh (64-full) far size fg=none:=by unfold Zbh; rw [if_neg (fun z=>c z.1)]
    have d0:d=0:=by
      cases d with
      | zero=>rfl
      | succ d=>
        exfalso
        have:=(h1 0 (by omega)).1
        rw [hK] at this
        exact c this.1
    subst d0
    have aw:=Zsb (a:=a) (b:=b) (f:=f) (g:=g) (W:=1000) (C:=full) (u:=u) (v:=v) (t:=2) (cs:=sgm S 0 full) (l:=l) (o:=false) (far:=far) (fg:=fg) (x:=x) (by omega) (by omega) hg (by rw [cl,xl]; exact c')
    have z0:full+((0:Nat):Int)=full:=by simp
    have gv:=Ziw (a:=a) (b:=b) (f:=f) (g:=g) (W:=1000) (C:=full) (u:=u) (v:=v) (t:=3) (cs:=sgm S 0 full) (l:=l) (by omega) ra rb (by omega)
    rw [cl] at gv
    have nl:¬(none:Option Int)=some ((0:Nat):Int):=by simp
    rw [ln,z0,if_neg nl,if_neg nl,Int.add_zero]
    refine ⟨eW a b f g 1000 full u v (sgm S 0 full) l true,eW a b f g 1000 full u v (sgm S 0 full) l false,aw,?_,rfl,rfl,by omega⟩
    rw [if_pos]
    · exact gv
    · by_cases q:0<(size:Int)+fg
      · exact .inl q
      · right
        have:(size:Int)+fg=0:=by omega
        rw [this] at c'
        exact c'
end
def Zco (ns:List Int) (a b f g full:Int) (br:Bool) (x8 x9 x10 x11 x12 x13 x14 x15 x16 x17 x18 x19 x20:Sl):List Sl:=[.val (.scr ns),.val (Zee a b f g),.val (.ref 0),.val (.tup [.int a,.int b]),.val (.int (Zu f 1)),.val (.int (Zu g 1)),.val (.int full),.val (.bl br),x8,x9,x10,x11,x12,x13,x14,x15,x16,x17,x18,x19,x20]
theorem Zvv (A m:Int) (hA:0≤A∧A<65) (hm:0≤m∧m<6):∃full:Int,(∀θ,ixM (il [0,64,63,60,50,A]) (.int m) θ=.ok (.int full) θ)∧0≤full∧full≤64:=by
  refine ⟨gt [0,64,63,60,50,A] m.toNat,fun θ=>Zbi hm.1 (by simp; omega),?_⟩
  have:m=0∨m=1∨m=2∨m=3∨m=4∨m=5:=by omega
  rcases this with h | h | h | h | h | h<;>subst h<;>simp [gt]<;>omega
theorem Zvw (sp m:Int) (hA:0≤sp∧sp≤64) (hm:0≤m∧m<4):∃x:Int,(∀θ,ixM (il [0,sp,64,-16]) (.int m) θ=.ok (.int x) θ)∧-16≤x∧x≤64:=by
  refine ⟨gt [0,sp,64,-16] m.toNat,fun θ=>Zbi hm.1 (by simp; omega),?_⟩
  have:m=0∨m=1∨m=2∨m=3:=by omega
  rcases this with h | h | h | h<;>subst h<;>simp [gt]<;>omega
theorem Zvu (A m:Int) (hA:0≤A∧A<17) (hm:0≤m∧m<4):∃size:Nat,(∀θ,ixM (il [0,1,16,A]) (.int m) θ=.ok (.int (size:Int)) θ)∧size≤16:=by
  have:m=0∨m=1∨m=2∨m=3:=by omega
  refine ⟨(gt [0,1,16,A] m.toNat).toNat,fun θ=>?_,?_⟩
  · rw [Zbi hm.1 (by simp; omega)]
    congr 2
    rcases this with h | h | h | h<;>subst h<;>simp [gt]<;>omega
  · rcases this with h | h | h | h<;>subst h<;>simp [gt]<;>omega
section
variable {S:Int→Int} {ns:List Int} {a b f g full far fg u v:Int} {size:Nat} {l:EL} {br:Bool} {B:Sto} {st:List Int} {x8 x9 x10 x11 x12 x13 x14 x15 x16 x17 x18 x19 x20:Sl}
theorem Zv7 (hB:B.length=4) (hf:0≤full∧full≤64) (hfar : -100<far∧far<100) (hs:size≤16) (hg:fg=0∨fg=1) (hlen:full+far+size<200) (ra:0≤a∧a≤65535) (rb:0≤b∧b≤65535) (hst:st=sgm S 0 200) (hS:∀n,0≤S n∧S n≤255) (E:Ear g (1+full) 65 l noF) :
    ∃ρ' θ',Zqh (Zco ns a b f g full br (.val (il st)) (.val (.int (64-full))) (.val (.int far)) (.val (.int (size:Int))) (.val (.int fg)) x13 x14 x15 x16 x17 x18 x19 x20) (upE B 0 (eW a b f g 1000 full u v (sgm S 0 full) l false))=.ok (.rt (.bl true),ρ') θ':=by
  have hl:0+3<B.length:=by omega
  have cl:((sgm S 0 full).length:Int)=full:=by rw [Za9]; omega
  obtain ⟨x,hx⟩:∃x,x=Ziz S (full+far) size:=⟨_,rfl⟩
  have hix:∀n:Int,0≤n→n<200→∀θ,ixM (il st) (.int n) θ=.ok (.int (S n)) θ:=by
    intro n h0 h1 θ
    rw [Zbi h0 (by rw [hst,Za9]; omega),hst]
    unfold gt
    rw [List.getD_eq_getElem?_getD,List.getElem?_eq_getElem (by rw [Za9]; omega),ZfA]
    simp only [Option.getD_some]
    congr 3
    omega
  have cp:∀ρ θ (h8:ρ[8]?=some (Sl.val (il st))) (h11:ρ[11]?=some (Sl.val (.int (size:Int)))) (h13:ρ[13]?=some (Sl.val (.int (full+far)))),ZcP (Zcy (Zc (Zd 11) Zk)) [8,13] (Zep (ZH (mOp geM (mOp ZN (Zd 2) (Zd 0)) (mC (.int 0)))) (mOp ixM (Zd 1) (mOp ZN (Zd 2) (Zd 0))) (mC (.int 7))) ρ θ=.ok (il x) θ:=by
    intro ρ θ h8 h11 h13
    have:=Zlm (nE:=Zd 11) (src:=[8,13]) (elt:=Zep (ZH (mOp geM (mOp ZN (Zd 2) (Zd 0)) (mC (.int 0)))) (mOp ixM (Zd 1) (mOp ZN (Zd 2) (Zd 0))) (mC (.int 7))) (ρ:=ρ) (θ:=θ) (j:=(size:Int)) (fun k=>if 0≤full+far+(k:Int) then S (full+far+(k:Int)) else 7) (by simp [h11]) (by omega) (by omega) (by
      intro i hi
      by_cases c:0≤full+far+(i:Int)
      · simp [h8,h13,c,hix _ c (by omega)]
      · simp [h8,h13,c])
    rw [this,hx]
    rfl
  have xb:(∀z∈x,0≤z∧z≤255)∧x.length≤16:=by
    rw [hx]
    refine ⟨?_,by simpa [Ziz] using hs⟩
    intro z hz
    obtain ⟨j,_,rfl⟩:=List.mem_map.mp hz
    have:=hS (full+far+(j:Int))
    split<;>omega
  obtain ⟨s,hsg⟩:∃s:Seg,s=⟨b,a,Zu g (1+full+far),Zu f 1,16+fg,1000,0,x⟩:=⟨_,rfl⟩
  have sok:s.Ok:=by rw [hsg]; exact Zid rb ra (Zcp _ _) (Zcp _ _) (by omega) (by omega) (.inl rfl) xb
  have ar:=ZcQ (θ:=B) (l:=0) (e:=eW a b f g 1000 full u v (sgm S 0 full) l false) (s:=s) (now:=2) hl (by show (sgm S 0 full).length≤64; omega) sok (by rw [hsg]; simp [ZeE,eW,qE]) (by have:=E.len (by omega); show l.length<150; omega)
  have ls:∀θ,ZaP [.tup [.int a,.int b],.int (Zu g (1+full+far)),.int (Zu f 1),.int (16+fg),.int 1000,il x] θ=.ok s.d θ:=fun θ=>by rw [hsg]; exact Zha θ
  have lb:∀θ,Zba [s.d] θ=.ok (il (putL s)) θ:=fun θ=>Zfy sok θ
  have pp:Zu (Zu g 1) (full+far)=Zu g (1+full+far):=by rw [Zac]; congr 1; omega
  obtain ⟨K,d,hc,hK,h1,h2⟩:=Zre (B:=B) (full:=full) (far:=far) (fg:=fg) (size:=size) (e:=comes (eW a b f g 1000 full u v (sgm S 0 full) l false) s 2) hB hs hg hf
  obtain ⟨e',e'',he',gv,es,ec,dl⟩:=Zuj (S:=S) (a:=a) (b:=b) (f:=f) (u:=u) (v:=v) hf hfar hs hg ra rb E hK h1 h2
  rw [←hx,←hsg] at he'
  rw [he'] at ar hc
  have hl2:0+3<(B++[Cell.dK (kd K)]).length:=by rw [List.length_append]; omega
  have gvn:=ZiK (θ:=B++[.dK (kd K)]) hl2 gv (by split<;>simp)
  have rd:=Zs9 (θ:=B++[.dK (kd K)]) (l:=0) (e:=e'') (n:=500) hl2
  have tk:e''.come.take (500:Int).toNat=sgm S 0 (full+d):=by
    rw [ec]
    exact List.take_of_length_le (by rw [Za9]; omega)
  rw [tk] at rd
  have ct:ZbF st none (some (full+d))=sgm S 0 (full+d):=by
    rw [hst,Zdw _ (by omega),ZkK S _ (by omega)]
    congr 1
    split<;>omega
  have sta:=Zq9 (θ:=B++[.dK (kd K)]) (l:=0) (e:=e'') hl2
  rw [es] at sta
  have lf:=fun θ=>Zh1 (64-full) far 0 (by omega) θ
  obtain ⟨over,hov⟩:∃x:Bool,x=decide (Zbh (64-full) far size fg=some (d:Int)):=⟨_,rfl⟩
  rw [←hov] at hc
  have tov:(if Zbh (64-full) far size fg=some (d:Int) then (1:Int) else 0)=if over=true then 1 else 0:=by
    rw [hov]; simp
  have sov:(if Zbh (64-full) far size fg=some (d:Int) then State.closeWait else .opn)=if over=true then State.closeWait else .opn:=by
    rw [hov]; simp
  rw [tov] at gvn
  rw [sov] at sta
  have pa:Zu (Zu g 1) (full+d+(if over=true then 1 else 0))=Zu g (1+(full+d+(if over=true then 1 else 0))):=Zac _ _ _
  have sx:∀θ,ixM (.lst [.str State.opn.s,.str State.closeWait.s]) (.int (if over=true then 1 else 0)) θ=.ok (.str (if over=true then State.closeWait else .opn).s) θ:=by
    intro θ
    cases over<;>rfl
  have hd2:∀z:Int,z=full+d+(if over=true then 1 else 0)→(Seg.mk a b (Zu f 1) (Zu g (1+z)) 16 (64-(full+d)) 0 []).d=(Zgv a b f g z (64-(full+d))).d:=fun z _=>rfl
  obtain ⟨z,hz⟩:∃z,z=full+d+(if over=true then (1:Int) else 0):=⟨_,rfl⟩
  rw [←hz] at gvn pa
  obtain ⟨sA,hsA⟩:∃x,x=(Zgv a b f g z (64-(full+d))).d:=⟨_,rfl⟩
  have hsA':D.tup [.int a,.int b,.int (Zu f 1),.int (Zu g (1+z)),.int 16,.int (64-(full+d)),.int 0,.tup []]=sA:=by rw [hsA]; rfl
  have n0:∀θ,neM (.lst (([]:List Seg).map Seg.d)) (.lst (([]:List Seg).map Seg.d)) θ=.ok (.bl false) θ:=fun θ=>by rw [ZmE]; simp
  have n1:∀θ,neM (.lst ([Zgv a b f g z (64-(full+d))].map Seg.d)) (.lst ([Zgv a b f g z (64-(full+d))].map Seg.d)) θ=.ok (.bl false) θ:=fun θ=>by rw [ZmE]; simp
  simp only [List.map_nil,List.map_cons,←hsA] at n0 n1
  have r4:∀(x14 x15:Sl) (θ:Sto),ZcY (Zco ns a b f g full br (.val (il st)) (.val (.int (64-full))) (.val (.int far)) (.val (.int (size:Int))) (.val (.int fg)) (.val (.int (full+far))) x14 x15 (.val (.tup [.int (full+d),.bl over])) (.val (.int (full+d))) (.val (.bl over)) (.val (.int (Zu g (1+z)))) (.val (.lst []))) θ=.ok (.nx,Zco ns a b f g full br (.val (il st)) (.val (.int (64-full))) (.val (.int far)) (.val (.int (size:Int))) (.val (.int fg)) (.val (.int (full+far))) x14 x15 (.val (.tup [.int (full+d),.bl over])) (.val (.int (full+d))) (.val (.bl over)) (.val (.int (Zu g (1+z)))) (.val (.lst (if 0<(size:Int)+fg∨ZaJ (64-full) far 0=false then [sA] else [])))) θ:=by
    intro x14 x15 θ
    unfold Zco
    by_cases c1:0<(size:Int)+fg
    · rw [if_pos (.inl c1)]
      simp [ZcY,c1,hsA']
    · by_cases c2:ZaJ (64-full) far 0=false
      · rw [if_pos (.inr c2)]
        simp [ZcY,c1,lf,c2,hsA']
      · rw [if_neg (fun z=>z.elim c1 c2)]
        have c3:ZaJ (64-full) far 0=true:=by simpa using c2
        simp [ZcY,c1,lf,c3]
  have r5:∀(x14 x15:Sl),Ze7 (Zco ns a b f g full br (.val (il st)) (.val (.int (64-full))) (.val (.int far)) (.val (.int (size:Int))) (.val (.int fg)) (.val (.int (full+far))) x14 x15 (.val (.tup [.int (full+d),.bl over])) (.val (.int (full+d))) (.val (.bl over)) (.val (.int (Zu g (1+z)))) (.val (.lst (if 0<(size:Int)+fg∨ZaJ (64-full) far 0=false then [sA] else [])))) (upE (B++[.dK (kd K)]) 0 e')=.ok (.nx,Zco ns a b f g full br (.val (il st)) (.val (.int (64-full))) (.val (.int far)) (.val (.int (size:Int))) (.val (.int fg)) (.val (.int (full+far))) x14 x15 (.val (.tup [.int (full+d),.bl over])) (.val (.int (full+d))) (.val (.bl over)) (.val (.int (Zu g (1+z)))) (.val (.lst (if 0<(size:Int)+fg∨ZaJ (64-full) far 0=false then [sA] else [])))) (upE (B++[.dK (kd K)]) 0 e''):=by
    intro x14 x15
    have dd:∀θ,neM (.lst (if 0<(size:Int)+fg∨ZaJ (64-full) far 0=false then [sA] else [])) (.lst (if 0<(size:Int)+fg∨ZaJ (64-full) far 0=false then [sA] else [])) θ=.ok (.bl false) θ:=by
      intro θ
      split
      · exact n1 θ
      · exact n0 θ
    have gm:List.map Seg.d (if 0<(size:Int)+fg∨ZaJ (64-full) far 0=false then [Zgv a b f g z (64-(full+d))] else [])=(if 0<(size:Int)+fg∨ZaJ (64-full) far 0=false then [sA] else []):=by
      split
      · rw [hsA]; rfl
      · rfl
    rw [gm] at gvn
    obtain ⟨due,hdue⟩:∃x,x=(if 0<(size:Int)+fg∨ZaJ (64-full) far 0=false then [sA] else []):=⟨_,rfl⟩
    rw [←hdue] at gvn ⊢
    simp only [←hdue] at dd
    have so:("open":Str)=State.opn.s:=rfl
    have sc:("close wait":Str)=State.closeWait.s:=rfl
    unfold Zco
    simp [Ze7,gvn,dd,sta,so,sc,sx]
  refine ⟨Zco ns a b f g full br (.val (il st)) (.val (.int (64-full))) (.val (.int far)) (.val (.int (size:Int))) (.val (.int fg)) (.val (.int (full+far))) (.val (il x)) (.val s.d) (.val (.tup [.int (full+d),.bl over])) (.val (.int (full+d))) (.val (.bl over)) (.val (.int (Zu g (1+z)))) (.val (.lst (if 0<(size:Int)+fg∨ZaJ (64-full) far 0=false then [sA] else []))),upE (B++[.dK (kd K)]) 0 (Zps e'' 500),?_⟩
  unfold Zco at r4 r5 ⊢
  obtain ⟨md,hmd⟩:∃x,x=Zee a b f g:=⟨_,rfl⟩
  rw [←hmd]
  simp only [←hmd] at r4 r5
  simp [Zqh,ZsO,cp,pp,ls,lb,ar,Zgt,hc,pa,←hz,r4,r5,rd,ct]
end
theorem law_true (ns:List Int) (hn:ns.length≤63):∃θ',Zk9 [.scr ns] []=.ok (.bl true) θ':=by
  obtain ⟨a,ha⟩:∃x,x=mix ns 0 % 65536:=⟨_,rfl⟩
  obtain ⟨b,hb⟩:∃x,x=mix ns 1 % 65536:=⟨_,rfl⟩
  obtain ⟨f,hf⟩:∃x,x=Zbt (mix ns 2):=⟨_,rfl⟩
  obtain ⟨g,hg⟩:∃x,x=Zbt (mix ns 3):=⟨_,rfl⟩
  have ra:0≤a∧a≤65535:=by omega
  have rb:0≤b∧b≤65535:=by omega
  have lo:=Zna (ns:=ns) (base:=0) (W:=1000) (m:=0) [] (by omega) (.inl rfl)
  simp only [Int.zero_add,←ha,←hb,←hf,←hg,List.length_nil,List.nil_append] at lo
  have eo:Zdn a b f g 1000 0 0=eW a b f g 1000 0 (Zu g 1) (Zu f 1) [] [] false:=by rw [ZtT]; rfl
  rw [eo] at lo
  obtain ⟨B,hB⟩:∃y,y=cells 0 (eW a b f g 1000 0 (Zu g 1) (Zu f 1) [] [] false):=⟨_,rfl⟩
  have hB4:B.length=4:=by rw [hB]; rfl
  have hl:0+3<B.length:=by omega
  have up:B=upE B 0 (eW a b f g 1000 0 (Zu g 1) (Zu f 1) [] [] false):=by rw [hB]; exact ZqJ _
  rw [←hB,up] at lo
  obtain ⟨S,hS⟩:∃S:Int→Int,S=fun n=>mix ns n % 256:=⟨_,rfl⟩
  have Sin:∀n,0≤S n∧S n≤255:=fun n=>by rw [hS]; simp only; omega
  obtain ⟨st,hst⟩:∃x,x=sgm S 0 200:=⟨_,rfl⟩
  have cd:∀ρ (h0:ρ[0]?=some (Sl.val (D.scr ns))) θ,ZcP (Zcy (Zc (mC (.int 200)) Zk)) [0] (mOp Zap (mCB Zao (Zc (Zd 1) (Zc (Zd 0) Zk))) (mC (.int 256))) ρ θ=.ok (il st) θ:=by
    intro ρ h0 θ
    have:=Zlm (nE:=mC (.int 200)) (src:=[0]) (elt:=mOp Zap (mCB Zao (Zc (Zd 1) (Zc (Zd 0) Zk))) (mC (.int 256))) (ρ:=ρ) (θ:=θ) (j:=200) (fun k=>S (0+(k:Int))) (by simp) (by omega) (by omega) (by intro i hi; rw [hS]; simp [h0])
    rw [this,hst]
    rfl
  obtain ⟨f0,hf0,f1,f2⟩:=Zvv (mix ns 10 % 65) (mix ns 11 % 6) (by omega) (by omega)
  obtain ⟨br,hbr⟩:∃x,x=decide (mix ns 17 % 4=0):=⟨_,rfl⟩
  obtain ⟨full,hfull⟩:∃x:Int,x=if br=true then 48+mix ns 10 % 17 else f0:=⟨_,rfl⟩
  have hfu:0≤full∧full≤64∧(br=true→48≤full):=by
    rw [hfull]
    split
    · omega
    · rename_i h; exact ⟨f1,f2,fun z=>absurd z h⟩
  obtain ⟨u',v',l',hfill,E⟩:=Zrd (S:=S) (a:=a) (b:=b) (f:=f) (g:=g) (u:=Zu g 1) (v:=Zu f 1) (l:=[]) (B:=B) (st:=st) ⟨hfu.1,hfu.2.1⟩ hl hst Sin ra rb (Ear.nil _ _ _)
  obtain ⟨p4,hp4,p1,p2⟩:=Zvw (64-full) (mix ns 12 % 4) (by omega) (by omega)
  obtain ⟨sz,hsz,sz1⟩:=Zvu (mix ns 14 % 17) (mix ns 15 % 4) (by omega) (by omega)
  obtain ⟨far,hfar⟩:∃x:Int,x=if br=true then 0 else p4+mix ns 13 % 25-12:=⟨_,rfl⟩
  obtain ⟨size,hsize⟩:∃x:Nat,(x:Int)=if br=true then 64-full else (sz:Int):=⟨(if br=true then 64-full else (sz:Int)).toNat,by split<;>omega⟩
  obtain ⟨fg,hfg⟩:∃x:Int,x=if br=true then 1 else mix ns 16 % 3/2:=⟨_,rfl⟩
  have hsz16:size≤16:=by
    split at hsize
    · rename_i h; have:=hfu.2.2 h; omega
    · omega
  have hfar' : -100<far∧far<100:=by rw [hfar]; split<;>omega
  have hfg':fg=0∨fg=1:=by rw [hfg]; split<;>omega
  have hlen:full+far+size<200:=by
    rw [hfar]
    split
    · omega
    · omega
  obtain ⟨ρ',θ',h⟩:=Zv7 (S:=S) (ns:=ns) (a:=a) (b:=b) (f:=f) (g:=g) (u:=u') (v:=v') (l:=l') (br:=br) (B:=B) (st:=st) (full:=full) (far:=far) (fg:=fg) (size:=size) (x13:=.no) (x14:=.no) (x15:=.no) (x16:=.no) (x17:=.no) (x18:=.no) (x19:=.no) (x20:=.no) hB4 ⟨hfu.1,hfu.2.1⟩ hfar' hsz16 hfg' hlen ra rb hst Sin E
  have m0:∀θ:Sto,ixM (Zee a b f g) (.int 0) θ=.ok (.ref 0) θ:=fun θ=>rfl
  have m1:∀θ:Sto,ixM (Zee a b f g) (.int 1) θ=.ok (.tup [.int a,.int b]) θ:=fun θ=>rfl
  have m2:∀θ:Sto,ixM (Zee a b f g) (.int 2) θ=.ok (.int (Zu f 1)) θ:=fun θ=>rfl
  have m3:∀θ:Sto,ixM (Zee a b f g) (.int 3) θ=.ok (.int (Zu g 1)) θ:=fun θ=>rfl
  have lo':Zc8 [.scr ns,.int 0,.int 1000,.int 0] []=.ok (Zee a b f g) (upE B 0 (eW a b f g 1000 0 (Zu g 1) (Zu f 1) [] [] false)):=lo
  obtain ⟨md,hmd⟩:∃x,x=Zee a b f g:=⟨_,rfl⟩
  unfold Zco at h
  rw [←hmd] at lo' h hfill
  simp only [←hmd] at m0 m1 m2 m3
  refine ⟨θ',?_⟩
  cases br with
  | true=>
    have q:mix ns 17 % 4=0:=of_decide_eq_true hbr.symm
    simp only [if_true] at hfull hfar hsize hfg
    rw [hfar,hsize,hfg] at h
    simp [Zk9,Zqf,Zqj,lo',m0,m1,m2,m3,hf0,q,Ze9,←hfull,Zqi,cd,hfill,hp4,hsz,Ze8,h]
  | false=>
    have q:¬mix ns 17 % 4=0:=of_decide_eq_false hbr.symm
    simp only [Bool.false_eq_true,if_false] at hfull hfar hsize hfg
    have hsize':size=sz:=by omega
    rw [hfar,hsize',hfg] at h
    rw [hfull] at h hfill hp4
    simp [Zk9,Zqf,Zqj,lo',m0,m1,m2,m3,hf0,q,Ze9,Zqi,cd,hfill,hp4,hsz,Ze8,h]
end
def top (i:Nat):Stmt:=PySem.Challenge.pw_wirestream_k15_what_fits.main.body.getD i (.Pass ⟨0,0,0,0⟩)
abbrev zs0:Stmt:=ZmL (top 2) 0
abbrev zs1:Stmt:=top 3
abbrev zs2:Stmt:=top 4
abbrev zs3:Stmt:=top 5
abbrev zs4:Stmt:=top 9
abbrev zs5:Stmt:=top 10
abbrev zs6:Stmt:=top 11
abbrev zs7:Stmt:=ZmL (top 30) 0
abbrev zs8:Stmt:=top 31
abbrev zs9:Stmt:=top 32
abbrev Zkz:Stmt:=top 33
abbrev Zky:Stmt:=top 34
abbrev Zkx:Stmt:=top 41
abbrev Zkw:Stmt:=top 42
abbrev Zkv:Stmt:=top 63
abbrev Zku:Stmt:=top 64
abbrev Zkt:Stmt:=top 65
abbrev Zks:Stmt:=top 66
abbrev Zkr:Stmt:=top 67
abbrev Zkq:Stmt:=top 68
abbrev Zkp:Stmt:=top 69
abbrev Zko:Stmt:=top 70
abbrev Zkn:Stmt:=top 71
abbrev Zkm:Stmt:=top 72
abbrev Zkl:Stmt:=top 73
abbrev Zkk:Stmt:=top 74
abbrev Zkj:Stmt:=top 75
abbrev Zki:Stmt:=top 76
abbrev Zkh:Stmt:=top 77
abbrev Zkg:Stmt:=top 79
abbrev Zkf:Stmt:=top 80
abbrev Zke:Stmt:=top 81
abbrev Zkd:Stmt:=top 82
abbrev Zkc:Stmt:=top 83
abbrev Zkb:Stmt:=top 84
abbrev Zka:Stmt:=top 85
abbrev Zj9:Stmt:=top 86
abbrev Zj8:Stmt:=top 87
abbrev Zj7:Stmt:=top 89
abbrev Zj6:Stmt:=top 90
abbrev Zj5:Stmt:=top 91
abbrev Zj4:Stmt:=top 92
abbrev Zj3:Stmt:=top 93
abbrev Zj2:Stmt:=top 94
abbrev Zj1:Stmt:=top 95
abbrev Zj0:Stmt:=top 96
abbrev ZjZ:Stmt:=top 97
abbrev ZjY:Stmt:=top 98
abbrev ZjX:Stmt:=top 99
abbrev ZjW:Stmt:=top 100
abbrev ZjV:Stmt:=top 101
abbrev ZjU:Stmt:=top 102
abbrev ZjT:Stmt:=top 103
abbrev ZjS:Stmt:=top 104
abbrev ZjR:Stmt:=top 105
abbrev ZjQ:Stmt:=top 106
abbrev ZjP:Stmt:=top 108
abbrev ZjO:Stmt:=top 109
abbrev ZjN:Stmt:=top 114
abbrev ZjM:Stmt:=top 115
abbrev ZjL:Stmt:=top 116
abbrev ZjK:Stmt:=top 117
abbrev ZjJ:Stmt:=top 118
abbrev ZjI:Stmt:=top 119
abbrev ZjH:Stmt:=top 120
abbrev ZjG:Stmt:=top 121
abbrev ZjF:Stmt:=top 122
abbrev ZjE:Stmt:=top 123
abbrev ZjD:Stmt:=top 124
abbrev ZjC:Stmt:=top 125
abbrev ZjB:Stmt:=top 126
abbrev ZjA:Stmt:=top 127
abbrev Zjz:Stmt:=top 128
abbrev Zjy:Stmt:=top 129
abbrev Zjx:Stmt:=top 130
abbrev Zjw:Stmt:=top 131
abbrev Zjv:Stmt:=top 132
abbrev Zju:Stmt:=top 134
abbrev Zjt:Stmt:=top 135
abbrev Zjs:Stmt:=top 138
abbrev Zjr:Stmt:=top 139
abbrev Zjq:Stmt:=top 140
abbrev ZhP:Stmt:=top 141
abbrev Zjp:Stmt:=top 142
abbrev Zjo:Stmt:=top 143
abbrev Zjn:Stmt:=top 144
abbrev Zjm:Stmt:=top 145
abbrev Zjl:Stmt:=top 146
abbrev Zjk:Stmt:=top 147
abbrev Zjj:Stmt:=top 148
abbrev Zji:Stmt:=top 149
abbrev Zjh:Stmt:=top 150
abbrev Zf7:Stmt:=top 151
abbrev zP0:List Str:=["self"]
theorem zc0:Zq ["self"] zP0 (Zg zs0):=⟨rfl,rfl,rfl,by decide +kernel,rfl,by decide +kernel,by decide +kernel⟩
abbrev zP1:List Str:=["pile"]
theorem zc1:Zq ["pile"] zP1 (Zg zs1):=⟨rfl,rfl,rfl,by decide +kernel,rfl,by decide +kernel,by decide +kernel⟩
abbrev zP2:List Str:=["pile","row"]
theorem zc2:Zq ["pile","row","laid"] zP2 (Zg zs2):=⟨rfl,rfl,rfl,by decide +kernel,rfl,by decide +kernel,by decide +kernel⟩
abbrev zP3:List Str:=["pile","many"]
theorem zc3:Zq ["pile","many","size","taken"] zP3 (Zg zs3):=⟨rfl,rfl,rfl,by decide +kernel,rfl,by decide +kernel,by decide +kernel⟩
abbrev zP4:List Str:=["number","step"]
theorem zc4:Zq ["number","step"] zP4 (Zg zs4):=⟨rfl,rfl,rfl,by decide +kernel,rfl,by decide +kernel,by decide +kernel⟩
abbrev zP5:List Str:=["number","base"]
theorem zc5:Zq ["number","base"] zP5 (Zg zs5):=⟨rfl,rfl,rfl,by decide +kernel,rfl,by decide +kernel,by decide +kernel⟩
abbrev zP6:List Str:=["number","base"]
theorem zc6:Zq ["number","base"] zP6 (Zg zs6):=⟨rfl,rfl,rfl,by decide +kernel,rfl,by decide +kernel,by decide +kernel⟩
abbrev zP7:List Str:=["self","ours","theirs","first","active"]
theorem zc7:Zq ["self","ours","theirs","first","active"] zP7 (Zg zs7):=⟨rfl,rfl,rfl,by decide +kernel,rfl,by decide +kernel,by decide +kernel⟩
abbrev zP8:List Str:=["end","now"]
theorem zc8:Zq ["end","now"] zP8 (Zg zs8):=⟨rfl,rfl,rfl,by decide +kernel,rfl,by decide +kernel,by decide +kernel⟩
abbrev zP9:List Str:=["end"]
theorem zc9:Zq ["end"] zP9 (Zg zs9):=⟨rfl,rfl,rfl,by decide +kernel,rfl,by decide +kernel,by decide +kernel⟩
abbrev Zo6:List Str:=["end"]
theorem zc10:Zq ["end"] Zo6 (Zg Zkz):=⟨rfl,rfl,rfl,by decide +kernel,rfl,by decide +kernel,by decide +kernel⟩
abbrev Zo5:List Str:=["end"]
theorem zc11:Zq ["end"] Zo5 (Zg Zky):=⟨rfl,rfl,rfl,by decide +kernel,rfl,by decide +kernel,by decide +kernel⟩
abbrev Zo4:List Str:=["row"]
theorem zc12:Zq ["row","total"] Zo4 (Zg Zkx):=⟨rfl,rfl,rfl,by decide +kernel,rfl,by decide +kernel,by decide +kernel⟩
abbrev Zo3:List Str:=["row"]
theorem zc13:Zq ["row"] Zo3 (Zg Zkw):=⟨rfl,rfl,rfl,by decide +kernel,rfl,by decide +kernel,by decide +kernel⟩
abbrev Zo2:List Str:=["segment"]
theorem zc14:Zq ["segment","flags"] Zo2 (Zg Zkv):=⟨rfl,rfl,rfl,by decide +kernel,rfl,by decide +kernel,by decide +kernel⟩
abbrev Zo1:List Str:=["flags","flag"]
theorem zc15:Zq ["flags","flag"] Zo1 (Zg Zku):=⟨rfl,rfl,rfl,by decide +kernel,rfl,by decide +kernel,by decide +kernel⟩
abbrev Zo0:List Str:=["segment","flag"]
theorem zc16:Zq ["segment","flag"] Zo0 (Zg Zkt):=⟨rfl,rfl,rfl,by decide +kernel,rfl,by decide +kernel,by decide +kernel⟩
abbrev ZoZ:List Str:=["segment"]
theorem zc17:Zq ["segment","ahead","behind"] ZoZ (Zg Zks):=⟨rfl,rfl,rfl,by decide +kernel,rfl,by decide +kernel,by decide +kernel⟩
abbrev ZoY:List Str:=["segment"]
theorem zc18:Zq ["segment","ports","numbers","head"] ZoY (Zg Zkr):=⟨rfl,rfl,rfl,by decide +kernel,rfl,by decide +kernel,by decide +kernel⟩
abbrev ZoX:List Str:=["head"]
theorem zc19:Zq ["head"] ZoX (Zg Zkq):=⟨rfl,rfl,rfl,by decide +kernel,rfl,by decide +kernel,by decide +kernel⟩
abbrev ZoW:List Str:=["most"]
theorem zc20:Zq ["most"] ZoW (Zg Zkp):=⟨rfl,rfl,rfl,by decide +kernel,rfl,by decide +kernel,by decide +kernel⟩
abbrev ZoV:List Str:=["number"]
theorem zc21:Zq ["number"] ZoV (Zg Zko):=⟨rfl,rfl,rfl,by decide +kernel,rfl,by decide +kernel,by decide +kernel⟩
abbrev ZoU:List Str:=["number"]
theorem zc22:Zq ["number"] ZoU (Zg Zkn):=⟨rfl,rfl,rfl,by decide +kernel,rfl,by decide +kernel,by decide +kernel⟩
abbrev ZoT:List Str:=["row"]
theorem zc23:Zq ["row"] ZoT (Zg Zkm):=⟨rfl,rfl,rfl,by decide +kernel,rfl,by decide +kernel,by decide +kernel⟩
abbrev ZoS:List Str:=["row"]
theorem zc24:Zq ["row"] ZoS (Zg Zkl):=⟨rfl,rfl,rfl,by decide +kernel,rfl,by decide +kernel,by decide +kernel⟩
abbrev ZoR:List Str:=["row"]
theorem zc25:Zq ["row"] ZoR (Zg Zkk):=⟨rfl,rfl,rfl,by decide +kernel,rfl,by decide +kernel,by decide +kernel⟩
abbrev ZoQ:List Str:=["row"]
theorem zc26:Zq ["row","head","most","ports","numbers"] ZoQ (Zg Zkj):=⟨rfl,rfl,rfl,by decide +kernel,rfl,by decide +kernel,by decide +kernel⟩
abbrev ZoP:List Str:=["row","place"]
theorem zc27:Zq ["row","place"] ZoP (Zg Zki):=⟨rfl,rfl,rfl,by decide +kernel,rfl,by decide +kernel,by decide +kernel⟩
abbrev ZoO:List Str:=["row","place"]
theorem zc28:Zq ["row","place"] ZoO (Zg Zkh):=⟨rfl,rfl,rfl,by decide +kernel,rfl,by decide +kernel,by decide +kernel⟩
abbrev ZoN:List Str:=["segment"]
theorem zc29:Zq ["segment","ports"] ZoN (Zg Zkg):=⟨rfl,rfl,rfl,by decide +kernel,rfl,by decide +kernel,by decide +kernel⟩
abbrev ZoM:List Str:=["end","segment"]
theorem zc30:Zq ["end","segment"] ZoM (Zg Zkf):=⟨rfl,rfl,rfl,by decide +kernel,rfl,by decide +kernel,by decide +kernel⟩
abbrev ZoL:List Str:=["end","segment"]
theorem zc31:Zq ["end","segment"] ZoL (Zg Zke):=⟨rfl,rfl,rfl,by decide +kernel,rfl,by decide +kernel,by decide +kernel⟩
abbrev ZoK:List Str:=["end","segment"]
theorem zc32:Zq ["end","segment"] ZoK (Zg Zkd):=⟨rfl,rfl,rfl,by decide +kernel,rfl,by decide +kernel,by decide +kernel⟩
abbrev ZoJ:List Str:=["end","segment"]
theorem zc33:Zq ["end","segment"] ZoJ (Zg Zkc):=⟨rfl,rfl,rfl,by decide +kernel,rfl,by decide +kernel,by decide +kernel⟩
abbrev ZoI:List Str:=["end","segment","now"]
theorem zc34:Zq ["end","segment","now"] ZoI (Zg Zkb):=⟨rfl,rfl,rfl,by decide +kernel,rfl,by decide +kernel,by decide +kernel⟩
abbrev ZoH:List Str:=["end","segment"]
theorem zc35:Zq ["end","segment"] ZoH (Zg Zka):=⟨rfl,rfl,rfl,by decide +kernel,rfl,by decide +kernel,by decide +kernel⟩
abbrev ZoG:List Str:=["end","segment"]
theorem zc36:Zq ["end","segment"] ZoG (Zg Zj9):=⟨rfl,rfl,rfl,by decide +kernel,rfl,by decide +kernel,by decide +kernel⟩
abbrev ZoF:List Str:=["end","segment","now"]
theorem zc37:Zq ["end","segment","now"] ZoF (Zg Zj8):=⟨rfl,rfl,rfl,by decide +kernel,rfl,by decide +kernel,by decide +kernel⟩
abbrev ZoE:List Str:=["end","row","now"]
theorem zc38:Zq ["end","row","now","segment"] ZoE (Zg Zj7):=⟨rfl,rfl,rfl,by decide +kernel,rfl,by decide +kernel,by decide +kernel⟩
abbrev ZoD:List Str:=["end","segment"]
theorem zc39:Zq ["end","segment"] ZoD (Zg Zj6):=⟨rfl,rfl,rfl,by decide +kernel,rfl,by decide +kernel,by decide +kernel⟩
abbrev ZoC:List Str:=["end","segment","now"]
theorem zc40:Zq ["end","segment","now"] ZoC (Zg Zj5):=⟨rfl,rfl,rfl,by decide +kernel,rfl,by decide +kernel,by decide +kernel⟩
abbrev ZoB:List Str:=["end","segment"]
theorem zc41:Zq ["end","segment","size","last"] ZoB (Zg Zj4):=⟨rfl,rfl,rfl,by decide +kernel,rfl,by decide +kernel,by decide +kernel⟩
abbrev ZoA:List Str:=["end","number"]
theorem zc42:Zq ["end","number"] ZoA (Zg Zj3):=⟨rfl,rfl,rfl,by decide +kernel,rfl,by decide +kernel,by decide +kernel⟩
abbrev Zoz:List Str:=["end","segment","now"]
theorem zc43:Zq ["end","segment","now"] Zoz (Zg Zj2):=⟨rfl,rfl,rfl,by decide +kernel,rfl,by decide +kernel,by decide +kernel⟩
abbrev Zoy:List Str:=["end","segment"]
theorem Zys:Zq ["end","segment"] Zoy (Zg Zj1):=⟨rfl,rfl,rfl,by decide +kernel,rfl,by decide +kernel,by decide +kernel⟩
abbrev Zox:List Str:=["end","segment","now"]
theorem Zyr:Zq ["end","segment","now"] Zox (Zg Zj0):=⟨rfl,rfl,rfl,by decide +kernel,rfl,by decide +kernel,by decide +kernel⟩
abbrev Zow:List Str:=["end","segment"]
theorem Zyq:Zq ["end","segment"] Zow (Zg ZjZ):=⟨rfl,rfl,rfl,by decide +kernel,rfl,by decide +kernel,by decide +kernel⟩
abbrev Zov:List Str:=["end","segment"]
theorem Zyp:Zq ["end","segment"] Zov (Zg ZjY):=⟨rfl,rfl,rfl,by decide +kernel,rfl,by decide +kernel,by decide +kernel⟩
abbrev Zou:List Str:=["end","segment","now"]
theorem zc48:Zq ["end","segment","now","answer","has_gone_on","was_shut"] Zou (Zg ZjX):=⟨rfl,rfl,rfl,by decide +kernel,rfl,by decide +kernel,by decide +kernel⟩
abbrev Zot:List Str:=["end","segment"]
theorem Zyo:Zq ["end","segment"] Zot (Zg ZjW):=⟨rfl,rfl,rfl,by decide +kernel,rfl,by decide +kernel,by decide +kernel⟩
abbrev Zos:List Str:=["end","now"]
theorem Zyn:Zq ["end","now"] Zos (Zg ZjV):=⟨rfl,rfl,rfl,by decide +kernel,rfl,by decide +kernel,by decide +kernel⟩
abbrev Zor:List Str:=["end","segment","now"]
theorem Zym:Zq ["end","segment","now"] Zor (Zg ZjU):=⟨rfl,rfl,rfl,by decide +kernel,rfl,by decide +kernel,by decide +kernel⟩
abbrev Zoq:List Str:=["end","segment"]
theorem zc52:Zq ["end","segment","place","byte","number"] Zoq (Zg ZjT):=⟨rfl,rfl,rfl,by decide +kernel,rfl,by decide +kernel,by decide +kernel⟩
abbrev Zop:List Str:=["end","segment"]
theorem zc53:Zq ["end","segment","number"] Zop (Zg ZjS):=⟨rfl,rfl,rfl,by decide +kernel,rfl,by decide +kernel,by decide +kernel⟩
abbrev Zoo:List Str:=["end"]
theorem zc54:Zq ["end","row"] Zoo (Zg ZjR):=⟨rfl,rfl,rfl,by decide +kernel,rfl,by decide +kernel,by decide +kernel⟩
abbrev Zon:List Str:=["end","now"]
theorem Zyl:Zq ["end","now"] Zon (Zg ZjQ):=⟨rfl,rfl,rfl,by decide +kernel,rfl,by decide +kernel,by decide +kernel⟩
abbrev Zom:List Str:=["ours","theirs","first","active"]
theorem Zyk:Zq ["ours","theirs","first","active"] Zom (Zg ZjP):=⟨rfl,rfl,rfl,by decide +kernel,rfl,by decide +kernel,by decide +kernel⟩
abbrev Zol:List Str:=["end","many"]
theorem zc57:Zq ["end","many","was_shut","row"] Zol (Zg ZjO):=⟨rfl,rfl,rfl,by decide +kernel,rfl,by decide +kernel,by decide +kernel⟩
abbrev Zok:List Str:=["end","now"]
theorem zc58:Zq ["end","now","segment"] Zok (Zg ZjN):=⟨rfl,rfl,rfl,by decide +kernel,rfl,by decide +kernel,by decide +kernel⟩
abbrev Zoj:List Str:=["end","now"]
theorem zc59:Zq ["end","now","segment"] Zoj (Zg ZjM):=⟨rfl,rfl,rfl,by decide +kernel,rfl,by decide +kernel,by decide +kernel⟩
abbrev Zoi:List Str:=["end"]
theorem zc60:Zq ["end","segment"] Zoi (Zg ZjL):=⟨rfl,rfl,rfl,by decide +kernel,rfl,by decide +kernel,by decide +kernel⟩
abbrev Zoh:List Str:=["end","now"]
theorem Zyj:Zq ["end","now"] Zoh (Zg ZjK):=⟨rfl,rfl,rfl,by decide +kernel,rfl,by decide +kernel,by decide +kernel⟩
abbrev Zog:List Str:=["end","now"]
theorem zc62:Zq ["end","now","data"] Zog (Zg ZjJ):=⟨rfl,rfl,rfl,by decide +kernel,rfl,by decide +kernel,by decide +kernel⟩
abbrev Zof:List Str:=["end"]
theorem Zyi:Zq ["end"] Zof (Zg ZjI):=⟨rfl,rfl,rfl,by decide +kernel,rfl,by decide +kernel,by decide +kernel⟩
abbrev Zoe:List Str:=["end"]
theorem Zyh:Zq ["end"] Zoe (Zg ZjH):=⟨rfl,rfl,rfl,by decide +kernel,rfl,by decide +kernel,by decide +kernel⟩
abbrev Zod:List Str:=["end","number","flags","data"]
theorem Zyg:Zq ["end","number","flags","data"] Zod (Zg ZjG):=⟨rfl,rfl,rfl,by decide +kernel,rfl,by decide +kernel,by decide +kernel⟩
abbrev Zoc:List Str:=["end","now"]
theorem zc66:Zq ["end","now","room"] Zoc (Zg ZjF):=⟨rfl,rfl,rfl,by decide +kernel,rfl,by decide +kernel,by decide +kernel⟩
abbrev Zob:List Str:=["end","now"]
theorem Zyf:Zq ["end","now"] Zob (Zg ZjE):=⟨rfl,rfl,rfl,by decide +kernel,rfl,by decide +kernel,by decide +kernel⟩
abbrev Zoa:List Str:=["end"]
theorem Zye:Zq ["end"] Zoa (Zg ZjD):=⟨rfl,rfl,rfl,by decide +kernel,rfl,by decide +kernel,by decide +kernel⟩
abbrev Zn9:List Str:=["end"]
theorem Zyd:Zq ["end"] Zn9 (Zg ZjC):=⟨rfl,rfl,rfl,by decide +kernel,rfl,by decide +kernel,by decide +kernel⟩
abbrev Zn8:List Str:=["end"]
theorem Zyc:Zq ["end"] Zn8 (Zg ZjB):=⟨rfl,rfl,rfl,by decide +kernel,rfl,by decide +kernel,by decide +kernel⟩
abbrev Zn7:List Str:=["end"]
theorem Zyb:Zq ["end"] Zn7 (Zg ZjA):=⟨rfl,rfl,rfl,by decide +kernel,rfl,by decide +kernel,by decide +kernel⟩
abbrev Zn6:List Str:=["end","room"]
theorem Zya:Zq ["end","room"] Zn6 (Zg Zjz):=⟨rfl,rfl,rfl,by decide +kernel,rfl,by decide +kernel,by decide +kernel⟩
abbrev Zn5:List Str:=["end","room"]
theorem zc73:Zq ["end","room","number","many","place"] Zn5 (Zg Zjy):=⟨rfl,rfl,rfl,by decide +kernel,rfl,by decide +kernel,by decide +kernel⟩
abbrev Zn4:List Str:=["end"]
theorem zc74:Zq ["end","number"] Zn4 (Zg Zjx):=⟨rfl,rfl,rfl,by decide +kernel,rfl,by decide +kernel,by decide +kernel⟩
abbrev Zn3:List Str:=["end","now"]
theorem Zx9:Zq ["end","now"] Zn3 (Zg Zjw):=⟨rfl,rfl,rfl,by decide +kernel,rfl,by decide +kernel,by decide +kernel⟩
abbrev Zn2:List Str:=["end"]
theorem Zx8:Zq ["end"] Zn2 (Zg Zjv):=⟨rfl,rfl,rfl,by decide +kernel,rfl,by decide +kernel,by decide +kernel⟩
abbrev Zn1:List Str:=["_law_script","_law_k"]
theorem Zx7:Zq ["_law_script","_law_k"] Zn1 (Zg Zju):=⟨rfl,rfl,rfl,by decide +kernel,rfl,by decide +kernel,by decide +kernel⟩
abbrev Zn0:List Str:=["_law_script","_law_k"]
theorem zc78:Zq ["_law_script","_law_k","_law_number"] Zn0 (Zg Zjt):=⟨rfl,rfl,rfl,by decide +kernel,rfl,by decide +kernel,by decide +kernel⟩
abbrev ZnZ:List Str:=["_law_number"]
theorem Zx6:Zq ["_law_number"] ZnZ (Zg Zjs):=⟨rfl,rfl,rfl,by decide +kernel,rfl,by decide +kernel,by decide +kernel⟩
abbrev ZnY:List Str:=["_law_row"]
theorem zc80:Zq ["_law_row","_law_total","_law_k"] ZnY (Zg Zjr):=⟨rfl,rfl,rfl,by decide +kernel,rfl,by decide +kernel,by decide +kernel⟩
abbrev ZnX:List Str:=["_law_segment_here"]
theorem zc81:Zq ["_law_segment_here","_law_row","_law_number"] ZnX (Zg Zjq):=⟨rfl,rfl,rfl,by decide +kernel,rfl,by decide +kernel,by decide +kernel⟩
abbrev ZnW:List Str:=["_law_row"]
theorem zc82:Zq ["_law_row","_law_head","_law_most","_law_words","_law_found"] ZnW (Zg ZhP):=⟨rfl,rfl,rfl,by decide +kernel,rfl,by decide +kernel,by decide +kernel⟩
abbrev ZnV:List Str:=["_law_byte_here"]
theorem Zx5:Zq ["_law_byte_here"] ZnV (Zg Zjp):=⟨rfl,rfl,rfl,by decide +kernel,rfl,by decide +kernel,by decide +kernel⟩
abbrev ZnU:List Str:=["_law_number","_law_step"]
theorem Zx4:Zq ["_law_number","_law_step"] ZnU (Zg Zjo):=⟨rfl,rfl,rfl,by decide +kernel,rfl,by decide +kernel,by decide +kernel⟩
abbrev ZnT:List Str:=["_law_number"]
theorem Zx3:Zq ["_law_number"] ZnT (Zg Zjn):=⟨rfl,rfl,rfl,by decide +kernel,rfl,by decide +kernel,by decide +kernel⟩
abbrev ZnS:List Str:=["_law_talk","_law_number","_law_answer","_law_flags","_law_window","_law_data"]
theorem Zx2:Zq ["_law_talk","_law_number","_law_answer","_law_flags","_law_window","_law_data"] ZnS (Zg Zjm):=⟨rfl,rfl,rfl,by decide +kernel,rfl,by decide +kernel,by decide +kernel⟩
abbrev ZnR:List Str:=["_law_end","_law_now"]
theorem zc87:Zq ["_law_end","_law_now","_law_found","_law_k","_law_row"] ZnR (Zg Zjl):=⟨rfl,rfl,rfl,by decide +kernel,rfl,by decide +kernel,by decide +kernel⟩
abbrev ZnQ:List Str:=["_law_script","_law_base","_law_window","_law_most"]
theorem zc88:Zq ["_law_script","_law_base","_law_window","_law_most","_law_talk","_law_mine","_law_theirs","_law_end"] ZnQ (Zg Zjk):=⟨rfl,rfl,rfl,by decide +kernel,rfl,by decide +kernel,by decide +kernel⟩
abbrev ZnP:List Str:=["_law_made_here","_law_stream","_law_full"]
theorem zc89:Zq ["_law_made_here","_law_stream","_law_full","_law_at","_law_size","_law_segment_here"] ZnP (Zg Zjj):=⟨rfl,rfl,rfl,by decide +kernel,rfl,by decide +kernel,by decide +kernel⟩
abbrev ZnO:List Str:=["_law_space","_law_far","_law_long"]
theorem Zx1:Zq ["_law_space","_law_far","_law_long"] ZnO (Zg Zji):=⟨rfl,rfl,rfl,by decide +kernel,rfl,by decide +kernel,by decide +kernel⟩
abbrev ZnN:List Str:=["_law_full","_law_far","_law_size","_law_flag"]
theorem zc91:Zq ["_law_full","_law_far","_law_size","_law_flag","_law_space","_law_kept","_law_last","_law_k","_law_many"] ZnN (Zg Zjh):=⟨rfl,rfl,rfl,by decide +kernel,rfl,by decide +kernel,by decide +kernel⟩
abbrev ZnM:List Str:=["_law_script"]
theorem zc92:Zq ["_law_script","_law_made_here","_law_end","_law_talk","_law_nxt","_law_rcv","_law_full","_law_brims","_law_stream","_law_space","_law_far","_law_size","_law_flag","_law_begin","_law_data","_law_segment_here","_law_came","_law_many","_law_over","_law_answer","_law_due"] ZnM (Zg Zf7):=⟨rfl,rfl,rfl,by decide +kernel,rfl,by decide +kernel,by decide +kernel⟩
structure Glb (K:PySem.W.Frag) (mg:Str→Option Value):Prop where
  zc0:∃t,mg "ACK"=some (.int 16 t)
  zc1:∃t,mg "ANSWER"=some (.int 3 t)
  zc2:∃t,mg "CLOSED"=some (.str "closed" t)
  zc3:∃t,mg "CLOSE_WAIT"=some (.str "close wait" t)
  zc4:∃t,mg "CLOSING"=some (.str "closing" t)
  zc5:∃t,mg "DATA"=some (.int 7 t)
  zc6:∃t,mg "FIN"=some (.int 1 t)
  zc7:∃t,mg "FIRST_WAIT"=some (.int 1000 t)
  zc8:∃t,mg "FLAGS"=some (.int 4 t)
  zc9:∃t,mg "GOAL"=some (.int 1 t)
  zc10:∃t,mg "GREATEST_DATA"=some (.int 16 t)
  zc11:∃t,mg "GREATEST_FLAGS"=some (.int 31 t)
  zc12:∃t,mg "GREATEST_WORD"=some (.int 65535 t)
  zc13:∃t,mg "HALF_ROUND"=some (.int 2147483648 t)
  zc14:∃t,mg "LAST_ACK"=some (.str "last ack" t)
  zc15:∃t,mg "LAST_WAIT"=some (.int 120000 t)
  zc16:∃t,mg "LEAST_MOST"=some (.int 4 t)
  zc17:∃t,mg "LISTEN"=some (.str "listen" t)
  zc18:∃t,mg "LONGEST_WAIT"=some (.int 16000 t)
  zc19:∃t,mg "LONG_HEAD"=some (.int 24 t)
  zc20:∃t,mg "MOST"=some (.int 6 t)
  zc21:∃t,mg "MOST_TRIES"=some (.int 6 t)
  zc22:∃t,mg "MOST_UNTOLD"=some (.int 12 t)
  zc23:∃t,mg "NO_ERROR"=some (.str "" t)
  zc24:∃t,mg "NUMBER"=some (.int 2 t)
  zc25:∃t,mg "OPEN"=some (.str "open" t)
  zc26:∃t,mg "PSH"=some (.int 8 t)
  zc27:∃t,mg "REFUSED"=some (.str "refused" t)
  zc28:∃t,mg "RESET"=some (.str "reset" t)
  zc29:∃t,mg "RIGHT_SUM"=some (.int 65535 t)
  zc30:∃t,mg "ROOM"=some (.int 64 t)
  zc31:∃t,mg "ROUND"=some (.int 4294967296 t)
  zc32:∃t,mg "RST"=some (.int 4 t)
  zc33:∃t,mg "SHORT_HEAD"=some (.int 20 t)
  zc34:∃t,mg "SOURCE"=some (.int 0 t)
  zc35:∃t,mg "SYN"=some (.int 2 t)
  zc36:∃t,mg "SYN_COME"=some (.str "syn come" t)
  zc37:∃t,mg "SYN_SENT"=some (.str "syn sent" t)
  zc38:∃t,mg "TIME"=some (.str "time" t)
  zc39:∃t,mg "TIME_WAIT"=some (.str "time wait" t)
  zc40:∃t,mg "WAIT_ONE"=some (.str "wait one" t)
  zc41:∃t,mg "WAIT_TWO"=some (.str "wait two" t)
  zc42:∃t,mg "WINDOW"=some (.int 5 t)
  zc43:∃t,mg "WORDS"=some (.int 65536 t)
  b_all:mg "all"=none
  b_bool:mg "bool"=none
  b_enumerate:mg "enumerate"=none
  b_int:mg "int"=none
  b_isinstance:mg "isinstance"=none
  b_len:mg "len"=none
  b_list:mg "list"=none
  b_max:mg "max"=none
  b_min:mg "min"=none
  b_range:mg "range"=none
  b_sum:mg "sum"=none
  b_tuple:mg "tuple"=none
  k_End:Cls K (z6 mg "End")
  k_Pile:Cls K (z6 mg "Pile")
  zn0:NoAttr K (z6 mg "End") "behind"
  zn1:NoAttr K (z6 mg "End") "come"
  zn2:NoAttr K (z6 mg "End") "early"
  zn3:NoAttr K (z6 mg "End") "early_fin"
  zn4:NoAttr K (z6 mg "End") "error"
  zn5:NoAttr K (z6 mg "End") "first"
  zn6:NoAttr K (z6 mg "End") "has_closed"
  zn7:NoAttr K (z6 mg "End") "most"
  zn8:NoAttr K (z6 mg "End") "nxt"
  zn9:NoAttr K (z6 mg "End") "ours"
  zn10:NoAttr K (z6 mg "End") "owed_reset"
  zn11:NoAttr K (z6 mg "End") "owes_answer"
  zn12:NoAttr K (z6 mg "End") "owes_syn"
  zn13:NoAttr K (z6 mg "End") "probes"
  zn14:NoAttr K (z6 mg "End") "rcv"
  zn15:NoAttr K (z6 mg "End") "since"
  zn16:NoAttr K (z6 mg "End") "state"
  zn17:NoAttr K (z6 mg "End") "theirs"
  zn18:NoAttr K (z6 mg "End") "told"
  zn19:NoAttr K (z6 mg "End") "told_by"
  zn20:NoAttr K (z6 mg "End") "tries"
  zn21:NoAttr K (z6 mg "End") "una"
  zn22:NoAttr K (z6 mg "End") "wait"
  zn23:NoAttr K (z6 mg "End") "wnd"
  zn24:NoAttr K (z6 mg "End") "written"
  zn25:NoAttr K (z6 mg "Pile") "row"
section
variable {P:Program} {w:World} {K:PySem.W.Frag} {mg:Str→Option Value} {base:Heap}
theorem zo0 (D:Mk0 K mg "Pile" "Pile.__init__" zs0 zP0) (g:Glb K mg) :MMk P w K mg base 1 "Pile" ZbT:=
  mk0 D zc0 1 1 rfl rfl fun f cdv A outer s H E hr=>(Zj (Zz (Zw ⟨g.k_Pile,g.zn25⟩) (Za 0) (zZ Zf)))
theorem zo1 (D:Zm K mg "room" zs1 zP1) (g:Glb K mg) :Zo P w K mg base 1 "room" Zfo:=
  ZX D zc1 1 1 rfl rfl fun f cdv A outer s H E hr=>(Zj (Zx (Zt Zcw (Zl g.zc30) (za Zei g.b_len PySem.boot_len (Zb (Zr (Zw ⟨g.k_Pile,g.zn25⟩) (Za 0)) Zf)))))
theorem zo2 (D:Zm K mg "lay" zs2 zP2) (g:Glb K mg) (zd1:Zo P w K mg base 1 "room" Zfo):Zo P w K mg base 2 "lay" ZkT:=
  ZX D zc2 2 3 rfl rfl fun f cdv A outer s H E hr=>(Ze (ZA 2 zc2.nd (ZaN (Za 1) ZbG (zV (Zi zd1 hr (by decide) (Zb (Za 0) Zf)))))
  (Ze (Zz (Zw ⟨g.k_Pile,g.zn25⟩) (Za 0) (Zt ZM (Zr (Zw ⟨g.k_Pile,g.zn25⟩) (Za 0)) (Za 2)))
  (Zj (Zx (za Zei g.b_len PySem.boot_len (Zb (Za 2) Zf))))))
theorem zo3 (D:Zm K mg "take" zs3 zP3) (g:Glb K mg) :Zo P w K mg base 1 "take" Zcc:=
  ZX D zc3 2 4 rfl rfl fun f cdv A outer s H E hr=>(Ze (ZA 2 zc3.nd (za Zwa g.b_max PyProof.Rows.boot_max (Zb (Za 1) (Zb Zh Zf))))
  (Ze (ZA 3 zc3.nd (ZaN (Zr (Zw ⟨g.k_Pile,g.zn25⟩) (Za 0)) ZbG (zV (Za 2))))
  (Ze (Zz (Zw ⟨g.k_Pile,g.zn25⟩) (Za 0) (ZaN (Zr (Zw ⟨g.k_Pile,g.zn25⟩) (Za 0)) (zV (Za 2)) ZbG))
  (Zj (Zx (Za 3))))))
theorem zo4 (D:Zm K mg "plus" zs4 zP4) (g:Glb K mg) :Zo P w K mg base 1 "plus" zA:=
  ZX D zc4 2 2 rfl rfl fun f cdv A outer s H E hr=>(Zj (Zx (Zt Zan (Zt ZM (Za 0) (Za 1)) (Zl g.zc31))))
theorem zo5 (D:Zm K mg "offset" zs5 zP5) (g:Glb K mg) :Zo P w K mg base 1 "offset" zB:=
  ZX D zc5 2 2 rfl rfl fun f cdv A outer s H E hr=>(Zj (Zx (Zt Zcw (Zt Zan (Zt ZM (Zt Zcw (Za 0) (Za 1)) (Zl g.zc13)) (Zl g.zc31)) (Zl g.zc13))))
theorem zo6 (D:Zm K mg "past" zs6 zP6) (g:Glb K mg) (zd5:Zo P w K mg base 1 "offset" zB):Zo P w K mg base 2 "past" Zcd:=
  ZX D zc6 2 2 rfl rfl fun f cdv A outer s H E hr=>(Zj (Zx (zx Zgg (Zi zd5 hr (by decide) (Zb (Za 0) (Zb (Za 1) Zf))) Zh)))
theorem zo7 (D:Mk0 K mg "End" "End.__init__" zs7 zP7) (g:Glb K mg) (zd0:MMk P w K mg base 1 "Pile" ZbT) (zd4:Zo P w K mg base 1 "plus" zA):MMk P w K mg base 3 "End" Zch:=
  mk0 D zc7 5 5 rfl rfl fun f cdv A outer s H E hr=>(Ze (Zz (Zw ⟨g.k_End,g.zn9⟩) (Za 0) (Za 1))
  (Ze (Zz (Zw ⟨g.k_End,g.zn17⟩) (Za 0) (Za 2))
  (Ze (Zz (Zw ⟨g.k_End,g.zn16⟩) (Za 0) (Zcj (ZE (Za 4)) (ZG g.zc37) (ZG g.zc17)))
  (Ze (Zz (Zw ⟨g.k_End,g.zn4⟩) (Za 0) (ZG g.zc23))
  (Ze (Zz (Zw ⟨g.k_End,g.zn5⟩) (Za 0) (Za 3))
  (Ze (Zz (Zw ⟨g.k_End,g.zn21⟩) (Za 0) (Za 3))
  (Ze (Zz (Zw ⟨g.k_End,g.zn8⟩) (Za 0) (Za 3))
  (Ze (Zz (Zw ⟨g.k_End,g.zn14⟩) (Za 0) Zh)
  (Ze (Zz (Zw ⟨g.k_End,g.zn23⟩) (Za 0) Zh)
  (Ze (Zz (Zw ⟨g.k_End,g.zn18⟩) (Za 0) Zh)
  (Ze (Zz (Zw ⟨g.k_End,g.zn19⟩) (Za 0) Zh)
  (Ze (Zz (Zw ⟨g.k_End,g.zn7⟩) (Za 0) (Zl g.zc22))
  (Ze (Zz (Zw ⟨g.k_End,g.zn24⟩) (Za 0) (Zk6 zd0 hr (by decide)))
  (Ze (Zz (Zw ⟨g.k_End,g.zn1⟩) (Za 0) (Zk6 zd0 hr (by decide)))
  (Ze (Zz (Zw ⟨g.k_End,g.zn2⟩) (Za 0) Zk7)
  (Ze (Zz (Zw ⟨g.k_End,g.zn3⟩) (Za 0) ZaI)
  (Ze (Zz (Zw ⟨g.k_End,g.zn6⟩) (Za 0) Zai)
  (Ze (Zz (Zw ⟨g.k_End,g.zn0⟩) (Za 0) (Zi zd4 hr (by decide) (Zb (Za 3) (Zb Zh Zf))))
  (Ze (Zz (Zw ⟨g.k_End,g.zn10⟩) (Za 0) ZaI)
  (Ze (Zz (Zw ⟨g.k_End,g.zn12⟩) (Za 0) Zai)
  (Ze (Zz (Zw ⟨g.k_End,g.zn11⟩) (Za 0) Zai)
  (Ze (Zz (Zw ⟨g.k_End,g.zn13⟩) (Za 0) Zai)
  (Ze (Zz (Zw ⟨g.k_End,g.zn15⟩) (Za 0) Zh)
  (Ze (Zz (Zw ⟨g.k_End,g.zn22⟩) (Za 0) (Zl g.zc7))
  (Zj (Zz (Zw ⟨g.k_End,g.zn20⟩) (Za 0) Zh))))))))))))))))))))))))))
theorem zo8 (D:Zm K mg "start_timer" zs8 zP8) (g:Glb K mg) :Zo P w K mg base 1 "start_timer" Z7:=
  ZX D zc8 2 2 rfl rfl fun f cdv A outer s H E hr=>(Ze (Zz (Zw ⟨g.k_End,g.zn15⟩) (Za 0) (Za 1))
  (Ze (Zz (Zw ⟨g.k_End,g.zn22⟩) (Za 0) (Zl g.zc7))
  (Zj (Zz (Zw ⟨g.k_End,g.zn20⟩) (Za 0) Zh))))
theorem zo9 (D:Zm K mg "state" zs9 zP9) (g:Glb K mg) :Zo P w K mg base 1 "state" ZfI:=
  ZX D zc9 1 1 rfl rfl fun f cdv A outer s H E hr=>(Zj (Zx (Zr (Zw ⟨g.k_End,g.zn16⟩) (Za 0))))
theorem Zx0 (D:Zm K mg "our_window" Zkz Zo6) (g:Glb K mg) (zd1:Zo P w K mg base 1 "room" Zfo):Zo P w K mg base 2 "our_window" zM:=
  ZX D zc10 1 1 rfl rfl fun f cdv A outer s H E hr=>(Zj (Zx (Zi zd1 hr (by decide) (Zb (Zr (Zw ⟨g.k_End,g.zn1⟩) (Za 0)) Zf))))
theorem ZxZ (D:Zm K mg "has_sent_fin" Zky Zo5) (g:Glb K mg) (zd6:Zo P w K mg base 2 "past" Zcd):Zo P w K mg base 3 "has_sent_fin" Zbf:=
  ZX D zc11 1 1 rfl rfl fun f cdv A outer s H E hr=>(Zj (Zx (Zi zd6 hr (by decide) (Zb (Zr (Zw ⟨g.k_End,g.zn8⟩) (Za 0)) (Zb (Zr (Zw ⟨g.k_End,g.zn0⟩) (Za 0)) Zf)))))
theorem ZxY (D:Zm K mg "folded" Zkx Zo4) (g:Glb K mg) :Zo P w K mg base 1 "folded" Zc5:=
  ZX D zc12 1 2 rfl rfl fun f cdv A outer s H E hr=>(Ze (ZA 1 zc12.nd (Zt ZM (Zt ZcM Zh (za ZsU g.b_sum PyProof.Rows.boot_sum (Zb (Zim (Za 0) ZbG ZbG (zV Zh)) Zf))) (za ZsU g.b_sum PyProof.Rows.boot_sum (Zb (Zim (Za 0) (zV Zh) ZbG (zV Zh)) Zf))))
  (Ze (Zez 200 PassesOwn.never (ZF Zgg (Za 1) (Zl g.zc12)) (Zj (ZA 1 zc12.nd (Zt ZM (Zt Zan (Za 1) (Zl g.zc43)) (Zt ZdH (Za 1) (Zl g.zc43))))))
  (Zj (Zx (Za 1)))))
theorem ZxX (D:Zm K mg "sum_of" Zkw Zo3) (g:Glb K mg) (zd12:Zo P w K mg base 1 "folded" Zc5):Zo P w K mg base 2 "sum_of" Zet:=
  ZX D zc13 1 1 rfl rfl fun f cdv A outer s H E hr=>(Zj (Zx (Zt Zcw (Zl g.zc12) (Zi zd12 hr (by decide) (Zb (Za 0) Zf)))))
theorem ZxV (D:Zm K mg "has" Zku Zo1) (g:Glb K mg) :Zo P w K mg base 1 "has" Zff:=
  ZX D zc15 2 2 rfl rfl fun f cdv A outer s H E hr=>(Zj (Zx (Zcj (ZF (Zfb hr.units) (Zt ZvM (Za 0) (Za 1)) Zh) Zh Zh)))
theorem ZxW (D:Zm K mg "length" Zkv Zo2) (g:Glb K mg) (zd15:Zo P w K mg base 1 "has" Zff):Zo P w K mg base 2 "length" Zcv:=
  ZX D zc14 1 2 rfl rfl fun f cdv A outer s H E hr=>(Ze (ZA 1 zc14.nd (ZC ZD (Za 0) (Zl g.zc8)))
  (Zj (Zx (Zt ZM (Zt ZM (za Zei g.b_len PySem.boot_len (Zb (ZC ZD (Za 0) (Zl g.zc5)) Zf)) (Zi zd15 hr (by decide) (Zb (Za 1) (Zb (Zl g.zc35) Zf)))) (Zi zd15 hr (by decide) (Zb (Za 1) (Zb (Zl g.zc6) Zf)))))))
theorem ZxU (D:Zm K mg "bears" Zkt Zo0) (g:Glb K mg) (zd15:Zo P w K mg base 1 "has" Zff):Zo P w K mg base 2 "bears" Z4:=
  ZX D zc16 2 2 rfl rfl fun f cdv A outer s H E hr=>(Zj (Zx (zx (zW hr.units) (Zi zd15 hr (by decide) (Zb (ZC ZD (Za 0) (Zl g.zc8)) (Zb (Za 1) Zf))) Zh)))
theorem ZxR (D:Zm K mg "byte_of_head" Zkq ZoX) (g:Glb K mg) :Zo P w K mg base 1 "byte_of_head" zQ:=
  ZX D zc19 1 1 rfl rfl fun f cdv A outer s H E hr=>(Zj (Zx (Zt ZcM Zh (Zt ZdH (Za 0) Zh))))
theorem ZxP (D:Zm K mg "two_bytes" Zko ZoV) (g:Glb K mg) :Zo P w K mg base 1 "two_bytes" zj:=
  ZX D zc21 1 1 rfl rfl fun f cdv A outer s H E hr=>(Zj (Zx (zZ (Zb (Zt Zan (Zt ZdH (Za 0) Zh) Zh) (Zb (Zt Zan (Za 0) Zh) Zf)))))
theorem ZxO (D:Zm K mg "four_bytes" Zkn ZoU) (g:Glb K mg) (zd21:Zo P w K mg base 1 "two_bytes" zj):Zo P w K mg base 2 "four_bytes" Zbq:=
  ZX D zc22 1 1 rfl rfl fun f cdv A outer s H E hr=>(Zj (Zx (Zt ZM (Zi zd21 hr (by decide) (Zb (Zt ZdH (Za 0) Zh) Zf)) (Zi zd21 hr (by decide) (Zb (Za 0) Zf)))))
theorem ZxS (D:Zm K mg "bytes_ahead_of_sum" Zkr ZoY) (g:Glb K mg) (zd19:Zo P w K mg base 1 "byte_of_head" zQ) (zd22:Zo P w K mg base 2 "four_bytes" Zbq) (zd21:Zo P w K mg base 1 "two_bytes" zj):Zo P w K mg base 3 "bytes_ahead_of_sum" zP:=
  ZX D zc18 1 4 rfl rfl fun f cdv A outer s H E hr=>(Ze (ZA 1 zc18.nd (Zt ZM (Zi zd21 hr (by decide) (Zb (ZC ZD (Za 0) (Zl g.zc34)) Zf)) (Zi zd21 hr (by decide) (Zb (ZC ZD (Za 0) (Zl g.zc9)) Zf))))
  (Ze (ZA 2 zc18.nd (Zt ZM (Zi zd22 hr (by decide) (Zb (ZC ZD (Za 0) (Zl g.zc24)) Zf)) (Zi zd22 hr (by decide) (Zb (ZC ZD (Za 0) (Zl g.zc1)) Zf))))
  (Ze (ZA 3 zc18.nd (Zcj (ZF (zW hr.units) (ZC ZD (Za 0) (Zl g.zc20)) Zh) (Zl g.zc33) (Zl g.zc19)))
  (Zj (Zx (Zt ZM (Zt ZM (Zt ZM (Za 1) (Za 2)) (zZ (Zb (Zi zd19 hr (by decide) (Zb (Za 3) Zf)) (Zb (ZC ZD (Za 0) (Zl g.zc8)) Zf)))) (Zi zd21 hr (by decide) (Zb (ZC ZD (Za 0) (Zl g.zc42)) Zf))))))))
theorem ZxQ (D:Zm K mg "bytes_of_most" Zkp ZoW) (g:Glb K mg) (zd21:Zo P w K mg base 1 "two_bytes" zj):Zo P w K mg base 2 "bytes_of_most" Za1:=
  ZX D zc20 1 1 rfl rfl fun f cdv A outer s H E hr=>(Zj (Zx (Zcj (ZF (zW hr.units) (Za 0) Zh) (zZ Zf) (Zt ZM (zZ (Zb Zh (Zb Zh Zf))) (Zi zd21 hr (by decide) (Zb (Za 0) Zf))))))
theorem ZxT (D:Zm K mg "put" Zks ZoZ) (g:Glb K mg) (zd18:Zo P w K mg base 3 "bytes_ahead_of_sum" zP) (zd20:Zo P w K mg base 2 "bytes_of_most" Za1) (zd13:Zo P w K mg base 2 "sum_of" Zet) (zd21:Zo P w K mg base 1 "two_bytes" zj):Zo P w K mg base 4 "put" ZkS:=
  ZX D zc17 1 3 rfl rfl fun f cdv A outer s H E hr=>(Ze (ZA 1 zc17.nd (Zi zd18 hr (by decide) (Zb (Za 0) Zf)))
  (Ze (ZA 2 zc17.nd (Zt ZM (Zt ZM (zZ (Zb Zh (Zb Zh Zf))) (Zi zd20 hr (by decide) (Zb (ZC ZD (Za 0) (Zl g.zc20)) Zf))) (Zbr ZqN g.b_list PyProof.Rows.boot_list (Zb (ZC ZD (Za 0) (Zl g.zc5)) Zf))))
  (Zj (Zx (Zt ZM (Zt ZM (Za 1) (Zi zd21 hr (by decide) (Zb (Zi zd13 hr (by decide) (Zb (Zt ZM (Zt ZM (Za 1) (zZ (Zb Zh (Zb Zh Zf)))) (Za 2)) Zf)) Zf))) (Za 2))))))
theorem ZxM (D:Zm K mg "head_of" Zkl ZoS) (g:Glb K mg) :Zo P w K mg base 1 "head_of" Zbp:=
  ZX D zc24 1 1 rfl rfl fun f cdv A outer s H E hr=>(Zj (Zx (Zt ZcM (Zt ZdH (ZC ZD (Za 0) Zh) Zh) Zh)))
theorem ZxJ (D:Zm K mg "two_at" Zki ZoP) (g:Glb K mg) :Zo P w K mg base 1 "two_at" Zae:=
  ZX D zc27 2 2 rfl rfl fun f cdv A outer s H E hr=>(Zj (Zx (Zt ZM (Zt ZcM Zh (ZC ZD (Za 0) (Za 1))) (ZC ZD (Za 0) (Zt ZM (Za 1) Zh)))))
theorem ZxL (D:Zm K mg "is_right_long_head" Zkk ZoR) (g:Glb K mg) (zd15:Zo P w K mg base 1 "has" Zff) (zd27:Zo P w K mg base 1 "two_at" Zae):Zo P w K mg base 2 "is_right_long_head" zO:=
  ZX D zc25 1 1 rfl rfl fun f cdv A outer s H E hr=>(Zj (Zx (Zbw (zx (zW hr.units) (Zi zd15 hr (by decide) (Zb (ZC ZD (Za 0) Zh) (Zb (Zl g.zc35) Zf))) Zh) (Zbw (zx (zW hr.units) (ZC ZD (Za 0) Zh) Zh) (Zbw (zx (zW hr.units) (ZC ZD (Za 0) Zh) Zh) (Zci (zx ZpW (Zi zd27 hr (by decide) (Zb (Za 0) (Zb Zh Zf))) (Zl g.zc16))))))))
theorem ZxN (D:Zm K mg "is_right" Zkm ZoT) (g:Glb K mg) (zd19:Zo P w K mg base 1 "byte_of_head" zQ) (zd12:Zo P w K mg base 1 "folded" Zc5) (zd24:Zo P w K mg base 1 "head_of" Zbp) (zd25:Zo P w K mg base 2 "is_right_long_head" zO) (zd27:Zo P w K mg base 1 "two_at" Zae):Zo P w K mg base 3 "is_right" Zag:=
  ZX D zc23 1 1 rfl rfl fun f cdv A outer s H E hr=>(Zj (Zx (Zbw (zx ZpW (za Zei g.b_len PySem.boot_len (Zb (Za 0) Zf)) (Zl g.zc33)) (Zbw (zx ZkZ (ZC ZD (Za 0) Zh) (zc (Zb (Zi zd19 hr (by decide) (Zb (Zl g.zc33) Zf)) (Zb (Zi zd19 hr (by decide) (Zb (Zl g.zc19) Zf)) Zf))) (by with_unfolding_all rfl)) (Zbw (zx Zey (ZC ZD (Za 0) Zh) (Zl g.zc11)) (Zbw (Zc7 Zey Zey Zh (Zt Zcw (za Zei g.b_len PySem.boot_len (Zb (Za 0) Zf)) (Zi zd24 hr (by decide) (Zb (Za 0) Zf))) (Zl g.zc10)) (Zbw (zx (zW hr.units) (Zi zd27 hr (by decide) (Zb (Za 0) (Zb Zh Zf))) Zh) (Zbw (Zk5 (zx (zW hr.units) (Zi zd24 hr (by decide) (Zb (Za 0) Zf)) (Zl g.zc33)) (Zci (Zi zd25 hr (by decide) (Zb (Za 0) Zf)))) (Zci (zx (zW hr.units) (Zi zd12 hr (by decide) (Zb (Za 0) Zf)) (Zl g.zc29)))))))))))
theorem ZxI (D:Zm K mg "four_at" Zkh ZoO) (g:Glb K mg) (zd27:Zo P w K mg base 1 "two_at" Zae):Zo P w K mg base 2 "four_at" ZcW:=
  ZX D zc28 2 2 rfl rfl fun f cdv A outer s H E hr=>(Zj (Zx (Zt ZM (Zt ZcM Zh (Zi zd27 hr (by decide) (Zb (Za 0) (Zb (Za 1) Zf)))) (Zi zd27 hr (by decide) (Zb (Za 0) (Zb (Zt ZM (Za 1) Zh) Zf))))))
theorem ZxK (D:Zm K mg "get" Zkj ZoQ) (g:Glb K mg) (zd28:Zo P w K mg base 2 "four_at" ZcW) (zd24:Zo P w K mg base 1 "head_of" Zbp) (zd23:Zo P w K mg base 3 "is_right" Zag) (zd27:Zo P w K mg base 1 "two_at" Zae):Zo P w K mg base 4 "get" Zic:=
  ZX D zc26 1 5 rfl rfl fun f cdv A outer s H E hr=>(Ze (ZK (Za6 (ZE (Zi zd23 hr (by decide) (Zb (Za 0) Zf)))) (Zj Zp3) ZB)
  (Ze (ZA 1 zc26.nd (Zi zd24 hr (by decide) (Zb (Za 0) Zf)))
  (Ze (ZA 2 zc26.nd (Zcj (ZF (zW hr.units) (Za 1) (Zl g.zc19)) (Zi zd27 hr (by decide) (Zb (Za 0) (Zb Zh Zf))) Zh))
  (Ze (ZA 3 zc26.nd (zc (Zb (Zi zd27 hr (by decide) (Zb (Za 0) (Zb Zh Zf))) (Zb (Zi zd27 hr (by decide) (Zb (Za 0) (Zb Zh Zf))) Zf))))
  (Ze (ZA 4 zc26.nd (zc (Zb (Zi zd28 hr (by decide) (Zb (Za 0) (Zb Zh Zf))) (Zb (Zi zd28 hr (by decide) (Zb (Za 0) (Zb Zh Zf))) Zf))))
  (Zj (Zx (Zt ZM (Zt ZM (Za 3) (Za 4)) (zc (Zb (ZC ZD (Za 0) Zh) (Zb (Zi zd27 hr (by decide) (Zb (Za 0) (Zb Zh Zf))) (Zb (Za 2) (Zb (Zbr Zg1 g.b_tuple PyProof.Rows.boot_tuple (Zb (ZaN (Za 0) (zV (Za 1)) ZbG) Zf)) Zf)))))))))))))
theorem ZxH (D:Zm K mg "reset_for" Zkg ZoN) (g:Glb K mg) (zd16:Zo P w K mg base 2 "bears" Z4) (zd14:Zo P w K mg base 2 "length" Zcv) (zd4:Zo P w K mg base 1 "plus" zA):Zo P w K mg base 3 "reset_for" ZbR:=
  ZX D zc29 1 2 rfl rfl fun f cdv A outer s H E hr=>(Ze (ZA 1 zc29.nd (zc (Zb (ZC ZD (Za 0) (Zl g.zc9)) (Zb (ZC ZD (Za 0) (Zl g.zc34)) Zf))))
  (Ze (ZK (ZE (Zi zd16 hr (by decide) (Zb (Za 0) (Zb (Zl g.zc0) Zf)))) (Zj (Zx (Zt ZM (Za 1) (zc (Zb (ZC ZD (Za 0) (Zl g.zc1)) (Zb Zh (Zb (Zl g.zc32) (Zb Zh (Zb Zh (Zb (zc Zf) Zf)))))))))) ZB)
  (Zj (Zx (Zt ZM (Za 1) (zc (Zb Zh (Zb (Zi zd4 hr (by decide) (Zb (ZC ZD (Za 0) (Zl g.zc24)) (Zb (Zi zd14 hr (by decide) (Zb (Za 0) Zf)) Zf))) (Zb (Zt ZM (Zl g.zc32) (Zl g.zc0)) (Zb Zh (Zb Zh (Zb (zc Zf) Zf))))))))))))
theorem ZxG (D:Zm K mg "owe_reset_for" Zkf ZoM) (g:Glb K mg) (zd16:Zo P w K mg base 2 "bears" Z4) (zd29:Zo P w K mg base 3 "reset_for" ZbR):Zo P w K mg base 4 "owe_reset_for" Z0:=
  ZX D zc30 2 2 rfl rfl fun f cdv A outer s H E hr=>(Zj (ZK (Za6 (ZE (Zi zd16 hr (by decide) (Zb (Za 1) (Zb (Zl g.zc32) Zf))))) (Zj (Zz (Zw ⟨g.k_End,g.zn10⟩) (Za 0) (Zi zd29 hr (by decide) (Zb (Za 1) Zf)))) ZB))
theorem ZxF (D:Zm K mg "come_to_closed" Zke ZoL) (g:Glb K mg) (zd30:Zo P w K mg base 4 "owe_reset_for" Z0):Zo P w K mg base 5 "come_to_closed" ZaM:=
  ZX D zc31 2 2 rfl rfl fun f cdv A outer s H E hr=>(Zj (ZV (Zi zd30 hr (by decide) (Zb (Za 0) (Zb (Za 1) Zf)))))
theorem ZxD (D:Zm K mg "hear_syn" Zkc ZoJ) (g:Glb K mg) (zd16:Zo P w K mg base 2 "bears" Z4) (zd4:Zo P w K mg base 1 "plus" zA):Zo P w K mg base 3 "hear_syn" ZbL:=
  ZX D zc33 2 2 rfl rfl fun f cdv A outer s H E hr=>(Ze (Zz (Zw ⟨g.k_End,g.zn14⟩) (Za 0) (Zi zd4 hr (by decide) (Zb (ZC ZD (Za 1) (Zl g.zc24)) (Zb Zh Zf))))
  (Ze (Zz (Zw ⟨g.k_End,g.zn23⟩) (Za 0) (ZC ZD (Za 1) (Zl g.zc42)))
  (Ze (Zz (Zw ⟨g.k_End,g.zn18⟩) (Za 0) (ZC ZD (Za 1) (Zl g.zc24)))
  (Ze (Zz (Zw ⟨g.k_End,g.zn19⟩) (Za 0) (Zcj (ZE (Zi zd16 hr (by decide) (Zb (Za 1) (Zb (Zl g.zc0) Zf)))) (ZC ZD (Za 1) (Zl g.zc1)) Zh))
  (Zj (ZK (ZF (Zfb hr.units) (ZC ZD (Za 1) (Zl g.zc20)) Zh) (Zj (Zz (Zw ⟨g.k_End,g.zn7⟩) (Za 0) (ZC ZD (Za 1) (Zl g.zc20)))) ZB))))))
theorem ZxE (D:Zm K mg "come_to_listen" Zkd ZoK) (g:Glb K mg) (zd16:Zo P w K mg base 2 "bears" Z4) (zd33:Zo P w K mg base 3 "hear_syn" ZbL) (zd30:Zo P w K mg base 4 "owe_reset_for" Z0):Zo P w K mg base 5 "come_to_listen" zt:=
  ZX D zc32 2 2 rfl rfl fun f cdv A outer s H E hr=>(Ze (ZK (ZE (Zi zd16 hr (by decide) (Zb (Za 1) (Zb (Zl g.zc32) Zf)))) (Zj ZdW) ZB)
  (Zj (ZK (ZE (Zi zd16 hr (by decide) (Zb (Za 1) (Zb (Zl g.zc0) Zf)))) (Zj (ZV (Zi zd30 hr (by decide) (Zb (Za 0) (Zb (Za 1) Zf))))) (Zj (ZK (ZE (Zi zd16 hr (by decide) (Zb (Za 1) (Zb (Zl g.zc35) Zf)))) (Ze (Zz (Zw ⟨g.k_End,g.zn17⟩) (Za 0) (ZC ZD (Za 1) (Zl g.zc34)))
      (Ze (ZV (Zi zd33 hr (by decide) (Zb (Za 0) (Zb (Za 1) Zf))))
      (Zj (Zz (Zw ⟨g.k_End,g.zn16⟩) (Za 0) (ZG g.zc36))))) ZB)))))
theorem ZxB (D:Zm K mg "answers_syn" Zka ZoH) (g:Glb K mg) (zd4:Zo P w K mg base 1 "plus" zA):Zo P w K mg base 2 "answers_syn" ZbE:=
  ZX D zc35 2 2 rfl rfl fun f cdv A outer s H E hr=>(Zj (Zx (Zbw (zx (Zfb hr.units) (Zr (Zw ⟨g.k_End,g.zn8⟩) (Za 0)) (Zr (Zw ⟨g.k_End,g.zn5⟩) (Za 0))) (Zci (zx (zW hr.units) (ZC ZD (Za 1) (Zl g.zc1)) (Zi zd4 hr (by decide) (Zb (Zr (Zw ⟨g.k_End,g.zn5⟩) (Za 0)) (Zb Zh Zf))))))))
theorem Zxz (D:Zm K mg "go_on_from_syn_sent" Zj8 ZoF) (g:Glb K mg) (zd16:Zo P w K mg base 2 "bears" Z4) (zd8:Zo P w K mg base 1 "start_timer" Z7):Zo P w K mg base 3 "go_on_from_syn_sent" zF:=
  ZX D zc37 3 3 rfl rfl fun f cdv A outer s H E hr=>(Zj (ZK (ZE (Zi zd16 hr (by decide) (Zb (Za 1) (Zb (Zl g.zc0) Zf)))) (Ze (Zz (Zw ⟨g.k_End,g.zn21⟩) (Za 0) (ZC ZD (Za 1) (Zl g.zc1)))
    (Ze (Zz (Zw ⟨g.k_End,g.zn16⟩) (Za 0) (ZG g.zc25))
    (Zj (Zz (Zw ⟨g.k_End,g.zn11⟩) (Za 0) Zai)))) (Ze (Zz (Zw ⟨g.k_End,g.zn16⟩) (Za 0) (ZG g.zc36))
    (Ze (ZV (Zi zd8 hr (by decide) (Zb (Za 0) (Zb (Za 2) Zf))))
    (Zj (Zz (Zw ⟨g.k_End,g.zn12⟩) (Za 0) Zai))))))
theorem ZxA (D:Zm K mg "refuse" Zj9 ZoG) (g:Glb K mg) (zd16:Zo P w K mg base 2 "bears" Z4):Zo P w K mg base 3 "refuse" Zeu:=
  ZX D zc36 2 2 rfl rfl fun f cdv A outer s H E hr=>(Zj (ZK (ZE (Zi zd16 hr (by decide) (Zb (Za 1) (Zb (Zl g.zc0) Zf)))) (Ze (Zz (Zw ⟨g.k_End,g.zn16⟩) (Za 0) (ZG g.zc2))
    (Zj (Zz (Zw ⟨g.k_End,g.zn4⟩) (Za 0) (ZG g.zc27)))) ZB))
theorem ZxC (D:Zm K mg "come_to_syn_sent" Zkb ZoI) (g:Glb K mg) (zd35:Zo P w K mg base 2 "answers_syn" ZbE) (zd16:Zo P w K mg base 2 "bears" Z4) (zd37:Zo P w K mg base 3 "go_on_from_syn_sent" zF) (zd33:Zo P w K mg base 3 "hear_syn" ZbL) (zd30:Zo P w K mg base 4 "owe_reset_for" Z0) (zd36:Zo P w K mg base 3 "refuse" Zeu):Zo P w K mg base 5 "come_to_syn_sent" ZU:=
  ZX D zc34 3 3 rfl rfl fun f cdv A outer s H E hr=>(Zj (ZK (MW.mt (ZcG (ZE (Zi zd16 hr (by decide) (Zb (Za 1) (Zb (Zl g.zc0) Zf)))) (ZaH (Za6 (ZE (Zi zd35 hr (by decide) (Zb (Za 0) (Zb (Za 1) Zf)))))))) (Zj (ZV (Zi zd30 hr (by decide) (Zb (Za 0) (Zb (Za 1) Zf))))) (Zj (ZK (ZE (Zi zd16 hr (by decide) (Zb (Za 1) (Zb (Zl g.zc32) Zf)))) (Zj (ZV (Zi zd36 hr (by decide) (Zb (Za 0) (Zb (Za 1) Zf))))) (Zj (ZK (ZE (Zi zd16 hr (by decide) (Zb (Za 1) (Zb (Zl g.zc35) Zf)))) (Ze (ZV (Zi zd33 hr (by decide) (Zb (Za 0) (Zb (Za 1) Zf))))
        (Zj (ZV (Zi zd37 hr (by decide) (Zb (Za 0) (Zb (Za 1) (Zb (Za 2) Zf))))))) ZB))))))
theorem Zxu (D:Zm K mg "is_in_window" Zj3 ZoA) (g:Glb K mg) (zd5:Zo P w K mg base 1 "offset" zB) (zd10:Zo P w K mg base 2 "our_window" zM):Zo P w K mg base 3 "is_in_window" zk:=
  ZX D zc42 2 2 rfl rfl fun f cdv A outer s H E hr=>(Zj (Zx (Zc7 Zey ZkY Zh (Zi zd5 hr (by decide) (Zb (Za 1) (Zb (Zr (Zw ⟨g.k_End,g.zn14⟩) (Za 0)) Zf))) (Zi zd10 hr (by decide) (Zb (Za 0) Zf)))))
theorem Zxv (D:Zm K mg "fits" Zj4 ZoB) (g:Glb K mg) (zd42:Zo P w K mg base 3 "is_in_window" zk) (zd14:Zo P w K mg base 2 "length" Zcv) (zd5:Zo P w K mg base 1 "offset" zB) (zd4:Zo P w K mg base 1 "plus" zA):Zo P w K mg base 4 "fits" Zgf:=
  ZX D zc41 2 4 rfl rfl fun f cdv A outer s H E hr=>(Ze (ZA 2 zc41.nd (Zi zd14 hr (by decide) (Zb (Za 1) Zf)))
  (Ze (ZK (ZF (zW hr.units) (Za 2) Zh) (Zj (Zx (Zc7 Zey Zey Zh (Zi zd5 hr (by decide) (Zb (ZC ZD (Za 1) (Zl g.zc24)) (Zb (Zr (Zw ⟨g.k_End,g.zn14⟩) (Za 0)) Zf))) (Zl g.zc30)))) ZB)
  (Ze (ZA 3 zc41.nd (Zi zd4 hr (by decide) (Zb (ZC ZD (Za 1) (Zl g.zc24)) (Zb (Zt Zcw (Za 2) Zh) Zf))))
  (Zj (Zx (Zk5 (Zi zd42 hr (by decide) (Zb (Za 0) (Zb (ZC ZD (Za 1) (Zl g.zc24)) Zf))) (Zci (Zi zd42 hr (by decide) (Zb (Za 0) (Zb (Za 3) Zf))))))))))
theorem Zxm (D:Zm K mg "end_what_is_acknowledged" ZjV Zos) (g:Glb K mg) (zd11:Zo P w K mg base 3 "has_sent_fin" Zbf):Zo P w K mg base 4 "end_what_is_acknowledged" ZT:=
  ZX D Zyn 2 2 rfl rfl fun f cdv A outer s H E hr=>(Ze (ZK (MW.mt (ZcN (Za6 (ZE (Zi zd11 hr (by decide) (Zb (Za 0) Zf)))) (Zad (ZF (Zfb hr.units) (Zr (Zw ⟨g.k_End,g.zn21⟩) (Za 0)) (Zr (Zw ⟨g.k_End,g.zn8⟩) (Za 0)))))) (Zj ZdW) ZB)
  (Zj (ZK (ZF (zW hr.units) (Zr (Zw ⟨g.k_End,g.zn16⟩) (Za 0)) (ZG g.zc40)) (Zj (Zz (Zw ⟨g.k_End,g.zn16⟩) (Za 0) (ZG g.zc41))) (Zj (ZK (ZF (zW hr.units) (Zr (Zw ⟨g.k_End,g.zn16⟩) (Za 0)) (ZG g.zc4)) (Ze (Zz (Zw ⟨g.k_End,g.zn16⟩) (Za 0) (ZG g.zc39))
      (Zj (Zz (Zw ⟨g.k_End,g.zn15⟩) (Za 0) (Za 1)))) (Zj (ZK (ZF (zW hr.units) (Zr (Zw ⟨g.k_End,g.zn16⟩) (Za 0)) (ZG g.zc14)) (Zj (Zz (Zw ⟨g.k_End,g.zn16⟩) (Za 0) (ZG g.zc2))) ZB)))))))
theorem Zxp (D:Zm K mg "take_window" ZjY Zov) (g:Glb K mg) :Zo P w K mg base 1 "take_window" ZaF:=
  ZX D Zyp 2 2 rfl rfl fun f cdv A outer s H E hr=>(Ze (Zz (Zw ⟨g.k_End,g.zn23⟩) (Za 0) (ZC ZD (Za 1) (Zl g.zc42)))
  (Ze (Zz (Zw ⟨g.k_End,g.zn18⟩) (Za 0) (ZC ZD (Za 1) (Zl g.zc24)))
  (Zj (Zz (Zw ⟨g.k_End,g.zn19⟩) (Za 0) (ZC ZD (Za 1) (Zl g.zc1))))))
theorem Zxq (D:Zm K mg "has_answered_syn" ZjZ Zow) (g:Glb K mg) (zd30:Zo P w K mg base 4 "owe_reset_for" Z0) (zd47:Zo P w K mg base 1 "take_window" ZaF):Zo P w K mg base 5 "has_answered_syn" zn:=
  ZX D Zyq 2 2 rfl rfl fun f cdv A outer s H E hr=>(Ze (ZK (MW.mt (ZcN (ZF (zW hr.units) (Zr (Zw ⟨g.k_End,g.zn8⟩) (Za 0)) (Zr (Zw ⟨g.k_End,g.zn5⟩) (Za 0))) (Zad (ZF (Zfb hr.units) (ZC ZD (Za 1) (Zl g.zc1)) (Zr (Zw ⟨g.k_End,g.zn8⟩) (Za 0)))))) (Ze (ZV (Zi zd30 hr (by decide) (Zb (Za 0) (Zb (Za 1) Zf))))
    (Zj (Zx Zai))) ZB)
  (Ze (Zz (Zw ⟨g.k_End,g.zn21⟩) (Za 0) (ZC ZD (Za 1) (Zl g.zc1)))
  (Ze (Zz (Zw ⟨g.k_End,g.zn16⟩) (Za 0) (Zcj (ZE (Zr (Zw ⟨g.k_End,g.zn6⟩) (Za 0))) (ZG g.zc40) (ZG g.zc25)))
  (Ze (ZV (Zi zd47 hr (by decide) (Zb (Za 0) (Zb (Za 1) Zf))))
  (Zj (Zx Zai))))))
theorem Zxn (D:Zm K mg "is_newer" ZjW Zot) (g:Glb K mg) (zd6:Zo P w K mg base 2 "past" Zcd):Zo P w K mg base 3 "is_newer" Zc3:=
  ZX D Zyo 2 2 rfl rfl fun f cdv A outer s H E hr=>(Ze (ZK (ZF (zW hr.units) (ZC ZD (Za 1) (Zl g.zc24)) (Zr (Zw ⟨g.k_End,g.zn18⟩) (Za 0))) (Zj (Zx (Zp9 (Zi zd6 hr (by decide) (Zb (Zr (Zw ⟨g.k_End,g.zn19⟩) (Za 0)) (Zb (ZC ZD (Za 1) (Zl g.zc1)) Zf)))))) ZB)
  (Zj (Zx (Zi zd6 hr (by decide) (Zb (ZC ZD (Za 1) (Zl g.zc24)) (Zb (Zr (Zw ⟨g.k_End,g.zn18⟩) (Za 0)) Zf))))))
theorem Zxo (D:Zm K mg "hear_answer" ZjX Zou) (g:Glb K mg) (zd49:Zo P w K mg base 3 "is_newer" Zc3) (zd5:Zo P w K mg base 1 "offset" zB) (zd6:Zo P w K mg base 2 "past" Zcd) (zd8:Zo P w K mg base 1 "start_timer" Z7) (zd3:Zo P w K mg base 1 "take" Zcc) (zd47:Zo P w K mg base 1 "take_window" ZaF):Zo P w K mg base 4 "hear_answer" zN:=
  ZX D zc48 3 6 rfl rfl fun f cdv A outer s H E hr=>(Ze (ZA 3 zc48.nd (ZC ZD (Za 1) (Zl g.zc1)))
  (Ze (ZA 4 zc48.nd (Zi zd6 hr (by decide) (Zb (Za 3) (Zb (Zr (Zw ⟨g.k_End,g.zn21⟩) (Za 0)) Zf))))
  (Ze (ZK (ZE (Za 4)) (Ze (ZV (Zi zd3 hr (by decide) (Zb (Zr (Zw ⟨g.k_End,g.zn24⟩) (Za 0)) (Zb (Zi zd5 hr (by decide) (Zb (Za 3) (Zb (Zr (Zw ⟨g.k_End,g.zn21⟩) (Za 0)) Zf))) Zf))))
    (Ze (Zz (Zw ⟨g.k_End,g.zn21⟩) (Za 0) (Za 3))
    (Zj (ZK (ZF (Zfb hr.units) (Zr (Zw ⟨g.k_End,g.zn21⟩) (Za 0)) (Zr (Zw ⟨g.k_End,g.zn8⟩) (Za 0))) (Zj (ZV (Zi zd8 hr (by decide) (Zb (Za 0) (Zb (Za 2) Zf))))) ZB)))) ZB)
  (Ze (ZK (ZE (Zi zd6 hr (by decide) (Zb (Zr (Zw ⟨g.k_End,g.zn21⟩) (Za 0)) (Zb (Za 3) Zf)))) (Zj ZdW) ZB)
  (Ze (ZA 5 zc48.nd (zx (zW hr.units) (Zr (Zw ⟨g.k_End,g.zn23⟩) (Za 0)) Zh))
  (Ze (ZK (MW.mt (ZcN (ZE (Za 4)) (Zad (ZE (Zi zd49 hr (by decide) (Zb (Za 0) (Zb (Za 1) Zf))))))) (Zj (ZV (Zi zd47 hr (by decide) (Zb (Za 0) (Zb (Za 1) Zf))))) ZB)
  (Zj (ZK (MW.mt (ZcN (ZE (Za 5)) (Zad (ZF (zW hr.units) (Zr (Zw ⟨g.k_End,g.zn23⟩) (Za 0)) Zh)))) (Zj (Zz (Zw ⟨g.k_End,g.zn20⟩) (Za 0) Zh)) ZB))))))))
theorem Zxr (D:Zm K mg "goes_on_behind_answer" Zj0 Zox) (g:Glb K mg) (zd50:Zo P w K mg base 4 "end_what_is_acknowledged" ZT) (zd46:Zo P w K mg base 5 "has_answered_syn" zn) (zd48:Zo P w K mg base 4 "hear_answer" zN) (zd6:Zo P w K mg base 2 "past" Zcd):Zo P w K mg base 6 "goes_on_behind_answer" Z1:=
  ZX D Zyr 3 3 rfl rfl fun f cdv A outer s H E hr=>(Ze (ZK (ZF (zW hr.units) (Zr (Zw ⟨g.k_End,g.zn16⟩) (Za 0)) (ZG g.zc36)) (Zj (Zx (Zi zd46 hr (by decide) (Zb (Za 0) (Zb (Za 1) Zf))))) ZB)
  (Ze (ZK (ZE (Zi zd6 hr (by decide) (Zb (ZC ZD (Za 1) (Zl g.zc1)) (Zb (Zr (Zw ⟨g.k_End,g.zn8⟩) (Za 0)) Zf)))) (Ze (Zz (Zw ⟨g.k_End,g.zn11⟩) (Za 0) Zai)
    (Zj (Zx Zai))) ZB)
  (Ze (ZV (Zi zd48 hr (by decide) (Zb (Za 0) (Zb (Za 1) (Zb (Za 2) Zf)))))
  (Ze (ZV (Zi zd50 hr (by decide) (Zb (Za 0) (Zb (Za 2) Zf))))
  (Zj (Zx (zx (Zfb hr.units) (Zr (Zw ⟨g.k_End,g.zn16⟩) (Za 0)) (ZG g.zc2))))))))
theorem Zxs (D:Zm K mg "hear_reset" Zj1 Zoy) (g:Glb K mg) :Zo P w K mg base 1 "hear_reset" Zbo:=
  ZX D Zys 2 2 rfl rfl fun f cdv A outer s H E hr=>(Ze (ZK (ZF (zW hr.units) (Zr (Zw ⟨g.k_End,g.zn16⟩) (Za 0)) (ZG g.zc39)) (Zj ZdW) ZB)
  (Zj (ZK (ZF (zW hr.units) (ZC ZD (Za 1) (Zl g.zc24)) (Zr (Zw ⟨g.k_End,g.zn14⟩) (Za 0))) (Ze (Zz (Zw ⟨g.k_End,g.zn16⟩) (Za 0) (ZG g.zc2))
    (Zj (Zz (Zw ⟨g.k_End,g.zn4⟩) (Za 0) (ZG g.zc28)))) (Zj (Zz (Zw ⟨g.k_End,g.zn11⟩) (Za 0) Zai)))))
theorem Zxi (D:Zm K mg "draw_in_order" ZjR Zoo) (g:Glb K mg) (zd2:Zo P w K mg base 2 "lay" ZkT) (zd4:Zo P w K mg base 1 "plus" zA):Zo P w K mg base 3 "draw_in_order" Za0:=
  ZX D zc54 1 2 rfl rfl fun f cdv A outer s H E hr=>(Ze (Zij 1 zc54.nd Zf)
  (Ze (Zez 200 PassesOwn.never (MW.mt (ZcG (ZF (Zfb hr.units) (Zr (Zw ⟨g.k_End,g.zn14⟩) (Za 0)) (Zr (Zw ⟨g.k_End,g.zn3⟩) (Za 0))) (ZaH (Zp2 hr (Zr (Zw ⟨g.k_End,g.zn14⟩) (Za 0)) (Zr (Zw ⟨g.k_End,g.zn2⟩) (Za 0)))))) (Ze (Zik 1 (ZmG (Zr (Zw ⟨g.k_End,g.zn2⟩) (Za 0)) (Zr (Zw ⟨g.k_End,g.zn14⟩) (Za 0)) ⟨rfl,rfl,rfl,rfl⟩) (hpe:=fun h=>ZsH PySem.F.plainAttrs_list PySem.F.slot_list_append PySem.F.type_list_append Zii h (ZiT (ZmG (Zr (Zw ⟨g.k_End,g.zn2⟩) (Za 0)) (Zr (Zw ⟨g.k_End,g.zn14⟩) (Za 0)) ⟨rfl,rfl,rfl,rfl⟩) ZlL)))
    (Zj (Zz (Zw ⟨g.k_End,g.zn14⟩) (Za 0) (Zi zd4 hr (by decide) (Zb (Zr (Zw ⟨g.k_End,g.zn14⟩) (Za 0)) (Zb Zh Zf)))))))
  (Zj (Zgi 1 (ZV (Zi zd2 hr (by decide) (Zb (Zr (Zw ⟨g.k_End,g.zn1⟩) (Za 0)) (Zb (Za 1) Zf))))))))
theorem Zxh (D:Zm K mg "hear_fin" ZjQ Zon) (g:Glb K mg) (zd4:Zo P w K mg base 1 "plus" zA):Zo P w K mg base 2 "hear_fin" Zcg:=
  ZX D Zyl 2 2 rfl rfl fun f cdv A outer s H E hr=>(Ze (Zz (Zw ⟨g.k_End,g.zn14⟩) (Za 0) (Zi zd4 hr (by decide) (Zb (Zr (Zw ⟨g.k_End,g.zn14⟩) (Za 0)) (Zb Zh Zf))))
  (Zj (ZK (ZF (zW hr.units) (Zr (Zw ⟨g.k_End,g.zn16⟩) (Za 0)) (ZG g.zc25)) (Zj (Zz (Zw ⟨g.k_End,g.zn16⟩) (Za 0) (ZG g.zc3))) (Zj (ZK (ZF (zW hr.units) (Zr (Zw ⟨g.k_End,g.zn16⟩) (Za 0)) (ZG g.zc40)) (Zj (Zz (Zw ⟨g.k_End,g.zn16⟩) (Za 0) (ZG g.zc4))) (Ze (Zz (Zw ⟨g.k_End,g.zn16⟩) (Za 0) (ZG g.zc39))
      (Zj (Zz (Zw ⟨g.k_End,g.zn15⟩) (Za 0) (Za 1)))))))))
theorem Zxk (D:Zm K mg "keep_data" ZjT Zoq) (g:Glb K mg) (zd42:Zo P w K mg base 3 "is_in_window" zk) (zd4:Zo P w K mg base 1 "plus" zA):Zo P w K mg base 4 "keep_data" ZbS:=
  ZX D zc52 2 5 rfl rfl fun f cdv A outer s H E hr=>(Ze (ZrU 2 3 zc52.nd PassesOwn.never g.b_enumerate (Zb (ZC ZD (Za 1) (Zl g.zc5)) Zf) (Ze (ZA 4 zc52.nd (Zi zd4 hr (by decide) (Zb (ZC ZD (Za 1) (Zl g.zc24)) (Zb (Za 2) Zf))))
    (Zj (ZK (ZE (Zi zd42 hr (by decide) (Zb (Za 0) (Zb (Za 4) Zf)))) (Zj (ZV (Zqa (Zr (Zw ⟨g.k_End,g.zn2⟩) (Za 0)) (Za 4) (Za 3) ⟨rfl,rfl,rfl,rfl⟩))) ZB))))
  (Zj (ZK (ZF Zgg (za Zei g.b_len PySem.boot_len (Zb (ZC ZD (Za 1) (Zl g.zc5)) Zf)) Zh) (Zj (Zz (Zw ⟨g.k_End,g.zn11⟩) (Za 0) Zai)) ZB)))
theorem Zxj (D:Zm K mg "keep_fin" ZjS Zop) (g:Glb K mg) (zd16:Zo P w K mg base 2 "bears" Z4) (zd42:Zo P w K mg base 3 "is_in_window" zk) (zd4:Zo P w K mg base 1 "plus" zA):Zo P w K mg base 4 "keep_fin" Zcf:=
  ZX D zc53 2 3 rfl rfl fun f cdv A outer s H E hr=>(Ze (ZK (Za6 (ZE (Zi zd16 hr (by decide) (Zb (Za 1) (Zb (Zl g.zc6) Zf))))) (Zj ZdW) ZB)
  (Ze (Zz (Zw ⟨g.k_End,g.zn11⟩) (Za 0) Zai)
  (Ze (ZA 2 zc53.nd (Zi zd4 hr (by decide) (Zb (ZC ZD (Za 1) (Zl g.zc24)) (Zb (za Zei g.b_len PySem.boot_len (Zb (ZC ZD (Za 1) (Zl g.zc5)) Zf)) Zf))))
  (Zj (ZK (MW.mt (ZcG (ZF ZrQ (Zr (Zw ⟨g.k_End,g.zn3⟩) (Za 0)) ZaI) (ZaH (ZE (Zi zd42 hr (by decide) (Zb (Za 0) (Zb (Za 2) Zf))))))) (Zj (Zz (Zw ⟨g.k_End,g.zn3⟩) (Za 0) (Za 2))) ZB)))))
theorem Zxl (D:Zm K mg "hear_stream" ZjU Zor) (g:Glb K mg) (zd54:Zo P w K mg base 3 "draw_in_order" Za0) (zd55:Zo P w K mg base 2 "hear_fin" Zcg) (zd52:Zo P w K mg base 4 "keep_data" ZbS) (zd53:Zo P w K mg base 4 "keep_fin" Zcf):Zo P w K mg base 5 "hear_stream" ZaG:=
  ZX D Zym 3 3 rfl rfl fun f cdv A outer s H E hr=>(Ze (ZK (ZF Zmy (Zr (Zw ⟨g.k_End,g.zn16⟩) (Za 0)) (zc (Zb (ZG g.zc25) (Zb (ZG g.zc40) (Zb (ZG g.zc41) Zf)))) (by with_unfolding_all rfl)) (Zj ZdW) ZB)
  (Ze (ZV (Zi zd52 hr (by decide) (Zb (Za 0) (Zb (Za 1) Zf))))
  (Ze (ZV (Zi zd53 hr (by decide) (Zb (Za 0) (Zb (Za 1) Zf))))
  (Ze (ZV (Zi zd54 hr (by decide) (Zb (Za 0) Zf)))
  (Zj (ZK (ZF (zW hr.units) (Zr (Zw ⟨g.k_End,g.zn14⟩) (Za 0)) (Zr (Zw ⟨g.k_End,g.zn3⟩) (Za 0))) (Zj (ZV (Zi zd55 hr (by decide) (Zb (Za 0) (Zb (Za 2) Zf))))) ZB))))))
theorem Zxt (D:Zm K mg "turn_away" Zj2 Zoz) (g:Glb K mg) (zd16:Zo P w K mg base 2 "bears" Z4):Zo P w K mg base 3 "turn_away" Zbe:=
  ZX D zc43 3 3 rfl rfl fun f cdv A outer s H E hr=>(Ze (ZK (ZE (Zi zd16 hr (by decide) (Zb (Za 1) (Zb (Zl g.zc32) Zf)))) (Zj ZdW) ZB)
  (Ze (ZK (MW.mt (ZcG (ZF (zW hr.units) (Zr (Zw ⟨g.k_End,g.zn16⟩) (Za 0)) (ZG g.zc36)) (ZcG (ZE (Zi zd16 hr (by decide) (Zb (Za 1) (Zb (Zl g.zc35) Zf)))) (ZaH (Za6 (ZE (Zi zd16 hr (by decide) (Zb (Za 1) (Zb (Zl g.zc0) Zf))))))))) (Zj (Zz (Zw ⟨g.k_End,g.zn12⟩) (Za 0) Zai)) (Zj (Zz (Zw ⟨g.k_End,g.zn11⟩) (Za 0) Zai)))
  (Zj (ZK (ZF (zW hr.units) (Zr (Zw ⟨g.k_End,g.zn16⟩) (Za 0)) (ZG g.zc39)) (Zj (Zz (Zw ⟨g.k_End,g.zn15⟩) (Za 0) (Za 2))) ZB))))
theorem Zxw (D:Zm K mg "come_to_stream" Zj5 ZoC) (g:Glb K mg) (zd16:Zo P w K mg base 2 "bears" Z4) (zd41:Zo P w K mg base 4 "fits" Zgf) (zd45:Zo P w K mg base 6 "goes_on_behind_answer" Z1) (zd44:Zo P w K mg base 1 "hear_reset" Zbo) (zd51:Zo P w K mg base 5 "hear_stream" ZaG) (zd43:Zo P w K mg base 3 "turn_away" Zbe):Zo P w K mg base 7 "come_to_stream" Z9:=
  ZX D zc40 3 3 rfl rfl fun f cdv A outer s H E hr=>(Zj (ZK (Za6 (ZE (Zi zd41 hr (by decide) (Zb (Za 0) (Zb (Za 1) Zf))))) (Zj (ZV (Zi zd43 hr (by decide) (Zb (Za 0) (Zb (Za 1) (Zb (Za 2) Zf)))))) (Zj (ZK (ZE (Zi zd16 hr (by decide) (Zb (Za 1) (Zb (Zl g.zc32) Zf)))) (Zj (ZV (Zi zd44 hr (by decide) (Zb (Za 0) (Zb (Za 1) Zf))))) (Zj (ZK (ZE (Zi zd16 hr (by decide) (Zb (Za 1) (Zb (Zl g.zc35) Zf)))) (Zj (Zz (Zw ⟨g.k_End,g.zn11⟩) (Za 0) Zai)) (Zj (ZK (MW.mt (ZcG (ZE (Zi zd16 hr (by decide) (Zb (Za 1) (Zb (Zl g.zc0) Zf)))) (ZaH (ZE (Zi zd45 hr (by decide) (Zb (Za 0) (Zb (Za 1) (Zb (Za 2) Zf)))))))) (Zj (ZV (Zi zd51 hr (by decide) (Zb (Za 0) (Zb (Za 1) (Zb (Za 2) Zf)))))) ZB))))))))
theorem Zxx (D:Zm K mg "is_for" Zj6 ZoD) (g:Glb K mg) :Zo P w K mg base 1 "is_for" Zew:=
  ZX D zc39 2 2 rfl rfl fun f cdv A outer s H E hr=>(Zj (Zx (Zbw (zx (zW hr.units) (ZC ZD (Za 1) (Zl g.zc9)) (Zr (Zw ⟨g.k_End,g.zn9⟩) (Za 0))) (Zci (Zk5 (zx ZkZ (Zr (Zw ⟨g.k_End,g.zn16⟩) (Za 0)) (zc (Zb (ZG g.zc2) (Zb (ZG g.zc17) Zf))) (by with_unfolding_all rfl)) (Zci (zx (zW hr.units) (ZC ZD (Za 1) (Zl g.zc34)) (Zr (Zw ⟨g.k_End,g.zn17⟩) (Za 0)))))))))
theorem Zxy (D:Zm K mg "arrive" Zj7 ZoE) (g:Glb K mg) (zd31:Zo P w K mg base 5 "come_to_closed" ZaM) (zd32:Zo P w K mg base 5 "come_to_listen" zt) (zd40:Zo P w K mg base 7 "come_to_stream" Z9) (zd34:Zo P w K mg base 5 "come_to_syn_sent" ZU) (zd26:Zo P w K mg base 4 "get" Zic) (zd39:Zo P w K mg base 1 "is_for" Zew) (zd23:Zo P w K mg base 3 "is_right" Zag):Zo P w K mg base 8 "arrive" zG:=
  ZX D zc38 3 4 rfl rfl fun f cdv A outer s H E hr=>(Ze (ZK (Za6 (ZE (Zi zd23 hr (by decide) (Zb (Za 1) Zf)))) (Zj (Zx Zai)) ZB)
  (Ze (ZA 3 zc38.nd (Zi zd26 hr (by decide) (Zb (Za 1) Zf)))
  (Ze (ZK (Za6 (ZE (Zi zd39 hr (by decide) (Zb (Za 0) (Zb (Za 3) Zf))))) (Zj (Zx Zai)) ZB)
  (Ze (ZK (ZF (zW hr.units) (Zr (Zw ⟨g.k_End,g.zn16⟩) (Za 0)) (ZG g.zc2)) (Zj (ZV (Zi zd31 hr (by decide) (Zb (Za 0) (Zb (Za 3) Zf))))) (Zj (ZK (ZF (zW hr.units) (Zr (Zw ⟨g.k_End,g.zn16⟩) (Za 0)) (ZG g.zc17)) (Zj (ZV (Zi zd32 hr (by decide) (Zb (Za 0) (Zb (Za 3) Zf))))) (Zj (ZK (ZF (zW hr.units) (Zr (Zw ⟨g.k_End,g.zn16⟩) (Za 0)) (ZG g.zc37)) (Zj (ZV (Zi zd34 hr (by decide) (Zb (Za 0) (Zb (Za 3) (Zb (Za 2) Zf)))))) (Zj (ZV (Zi zd40 hr (by decide) (Zb (Za 0) (Zb (Za 3) (Zb (Za 2) Zf)))))))))))
  (Zj (Zx Zai))))))
theorem Zxg (D:Zm K mg "opened" ZjP Zom) (g:Glb K mg) (zd7:MMk P w K mg base 3 "End" Zch):Zo P w K mg base 5 "opened" Zev:=
  ZX D Zyk 4 4 rfl rfl fun f cdv A outer s H E hr=>(Zj (Zx (ZrW zd7 hr (by decide) (Zb (Za 0) (Zb (Za 1) (Zb (Za 2) (Zb (Za 3) Zf)))))))
theorem Zxf (D:Zm K mg "read" ZjO Zol) (g:Glb K mg) (zd10:Zo P w K mg base 2 "our_window" zM) (zd3:Zo P w K mg base 1 "take" Zcc):Zo P w K mg base 3 "read" ZdT:=
  ZX D zc57 2 4 rfl rfl fun f cdv A outer s H E hr=>(Ze (ZA 2 zc57.nd (zx (zW hr.units) (Zi zd10 hr (by decide) (Zb (Za 0) Zf)) Zh))
  (Ze (ZA 3 zc57.nd (Zi zd3 hr (by decide) (Zb (Zr (Zw ⟨g.k_End,g.zn1⟩) (Za 0)) (Zb (Za 1) Zf))))
  (Ze (ZK (MW.mt (ZcG (ZE (Za 2)) (ZcG (ZF Zgg (Zi zd10 hr (by decide) (Zb (Za 0) Zf)) Zh) (ZaH (ZF ZkZ (Zr (Zw ⟨g.k_End,g.zn16⟩) (Za 0)) (zc (Zb (ZG g.zc25) (Zb (ZG g.zc40) (Zb (ZG g.zc41) Zf)))) (by with_unfolding_all rfl)))))) (Zj (Zz (Zw ⟨g.k_End,g.zn11⟩) (Za 0) Zai)) ZB)
  (Zj (Zx (Za 3))))))
theorem Zw9 (D:Zm K mg "most_at_once" ZjI Zof) (g:Glb K mg) :Zo P w K mg base 1 "most_at_once" Zaf:=
  ZX D Zyi 1 1 rfl rfl fun f cdv A outer s H E hr=>(Zj (Zx (za Zlr g.b_min PyProof.Rows.boot_min (Zb (Zr (Zw ⟨g.k_End,g.zn7⟩) (Za 0)) (Zb (Zl g.zc10) Zf)))))
theorem Zw8 (D:Zm K mg "paid_syn" ZjH Zoe) (g:Glb K mg) :Zo P w K mg base 1 "paid_syn" ZbK:=
  ZX D Zyh 1 1 rfl rfl fun f cdv A outer s H E hr=>(Ze (Zz (Zw ⟨g.k_End,g.zn12⟩) (Za 0) Zai)
  (Ze (ZK (ZF (zW hr.units) (Zr (Zw ⟨g.k_End,g.zn16⟩) (Za 0)) (ZG g.zc37)) (Zj (Zx (zc (Zb (Zr (Zw ⟨g.k_End,g.zn9⟩) (Za 0)) (Zb (Zr (Zw ⟨g.k_End,g.zn17⟩) (Za 0)) (Zb (Zr (Zw ⟨g.k_End,g.zn5⟩) (Za 0)) (Zb Zh (Zb (Zl g.zc35) (Zb (Zl g.zc30) (Zb (Zl g.zc10) (Zb (zc Zf) Zf))))))))))) ZB)
  (Zj (Zx (zc (Zb (Zr (Zw ⟨g.k_End,g.zn9⟩) (Za 0)) (Zb (Zr (Zw ⟨g.k_End,g.zn17⟩) (Za 0)) (Zb (Zr (Zw ⟨g.k_End,g.zn5⟩) (Za 0)) (Zb (Zr (Zw ⟨g.k_End,g.zn14⟩) (Za 0)) (Zb (Zt ZM (Zl g.zc35) (Zl g.zc0)) (Zb (Zl g.zc30) (Zb (Zl g.zc10) (Zb (zc Zf) Zf)))))))))))))
theorem Zw7 (D:Zm K mg "segment_of" ZjG Zod) (g:Glb K mg) (zd10:Zo P w K mg base 2 "our_window" zM):Zo P w K mg base 3 "segment_of" zz:=
  ZX D Zyg 4 4 rfl rfl fun f cdv A outer s H E hr=>(Zj (Zx (zc (Zb (Zr (Zw ⟨g.k_End,g.zn9⟩) (Za 0)) (Zb (Zr (Zw ⟨g.k_End,g.zn17⟩) (Za 0)) (Zb (Za 1) (Zb (Zr (Zw ⟨g.k_End,g.zn14⟩) (Za 0)) (Zb (Zt ZM (Za 2) (Zl g.zc0)) (Zb (Zi zd10 hr (by decide) (Zb (Za 0) Zf)) (Zb Zh (Zb (Zbr Zg1 g.b_tuple PyProof.Rows.boot_tuple (Zb (Za 3) Zf)) Zf)))))))))))
theorem Zxa (D:Zm K mg "again" ZjJ Zog) (g:Glb K mg) (zd63:Zo P w K mg base 1 "most_at_once" Zaf) (zd5:Zo P w K mg base 1 "offset" zB) (zd64:Zo P w K mg base 1 "paid_syn" ZbK) (zd65:Zo P w K mg base 3 "segment_of" zz):Zo P w K mg base 4 "again" Zdm:=
  ZX D zc62 2 3 rfl rfl fun f cdv A outer s H E hr=>(Ze (ZK (ZF (zW hr.units) (Zr (Zw ⟨g.k_End,g.zn20⟩) (Za 0)) (Zl g.zc21)) (Ze (Zz (Zw ⟨g.k_End,g.zn16⟩) (Za 0) (ZG g.zc2))
    (Ze (Zz (Zw ⟨g.k_End,g.zn4⟩) (Za 0) (ZG g.zc38))
    (Zj (Zx ZaI)))) ZB)
  (Ze (Zz (Zw ⟨g.k_End,g.zn20⟩) (Za 0) (Zt ZM (Zr (Zw ⟨g.k_End,g.zn20⟩) (Za 0)) Zh))
  (Ze (Zz (Zw ⟨g.k_End,g.zn22⟩) (Za 0) (za Zlr g.b_min PyProof.Rows.boot_min (Zb (Zt ZcM Zh (Zr (Zw ⟨g.k_End,g.zn22⟩) (Za 0))) (Zb (Zl g.zc18) Zf))))
  (Ze (Zz (Zw ⟨g.k_End,g.zn15⟩) (Za 0) (Za 1))
  (Ze (ZK (ZF ZkZ (Zr (Zw ⟨g.k_End,g.zn16⟩) (Za 0)) (zc (Zb (ZG g.zc37) (Zb (ZG g.zc36) Zf))) (by with_unfolding_all rfl)) (Zj (Zx (Zi zd64 hr (by decide) (Zb (Za 0) Zf)))) ZB)
  (Ze (ZA 2 zc62.nd (ZaN (Zr (Zw ⟨g.k_Pile,g.zn25⟩) (Zr (Zw ⟨g.k_End,g.zn24⟩) (Za 0))) ZbG (zV (za Zlr g.b_min PyProof.Rows.boot_min (Zb (Zi zd5 hr (by decide) (Zb (Zr (Zw ⟨g.k_End,g.zn8⟩) (Za 0)) (Zb (Zr (Zw ⟨g.k_End,g.zn21⟩) (Za 0)) Zf))) (Zb (Zi zd63 hr (by decide) (Zb (Za 0) Zf)) Zf))))))
  (Zj (Zx (Zi zd65 hr (by decide) (Zb (Za 0) (Zb (Zr (Zw ⟨g.k_End,g.zn21⟩) (Za 0)) (Zb (Zcj (ZF Zgg (za Zei g.b_len PySem.boot_len (Zb (Za 2) Zf)) Zh) Zh (Zl g.zc6)) (Zb (Za 2) Zf)))))))))))))
theorem ZwW (D:Zm K mg "going_as_answer" Zjv Zn2) (g:Glb K mg) (zd65:Zo P w K mg base 3 "segment_of" zz):Zo P w K mg base 4 "going_as_answer" zU:=
  ZX D Zx8 1 1 rfl rfl fun f cdv A outer s H E hr=>(Ze (ZK (Za6 (ZE (Zr (Zw ⟨g.k_End,g.zn11⟩) (Za 0)))) (Zj (Zx ZaI)) ZB)
  (Ze (Zz (Zw ⟨g.k_End,g.zn11⟩) (Za 0) Zai)
  (Zj (Zx (Zi zd65 hr (by decide) (Zb (Za 0) (Zb (Zr (Zw ⟨g.k_End,g.zn8⟩) (Za 0)) (Zb Zh (Zb (zZ Zf) Zf)))))))))
theorem Zw2 (D:Zm K mg "unsent" ZjB Zn8) (g:Glb K mg) (zd5:Zo P w K mg base 1 "offset" zB):Zo P w K mg base 2 "unsent" ZbC:=
  ZX D Zyc 1 1 rfl rfl fun f cdv A outer s H E hr=>(Zj (Zx (Zi zd5 hr (by decide) (Zb (Zr (Zw ⟨g.k_End,g.zn0⟩) (Za 0)) (Zb (Zr (Zw ⟨g.k_End,g.zn8⟩) (Za 0)) Zf)))))
theorem Zw3 (D:Zm K mg "has_new_data" ZjC Zn9) (g:Glb K mg) (zd70:Zo P w K mg base 2 "unsent" ZbC):Zo P w K mg base 3 "has_new_data" Zah:=
  ZX D Zyd 1 1 rfl rfl fun f cdv A outer s H E hr=>(Zj (Zx (Zbw (zx ZkZ (Zr (Zw ⟨g.k_End,g.zn16⟩) (Za 0)) (zc (Zb (ZG g.zc25) (Zb (ZG g.zc40) (Zb (ZG g.zc3) (Zb (ZG g.zc4) (Zb (ZG g.zc14) Zf)))))) (by with_unfolding_all rfl)) (Zci (zx Zgg (Zi zd70 hr (by decide) (Zb (Za 0) Zf)) Zh)))))
theorem Zw1 (D:Zm K mg "has_new_fin" ZjA Zn7) (g:Glb K mg) (zd70:Zo P w K mg base 2 "unsent" ZbC):Zo P w K mg base 3 "has_new_fin" ZbD:=
  ZX D Zyb 1 1 rfl rfl fun f cdv A outer s H E hr=>(Zj (Zx (Zbw (zx ZkZ (Zr (Zw ⟨g.k_End,g.zn16⟩) (Za 0)) (zc (Zb (ZG g.zc40) (Zb (ZG g.zc4) (Zb (ZG g.zc14) Zf)))) (by with_unfolding_all rfl)) (Zci (zx (zW hr.units) (Zi zd70 hr (by decide) (Zb (Za 0) Zf)) Zh)))))
theorem Zw4 (D:Zm K mg "has_more" ZjD Zoa) (g:Glb K mg) (zd69:Zo P w K mg base 3 "has_new_data" Zah) (zd71:Zo P w K mg base 3 "has_new_fin" ZbD):Zo P w K mg base 4 "has_more" ZbM:=
  ZX D Zye 1 1 rfl rfl fun f cdv A outer s H E hr=>(Zj (Zx (Zk5 (Zi zd69 hr (by decide) (Zb (Za 0) Zf)) (Zci (Zi zd71 hr (by decide) (Zb (Za 0) Zf))))))
theorem ZwZ (D:Zm K mg "new_data" Zjy Zn5) (g:Glb K mg) (zd63:Zo P w K mg base 1 "most_at_once" Zaf) (zd5:Zo P w K mg base 1 "offset" zB) (zd4:Zo P w K mg base 1 "plus" zA) (zd65:Zo P w K mg base 3 "segment_of" zz) (zd70:Zo P w K mg base 2 "unsent" ZbC):Zo P w K mg base 4 "new_data" Zce:=
  ZX D zc73 2 5 rfl rfl fun f cdv A outer s H E hr=>(Ze (ZA 2 zc73.nd (Zr (Zw ⟨g.k_End,g.zn8⟩) (Za 0)))
  (Ze (ZA 3 zc73.nd (za Zlr g.b_min PyProof.Rows.boot_min (Zb (Zi zd63 hr (by decide) (Zb (Za 0) Zf)) (Zb (Zi zd70 hr (by decide) (Zb (Za 0) Zf)) (Zb (Za 1) Zf)))))
  (Ze (ZA 4 zc73.nd (Zi zd5 hr (by decide) (Zb (Za 2) (Zb (Zr (Zw ⟨g.k_End,g.zn21⟩) (Za 0)) Zf))))
  (Ze (Zz (Zw ⟨g.k_End,g.zn8⟩) (Za 0) (Zi zd4 hr (by decide) (Zb (Za 2) (Zb (Za 3) Zf))))
  (Zj (Zx (Zi zd65 hr (by decide) (Zb (Za 0) (Zb (Za 2) (Zb (Zcj (ZF (zW hr.units) (Zi zd70 hr (by decide) (Zb (Za 0) Zf)) Zh) (Zl g.zc26) Zh) (Zb (ZaN (Zr (Zw ⟨g.k_Pile,g.zn25⟩) (Zr (Zw ⟨g.k_End,g.zn24⟩) (Za 0))) (zV (Za 4)) (zV (Zt ZM (Za 4) (Za 3)))) Zf)))))))))))
theorem ZwY (D:Zm K mg "new_fin" Zjx Zn4) (g:Glb K mg) (zd4:Zo P w K mg base 1 "plus" zA) (zd65:Zo P w K mg base 3 "segment_of" zz):Zo P w K mg base 4 "new_fin" ZdG:=
  ZX D zc74 1 2 rfl rfl fun f cdv A outer s H E hr=>(Ze (ZA 1 zc74.nd (Zr (Zw ⟨g.k_End,g.zn8⟩) (Za 0)))
  (Ze (Zz (Zw ⟨g.k_End,g.zn8⟩) (Za 0) (Zi zd4 hr (by decide) (Zb (Za 1) (Zb Zh Zf))))
  (Zj (Zx (Zi zd65 hr (by decide) (Zb (Za 0) (Zb (Za 1) (Zb (Zl g.zc6) (Zb (zZ Zf) Zf)))))))))
theorem Zw0 (D:Zm K mg "new_piece" Zjz Zn6) (g:Glb K mg) (zd69:Zo P w K mg base 3 "has_new_data" Zah) (zd73:Zo P w K mg base 4 "new_data" Zce) (zd74:Zo P w K mg base 4 "new_fin" ZdG):Zo P w K mg base 5 "new_piece" ZaW:=
  ZX D Zya 2 2 rfl rfl fun f cdv A outer s H E hr=>(Ze (Zz (Zw ⟨g.k_End,g.zn13⟩) (Za 0) Zai)
  (Zj (Zx (Zcj (ZE (Zi zd69 hr (by decide) (Zb (Za 0) Zf))) (Zi zd73 hr (by decide) (Zb (Za 0) (Zb (Za 1) Zf))) (Zi zd74 hr (by decide) (Zb (Za 0) Zf))))))
theorem Zw5 (D:Zm K mg "new_syn" ZjE Zob) (g:Glb K mg) (zd64:Zo P w K mg base 1 "paid_syn" ZbK) (zd4:Zo P w K mg base 1 "plus" zA) (zd8:Zo P w K mg base 1 "start_timer" Z7):Zo P w K mg base 2 "new_syn" ZcV:=
  ZX D Zyf 2 2 rfl rfl fun f cdv A outer s H E hr=>(Ze (ZK (ZF (zW hr.units) (Zr (Zw ⟨g.k_End,g.zn8⟩) (Za 0)) (Zr (Zw ⟨g.k_End,g.zn21⟩) (Za 0))) (Zj (ZV (Zi zd8 hr (by decide) (Zb (Za 0) (Zb (Za 1) Zf))))) ZB)
  (Ze (Zz (Zw ⟨g.k_End,g.zn8⟩) (Za 0) (Zi zd4 hr (by decide) (Zb (Zr (Zw ⟨g.k_End,g.zn5⟩) (Za 0)) (Zb Zh Zf))))
  (Zj (Zx (Zi zd64 hr (by decide) (Zb (Za 0) Zf))))))
theorem Zw6 (D:Zm K mg "going_as_new" ZjF Zoc) (g:Glb K mg) (zd68:Zo P w K mg base 4 "has_more" ZbM) (zd72:Zo P w K mg base 5 "new_piece" ZaW) (zd67:Zo P w K mg base 2 "new_syn" ZcV) (zd5:Zo P w K mg base 1 "offset" zB) (zd8:Zo P w K mg base 1 "start_timer" Z7):Zo P w K mg base 6 "going_as_new" Z6:=
  ZX D zc66 2 3 rfl rfl fun f cdv A outer s H E hr=>(Ze (ZK (ZF ZkZ (Zr (Zw ⟨g.k_End,g.zn16⟩) (Za 0)) (zc (Zb (ZG g.zc37) (Zb (ZG g.zc36) Zf))) (by with_unfolding_all rfl)) (Zj (Zx (Zcj (MW.mt (ZcN (ZF (zW hr.units) (Zr (Zw ⟨g.k_End,g.zn8⟩) (Za 0)) (Zr (Zw ⟨g.k_End,g.zn5⟩) (Za 0))) (Zad (ZE (Zr (Zw ⟨g.k_End,g.zn12⟩) (Za 0)))))) (Zi zd67 hr (by decide) (Zb (Za 0) (Zb (Za 1) Zf))) ZaI))) ZB)
  (Ze (ZA 2 zc66.nd (Zt Zcw (Zr (Zw ⟨g.k_End,g.zn23⟩) (Za 0)) (Zi zd5 hr (by decide) (Zb (Zr (Zw ⟨g.k_End,g.zn8⟩) (Za 0)) (Zb (Zr (Zw ⟨g.k_End,g.zn21⟩) (Za 0)) Zf)))))
  (Ze (ZK (MW.mt (ZcN (ZF Zey (Za 2) Zh) (Zad (Za6 (ZE (Zi zd68 hr (by decide) (Zb (Za 0) Zf))))))) (Zj (Zx ZaI)) ZB)
  (Ze (ZK (ZF (zW hr.units) (Zr (Zw ⟨g.k_End,g.zn8⟩) (Za 0)) (Zr (Zw ⟨g.k_End,g.zn21⟩) (Za 0))) (Zj (ZV (Zi zd8 hr (by decide) (Zb (Za 0) (Zb (Za 1) Zf))))) ZB)
  (Ze (Zz (Zw ⟨g.k_End,g.zn11⟩) (Za 0) Zai)
  (Zj (Zx (Zi zd72 hr (by decide) (Zb (Za 0) (Zb (Za 2) Zf))))))))))
theorem Zxb (D:Zm K mg "is_due" ZjK Zoh) (g:Glb K mg) :Zo P w K mg base 1 "is_due" Zc4:=
  ZX D Zyj 2 2 rfl rfl fun f cdv A outer s H E hr=>(Zj (Zx (zx ZpW (Zt Zcw (Za 1) (Zr (Zw ⟨g.k_End,g.zn15⟩) (Za 0))) (Zr (Zw ⟨g.k_End,g.zn22⟩) (Za 0)))))
theorem ZwX (D:Zm K mg "going_as_probe" Zjw Zn3) (g:Glb K mg) (zd68:Zo P w K mg base 4 "has_more" ZbM) (zd61:Zo P w K mg base 1 "is_due" Zc4) (zd72:Zo P w K mg base 5 "new_piece" ZaW) (zd8:Zo P w K mg base 1 "start_timer" Z7):Zo P w K mg base 6 "going_as_probe" Z8:=
  ZX D Zx9 2 2 rfl rfl fun f cdv A outer s H E hr=>(Ze (ZK (MW.mt (ZcN (ZF (Zfb hr.units) (Zr (Zw ⟨g.k_End,g.zn8⟩) (Za 0)) (Zr (Zw ⟨g.k_End,g.zn21⟩) (Za 0))) (ZcN (ZF (Zfb hr.units) (Zr (Zw ⟨g.k_End,g.zn23⟩) (Za 0)) Zh) (Zad (Za6 (ZE (Zi zd68 hr (by decide) (Zb (Za 0) Zf)))))))) (Ze (Zz (Zw ⟨g.k_End,g.zn13⟩) (Za 0) Zai)
    (Zj (Zx ZaI))) ZB)
  (Ze (ZK (Za6 (ZE (Zr (Zw ⟨g.k_End,g.zn13⟩) (Za 0)))) (Ze (Zz (Zw ⟨g.k_End,g.zn13⟩) (Za 0) Zai)
    (Zj (ZV (Zi zd8 hr (by decide) (Zb (Za 0) (Zb (Za 1) Zf)))))) ZB)
  (Ze (ZK (Za6 (ZE (Zi zd61 hr (by decide) (Zb (Za 0) (Zb (Za 1) Zf))))) (Zj (Zx ZaI)) ZB)
  (Ze (Zz (Zw ⟨g.k_End,g.zn15⟩) (Za 0) (Za 1))
  (Zj (Zx (Zi zd72 hr (by decide) (Zb (Za 0) (Zb Zh Zf)))))))))
theorem Zxc (D:Zm K mg "paid_reset" ZjL Zoi) (g:Glb K mg) :Zo P w K mg base 1 "paid_reset" ZcR:=
  ZX D zc60 1 2 rfl rfl fun f cdv A outer s H E hr=>(Ze (ZA 1 zc60.nd (Zr (Zw ⟨g.k_End,g.zn10⟩) (Za 0)))
  (Ze (Zz (Zw ⟨g.k_End,g.zn10⟩) (Za 0) ZaI)
  (Zj (Zx (Za 1)))))
theorem Zxd (D:Zm K mg "going" ZjM Zoj) (g:Glb K mg) (zd62:Zo P w K mg base 4 "again" Zdm) (zd76:Zo P w K mg base 4 "going_as_answer" zU) (zd66:Zo P w K mg base 6 "going_as_new" Z6) (zd75:Zo P w K mg base 6 "going_as_probe" Z8) (zd61:Zo P w K mg base 1 "is_due" Zc4) (zd60:Zo P w K mg base 1 "paid_reset" ZcR):Zo P w K mg base 7 "going" ZdU:=
  ZX D zc59 2 3 rfl rfl fun f cdv A outer s H E hr=>(Ze (ZK (ZF Zmz (Zr (Zw ⟨g.k_End,g.zn10⟩) (Za 0)) ZaI) (Zj (Zx (Zi zd60 hr (by decide) (Zb (Za 0) Zf)))) ZB)
  (Ze (ZK (MW.mt (ZcG (ZF (zW hr.units) (Zr (Zw ⟨g.k_End,g.zn16⟩) (Za 0)) (ZG g.zc39)) (ZaH (ZF ZpW (Zt Zcw (Za 1) (Zr (Zw ⟨g.k_End,g.zn15⟩) (Za 0))) (Zl g.zc15))))) (Zj (Zz (Zw ⟨g.k_End,g.zn16⟩) (Za 0) (ZG g.zc2))) ZB)
  (Ze (ZK (ZF ZkZ (Zr (Zw ⟨g.k_End,g.zn16⟩) (Za 0)) (zc (Zb (ZG g.zc2) (Zb (ZG g.zc17) Zf))) (by with_unfolding_all rfl)) (Zj (Zx ZaI)) ZB)
  (Ze (ZK (MW.mt (ZcG (ZF (Zfb hr.units) (Zr (Zw ⟨g.k_End,g.zn8⟩) (Za 0)) (Zr (Zw ⟨g.k_End,g.zn21⟩) (Za 0))) (ZaH (ZE (Zi zd61 hr (by decide) (Zb (Za 0) (Zb (Za 1) Zf))))))) (Zj (Zx (Zi zd62 hr (by decide) (Zb (Za 0) (Zb (Za 1) Zf))))) ZB)
  (Ze (ZA 2 zc59.nd (Zi zd66 hr (by decide) (Zb (Za 0) (Zb (Za 1) Zf))))
  (Ze (ZK (ZF ZrQ (Za 2) ZaI) (Zj (ZA 2 zc59.nd (Zi zd75 hr (by decide) (Zb (Za 0) (Zb (Za 1) Zf))))) ZB)
  (Ze (ZK (ZF ZrQ (Za 2) ZaI) (Zj (ZA 2 zc59.nd (Zi zd76 hr (by decide) (Zb (Za 0) Zf)))) ZB)
  (Zj (Zx (Za 2))))))))))
theorem Zxe (D:Zm K mg "send" ZjN Zok) (g:Glb K mg) (zd59:Zo P w K mg base 7 "going" ZdU) (zd17:Zo P w K mg base 4 "put" ZkS):Zo P w K mg base 8 "send" ZcF:=
  ZX D zc58 2 3 rfl rfl fun f cdv A outer s H E hr=>(Ze (ZA 2 zc58.nd (Zi zd59 hr (by decide) (Zb (Za 0) (Zb (Za 1) Zf))))
  (Zj (Zx (Zcj (ZF ZrQ (Za 2) ZaI) (zZ Zf) (Zi zd17 hr (by decide) (Zb (Za 2) Zf))))))
theorem ZwV (D:Zm K mg "_law_cell" Zju Zn1) (g:Glb K mg) :Zo P w K mg base 1 "_law_cell" Zgm:=
  ZX D Zx7 2 2 rfl rfl fun f cdv A outer s H E hr=>(Ze (ZK (ZE (Za 0)) (Zj (Zx (ZC ZD (Za 0) (Zt Zan (Za 1) (za Zei g.b_len PySem.boot_len (Zb (Za 0) Zf)))))) ZB)
  (Zj (Zx Zh)))
theorem ZwU (D:Zm K mg "_law_mix" Zjt Zn0) (g:Glb K mg) (zd77:Zo P w K mg base 1 "_law_cell" Zgm):Zo P w K mg base 2 "_law_mix" Zao:=
  ZX D zc78 2 3 rfl rfl fun f cdv A outer s H E hr=>(Ze (ZA 2 zc78.nd (Zt Zan (Zt ZM (Zi zd77 hr (by decide) (Zb (Za 0) (Zb (Za 1) Zf))) (Zt ZcM Zh (Zt ZM (Za 1) Zh))) Zh))
  (Ze (ZA 2 zc78.nd (Zt Zan (Zt ZcM (Za 2) Zh) Zh))
  (Zj (Zx (Zt Zan (Zt ZM (Zt ZcM (Zt ZdH (Za 2) Zh) Zh) (Za 2)) Zh)))))
theorem ZwT (D:Zm K mg "_law_two" Zjs ZnZ) (g:Glb K mg) :Zo P w K mg base 1 "_law_two" Zeg:=
  ZX D Zx6 1 1 rfl rfl fun f cdv A outer s H E hr=>(Zj (Zx (zZ (Zb (Zt ZdH (Za 0) Zh) (Zb (Zt Zan (Za 0) Zh) Zf)))))
theorem ZwS (D:Zm K mg "_law_folded" Zjr ZnY) (g:Glb K mg) :Zo P w K mg base 1 "_law_folded" Zcz:=
  ZX D zc80 1 3 rfl rfl fun f cdv A outer s H E hr=>(Ze (ZA 1 zc80.nd Zh)
  (Ze (ZiX PassesOwn.never (ZcX g.b_range (Zb (za Zei g.b_len PySem.boot_len (Zb (Za 0) Zf)) Zf)) (ZgY 2 zc80.nd) (Zj (ZA 1 zc80.nd (Zt ZM (Za 1) (Zt ZcM (ZC ZD (Za 0) (Za 2)) (ZC ZD (zZ (Zb Zh (Zb Zh Zf))) (Zt Zan (Za 2) Zh)))))))
  (Ze (Zez 200 PassesOwn.never (ZF Zgg (Za 1) Zh) (Zj (ZA 1 zc80.nd (Zt ZM (Zt Zan (Za 1) Zh) (Zt ZdH (Za 1) Zh)))))
  (Zj (Zx (Za 1))))))
theorem ZwR (D:Zm K mg "_law_bytes" Zjq ZnX) (g:Glb K mg) (zd80:Zo P w K mg base 1 "_law_folded" Zcz) (zd79:Zo P w K mg base 1 "_law_two" Zeg):Zo P w K mg base 2 "_law_bytes" Zba:=
  ZX D zc81 1 3 rfl rfl fun f cdv A outer s H E hr=>(Ze (ZA 1 zc81.nd (Zt ZM (Zi zd79 hr (by decide) (Zb (ZC ZD (Za 0) Zh) Zf)) (Zi zd79 hr (by decide) (Zb (ZC ZD (Za 0) Zh) Zf))))
  (Ze (ZiX PassesOwn.never (Zp5 (ZaN (Za 0) (zV Zh) (zV Zh))) (ZgY 2 zc81.nd) (Zj (ZA 1 zc81.nd (Zt ZM (Zt ZM (Za 1) (Zi zd79 hr (by decide) (Zb (Zt ZdH (Za 2) Zh) Zf))) (Zi zd79 hr (by decide) (Zb (Zt Zan (Za 2) Zh) Zf))))))
  (Ze (ZA 1 zc81.nd (Zt ZM (Zt ZM (Zt ZM (Za 1) (zZ (Zb (ZC ZD (zZ (Zb Zh (Zb Zh Zf))) (Zbr ZqO g.b_int PyProof.Rows.boot_int (Zb (zx Zgg (ZC ZD (Za 0) Zh) Zh) Zf))) (Zb (ZC ZD (Za 0) Zh) Zf)))) (Zi zd79 hr (by decide) (Zb (ZC ZD (Za 0) Zh) Zf))) (zZ (Zb Zh (Zb Zh (Zb Zh (Zb Zh Zf)))))))
  (Ze (ZK (ZF Zgg (ZC ZD (Za 0) Zh) Zh) (Zj (ZA 1 zc81.nd (Zt ZM (Zt ZM (Za 1) (zZ (Zb Zh (Zb Zh Zf)))) (Zi zd79 hr (by decide) (Zb (ZC ZD (Za 0) Zh) Zf))))) ZB)
  (Ze (ZA 1 zc81.nd (Zt ZM (Za 1) (Zbr ZqN g.b_list PyProof.Rows.boot_list (Zb (ZC ZD (Za 0) Zh) Zf))))
  (Zj (Zx (Zt ZM (Zt ZM (ZaN (Za 1) ZbG (zV Zh)) (Zi zd79 hr (by decide) (Zb (Zt Zcw Zh (Zi zd80 hr (by decide) (Zb (Za 1) Zf))) Zf))) (ZaN (Za 1) (zV Zh) ZbG)))))))))
theorem ZwP (D:Zm K mg "_law_byte" Zjp ZnV) (g:Glb K mg) :Zo P w K mg base 1 "_law_byte" Zgn:=
  ZX D Zx5 1 1 rfl rfl fun f cdv A outer s H E hr=>(Zj (Zx (Zbw (za Zl4 g.b_isinstance PyProof.Rows.boot_isinstance (Zb (Za 0) (Zb (Zp7 g.b_int PyProof.Rows.boot_int) Zf))) (Zbw (Zp9 (za Zl4 g.b_isinstance PyProof.Rows.boot_isinstance (Zb (Za 0) (Zb (Zp7 g.b_bool PyProof.Rows.boot_bool) Zf)))) (Zci (Zc7 Zey Zey Zh (Za 0) Zh))))))
theorem ZwQ (D:Zm K mg "_law_read" ZhP ZnW) (g:Glb K mg) (zd83:Zo P w K mg base 1 "_law_byte" Zgn) (zd80:Zo P w K mg base 1 "_law_folded" Zcz):Zo P w K mg base 2 "_law_read" Zgk:=
  ZX D zc82 1 5 rfl rfl fun f cdv A outer s H E hr=>(Ze (ZK (MW.mt (ZcN (Za6 (ZE (za Zl4 g.b_isinstance PyProof.Rows.boot_isinstance (Zb (Za 0) (Zb (Zp7 g.b_list PyProof.Rows.boot_list) Zf))))) (Zad (ZF ZkY (za Zei g.b_len PySem.boot_len (Zb (Za 0) Zf)) Zh)))) (Zj (Zx ZaI)) ZB)
  (Ze (ZK (Za6 (ZE (za Zwb g.b_all PyProof.Rows.boot_all (Zb (ZsM (show Za5 _ (Zg ZhP) "_law_byte_here" ["_law_row","_law_head","_law_most","_law_words","_law_found"] ["_law_byte_here"] [] from ⟨rfl,by decide +kernel,by decide +kernel,by decide +kernel,by decide +kernel,by decide +kernel,rfl,by decide,by decide +kernel⟩) rfl rfl (Zp5 (Za 0)) (fun _ _ _ _ _=>(Zi zd83 hr (by decide) (Zb (Za 0) Zf)))) Zf)))) (Zj (Zx ZaI)) ZB)
  (Ze (ZA 1 zc82.nd (Zt ZdH (ZC ZD (Za 0) Zh) Zh))
  (Ze (ZK (MW.mt (ZcN (ZF Zmy (ZC ZD (Za 0) Zh) (zc (Zb Zh (Zb Zh Zf))) (by with_unfolding_all rfl)) (ZcN (ZF Zgg (ZC ZD (Za 0) Zh) Zh) (Zad (ZF Zgg (Zt ZM (ZC ZD (Za 0) Zh) (ZC ZD (Za 0) Zh)) Zh))))) (Zj (Zx ZaI)) ZB)
  (Ze (ZK (MW.mt (ZcN (Za6 (Zhi Zey Zey (Za 1) (za Zei g.b_len PySem.boot_len (Zb (Za 0) Zf)) (Zt ZM (Za 1) Zh))) (Zad (ZF (Zfb hr.units) (Zi zd80 hr (by decide) (Zb (Za 0) Zf)) Zh)))) (Zj (Zx ZaI)) ZB)
  (Ze (ZA 2 zc82.nd Zh)
  (Ze (ZK (ZF (zW hr.units) (Za 1) Zh) (Ze (ZA 2 zc82.nd (Zt ZM (Zt ZcM (ZC ZD (Za 0) Zh) Zh) (ZC ZD (Za 0) Zh)))
    (Zj (ZK (MW.mt (ZcN (ZF (zW hr.units) (Zt Zan (Zt ZdH (ZC ZD (Za 0) Zh) Zh) Zh) Zh) (ZcN (ZF (Zfb hr.units) (ZaN (Za 0) (zV Zh) (zV Zh)) (zZ (Zb Zh (Zb Zh Zf)))) (Zad (ZF ZkY (Za 2) Zh))))) (Zj (Zx ZaI)) ZB))) ZB)
  (Ze (Zk2 3 zc82.nd (show Za5 _ (Zg ZhP) "_law_k" ["_law_row","_law_head","_law_most","_law_words","_law_found"] ["_law_k","_law_row"] [0] from ⟨rfl,by decide +kernel,by decide +kernel,by decide +kernel,by decide +kernel,by decide +kernel,rfl,by decide,by decide +kernel⟩) rfl rfl (ZcX g.b_range (Zb Zh Zf)) (fun _ _ _ _ _=>(Zt ZM (Zt ZcM Zh (ZC ZD (Za 1) (Zt ZcM Zh (Za 0)))) (ZC ZD (Za 1) (Zt ZM (Zt ZcM Zh (Za 0)) Zh)))))
  (Ze (ZA 4 zc82.nd (zc (Zb (ZC ZD (Za 3) Zh) (Zb (ZC ZD (Za 3) Zh) (Zb (Zt ZM (Zt ZcM (ZC ZD (Za 3) Zh) Zh) (ZC ZD (Za 3) Zh)) (Zb (Zt ZM (Zt ZcM (ZC ZD (Za 3) Zh) Zh) (ZC ZD (Za 3) Zh)) Zf))))))
  (Zj (Zx (Zt ZM (Za 4) (zc (Zb (ZC ZD (Za 0) Zh) (Zb (ZC ZD (Za 3) Zh) (Zb (Za 2) (Zb (Zbr Zg1 g.b_tuple PyProof.Rows.boot_tuple (Zb (ZaN (Za 0) (zV (Za 1)) ZbG) Zf)) Zf)))))))))))))))))
theorem ZwO (D:Zm K mg "_law_plus" Zjo ZnU) (g:Glb K mg) :Zo P w K mg base 1 "_law_plus" Zbx:=
  ZX D Zx4 2 2 rfl rfl fun f cdv A outer s H E hr=>(Zj (Zx (Zt Zan (Zt ZM (Za 0) (Za 1)) Zh)))
theorem ZwN (D:Zm K mg "_law_first" Zjn ZnT) (g:Glb K mg) :Zo P w K mg base 1 "_law_first" Ze0:=
  ZX D Zx3 1 1 rfl rfl fun f cdv A outer s H E hr=>(Ze (ZK (ZF (zW hr.units) (Zt Zan (Za 0) Zh) Zh) (Zj (Zx (Zt Zan (Zt Zcw Zh (Zt Zan (Zt ZdH (Za 0) Zh) Zh)) Zh))) ZB)
  (Zj (Zx (Za 0))))
theorem ZwM (D:Zm K mg "_law_segment" Zjm ZnS) (g:Glb K mg) :Zo P w K mg base 1 "_law_segment" ZaP:=
  ZX D Zx2 6 6 rfl rfl fun f cdv A outer s H E hr=>(Zj (Zx (zc (Zb (ZC ZD (Za 0) Zh) (Zb (ZC ZD (Za 0) Zh) (Zb (Za 1) (Zb (Za 2) (Zb (Za 3) (Zb (Za 4) (Zb Zh (Zb (Zbr Zg1 g.b_tuple PyProof.Rows.boot_tuple (Zb (Za 5) Zf)) Zf)))))))))))
theorem ZwL (D:Zm K mg "_law_given" Zjl ZnR) (g:Glb K mg) (zd82:Zo P w K mg base 2 "_law_read" Zgk) (zd58:Zo P w K mg base 8 "send" ZcF):Zo P w K mg base 9 "_law_given" Zd1:=
  ZX D zc87 2 5 rfl rfl fun f cdv A outer s H E hr=>(Ze (Zij 2 zc87.nd Zf)
  (Ze (ZiX PassesOwn.never (ZcX g.b_range (Zb Zh Zf)) (ZgY 3 zc87.nd) (Ze (ZA 4 zc87.nd (Zi zd58 hr (by decide) (Zb (Za 0) (Zb (Za 1) Zf))))
    (Ze (ZK (ZF (zW hr.units) (Za 4) (zZ Zf)) (Zj (Zgi 2 (Zx (Za 2)))) ZB)
    (Zj (Zik 2 (Zi zd82 hr (by decide) (Zb (Za 4) Zf)) (hpe:=fun h=>ZsH PySem.F.plainAttrs_list PySem.F.slot_list_append PySem.F.type_list_append Zii h (ZiT (Zi zd82 hr (by decide) (Zb (Za 4) Zf)) ZlL)))))))
  (Zj (Zgi 2 (Zx (Za 2))))))
theorem ZwK (D:Zm K mg "_law_opened" Zjk ZnQ) (g:Glb K mg) (zd81:Zo P w K mg base 2 "_law_bytes" Zba) (zd85:Zo P w K mg base 1 "_law_first" Ze0) (zd78:Zo P w K mg base 2 "_law_mix" Zao) (zd84:Zo P w K mg base 1 "_law_plus" Zbx) (zd38:Zo P w K mg base 8 "arrive" zG) (zd56:Zo P w K mg base 5 "opened" Zev) (zd58:Zo P w K mg base 8 "send" ZcF):Zo P w K mg base 9 "_law_opened" Zc8:=
  ZX D zc88 4 8 rfl rfl fun f cdv A outer s H E hr=>(Ze (ZA 4 zc88.nd (zc (Zb (Zt Zan (Zi zd78 hr (by decide) (Zb (Za 0) (Zb (Za 1) Zf))) Zh) (Zb (Zt Zan (Zi zd78 hr (by decide) (Zb (Za 0) (Zb (Zt ZM (Za 1) Zh) Zf))) Zh) Zf))))
  (Ze (ZA 5 zc88.nd (Zi zd85 hr (by decide) (Zb (Zi zd78 hr (by decide) (Zb (Za 0) (Zb (Zt ZM (Za 1) Zh) Zf))) Zf)))
  (Ze (ZA 6 zc88.nd (Zi zd85 hr (by decide) (Zb (Zi zd78 hr (by decide) (Zb (Za 0) (Zb (Zt ZM (Za 1) Zh) Zf))) Zf)))
  (Ze (ZA 7 zc88.nd (Zi zd56 hr (by decide) (Zb (ZC ZD (Za 4) Zh) (Zb Zh (Zb (Za 5) (Zb Zai Zf))))))
  (Ze (ZV (Zi zd38 hr (by decide) (Zb (Za 7) (Zb (Zi zd81 hr (by decide) (Zb (zc (Zb (ZC ZD (Za 4) Zh) (Zb (ZC ZD (Za 4) Zh) (Zb (Za 6) (Zb Zh (Zb Zh (Zb (Za 2) (Zb (Za 3) (Zb (zc Zf) Zf))))))))) Zf)) (Zb Zh Zf)))))
  (Ze (ZV (Zi zd58 hr (by decide) (Zb (Za 7) (Zb Zh Zf))))
  (Ze (ZV (Zi zd38 hr (by decide) (Zb (Za 7) (Zb (Zi zd81 hr (by decide) (Zb (zc (Zb (ZC ZD (Za 4) Zh) (Zb (ZC ZD (Za 4) Zh) (Zb (Zi zd84 hr (by decide) (Zb (Za 6) (Zb Zh Zf))) (Zb (Zi zd84 hr (by decide) (Zb (Za 5) (Zb Zh Zf))) (Zb Zh (Zb (Za 2) (Zb Zh (Zb (zc Zf) Zf))))))))) Zf)) (Zb Zh Zf)))))
  (Zj (Zx (zc (Zb (Za 7) (Zb (Za 4) (Zb (Zi zd84 hr (by decide) (Zb (Za 5) (Zb Zh Zf))) (Zb (Zi zd84 hr (by decide) (Zb (Za 6) (Zb Zh Zf))) Zf))))))))))))))
theorem ZwJ (D:Zm K mg "_law_fill" Zjj ZnP) (g:Glb K mg) (zd81:Zo P w K mg base 2 "_law_bytes" Zba) (zd87:Zo P w K mg base 9 "_law_given" Zd1) (zd84:Zo P w K mg base 1 "_law_plus" Zbx) (zd86:Zo P w K mg base 1 "_law_segment" ZaP) (zd38:Zo P w K mg base 8 "arrive" zG):Zo P w K mg base 10 "_law_fill" l_fill:=
  ZX D zc89 3 6 rfl rfl fun f cdv A outer s H E hr=>(Ze (ZA 3 zc89.nd Zh)
  (Ze (Zez 200 PassesOwn.never (ZF ZkY (Za 3) (Za 2)) (Ze (ZA 4 zc89.nd (za Zlr g.b_min PyProof.Rows.boot_min (Zb Zh (Zb (Zt Zcw (Za 2) (Za 3)) Zf))))
    (Ze (ZA 5 zc89.nd (Zi zd86 hr (by decide) (Zb (ZC ZD (Za 0) Zh) (Zb (Zi zd84 hr (by decide) (Zb (ZC ZD (Za 0) Zh) (Zb (Za 3) Zf))) (Zb (ZC ZD (Za 0) Zh) (Zb Zh (Zb Zh (Zb (ZaN (Za 1) (zV (Za 3)) (zV (Zt ZM (Za 3) (Za 4)))) Zf))))))))
    (Ze (ZV (Zi zd38 hr (by decide) (Zb (ZC ZD (Za 0) Zh) (Zb (Zi zd81 hr (by decide) (Zb (Za 5) Zf)) (Zb Zh Zf)))))
    (Zj (ZA 3 zc89.nd (Zt ZM (Za 3) (Za 4))))))))
  (Zj (ZV (Zi zd87 hr (by decide) (Zb (ZC ZD (Za 0) Zh) (Zb Zh Zf)))))))
theorem ZwI (D:Zm K mg "_law_fits" Zji ZnO) (g:Glb K mg) :Zo P w K mg base 1 "_law_fits" Zck:=
  ZX D Zx1 3 3 rfl rfl fun f cdv A outer s H E hr=>(Ze (ZK (ZF (zW hr.units) (Za 2) Zh) (Zj (Zx (Zc7 Zey Zey Zh (Za 1) Zh))) ZB)
  (Zj (Zx (Zbw (zx Zgg (Za 0) Zh) (Zci (Zk5 (Zc7 Zey ZkY Zh (Za 1) (Za 0)) (Zci (Zc7 Zey ZkY Zh (Zt Zcw (Zt ZM (Za 1) (Za 2)) Zh) (Za 0)))))))))
theorem ZwH (D:Zm K mg "_law_come" Zjh ZnN) (g:Glb K mg) (zd90:Zo P w K mg base 1 "_law_fits" Zck):Zo P w K mg base 2 "_law_come" Zgl:=
  ZX D zc91 4 9 rfl rfl fun f cdv A outer s H E hr=>(Ze (ZA 4 zc91.nd (Zt Zcw Zh (Za 0)))
  (Ze (ZA 5 zc91.nd Zk7)
  (Ze (ZA 6 zc91.nd ZaI)
  (Ze (ZK (ZE (Zi zd90 hr (by decide) (Zb (Za 4) (Zb (Za 1) (Zb (Zt ZM (Za 2) (Za 3)) Zf))))) (Ze (ZiX PassesOwn.never (ZcX g.b_range (Zb (Za 2) Zf)) (ZgY 7 zc91.nd) (Zj (ZK (Zhi Zey ZkY Zh (Zt ZM (Za 1) (Za 7)) (Za 4)) (Zj (ZrV hr (Za 5) (Zt ZM (Za 1) (Za 7)) Zai)) ZB)))
    (Zj (ZK (MW.mt (ZcG (ZF (zW hr.units) (Za 3) Zh) (ZaH (Zhi Zey ZkY Zh (Zt ZM (Za 1) (Za 2)) (Za 4))))) (Zj (ZA 6 zc91.nd (Zt ZM (Za 1) (Za 2)))) ZB))) ZB)
  (Ze (ZA 8 zc91.nd Zh)
  (Ze (Zez 200 PassesOwn.never (MW.mt (ZcG (Zp2 hr (Za 8) (Za 5)) (ZaH (ZF (Zfb hr.units) (Za 8) (Za 6))))) (Zj (ZA 8 zc91.nd (Zt ZM (Za 8) Zh))))
  (Zj (Zx (zc (Zb (Zt ZM (Za 0) (Za 8)) (Zb (zx (zW hr.units) (Za 8) (Za 6)) Zf)))))))))))
theorem ZwG {fl:Addr} {fdl:FuncData} (F:Fun K "law" "law" Zf7 fl fdl) (g:Glb K mg) (zd81:Zo P w K mg base 2 "_law_bytes" Zba) (zd91:Zo P w K mg base 2 "_law_come" Zgl) (zd89:Zo P w K mg base 10 "_law_fill" l_fill) (zd90:Zo P w K mg base 1 "_law_fits" Zck) (zd87:Zo P w K mg base 9 "_law_given" Zd1) (zd78:Zo P w K mg base 2 "_law_mix" Zao) (zd88:Zo P w K mg base 9 "_law_opened" Zc8) (zd84:Zo P w K mg base 1 "_law_plus" Zbx) (zd86:Zo P w K mg base 1 "_law_segment" ZaP) (zd38:Zo P w K mg base 8 "arrive" zG) (zd57:Zo P w K mg base 3 "read" ZdT) (zd9:Zo P w K mg base 1 "state" ZfI):FnOk P w K mg base CX0 11 fl fdl ZnM (spM ⟨z6 mg,K⟩ Zk9):=
  mfn F zc92 1 21 rfl rfl fun cdv A outer s H E hr=>(Ze (ZA 1 zc92.nd (Zi zd88 hr (by decide) (Zb (Za 0) (Zb Zh (Zb Zh (Zb Zh Zf))))))
  (Ze (ZA 2 zc92.nd (ZC ZD (Za 1) Zh))
  (Ze (ZA 3 zc92.nd (ZC ZD (Za 1) Zh))
  (Ze (ZA 4 zc92.nd (ZC ZD (Za 1) Zh))
  (Ze (ZA 5 zc92.nd (ZC ZD (Za 1) Zh))
  (Ze (ZA 6 zc92.nd (ZC ZD (zZ (Zb Zh (Zb Zh (Zb Zh (Zb Zh (Zb Zh (Zb (Zt Zan (Zi zd78 hr (by decide) (Zb (Za 0) (Zb Zh Zf))) Zh) Zf))))))) (Zt Zan (Zi zd78 hr (by decide) (Zb (Za 0) (Zb Zh Zf))) Zh)))
  (Ze (ZA 7 zc92.nd (zx (zW hr.units) (Zt Zan (Zi zd78 hr (by decide) (Zb (Za 0) (Zb Zh Zf))) Zh) Zh))
  (Ze (ZK (ZE (Za 7)) (Zj (ZA 6 zc92.nd (Zt ZM Zh (Zt Zan (Zi zd78 hr (by decide) (Zb (Za 0) (Zb Zh Zf))) Zh)))) ZB)
  (Ze (ZA 8 zc92.nd (ZsM (show Za5 _ (Zg Zf7) "_law_k" ["_law_script","_law_made_here","_law_end","_law_talk","_law_nxt","_law_rcv","_law_full","_law_brims","_law_stream","_law_space","_law_far","_law_size","_law_flag","_law_begin","_law_data","_law_segment_here","_law_came","_law_many","_law_over","_law_answer","_law_due"] ["_law_k","_law_script"] [0] from ⟨rfl,by decide +kernel,by decide +kernel,by decide +kernel,by decide +kernel,by decide +kernel,rfl,by decide,by decide +kernel⟩) rfl rfl (ZcX g.b_range (Zb Zh Zf)) (fun _ _ _ _ _=>(Zt Zan (Zi zd78 hr (by decide) (Zb (Za 1) (Zb (Za 0) Zf))) Zh))))
  (Ze (ZV (Zi zd89 hr (by decide) (Zb (Za 1) (Zb (Za 8) (Zb (Za 6) Zf)))))
  (Ze (ZA 9 zc92.nd (Zt Zcw Zh (Za 6)))
  (Ze (ZA 10 zc92.nd (Zt Zcw (Zt ZM (ZC ZD (zZ (Zb Zh (Zb (Za 9) (Zb Zh (Zb (Zt5 Zh) Zf))))) (Zt Zan (Zi zd78 hr (by decide) (Zb (Za 0) (Zb Zh Zf))) Zh)) (Zt Zan (Zi zd78 hr (by decide) (Zb (Za 0) (Zb Zh Zf))) Zh)) Zh))
  (Ze (ZA 11 zc92.nd (ZC ZD (zZ (Zb Zh (Zb Zh (Zb Zh (Zb (Zt Zan (Zi zd78 hr (by decide) (Zb (Za 0) (Zb Zh Zf))) Zh) Zf))))) (Zt Zan (Zi zd78 hr (by decide) (Zb (Za 0) (Zb Zh Zf))) Zh)))
  (Ze (ZA 12 zc92.nd (Zt ZdH (Zt Zan (Zi zd78 hr (by decide) (Zb (Za 0) (Zb Zh Zf))) Zh) Zh))
  (Ze (ZK (ZE (Za 7)) (Ze (ZA 10 zc92.nd Zh)
    (Ze (ZA 11 zc92.nd (Za 9))
    (Zj (ZA 12 zc92.nd Zh)))) ZB)
  (Ze (ZA 13 zc92.nd (Zt ZM (Za 6) (Za 10)))
  (Ze (Zk2 14 zc92.nd (show Za5 _ (Zg Zf7) "_law_k" ["_law_script","_law_made_here","_law_end","_law_talk","_law_nxt","_law_rcv","_law_full","_law_brims","_law_stream","_law_space","_law_far","_law_size","_law_flag","_law_begin","_law_data","_law_segment_here","_law_came","_law_many","_law_over","_law_answer","_law_due"] ["_law_k","_law_stream","_law_begin"] [8,13] from ⟨rfl,by decide +kernel,by decide +kernel,by decide +kernel,by decide +kernel,by decide +kernel,rfl,by decide,by decide +kernel⟩) rfl rfl (ZcX g.b_range (Zb (Za 11) Zf)) (fun _ _ _ _ _=>(Zcj (ZF ZpW (Zt ZM (Za 2) (Za 0)) Zh) (ZC ZD (Za 1) (Zt ZM (Za 2) (Za 0))) Zh)))
  (Ze (ZA 15 zc92.nd (Zi zd86 hr (by decide) (Zb (Za 3) (Zb (Zi zd84 hr (by decide) (Zb (Za 5) (Zb (Za 13) Zf))) (Zb (Za 4) (Zb (Zt ZM Zh (Za 12)) (Zb Zh (Zb (Za 14) Zf))))))))
  (Ze (ZK (ZF Zmz (Zi zd38 hr (by decide) (Zb (Za 2) (Zb (Zi zd81 hr (by decide) (Zb (Za 15) Zf)) (Zb Zh Zf)))) Zai) (Zj (Zx Zai)) ZB)
  (Ze (ZA 16 zc92.nd (Zi zd91 hr (by decide) (Zb (Za 6) (Zb (Za 10) (Zb (Za 11) (Zb (Za 12) Zf))))))
  (Ze (ZA 17 zc92.nd (ZC ZD (Za 16) Zh))
  (Ze (ZA 18 zc92.nd (ZC ZD (Za 16) Zh))
  (Ze (ZA 19 zc92.nd (Zi zd84 hr (by decide) (Zb (Za 5) (Zb (Zt ZM (Za 17) (Zbr ZqO g.b_int PyProof.Rows.boot_int (Zb (Za 18) Zf))) Zf))))
  (Ze (ZA 20 zc92.nd (zZ Zf))
  (Ze (ZK (MW.mt (ZcN (ZF Zgg (Zt ZM (Za 11) (Za 12)) Zh) (Zad (Za6 (ZE (Zi zd90 hr (by decide) (Zb (Za 9) (Zb (Za 10) (Zb Zh Zf))))))))) (Zj (ZA 20 zc92.nd (zZ (Zb (zc (Zb (ZC ZD (Za 3) Zh) (Zb (ZC ZD (Za 3) Zh) (Zb (Za 4) (Zb (Za 19) (Zb Zh (Zb (Zt Zcw Zh (Za 17)) (Zb Zh (Zb (zc Zf) Zf))))))))) Zf)))) ZB)
  (Ze (ZK (MW.mt (ZcN (ZF (Zfb hr.units) (Zi zd87 hr (by decide) (Zb (Za 2) (Zb Zh Zf))) (Za 20)) (Zad (ZF (Zfb hr.units) (Zi zd9 hr (by decide) (Zb (Za 2) Zf)) (ZC ZD (zZ (Zb Zp8 (Zb Zp8 Zf))) (Zbr ZqO g.b_int PyProof.Rows.boot_int (Zb (Za 18) Zf))))))) (Zj (Zx Zai)) ZB)
  (Zj (Zx (zx (zW hr.units) (Zi zd57 hr (by decide) (Zb (Za 2) (Zb Zh Zf))) (ZaN (Za 8) ZbG (zV (Za 17))))))))))))))))))))))))))))))))
theorem Zt3 {fl:Addr} {fdl:FuncData} (F:Fun K "law" "law" Zf7 fl fdl) (zD0:Mk0 K mg "Pile" "Pile.__init__" zs0 zP0) (zD1:Zm K mg "room" zs1 zP1) (zD2:Zm K mg "lay" zs2 zP2) (zD3:Zm K mg "take" zs3 zP3) (zD4:Zm K mg "plus" zs4 zP4) (zD5:Zm K mg "offset" zs5 zP5) (zD6:Zm K mg "past" zs6 zP6) (zD7:Mk0 K mg "End" "End.__init__" zs7 zP7) (zD8:Zm K mg "start_timer" zs8 zP8) (zD9:Zm K mg "state" zs9 zP9) (zD10:Zm K mg "our_window" Zkz Zo6) (zD11:Zm K mg "has_sent_fin" Zky Zo5) (zD12:Zm K mg "folded" Zkx Zo4) (zD13:Zm K mg "sum_of" Zkw Zo3) (zD14:Zm K mg "length" Zkv Zo2) (zD15:Zm K mg "has" Zku Zo1) (zD16:Zm K mg "bears" Zkt Zo0) (zD17:Zm K mg "put" Zks ZoZ) (zD18:Zm K mg "bytes_ahead_of_sum" Zkr ZoY) (zD19:Zm K mg "byte_of_head" Zkq ZoX) (zD20:Zm K mg "bytes_of_most" Zkp ZoW) (zD21:Zm K mg "two_bytes" Zko ZoV) (zD22:Zm K mg "four_bytes" Zkn ZoU) (zD23:Zm K mg "is_right" Zkm ZoT) (zD24:Zm K mg "head_of" Zkl ZoS) (zD25:Zm K mg "is_right_long_head" Zkk ZoR) (zD26:Zm K mg "get" Zkj ZoQ) (zD27:Zm K mg "two_at" Zki ZoP) (zD28:Zm K mg "four_at" Zkh ZoO) (zD29:Zm K mg "reset_for" Zkg ZoN) (zD30:Zm K mg "owe_reset_for" Zkf ZoM) (zD31:Zm K mg "come_to_closed" Zke ZoL) (zD32:Zm K mg "come_to_listen" Zkd ZoK) (zD33:Zm K mg "hear_syn" Zkc ZoJ) (zD34:Zm K mg "come_to_syn_sent" Zkb ZoI) (zD35:Zm K mg "answers_syn" Zka ZoH) (zD36:Zm K mg "refuse" Zj9 ZoG) (zD37:Zm K mg "go_on_from_syn_sent" Zj8 ZoF) (zD38:Zm K mg "arrive" Zj7 ZoE) (zD39:Zm K mg "is_for" Zj6 ZoD) (zD40:Zm K mg "come_to_stream" Zj5 ZoC) (zD41:Zm K mg "fits" Zj4 ZoB) (zD42:Zm K mg "is_in_window" Zj3 ZoA) (zD43:Zm K mg "turn_away" Zj2 Zoz) (zD44:Zm K mg "hear_reset" Zj1 Zoy) (zD45:Zm K mg "goes_on_behind_answer" Zj0 Zox) (zD46:Zm K mg "has_answered_syn" ZjZ Zow) (zD47:Zm K mg "take_window" ZjY Zov) (zD48:Zm K mg "hear_answer" ZjX Zou) (zD49:Zm K mg "is_newer" ZjW Zot) (zD50:Zm K mg "end_what_is_acknowledged" ZjV Zos) (zD51:Zm K mg "hear_stream" ZjU Zor) (zD52:Zm K mg "keep_data" ZjT Zoq) (zD53:Zm K mg "keep_fin" ZjS Zop) (zD54:Zm K mg "draw_in_order" ZjR Zoo) (zD55:Zm K mg "hear_fin" ZjQ Zon) (zD56:Zm K mg "opened" ZjP Zom) (zD57:Zm K mg "read" ZjO Zol) (zD58:Zm K mg "send" ZjN Zok) (zD59:Zm K mg "going" ZjM Zoj) (zD60:Zm K mg "paid_reset" ZjL Zoi) (zD61:Zm K mg "is_due" ZjK Zoh) (zD62:Zm K mg "again" ZjJ Zog) (zD63:Zm K mg "most_at_once" ZjI Zof) (zD64:Zm K mg "paid_syn" ZjH Zoe) (zD65:Zm K mg "segment_of" ZjG Zod) (zD66:Zm K mg "going_as_new" ZjF Zoc) (zD67:Zm K mg "new_syn" ZjE Zob) (zD68:Zm K mg "has_more" ZjD Zoa) (zD69:Zm K mg "has_new_data" ZjC Zn9) (zD70:Zm K mg "unsent" ZjB Zn8) (zD71:Zm K mg "has_new_fin" ZjA Zn7) (zD72:Zm K mg "new_piece" Zjz Zn6) (zD73:Zm K mg "new_data" Zjy Zn5) (zD74:Zm K mg "new_fin" Zjx Zn4) (zD75:Zm K mg "going_as_probe" Zjw Zn3) (zD76:Zm K mg "going_as_answer" Zjv Zn2) (zD77:Zm K mg "_law_cell" Zju Zn1) (zD78:Zm K mg "_law_mix" Zjt Zn0) (zD79:Zm K mg "_law_two" Zjs ZnZ) (zD80:Zm K mg "_law_folded" Zjr ZnY) (zD81:Zm K mg "_law_bytes" Zjq ZnX) (zD82:Zm K mg "_law_read" ZhP ZnW) (zD83:Zm K mg "_law_byte" Zjp ZnV) (zD84:Zm K mg "_law_plus" Zjo ZnU) (zD85:Zm K mg "_law_first" Zjn ZnT) (zD86:Zm K mg "_law_segment" Zjm ZnS) (zD87:Zm K mg "_law_given" Zjl ZnR) (zD88:Zm K mg "_law_opened" Zjk ZnQ) (zD89:Zm K mg "_law_fill" Zjj ZnP) (zD90:Zm K mg "_law_fits" Zji ZnO) (zD91:Zm K mg "_law_come" Zjh ZnN) (g:Glb K mg):FnOk P w K mg base CX0 11 fl fdl ZnM (spM ⟨z6 mg,K⟩ Zk9):=by
  have zd0:=zo0 (P:=P) (w:=w) (base:=base) zD0 g
  have zd1:=zo1 (P:=P) (w:=w) (base:=base) zD1 g
  have zd2:=zo2 (P:=P) (w:=w) (base:=base) zD2 g zd1
  have zd3:=zo3 (P:=P) (w:=w) (base:=base) zD3 g
  have zd4:=zo4 (P:=P) (w:=w) (base:=base) zD4 g
  have zd5:=zo5 (P:=P) (w:=w) (base:=base) zD5 g
  have zd6:=zo6 (P:=P) (w:=w) (base:=base) zD6 g zd5
  have zd7:=zo7 (P:=P) (w:=w) (base:=base) zD7 g zd0 zd4
  have zd8:=zo8 (P:=P) (w:=w) (base:=base) zD8 g
  have zd9:=zo9 (P:=P) (w:=w) (base:=base) zD9 g
  have zd10:=Zx0 (P:=P) (w:=w) (base:=base) zD10 g zd1
  have zd11:=ZxZ (P:=P) (w:=w) (base:=base) zD11 g zd6
  have zd12:=ZxY (P:=P) (w:=w) (base:=base) zD12 g
  have zd13:=ZxX (P:=P) (w:=w) (base:=base) zD13 g zd12
  have zd15:=ZxV (P:=P) (w:=w) (base:=base) zD15 g
  have zd14:=ZxW (P:=P) (w:=w) (base:=base) zD14 g zd15
  have zd16:=ZxU (P:=P) (w:=w) (base:=base) zD16 g zd15
  have zd19:=ZxR (P:=P) (w:=w) (base:=base) zD19 g
  have zd21:=ZxP (P:=P) (w:=w) (base:=base) zD21 g
  have zd22:=ZxO (P:=P) (w:=w) (base:=base) zD22 g zd21
  have zd18:=ZxS (P:=P) (w:=w) (base:=base) zD18 g zd19 zd22 zd21
  have zd20:=ZxQ (P:=P) (w:=w) (base:=base) zD20 g zd21
  have zd17:=ZxT (P:=P) (w:=w) (base:=base) zD17 g zd18 zd20 zd13 zd21
  have zd24:=ZxM (P:=P) (w:=w) (base:=base) zD24 g
  have zd27:=ZxJ (P:=P) (w:=w) (base:=base) zD27 g
  have zd25:=ZxL (P:=P) (w:=w) (base:=base) zD25 g zd15 zd27
  have zd23:=ZxN (P:=P) (w:=w) (base:=base) zD23 g zd19 zd12 zd24 zd25 zd27
  have zd28:=ZxI (P:=P) (w:=w) (base:=base) zD28 g zd27
  have zd26:=ZxK (P:=P) (w:=w) (base:=base) zD26 g zd28 zd24 zd23 zd27
  have zd29:=ZxH (P:=P) (w:=w) (base:=base) zD29 g zd16 zd14 zd4
  have zd30:=ZxG (P:=P) (w:=w) (base:=base) zD30 g zd16 zd29
  have zd31:=ZxF (P:=P) (w:=w) (base:=base) zD31 g zd30
  have zd33:=ZxD (P:=P) (w:=w) (base:=base) zD33 g zd16 zd4
  have zd32:=ZxE (P:=P) (w:=w) (base:=base) zD32 g zd16 zd33 zd30
  have zd35:=ZxB (P:=P) (w:=w) (base:=base) zD35 g zd4
  have zd37:=Zxz (P:=P) (w:=w) (base:=base) zD37 g zd16 zd8
  have zd36:=ZxA (P:=P) (w:=w) (base:=base) zD36 g zd16
  have zd34:=ZxC (P:=P) (w:=w) (base:=base) zD34 g zd35 zd16 zd37 zd33 zd30 zd36
  have zd42:=Zxu (P:=P) (w:=w) (base:=base) zD42 g zd5 zd10
  have zd41:=Zxv (P:=P) (w:=w) (base:=base) zD41 g zd42 zd14 zd5 zd4
  have zd50:=Zxm (P:=P) (w:=w) (base:=base) zD50 g zd11
  have zd47:=Zxp (P:=P) (w:=w) (base:=base) zD47 g
  have zd46:=Zxq (P:=P) (w:=w) (base:=base) zD46 g zd30 zd47
  have zd49:=Zxn (P:=P) (w:=w) (base:=base) zD49 g zd6
  have zd48:=Zxo (P:=P) (w:=w) (base:=base) zD48 g zd49 zd5 zd6 zd8 zd3 zd47
  have zd45:=Zxr (P:=P) (w:=w) (base:=base) zD45 g zd50 zd46 zd48 zd6
  have zd44:=Zxs (P:=P) (w:=w) (base:=base) zD44 g
  have zd54:=Zxi (P:=P) (w:=w) (base:=base) zD54 g zd2 zd4
  have zd55:=Zxh (P:=P) (w:=w) (base:=base) zD55 g zd4
  have zd52:=Zxk (P:=P) (w:=w) (base:=base) zD52 g zd42 zd4
  have zd53:=Zxj (P:=P) (w:=w) (base:=base) zD53 g zd16 zd42 zd4
  have zd51:=Zxl (P:=P) (w:=w) (base:=base) zD51 g zd54 zd55 zd52 zd53
  have zd43:=Zxt (P:=P) (w:=w) (base:=base) zD43 g zd16
  have zd40:=Zxw (P:=P) (w:=w) (base:=base) zD40 g zd16 zd41 zd45 zd44 zd51 zd43
  have zd39:=Zxx (P:=P) (w:=w) (base:=base) zD39 g
  have zd38:=Zxy (P:=P) (w:=w) (base:=base) zD38 g zd31 zd32 zd40 zd34 zd26 zd39 zd23
  have zd56:=Zxg (P:=P) (w:=w) (base:=base) zD56 g zd7
  have zd57:=Zxf (P:=P) (w:=w) (base:=base) zD57 g zd10 zd3
  have zd63:=Zw9 (P:=P) (w:=w) (base:=base) zD63 g
  have zd64:=Zw8 (P:=P) (w:=w) (base:=base) zD64 g
  have zd65:=Zw7 (P:=P) (w:=w) (base:=base) zD65 g zd10
  have zd62:=Zxa (P:=P) (w:=w) (base:=base) zD62 g zd63 zd5 zd64 zd65
  have zd76:=ZwW (P:=P) (w:=w) (base:=base) zD76 g zd65
  have zd70:=Zw2 (P:=P) (w:=w) (base:=base) zD70 g zd5
  have zd69:=Zw3 (P:=P) (w:=w) (base:=base) zD69 g zd70
  have zd71:=Zw1 (P:=P) (w:=w) (base:=base) zD71 g zd70
  have zd68:=Zw4 (P:=P) (w:=w) (base:=base) zD68 g zd69 zd71
  have zd73:=ZwZ (P:=P) (w:=w) (base:=base) zD73 g zd63 zd5 zd4 zd65 zd70
  have zd74:=ZwY (P:=P) (w:=w) (base:=base) zD74 g zd4 zd65
  have zd72:=Zw0 (P:=P) (w:=w) (base:=base) zD72 g zd69 zd73 zd74
  have zd67:=Zw5 (P:=P) (w:=w) (base:=base) zD67 g zd64 zd4 zd8
  have zd66:=Zw6 (P:=P) (w:=w) (base:=base) zD66 g zd68 zd72 zd67 zd5 zd8
  have zd61:=Zxb (P:=P) (w:=w) (base:=base) zD61 g
  have zd75:=ZwX (P:=P) (w:=w) (base:=base) zD75 g zd68 zd61 zd72 zd8
  have zd60:=Zxc (P:=P) (w:=w) (base:=base) zD60 g
  have zd59:=Zxd (P:=P) (w:=w) (base:=base) zD59 g zd62 zd76 zd66 zd75 zd61 zd60
  have zd58:=Zxe (P:=P) (w:=w) (base:=base) zD58 g zd59 zd17
  have zd77:=ZwV (P:=P) (w:=w) (base:=base) zD77 g
  have zd78:=ZwU (P:=P) (w:=w) (base:=base) zD78 g zd77
  have zd79:=ZwT (P:=P) (w:=w) (base:=base) zD79 g
  have zd80:=ZwS (P:=P) (w:=w) (base:=base) zD80 g
  have zd81:=ZwR (P:=P) (w:=w) (base:=base) zD81 g zd80 zd79
  have zd83:=ZwP (P:=P) (w:=w) (base:=base) zD83 g
  have zd82:=ZwQ (P:=P) (w:=w) (base:=base) zD82 g zd83 zd80
  have zd84:=ZwO (P:=P) (w:=w) (base:=base) zD84 g
  have zd85:=ZwN (P:=P) (w:=w) (base:=base) zD85 g
  have zd86:=ZwM (P:=P) (w:=w) (base:=base) zD86 g
  have zd87:=ZwL (P:=P) (w:=w) (base:=base) zD87 g zd82 zd58
  have zd88:=ZwK (P:=P) (w:=w) (base:=base) zD88 g zd81 zd85 zd78 zd84 zd38 zd56 zd58
  have zd89:=ZwJ (P:=P) (w:=w) (base:=base) zD89 g zd81 zd87 zd84 zd86 zd38
  have zd90:=ZwI (P:=P) (w:=w) (base:=base) zD90 g
  have zd91:=ZwH (P:=P) (w:=w) (base:=base) zD91 g zd90
  exact ZwG F g zd81 zd91 zd89 zd90 zd87 zd78 zd88 zd84 zd86 zd38 zd57 zd9
end
theorem us1 {p:List Value→Prop} (h:∀a,p [a]):∀us:List Value,us.length=1→p us
  | [a],_=>h a
theorem us2 {p:List Value→Prop} (h:∀a b,p [a,b]):∀us:List Value,us.length=2→p us
  | [a,b],_=>h a b
theorem us3 {p:List Value→Prop} (h:∀a b c,p [a,b,c]):∀us:List Value,us.length=3→p us
  | [a,b,c],_=>h a b c
theorem us4 {p:List Value→Prop} (h:∀a b c d,p [a,b,c,d]):∀us:List Value,us.length=4→p us
  | [a,b,c,d],_=>h a b c d
theorem us5 {p:List Value→Prop} (h:∀a b c d e,p [a,b,c,d,e]):∀us:List Value,us.length=5→p us
  | [a,b,c,d,e],_=>h a b c d e
theorem us6 {p:List Value→Prop} (h:∀a b c d e f,p [a,b,c,d,e,f]):∀us:List Value,us.length=6→p us
  | [a,b,c,d,e,f],_=>h a b c d e f
open PySem.W
theorem Zun {l:OpenLaw} {w:World} {K:Frag} {h:Heap} {mg:Str→Option Value} {fa:Addr} (X:K.In h) (G:h.Ns mainGlobals mg) (hfa:mg "law"=some (.ref fa))
    (aC_End:nsIn K mainGlobals "End"=some (some (.ref C_End)))
    (aC_Pile:nsIn K mainGlobals "Pile"=some (some (.ref C_Pile)))
    (a0:findIn K (.ref C_Pile) "__init__"=some (some (.ref f0))) (i0:isFn K (.ref f0)=true) (l0:K.lookup f0=some ⟨oc0,od0,.func (fnOf "__init__" "Pile.__init__" (Zs zs0) (Zp zs0) (Zg zs0) .none kV0 dc0 pm0 an0 cd0 ct0),sl0⟩) (c0:codeIn K cd0 "Pile.__init__"=true) (k0:keepIn K (.ref f0)=true)
    (a1:nsIn K mainGlobals "room"=some (some (.ref f1))) (l1:K.lookup f1=some ⟨oc1,od1,.func (fnOf "room" "room" (Zs zs1) (Zp zs1) (Zg zs1) .none kV1 dc1 pm1 an1 cd1 ct1),sl1⟩) (c1:codeIn K cd1 "room"=true) (k1:keepIn K (.ref f1)=true)
    (a2:nsIn K mainGlobals "lay"=some (some (.ref f2))) (l2:K.lookup f2=some ⟨oc2,od2,.func (fnOf "lay" "lay" (Zs zs2) (Zp zs2) (Zg zs2) .none kV2 dc2 pm2 an2 cd2 ct2),sl2⟩) (c2:codeIn K cd2 "lay"=true) (k2:keepIn K (.ref f2)=true)
    (a3:nsIn K mainGlobals "take"=some (some (.ref f3))) (l3:K.lookup f3=some ⟨oc3,od3,.func (fnOf "take" "take" (Zs zs3) (Zp zs3) (Zg zs3) .none kV3 dc3 pm3 an3 cd3 ct3),sl3⟩) (c3:codeIn K cd3 "take"=true) (k3:keepIn K (.ref f3)=true)
    (a4:nsIn K mainGlobals "plus"=some (some (.ref f4))) (l4:K.lookup f4=some ⟨oc4,od4,.func (fnOf "plus" "plus" (Zs zs4) (Zp zs4) (Zg zs4) .none kV4 dc4 pm4 an4 cd4 ct4),sl4⟩) (c4:codeIn K cd4 "plus"=true) (k4:keepIn K (.ref f4)=true)
    (a5:nsIn K mainGlobals "offset"=some (some (.ref f5))) (l5:K.lookup f5=some ⟨oc5,od5,.func (fnOf "offset" "offset" (Zs zs5) (Zp zs5) (Zg zs5) .none kV5 dc5 pm5 an5 cd5 ct5),sl5⟩) (c5:codeIn K cd5 "offset"=true) (k5:keepIn K (.ref f5)=true)
    (a6:nsIn K mainGlobals "past"=some (some (.ref f6))) (l6:K.lookup f6=some ⟨oc6,od6,.func (fnOf "past" "past" (Zs zs6) (Zp zs6) (Zg zs6) .none kV6 dc6 pm6 an6 cd6 ct6),sl6⟩) (c6:codeIn K cd6 "past"=true) (k6:keepIn K (.ref f6)=true)
    (a7:findIn K (.ref C_End) "__init__"=some (some (.ref f7))) (i7:isFn K (.ref f7)=true) (l7:K.lookup f7=some ⟨oc7,od7,.func (fnOf "__init__" "End.__init__" (Zs zs7) (Zp zs7) (Zg zs7) .none kV7 dc7 pm7 an7 cd7 ct7),sl7⟩) (c7:codeIn K cd7 "End.__init__"=true) (k7:keepIn K (.ref f7)=true)
    (a8:nsIn K mainGlobals "start_timer"=some (some (.ref f8))) (l8:K.lookup f8=some ⟨oc8,od8,.func (fnOf "start_timer" "start_timer" (Zs zs8) (Zp zs8) (Zg zs8) .none kV8 dc8 pm8 an8 cd8 ct8),sl8⟩) (c8:codeIn K cd8 "start_timer"=true) (k8:keepIn K (.ref f8)=true)
    (a9:nsIn K mainGlobals "state"=some (some (.ref f9))) (l9:K.lookup f9=some ⟨oc9,od9,.func (fnOf "state" "state" (Zs zs9) (Zp zs9) (Zg zs9) .none kV9 dc9 pm9 an9 cd9 ct9),sl9⟩) (c9:codeIn K cd9 "state"=true) (k9:keepIn K (.ref f9)=true)
    (a10:nsIn K mainGlobals "our_window"=some (some (.ref f10))) (l10:K.lookup f10=some ⟨oc10,od10,.func (fnOf "our_window" "our_window" (Zs Zkz) (Zp Zkz) (Zg Zkz) .none kV10 dc10 pm10 an10 cd10 ct10),sl10⟩) (c10:codeIn K cd10 "our_window"=true) (k10:keepIn K (.ref f10)=true)
    (a11:nsIn K mainGlobals "has_sent_fin"=some (some (.ref f11))) (l11:K.lookup f11=some ⟨oc11,od11,.func (fnOf "has_sent_fin" "has_sent_fin" (Zs Zky) (Zp Zky) (Zg Zky) .none kV11 dc11 pm11 an11 cd11 ct11),sl11⟩) (c11:codeIn K cd11 "has_sent_fin"=true) (k11:keepIn K (.ref f11)=true)
    (a12:nsIn K mainGlobals "folded"=some (some (.ref f12))) (l12:K.lookup f12=some ⟨oc12,od12,.func (fnOf "folded" "folded" (Zs Zkx) (Zp Zkx) (Zg Zkx) .none kV12 dc12 pm12 an12 cd12 ct12),sl12⟩) (c12:codeIn K cd12 "folded"=true) (k12:keepIn K (.ref f12)=true)
    (a13:nsIn K mainGlobals "sum_of"=some (some (.ref f13))) (l13:K.lookup f13=some ⟨oc13,od13,.func (fnOf "sum_of" "sum_of" (Zs Zkw) (Zp Zkw) (Zg Zkw) .none kV13 dc13 pm13 an13 cd13 ct13),sl13⟩) (c13:codeIn K cd13 "sum_of"=true) (k13:keepIn K (.ref f13)=true)
    (a14:nsIn K mainGlobals "length"=some (some (.ref f14))) (l14:K.lookup f14=some ⟨oc14,od14,.func (fnOf "length" "length" (Zs Zkv) (Zp Zkv) (Zg Zkv) .none kV14 dc14 pm14 an14 cd14 ct14),sl14⟩) (c14:codeIn K cd14 "length"=true) (k14:keepIn K (.ref f14)=true)
    (a15:nsIn K mainGlobals "has"=some (some (.ref f15))) (l15:K.lookup f15=some ⟨oc15,od15,.func (fnOf "has" "has" (Zs Zku) (Zp Zku) (Zg Zku) .none kV15 dc15 pm15 an15 cd15 ct15),sl15⟩) (c15:codeIn K cd15 "has"=true) (k15:keepIn K (.ref f15)=true)
    (a16:nsIn K mainGlobals "bears"=some (some (.ref f16))) (l16:K.lookup f16=some ⟨oc16,od16,.func (fnOf "bears" "bears" (Zs Zkt) (Zp Zkt) (Zg Zkt) .none kV16 dc16 pm16 an16 cd16 ct16),sl16⟩) (c16:codeIn K cd16 "bears"=true) (k16:keepIn K (.ref f16)=true)
    (a17:nsIn K mainGlobals "put"=some (some (.ref f17))) (l17:K.lookup f17=some ⟨oc17,od17,.func (fnOf "put" "put" (Zs Zks) (Zp Zks) (Zg Zks) .none kV17 dc17 pm17 an17 cd17 ct17),sl17⟩) (c17:codeIn K cd17 "put"=true) (k17:keepIn K (.ref f17)=true)
    (a18:nsIn K mainGlobals "bytes_ahead_of_sum"=some (some (.ref f18))) (l18:K.lookup f18=some ⟨oc18,od18,.func (fnOf "bytes_ahead_of_sum" "bytes_ahead_of_sum" (Zs Zkr) (Zp Zkr) (Zg Zkr) .none kV18 dc18 pm18 an18 cd18 ct18),sl18⟩) (c18:codeIn K cd18 "bytes_ahead_of_sum"=true) (k18:keepIn K (.ref f18)=true)
    (a19:nsIn K mainGlobals "byte_of_head"=some (some (.ref f19))) (l19:K.lookup f19=some ⟨oc19,od19,.func (fnOf "byte_of_head" "byte_of_head" (Zs Zkq) (Zp Zkq) (Zg Zkq) .none kV19 dc19 pm19 an19 cd19 ct19),sl19⟩) (c19:codeIn K cd19 "byte_of_head"=true) (k19:keepIn K (.ref f19)=true)
    (a20:nsIn K mainGlobals "bytes_of_most"=some (some (.ref f20))) (l20:K.lookup f20=some ⟨oc20,od20,.func (fnOf "bytes_of_most" "bytes_of_most" (Zs Zkp) (Zp Zkp) (Zg Zkp) .none kV20 dc20 pm20 an20 cd20 ct20),sl20⟩) (c20:codeIn K cd20 "bytes_of_most"=true) (k20:keepIn K (.ref f20)=true)
    (a21:nsIn K mainGlobals "two_bytes"=some (some (.ref f21))) (l21:K.lookup f21=some ⟨oc21,od21,.func (fnOf "two_bytes" "two_bytes" (Zs Zko) (Zp Zko) (Zg Zko) .none kV21 dc21 pm21 an21 cd21 ct21),sl21⟩) (c21:codeIn K cd21 "two_bytes"=true) (k21:keepIn K (.ref f21)=true)
    (a22:nsIn K mainGlobals "four_bytes"=some (some (.ref f22))) (l22:K.lookup f22=some ⟨oc22,od22,.func (fnOf "four_bytes" "four_bytes" (Zs Zkn) (Zp Zkn) (Zg Zkn) .none kV22 dc22 pm22 an22 cd22 ct22),sl22⟩) (c22:codeIn K cd22 "four_bytes"=true) (k22:keepIn K (.ref f22)=true)
    (a23:nsIn K mainGlobals "is_right"=some (some (.ref f23))) (l23:K.lookup f23=some ⟨oc23,od23,.func (fnOf "is_right" "is_right" (Zs Zkm) (Zp Zkm) (Zg Zkm) .none kV23 dc23 pm23 an23 cd23 ct23),sl23⟩) (c23:codeIn K cd23 "is_right"=true) (k23:keepIn K (.ref f23)=true)
    (a24:nsIn K mainGlobals "head_of"=some (some (.ref f24))) (l24:K.lookup f24=some ⟨oc24,od24,.func (fnOf "head_of" "head_of" (Zs Zkl) (Zp Zkl) (Zg Zkl) .none kV24 dc24 pm24 an24 cd24 ct24),sl24⟩) (c24:codeIn K cd24 "head_of"=true) (k24:keepIn K (.ref f24)=true)
    (a25:nsIn K mainGlobals "is_right_long_head"=some (some (.ref f25))) (l25:K.lookup f25=some ⟨oc25,od25,.func (fnOf "is_right_long_head" "is_right_long_head" (Zs Zkk) (Zp Zkk) (Zg Zkk) .none kV25 dc25 pm25 an25 cd25 ct25),sl25⟩) (c25:codeIn K cd25 "is_right_long_head"=true) (k25:keepIn K (.ref f25)=true)
    (a26:nsIn K mainGlobals "get"=some (some (.ref f26))) (l26:K.lookup f26=some ⟨oc26,od26,.func (fnOf "get" "get" (Zs Zkj) (Zp Zkj) (Zg Zkj) .none kV26 dc26 pm26 an26 cd26 ct26),sl26⟩) (c26:codeIn K cd26 "get"=true) (k26:keepIn K (.ref f26)=true)
    (a27:nsIn K mainGlobals "two_at"=some (some (.ref f27))) (l27:K.lookup f27=some ⟨oc27,od27,.func (fnOf "two_at" "two_at" (Zs Zki) (Zp Zki) (Zg Zki) .none kV27 dc27 pm27 an27 cd27 ct27),sl27⟩) (c27:codeIn K cd27 "two_at"=true) (k27:keepIn K (.ref f27)=true)
    (a28:nsIn K mainGlobals "four_at"=some (some (.ref f28))) (l28:K.lookup f28=some ⟨oc28,od28,.func (fnOf "four_at" "four_at" (Zs Zkh) (Zp Zkh) (Zg Zkh) .none kV28 dc28 pm28 an28 cd28 ct28),sl28⟩) (c28:codeIn K cd28 "four_at"=true) (k28:keepIn K (.ref f28)=true)
    (a29:nsIn K mainGlobals "reset_for"=some (some (.ref f29))) (l29:K.lookup f29=some ⟨oc29,od29,.func (fnOf "reset_for" "reset_for" (Zs Zkg) (Zp Zkg) (Zg Zkg) .none kV29 dc29 pm29 an29 cd29 ct29),sl29⟩) (c29:codeIn K cd29 "reset_for"=true) (k29:keepIn K (.ref f29)=true)
    (a30:nsIn K mainGlobals "owe_reset_for"=some (some (.ref f30))) (l30:K.lookup f30=some ⟨oc30,od30,.func (fnOf "owe_reset_for" "owe_reset_for" (Zs Zkf) (Zp Zkf) (Zg Zkf) .none kV30 dc30 pm30 an30 cd30 ct30),sl30⟩) (c30:codeIn K cd30 "owe_reset_for"=true) (k30:keepIn K (.ref f30)=true)
    (a31:nsIn K mainGlobals "come_to_closed"=some (some (.ref f31))) (l31:K.lookup f31=some ⟨oc31,od31,.func (fnOf "come_to_closed" "come_to_closed" (Zs Zke) (Zp Zke) (Zg Zke) .none kV31 dc31 pm31 an31 cd31 ct31),sl31⟩) (c31:codeIn K cd31 "come_to_closed"=true) (k31:keepIn K (.ref f31)=true)
    (a32:nsIn K mainGlobals "come_to_listen"=some (some (.ref f32))) (l32:K.lookup f32=some ⟨oc32,od32,.func (fnOf "come_to_listen" "come_to_listen" (Zs Zkd) (Zp Zkd) (Zg Zkd) .none kV32 dc32 pm32 an32 cd32 ct32),sl32⟩) (c32:codeIn K cd32 "come_to_listen"=true) (k32:keepIn K (.ref f32)=true)
    (a33:nsIn K mainGlobals "hear_syn"=some (some (.ref f33))) (l33:K.lookup f33=some ⟨oc33,od33,.func (fnOf "hear_syn" "hear_syn" (Zs Zkc) (Zp Zkc) (Zg Zkc) .none kV33 dc33 pm33 an33 cd33 ct33),sl33⟩) (c33:codeIn K cd33 "hear_syn"=true) (k33:keepIn K (.ref f33)=true)
    (a34:nsIn K mainGlobals "come_to_syn_sent"=some (some (.ref f34))) (l34:K.lookup f34=some ⟨oc34,od34,.func (fnOf "come_to_syn_sent" "come_to_syn_sent" (Zs Zkb) (Zp Zkb) (Zg Zkb) .none kV34 dc34 pm34 an34 cd34 ct34),sl34⟩) (c34:codeIn K cd34 "come_to_syn_sent"=true) (k34:keepIn K (.ref f34)=true)
    (a35:nsIn K mainGlobals "answers_syn"=some (some (.ref f35))) (l35:K.lookup f35=some ⟨oc35,od35,.func (fnOf "answers_syn" "answers_syn" (Zs Zka) (Zp Zka) (Zg Zka) .none kV35 dc35 pm35 an35 cd35 ct35),sl35⟩) (c35:codeIn K cd35 "answers_syn"=true) (k35:keepIn K (.ref f35)=true)
    (a36:nsIn K mainGlobals "refuse"=some (some (.ref f36))) (l36:K.lookup f36=some ⟨oc36,od36,.func (fnOf "refuse" "refuse" (Zs Zj9) (Zp Zj9) (Zg Zj9) .none kV36 dc36 pm36 an36 cd36 ct36),sl36⟩) (c36:codeIn K cd36 "refuse"=true) (k36:keepIn K (.ref f36)=true)
    (a37:nsIn K mainGlobals "go_on_from_syn_sent"=some (some (.ref f37))) (l37:K.lookup f37=some ⟨oc37,od37,.func (fnOf "go_on_from_syn_sent" "go_on_from_syn_sent" (Zs Zj8) (Zp Zj8) (Zg Zj8) .none kV37 dc37 pm37 an37 cd37 ct37),sl37⟩) (c37:codeIn K cd37 "go_on_from_syn_sent"=true) (k37:keepIn K (.ref f37)=true)
    (a38:nsIn K mainGlobals "arrive"=some (some (.ref f38))) (l38:K.lookup f38=some ⟨oc38,od38,.func (fnOf "arrive" "arrive" (Zs Zj7) (Zp Zj7) (Zg Zj7) .none kV38 dc38 pm38 an38 cd38 ct38),sl38⟩) (c38:codeIn K cd38 "arrive"=true) (k38:keepIn K (.ref f38)=true)
    (a39:nsIn K mainGlobals "is_for"=some (some (.ref f39))) (l39:K.lookup f39=some ⟨oc39,od39,.func (fnOf "is_for" "is_for" (Zs Zj6) (Zp Zj6) (Zg Zj6) .none kV39 dc39 pm39 an39 cd39 ct39),sl39⟩) (c39:codeIn K cd39 "is_for"=true) (k39:keepIn K (.ref f39)=true)
    (a40:nsIn K mainGlobals "come_to_stream"=some (some (.ref f40))) (l40:K.lookup f40=some ⟨oc40,od40,.func (fnOf "come_to_stream" "come_to_stream" (Zs Zj5) (Zp Zj5) (Zg Zj5) .none kV40 dc40 pm40 an40 cd40 ct40),sl40⟩) (c40:codeIn K cd40 "come_to_stream"=true) (k40:keepIn K (.ref f40)=true)
    (a41:nsIn K mainGlobals "fits"=some (some (.ref f41))) (l41:K.lookup f41=some ⟨oc41,od41,.func (fnOf "fits" "fits" (Zs Zj4) (Zp Zj4) (Zg Zj4) .none kV41 dc41 pm41 an41 cd41 ct41),sl41⟩) (c41:codeIn K cd41 "fits"=true) (k41:keepIn K (.ref f41)=true)
    (a42:nsIn K mainGlobals "is_in_window"=some (some (.ref f42))) (l42:K.lookup f42=some ⟨oc42,od42,.func (fnOf "is_in_window" "is_in_window" (Zs Zj3) (Zp Zj3) (Zg Zj3) .none kV42 dc42 pm42 an42 cd42 ct42),sl42⟩) (c42:codeIn K cd42 "is_in_window"=true) (k42:keepIn K (.ref f42)=true)
    (a43:nsIn K mainGlobals "turn_away"=some (some (.ref f43))) (l43:K.lookup f43=some ⟨oc43,od43,.func (fnOf "turn_away" "turn_away" (Zs Zj2) (Zp Zj2) (Zg Zj2) .none kV43 dc43 pm43 an43 cd43 ct43),sl43⟩) (c43:codeIn K cd43 "turn_away"=true) (k43:keepIn K (.ref f43)=true)
    (a44:nsIn K mainGlobals "hear_reset"=some (some (.ref f44))) (l44:K.lookup f44=some ⟨oc44,od44,.func (fnOf "hear_reset" "hear_reset" (Zs Zj1) (Zp Zj1) (Zg Zj1) .none kV44 dc44 pm44 an44 cd44 ct44),sl44⟩) (c44:codeIn K cd44 "hear_reset"=true) (k44:keepIn K (.ref f44)=true)
    (a45:nsIn K mainGlobals "goes_on_behind_answer"=some (some (.ref f45))) (l45:K.lookup f45=some ⟨oc45,od45,.func (fnOf "goes_on_behind_answer" "goes_on_behind_answer" (Zs Zj0) (Zp Zj0) (Zg Zj0) .none kV45 dc45 pm45 an45 cd45 ct45),sl45⟩) (c45:codeIn K cd45 "goes_on_behind_answer"=true) (k45:keepIn K (.ref f45)=true)
    (a46:nsIn K mainGlobals "has_answered_syn"=some (some (.ref f46))) (l46:K.lookup f46=some ⟨oc46,od46,.func (fnOf "has_answered_syn" "has_answered_syn" (Zs ZjZ) (Zp ZjZ) (Zg ZjZ) .none kV46 dc46 pm46 an46 cd46 ct46),sl46⟩) (c46:codeIn K cd46 "has_answered_syn"=true) (k46:keepIn K (.ref f46)=true)
    (a47:nsIn K mainGlobals "take_window"=some (some (.ref f47))) (l47:K.lookup f47=some ⟨oc47,od47,.func (fnOf "take_window" "take_window" (Zs ZjY) (Zp ZjY) (Zg ZjY) .none kV47 dc47 pm47 an47 cd47 ct47),sl47⟩) (c47:codeIn K cd47 "take_window"=true) (k47:keepIn K (.ref f47)=true)
    (a48:nsIn K mainGlobals "hear_answer"=some (some (.ref f48))) (l48:K.lookup f48=some ⟨oc48,od48,.func (fnOf "hear_answer" "hear_answer" (Zs ZjX) (Zp ZjX) (Zg ZjX) .none kV48 dc48 pm48 an48 cd48 ct48),sl48⟩) (c48:codeIn K cd48 "hear_answer"=true) (k48:keepIn K (.ref f48)=true)
    (a49:nsIn K mainGlobals "is_newer"=some (some (.ref f49))) (l49:K.lookup f49=some ⟨oc49,od49,.func (fnOf "is_newer" "is_newer" (Zs ZjW) (Zp ZjW) (Zg ZjW) .none kV49 dc49 pm49 an49 cd49 ct49),sl49⟩) (c49:codeIn K cd49 "is_newer"=true) (k49:keepIn K (.ref f49)=true)
    (a50:nsIn K mainGlobals "end_what_is_acknowledged"=some (some (.ref f50))) (l50:K.lookup f50=some ⟨oc50,od50,.func (fnOf "end_what_is_acknowledged" "end_what_is_acknowledged" (Zs ZjV) (Zp ZjV) (Zg ZjV) .none kV50 dc50 pm50 an50 cd50 ct50),sl50⟩) (c50:codeIn K cd50 "end_what_is_acknowledged"=true) (k50:keepIn K (.ref f50)=true)
    (a51:nsIn K mainGlobals "hear_stream"=some (some (.ref f51))) (l51:K.lookup f51=some ⟨oc51,od51,.func (fnOf "hear_stream" "hear_stream" (Zs ZjU) (Zp ZjU) (Zg ZjU) .none kV51 dc51 pm51 an51 cd51 ct51),sl51⟩) (c51:codeIn K cd51 "hear_stream"=true) (k51:keepIn K (.ref f51)=true)
    (a52:nsIn K mainGlobals "keep_data"=some (some (.ref f52))) (l52:K.lookup f52=some ⟨oc52,od52,.func (fnOf "keep_data" "keep_data" (Zs ZjT) (Zp ZjT) (Zg ZjT) .none kV52 dc52 pm52 an52 cd52 ct52),sl52⟩) (c52:codeIn K cd52 "keep_data"=true) (k52:keepIn K (.ref f52)=true)
    (a53:nsIn K mainGlobals "keep_fin"=some (some (.ref f53))) (l53:K.lookup f53=some ⟨oc53,od53,.func (fnOf "keep_fin" "keep_fin" (Zs ZjS) (Zp ZjS) (Zg ZjS) .none kV53 dc53 pm53 an53 cd53 ct53),sl53⟩) (c53:codeIn K cd53 "keep_fin"=true) (k53:keepIn K (.ref f53)=true)
    (a54:nsIn K mainGlobals "draw_in_order"=some (some (.ref f54))) (l54:K.lookup f54=some ⟨oc54,od54,.func (fnOf "draw_in_order" "draw_in_order" (Zs ZjR) (Zp ZjR) (Zg ZjR) .none kV54 dc54 pm54 an54 cd54 ct54),sl54⟩) (c54:codeIn K cd54 "draw_in_order"=true) (k54:keepIn K (.ref f54)=true)
    (a55:nsIn K mainGlobals "hear_fin"=some (some (.ref f55))) (l55:K.lookup f55=some ⟨oc55,od55,.func (fnOf "hear_fin" "hear_fin" (Zs ZjQ) (Zp ZjQ) (Zg ZjQ) .none kV55 dc55 pm55 an55 cd55 ct55),sl55⟩) (c55:codeIn K cd55 "hear_fin"=true) (k55:keepIn K (.ref f55)=true)
    (a56:nsIn K mainGlobals "opened"=some (some (.ref f56))) (l56:K.lookup f56=some ⟨oc56,od56,.func (fnOf "opened" "opened" (Zs ZjP) (Zp ZjP) (Zg ZjP) .none kV56 dc56 pm56 an56 cd56 ct56),sl56⟩) (c56:codeIn K cd56 "opened"=true) (k56:keepIn K (.ref f56)=true)
    (a57:nsIn K mainGlobals "read"=some (some (.ref f57))) (l57:K.lookup f57=some ⟨oc57,od57,.func (fnOf "read" "read" (Zs ZjO) (Zp ZjO) (Zg ZjO) .none kV57 dc57 pm57 an57 cd57 ct57),sl57⟩) (c57:codeIn K cd57 "read"=true) (k57:keepIn K (.ref f57)=true)
    (a58:nsIn K mainGlobals "send"=some (some (.ref f58))) (l58:K.lookup f58=some ⟨oc58,od58,.func (fnOf "send" "send" (Zs ZjN) (Zp ZjN) (Zg ZjN) .none kV58 dc58 pm58 an58 cd58 ct58),sl58⟩) (c58:codeIn K cd58 "send"=true) (k58:keepIn K (.ref f58)=true)
    (a59:nsIn K mainGlobals "going"=some (some (.ref f59))) (l59:K.lookup f59=some ⟨oc59,od59,.func (fnOf "going" "going" (Zs ZjM) (Zp ZjM) (Zg ZjM) .none kV59 dc59 pm59 an59 cd59 ct59),sl59⟩) (c59:codeIn K cd59 "going"=true) (k59:keepIn K (.ref f59)=true)
    (a60:nsIn K mainGlobals "paid_reset"=some (some (.ref f60))) (l60:K.lookup f60=some ⟨oc60,od60,.func (fnOf "paid_reset" "paid_reset" (Zs ZjL) (Zp ZjL) (Zg ZjL) .none kV60 dc60 pm60 an60 cd60 ct60),sl60⟩) (c60:codeIn K cd60 "paid_reset"=true) (k60:keepIn K (.ref f60)=true)
    (a61:nsIn K mainGlobals "is_due"=some (some (.ref f61))) (l61:K.lookup f61=some ⟨oc61,od61,.func (fnOf "is_due" "is_due" (Zs ZjK) (Zp ZjK) (Zg ZjK) .none kV61 dc61 pm61 an61 cd61 ct61),sl61⟩) (c61:codeIn K cd61 "is_due"=true) (k61:keepIn K (.ref f61)=true)
    (a62:nsIn K mainGlobals "again"=some (some (.ref f62))) (l62:K.lookup f62=some ⟨oc62,od62,.func (fnOf "again" "again" (Zs ZjJ) (Zp ZjJ) (Zg ZjJ) .none kV62 dc62 pm62 an62 cd62 ct62),sl62⟩) (c62:codeIn K cd62 "again"=true) (k62:keepIn K (.ref f62)=true)
    (a63:nsIn K mainGlobals "most_at_once"=some (some (.ref f63))) (l63:K.lookup f63=some ⟨oc63,od63,.func (fnOf "most_at_once" "most_at_once" (Zs ZjI) (Zp ZjI) (Zg ZjI) .none kV63 dc63 pm63 an63 cd63 ct63),sl63⟩) (c63:codeIn K cd63 "most_at_once"=true) (k63:keepIn K (.ref f63)=true)
    (a64:nsIn K mainGlobals "paid_syn"=some (some (.ref f64))) (l64:K.lookup f64=some ⟨oc64,od64,.func (fnOf "paid_syn" "paid_syn" (Zs ZjH) (Zp ZjH) (Zg ZjH) .none kV64 dc64 pm64 an64 cd64 ct64),sl64⟩) (c64:codeIn K cd64 "paid_syn"=true) (k64:keepIn K (.ref f64)=true)
    (a65:nsIn K mainGlobals "segment_of"=some (some (.ref f65))) (l65:K.lookup f65=some ⟨oc65,od65,.func (fnOf "segment_of" "segment_of" (Zs ZjG) (Zp ZjG) (Zg ZjG) .none kV65 dc65 pm65 an65 cd65 ct65),sl65⟩) (c65:codeIn K cd65 "segment_of"=true) (k65:keepIn K (.ref f65)=true)
    (a66:nsIn K mainGlobals "going_as_new"=some (some (.ref f66))) (l66:K.lookup f66=some ⟨oc66,od66,.func (fnOf "going_as_new" "going_as_new" (Zs ZjF) (Zp ZjF) (Zg ZjF) .none kV66 dc66 pm66 an66 cd66 ct66),sl66⟩) (c66:codeIn K cd66 "going_as_new"=true) (k66:keepIn K (.ref f66)=true)
    (a67:nsIn K mainGlobals "new_syn"=some (some (.ref f67))) (l67:K.lookup f67=some ⟨oc67,od67,.func (fnOf "new_syn" "new_syn" (Zs ZjE) (Zp ZjE) (Zg ZjE) .none kV67 dc67 pm67 an67 cd67 ct67),sl67⟩) (c67:codeIn K cd67 "new_syn"=true) (k67:keepIn K (.ref f67)=true)
    (a68:nsIn K mainGlobals "has_more"=some (some (.ref f68))) (l68:K.lookup f68=some ⟨oc68,od68,.func (fnOf "has_more" "has_more" (Zs ZjD) (Zp ZjD) (Zg ZjD) .none kV68 dc68 pm68 an68 cd68 ct68),sl68⟩) (c68:codeIn K cd68 "has_more"=true) (k68:keepIn K (.ref f68)=true)
    (a69:nsIn K mainGlobals "has_new_data"=some (some (.ref f69))) (l69:K.lookup f69=some ⟨oc69,od69,.func (fnOf "has_new_data" "has_new_data" (Zs ZjC) (Zp ZjC) (Zg ZjC) .none kV69 dc69 pm69 an69 cd69 ct69),sl69⟩) (c69:codeIn K cd69 "has_new_data"=true) (k69:keepIn K (.ref f69)=true)
    (a70:nsIn K mainGlobals "unsent"=some (some (.ref f70))) (l70:K.lookup f70=some ⟨oc70,od70,.func (fnOf "unsent" "unsent" (Zs ZjB) (Zp ZjB) (Zg ZjB) .none kV70 dc70 pm70 an70 cd70 ct70),sl70⟩) (c70:codeIn K cd70 "unsent"=true) (k70:keepIn K (.ref f70)=true)
    (a71:nsIn K mainGlobals "has_new_fin"=some (some (.ref f71))) (l71:K.lookup f71=some ⟨oc71,od71,.func (fnOf "has_new_fin" "has_new_fin" (Zs ZjA) (Zp ZjA) (Zg ZjA) .none kV71 dc71 pm71 an71 cd71 ct71),sl71⟩) (c71:codeIn K cd71 "has_new_fin"=true) (k71:keepIn K (.ref f71)=true)
    (a72:nsIn K mainGlobals "new_piece"=some (some (.ref f72))) (l72:K.lookup f72=some ⟨oc72,od72,.func (fnOf "new_piece" "new_piece" (Zs Zjz) (Zp Zjz) (Zg Zjz) .none kV72 dc72 pm72 an72 cd72 ct72),sl72⟩) (c72:codeIn K cd72 "new_piece"=true) (k72:keepIn K (.ref f72)=true)
    (a73:nsIn K mainGlobals "new_data"=some (some (.ref f73))) (l73:K.lookup f73=some ⟨oc73,od73,.func (fnOf "new_data" "new_data" (Zs Zjy) (Zp Zjy) (Zg Zjy) .none kV73 dc73 pm73 an73 cd73 ct73),sl73⟩) (c73:codeIn K cd73 "new_data"=true) (k73:keepIn K (.ref f73)=true)
    (a74:nsIn K mainGlobals "new_fin"=some (some (.ref f74))) (l74:K.lookup f74=some ⟨oc74,od74,.func (fnOf "new_fin" "new_fin" (Zs Zjx) (Zp Zjx) (Zg Zjx) .none kV74 dc74 pm74 an74 cd74 ct74),sl74⟩) (c74:codeIn K cd74 "new_fin"=true) (k74:keepIn K (.ref f74)=true)
    (a75:nsIn K mainGlobals "going_as_probe"=some (some (.ref f75))) (l75:K.lookup f75=some ⟨oc75,od75,.func (fnOf "going_as_probe" "going_as_probe" (Zs Zjw) (Zp Zjw) (Zg Zjw) .none kV75 dc75 pm75 an75 cd75 ct75),sl75⟩) (c75:codeIn K cd75 "going_as_probe"=true) (k75:keepIn K (.ref f75)=true)
    (a76:nsIn K mainGlobals "going_as_answer"=some (some (.ref f76))) (l76:K.lookup f76=some ⟨oc76,od76,.func (fnOf "going_as_answer" "going_as_answer" (Zs Zjv) (Zp Zjv) (Zg Zjv) .none kV76 dc76 pm76 an76 cd76 ct76),sl76⟩) (c76:codeIn K cd76 "going_as_answer"=true) (k76:keepIn K (.ref f76)=true)
    (a77:nsIn K mainGlobals "_law_cell"=some (some (.ref f77))) (l77:K.lookup f77=some ⟨oc77,od77,.func (fnOf "_law_cell" "_law_cell" (Zs Zju) (Zp Zju) (Zg Zju) .none kV77 dc77 pm77 an77 cd77 ct77),sl77⟩) (c77:codeIn K cd77 "_law_cell"=true) (k77:keepIn K (.ref f77)=true)
    (a78:nsIn K mainGlobals "_law_mix"=some (some (.ref f78))) (l78:K.lookup f78=some ⟨oc78,od78,.func (fnOf "_law_mix" "_law_mix" (Zs Zjt) (Zp Zjt) (Zg Zjt) .none kV78 dc78 pm78 an78 cd78 ct78),sl78⟩) (c78:codeIn K cd78 "_law_mix"=true) (k78:keepIn K (.ref f78)=true)
    (a79:nsIn K mainGlobals "_law_two"=some (some (.ref f79))) (l79:K.lookup f79=some ⟨oc79,od79,.func (fnOf "_law_two" "_law_two" (Zs Zjs) (Zp Zjs) (Zg Zjs) .none kV79 dc79 pm79 an79 cd79 ct79),sl79⟩) (c79:codeIn K cd79 "_law_two"=true) (k79:keepIn K (.ref f79)=true)
    (a80:nsIn K mainGlobals "_law_folded"=some (some (.ref f80))) (l80:K.lookup f80=some ⟨oc80,od80,.func (fnOf "_law_folded" "_law_folded" (Zs Zjr) (Zp Zjr) (Zg Zjr) .none kV80 dc80 pm80 an80 cd80 ct80),sl80⟩) (c80:codeIn K cd80 "_law_folded"=true) (k80:keepIn K (.ref f80)=true)
    (a81:nsIn K mainGlobals "_law_bytes"=some (some (.ref f81))) (l81:K.lookup f81=some ⟨oc81,od81,.func (fnOf "_law_bytes" "_law_bytes" (Zs Zjq) (Zp Zjq) (Zg Zjq) .none kV81 dc81 pm81 an81 cd81 ct81),sl81⟩) (c81:codeIn K cd81 "_law_bytes"=true) (k81:keepIn K (.ref f81)=true)
    (a82:nsIn K mainGlobals "_law_read"=some (some (.ref f82))) (l82:K.lookup f82=some ⟨oc82,od82,.func (fnOf "_law_read" "_law_read" (Zs ZhP) (Zp ZhP) (Zg ZhP) .none kV82 dc82 pm82 an82 cd82 ct82),sl82⟩) (c82:codeIn K cd82 "_law_read"=true) (k82:keepIn K (.ref f82)=true)
    (a83:nsIn K mainGlobals "_law_byte"=some (some (.ref f83))) (l83:K.lookup f83=some ⟨oc83,od83,.func (fnOf "_law_byte" "_law_byte" (Zs Zjp) (Zp Zjp) (Zg Zjp) .none kV83 dc83 pm83 an83 cd83 ct83),sl83⟩) (c83:codeIn K cd83 "_law_byte"=true) (k83:keepIn K (.ref f83)=true)
    (a84:nsIn K mainGlobals "_law_plus"=some (some (.ref f84))) (l84:K.lookup f84=some ⟨oc84,od84,.func (fnOf "_law_plus" "_law_plus" (Zs Zjo) (Zp Zjo) (Zg Zjo) .none kV84 dc84 pm84 an84 cd84 ct84),sl84⟩) (c84:codeIn K cd84 "_law_plus"=true) (k84:keepIn K (.ref f84)=true)
    (a85:nsIn K mainGlobals "_law_first"=some (some (.ref f85))) (l85:K.lookup f85=some ⟨oc85,od85,.func (fnOf "_law_first" "_law_first" (Zs Zjn) (Zp Zjn) (Zg Zjn) .none kV85 dc85 pm85 an85 cd85 ct85),sl85⟩) (c85:codeIn K cd85 "_law_first"=true) (k85:keepIn K (.ref f85)=true)
    (a86:nsIn K mainGlobals "_law_segment"=some (some (.ref f86))) (l86:K.lookup f86=some ⟨oc86,od86,.func (fnOf "_law_segment" "_law_segment" (Zs Zjm) (Zp Zjm) (Zg Zjm) .none kV86 dc86 pm86 an86 cd86 ct86),sl86⟩) (c86:codeIn K cd86 "_law_segment"=true) (k86:keepIn K (.ref f86)=true)
    (a87:nsIn K mainGlobals "_law_given"=some (some (.ref f87))) (l87:K.lookup f87=some ⟨oc87,od87,.func (fnOf "_law_given" "_law_given" (Zs Zjl) (Zp Zjl) (Zg Zjl) .none kV87 dc87 pm87 an87 cd87 ct87),sl87⟩) (c87:codeIn K cd87 "_law_given"=true) (k87:keepIn K (.ref f87)=true)
    (a88:nsIn K mainGlobals "_law_opened"=some (some (.ref f88))) (l88:K.lookup f88=some ⟨oc88,od88,.func (fnOf "_law_opened" "_law_opened" (Zs Zjk) (Zp Zjk) (Zg Zjk) .none kV88 dc88 pm88 an88 cd88 ct88),sl88⟩) (c88:codeIn K cd88 "_law_opened"=true) (k88:keepIn K (.ref f88)=true)
    (a89:nsIn K mainGlobals "_law_fill"=some (some (.ref f89))) (l89:K.lookup f89=some ⟨oc89,od89,.func (fnOf "_law_fill" "_law_fill" (Zs Zjj) (Zp Zjj) (Zg Zjj) .none kV89 dc89 pm89 an89 cd89 ct89),sl89⟩) (c89:codeIn K cd89 "_law_fill"=true) (k89:keepIn K (.ref f89)=true)
    (a90:nsIn K mainGlobals "_law_fits"=some (some (.ref f90))) (l90:K.lookup f90=some ⟨oc90,od90,.func (fnOf "_law_fits" "_law_fits" (Zs Zji) (Zp Zji) (Zg Zji) .none kV90 dc90 pm90 an90 cd90 ct90),sl90⟩) (c90:codeIn K cd90 "_law_fits"=true) (k90:keepIn K (.ref f90)=true)
    (a91:nsIn K mainGlobals "_law_come"=some (some (.ref f91))) (l91:K.lookup f91=some ⟨oc91,od91,.func (fnOf "_law_come" "_law_come" (Zs Zjh) (Zp Zjh) (Zg Zjh) .none kV91 dc91 pm91 an91 cd91 ct91),sl91⟩) (c91:codeIn K cd91 "_law_come"=true) (k91:keepIn K (.ref f91)=true)
    (a92:nsIn K mainGlobals "law"=some (some (.ref f92))) (l92:K.lookup f92=some ⟨oc92,od92,.func (fnOf "law" "law" (Zs Zf7) (Zp Zf7) (Zg Zf7) .none kV92 dc92 pm92 an92 cd92 ct92),sl92⟩) (c92:codeIn K cd92 "law"=true) (k92:keepIn K (.ref f92)=true)
    (pg_End:plainGet K C_End Str.empty=true) (hd_End:hasDictIn K C_End=true) (po_End:plainOver K C_End=true) (sa_End:findIn K (.ref C_End) "__setattr__"=some (some (.builtin "object.__setattr__"))) (mk_End:makesIn K C_End=true) (kc_End:keepIn K (.ref C_End)=true)
    (pg_Pile:plainGet K C_Pile Str.empty=true) (hd_Pile:hasDictIn K C_Pile=true) (po_Pile:plainOver K C_Pile=true) (sa_Pile:findIn K (.ref C_Pile) "__setattr__"=some (some (.builtin "object.__setattr__"))) (mk_Pile:makesIn K C_Pile=true) (kc_Pile:keepIn K (.ref C_Pile)=true)
    (zA0:findIn K (.ref C_End) "behind"=some none)
    (zA1:findIn K (.ref C_End) "come"=some none)
    (zA2:findIn K (.ref C_End) "early"=some none)
    (zA3:findIn K (.ref C_End) "early_fin"=some none)
    (zA4:findIn K (.ref C_End) "error"=some none)
    (zA5:findIn K (.ref C_End) "first"=some none)
    (zA6:findIn K (.ref C_End) "has_closed"=some none)
    (zA7:findIn K (.ref C_End) "most"=some none)
    (zA8:findIn K (.ref C_End) "nxt"=some none)
    (zA9:findIn K (.ref C_End) "ours"=some none)
    (zA10:findIn K (.ref C_End) "owed_reset"=some none)
    (zA11:findIn K (.ref C_End) "owes_answer"=some none)
    (zA12:findIn K (.ref C_End) "owes_syn"=some none)
    (zA13:findIn K (.ref C_End) "probes"=some none)
    (zA14:findIn K (.ref C_End) "rcv"=some none)
    (zA15:findIn K (.ref C_End) "since"=some none)
    (zA16:findIn K (.ref C_End) "state"=some none)
    (zA17:findIn K (.ref C_End) "theirs"=some none)
    (zA18:findIn K (.ref C_End) "told"=some none)
    (zA19:findIn K (.ref C_End) "told_by"=some none)
    (zA20:findIn K (.ref C_End) "tries"=some none)
    (zA21:findIn K (.ref C_End) "una"=some none)
    (zA22:findIn K (.ref C_End) "wait"=some none)
    (zA23:findIn K (.ref C_End) "wnd"=some none)
    (zA24:findIn K (.ref C_End) "written"=some none)
    (zA25:findIn K (.ref C_Pile) "row"=some none)
    (zg0:nsIn K mainGlobals "ACK"=some (some (.int 16 zt0)))
    (zg1:nsIn K mainGlobals "ANSWER"=some (some (.int 3 zt1)))
    (zg2:nsIn K mainGlobals "CLOSED"=some (some (.str "closed" zt2)))
    (zg3:nsIn K mainGlobals "CLOSE_WAIT"=some (some (.str "close wait" zt3)))
    (zg4:nsIn K mainGlobals "CLOSING"=some (some (.str "closing" zt4)))
    (zg5:nsIn K mainGlobals "DATA"=some (some (.int 7 zt5)))
    (zg6:nsIn K mainGlobals "FIN"=some (some (.int 1 zt6)))
    (zg7:nsIn K mainGlobals "FIRST_WAIT"=some (some (.int 1000 zt7)))
    (zg8:nsIn K mainGlobals "FLAGS"=some (some (.int 4 zt8)))
    (zg9:nsIn K mainGlobals "GOAL"=some (some (.int 1 zt9)))
    (zg10:nsIn K mainGlobals "GREATEST_DATA"=some (some (.int 16 zt10)))
    (zg11:nsIn K mainGlobals "GREATEST_FLAGS"=some (some (.int 31 zt11)))
    (zg12:nsIn K mainGlobals "GREATEST_WORD"=some (some (.int 65535 zt12)))
    (zg13:nsIn K mainGlobals "HALF_ROUND"=some (some (.int 2147483648 zt13)))
    (zg14:nsIn K mainGlobals "LAST_ACK"=some (some (.str "last ack" zt14)))
    (zg15:nsIn K mainGlobals "LAST_WAIT"=some (some (.int 120000 zt15)))
    (zg16:nsIn K mainGlobals "LEAST_MOST"=some (some (.int 4 zt16)))
    (zg17:nsIn K mainGlobals "LISTEN"=some (some (.str "listen" zt17)))
    (zg18:nsIn K mainGlobals "LONGEST_WAIT"=some (some (.int 16000 zt18)))
    (zg19:nsIn K mainGlobals "LONG_HEAD"=some (some (.int 24 zt19)))
    (zg20:nsIn K mainGlobals "MOST"=some (some (.int 6 zt20)))
    (zg21:nsIn K mainGlobals "MOST_TRIES"=some (some (.int 6 zt21)))
    (zg22:nsIn K mainGlobals "MOST_UNTOLD"=some (some (.int 12 zt22)))
    (zg23:nsIn K mainGlobals "NO_ERROR"=some (some (.str "" zt23)))
    (zg24:nsIn K mainGlobals "NUMBER"=some (some (.int 2 zt24)))
    (zg25:nsIn K mainGlobals "OPEN"=some (some (.str "open" zt25)))
    (zg26:nsIn K mainGlobals "PSH"=some (some (.int 8 zt26)))
    (zg27:nsIn K mainGlobals "REFUSED"=some (some (.str "refused" zt27)))
    (zg28:nsIn K mainGlobals "RESET"=some (some (.str "reset" zt28)))
    (zg29:nsIn K mainGlobals "RIGHT_SUM"=some (some (.int 65535 zt29)))
    (zg30:nsIn K mainGlobals "ROOM"=some (some (.int 64 zt30)))
    (zg31:nsIn K mainGlobals "ROUND"=some (some (.int 4294967296 zt31)))
    (zg32:nsIn K mainGlobals "RST"=some (some (.int 4 zt32)))
    (zg33:nsIn K mainGlobals "SHORT_HEAD"=some (some (.int 20 zt33)))
    (zg34:nsIn K mainGlobals "SOURCE"=some (some (.int 0 zt34)))
    (zg35:nsIn K mainGlobals "SYN"=some (some (.int 2 zt35)))
    (zg36:nsIn K mainGlobals "SYN_COME"=some (some (.str "syn come" zt36)))
    (zg37:nsIn K mainGlobals "SYN_SENT"=some (some (.str "syn sent" zt37)))
    (zg38:nsIn K mainGlobals "TIME"=some (some (.str "time" zt38)))
    (zg39:nsIn K mainGlobals "TIME_WAIT"=some (some (.str "time wait" zt39)))
    (zg40:nsIn K mainGlobals "WAIT_ONE"=some (some (.str "wait one" zt40)))
    (zg41:nsIn K mainGlobals "WAIT_TWO"=some (some (.str "wait two" zt41)))
    (zg42:nsIn K mainGlobals "WINDOW"=some (some (.int 5 zt42)))
    (zg43:nsIn K mainGlobals "WORDS"=some (some (.int 65536 zt43)))
    (z_all:nsIn K mainGlobals "all"=some none)
    (z_bool:nsIn K mainGlobals "bool"=some none)
    (z_enumerate:nsIn K mainGlobals "enumerate"=some none)
    (z_int:nsIn K mainGlobals "int"=some none)
    (z_isinstance:nsIn K mainGlobals "isinstance"=some none)
    (z_len:nsIn K mainGlobals "len"=some none)
    (z_list:nsIn K mainGlobals "list"=some none)
    (z_max:nsIn K mainGlobals "max"=some none)
    (z_min:nsIn K mainGlobals "min"=some none)
    (z_range:nsIn K mainGlobals "range"=some none)
    (z_sum:nsIn K mainGlobals "sum"=some none)
    (z_tuple:nsIn K mainGlobals "tuple"=some none) :
    ∃fd:FuncData,(∀(s:Shared) (v:Value),BindsTo s fd ⟨[v],[]⟩ [("_law_script",v)])∧∀base:Heap,K.In base→base.Ns mainGlobals mg→FnOk l.prog w K mg base CX0 11 fa fd ["_law_script"] (Zmk K):=by
  have e:=hfa.symm.trans (mg_of X G a92)
  cases e
  have eC_End:C_End=z6 mg "End":=(ZmX (mg_of X G aC_End)).symm
  have eC_Pile:C_Pile=z6 mg "Pile":=(ZmX (mg_of X G aC_Pile)).symm
  subst eC_End
  subst eC_Pile
  have g:Glb K mg:=⟨⟨_,mg_of X G zg0⟩,⟨_,mg_of X G zg1⟩,⟨_,mg_of X G zg2⟩,⟨_,mg_of X G zg3⟩,⟨_,mg_of X G zg4⟩,⟨_,mg_of X G zg5⟩,⟨_,mg_of X G zg6⟩,⟨_,mg_of X G zg7⟩,⟨_,mg_of X G zg8⟩,⟨_,mg_of X G zg9⟩,⟨_,mg_of X G zg10⟩,⟨_,mg_of X G zg11⟩,⟨_,mg_of X G zg12⟩,⟨_,mg_of X G zg13⟩,⟨_,mg_of X G zg14⟩,⟨_,mg_of X G zg15⟩,⟨_,mg_of X G zg16⟩,⟨_,mg_of X G zg17⟩,⟨_,mg_of X G zg18⟩,⟨_,mg_of X G zg19⟩,⟨_,mg_of X G zg20⟩,⟨_,mg_of X G zg21⟩,⟨_,mg_of X G zg22⟩,⟨_,mg_of X G zg23⟩,⟨_,mg_of X G zg24⟩,⟨_,mg_of X G zg25⟩,⟨_,mg_of X G zg26⟩,⟨_,mg_of X G zg27⟩,⟨_,mg_of X G zg28⟩,⟨_,mg_of X G zg29⟩,⟨_,mg_of X G zg30⟩,⟨_,mg_of X G zg31⟩,⟨_,mg_of X G zg32⟩,⟨_,mg_of X G zg33⟩,⟨_,mg_of X G zg34⟩,⟨_,mg_of X G zg35⟩,⟨_,mg_of X G zg36⟩,⟨_,mg_of X G zg37⟩,⟨_,mg_of X G zg38⟩,⟨_,mg_of X G zg39⟩,⟨_,mg_of X G zg40⟩,⟨_,mg_of X G zg41⟩,⟨_,mg_of X G zg42⟩,⟨_,mg_of X G zg43⟩,mg_none_of X G z_all,mg_none_of X G z_bool,mg_none_of X G z_enumerate,mg_none_of X G z_int,mg_none_of X G z_isinstance,mg_none_of X G z_len,mg_none_of X G z_list,mg_none_of X G z_max,mg_none_of X G z_min,mg_none_of X G z_range,mg_none_of X G z_sum,mg_none_of X G z_tuple,⟨pg_End,hd_End,po_End,sa_End⟩,⟨pg_Pile,hd_Pile,po_Pile,sa_Pile⟩,zA0,zA1,zA2,zA3,zA4,zA5,zA6,zA7,zA8,zA9,zA10,zA11,zA12,zA13,zA14,zA15,zA16,zA17,zA18,zA19,zA20,zA21,zA22,zA23,zA24,zA25⟩
  have F0:=Zy (st:=zs0) l0 c0 k0
  have b0:=F0.binds (ps:=zP0) fun _ _ _ _ _ _=>us1 fun _=>rfl
  have D0:Mk0 K mg "Pile" "Pile.__init__" zs0 zP0:=⟨_,_,F0,b0,⟨mk_Pile,a0,i0,kc_Pile⟩,mg_of X G aC_Pile⟩
  have F1:=Zy (st:=zs1) l1 c1 k1
  have b1:=F1.binds (ps:=zP1) fun _ _ _ _ _ _=>us1 fun _=>rfl
  have D1:Zm K mg "room" zs1 zP1:=⟨_,_,F1,b1,mg_of X G a1⟩
  have F2:=Zy (st:=zs2) l2 c2 k2
  have b2:=F2.binds (ps:=zP2) fun _ _ _ _ _ _=>us2 fun _ _=>rfl
  have D2:Zm K mg "lay" zs2 zP2:=⟨_,_,F2,b2,mg_of X G a2⟩
  have F3:=Zy (st:=zs3) l3 c3 k3
  have b3:=F3.binds (ps:=zP3) fun _ _ _ _ _ _=>us2 fun _ _=>rfl
  have D3:Zm K mg "take" zs3 zP3:=⟨_,_,F3,b3,mg_of X G a3⟩
  have F4:=Zy (st:=zs4) l4 c4 k4
  have b4:=F4.binds (ps:=zP4) fun _ _ _ _ _ _=>us2 fun _ _=>rfl
  have D4:Zm K mg "plus" zs4 zP4:=⟨_,_,F4,b4,mg_of X G a4⟩
  have F5:=Zy (st:=zs5) l5 c5 k5
  have b5:=F5.binds (ps:=zP5) fun _ _ _ _ _ _=>us2 fun _ _=>rfl
  have D5:Zm K mg "offset" zs5 zP5:=⟨_,_,F5,b5,mg_of X G a5⟩
  have F6:=Zy (st:=zs6) l6 c6 k6
  have b6:=F6.binds (ps:=zP6) fun _ _ _ _ _ _=>us2 fun _ _=>rfl
  have D6:Zm K mg "past" zs6 zP6:=⟨_,_,F6,b6,mg_of X G a6⟩
  have F7:=Zy (st:=zs7) l7 c7 k7
  have b7:=F7.binds (ps:=zP7) fun _ _ _ _ _ _=>us5 fun _ _ _ _ _=>rfl
  have D7:Mk0 K mg "End" "End.__init__" zs7 zP7:=⟨_,_,F7,b7,⟨mk_End,a7,i7,kc_End⟩,mg_of X G aC_End⟩
  have F8:=Zy (st:=zs8) l8 c8 k8
  have b8:=F8.binds (ps:=zP8) fun _ _ _ _ _ _=>us2 fun _ _=>rfl
  have D8:Zm K mg "start_timer" zs8 zP8:=⟨_,_,F8,b8,mg_of X G a8⟩
  have F9:=Zy (st:=zs9) l9 c9 k9
  have b9:=F9.binds (ps:=zP9) fun _ _ _ _ _ _=>us1 fun _=>rfl
  have D9:Zm K mg "state" zs9 zP9:=⟨_,_,F9,b9,mg_of X G a9⟩
  have F10:=Zy (st:=Zkz) l10 c10 k10
  have b10:=F10.binds (ps:=Zo6) fun _ _ _ _ _ _=>us1 fun _=>rfl
  have D10:Zm K mg "our_window" Zkz Zo6:=⟨_,_,F10,b10,mg_of X G a10⟩
  have F11:=Zy (st:=Zky) l11 c11 k11
  have b11:=F11.binds (ps:=Zo5) fun _ _ _ _ _ _=>us1 fun _=>rfl
  have D11:Zm K mg "has_sent_fin" Zky Zo5:=⟨_,_,F11,b11,mg_of X G a11⟩
  have F12:=Zy (st:=Zkx) l12 c12 k12
  have b12:=F12.binds (ps:=Zo4) fun _ _ _ _ _ _=>us1 fun _=>rfl
  have D12:Zm K mg "folded" Zkx Zo4:=⟨_,_,F12,b12,mg_of X G a12⟩
  have F13:=Zy (st:=Zkw) l13 c13 k13
  have b13:=F13.binds (ps:=Zo3) fun _ _ _ _ _ _=>us1 fun _=>rfl
  have D13:Zm K mg "sum_of" Zkw Zo3:=⟨_,_,F13,b13,mg_of X G a13⟩
  have F14:=Zy (st:=Zkv) l14 c14 k14
  have b14:=F14.binds (ps:=Zo2) fun _ _ _ _ _ _=>us1 fun _=>rfl
  have D14:Zm K mg "length" Zkv Zo2:=⟨_,_,F14,b14,mg_of X G a14⟩
  have F15:=Zy (st:=Zku) l15 c15 k15
  have b15:=F15.binds (ps:=Zo1) fun _ _ _ _ _ _=>us2 fun _ _=>rfl
  have D15:Zm K mg "has" Zku Zo1:=⟨_,_,F15,b15,mg_of X G a15⟩
  have F16:=Zy (st:=Zkt) l16 c16 k16
  have b16:=F16.binds (ps:=Zo0) fun _ _ _ _ _ _=>us2 fun _ _=>rfl
  have D16:Zm K mg "bears" Zkt Zo0:=⟨_,_,F16,b16,mg_of X G a16⟩
  have F17:=Zy (st:=Zks) l17 c17 k17
  have b17:=F17.binds (ps:=ZoZ) fun _ _ _ _ _ _=>us1 fun _=>rfl
  have D17:Zm K mg "put" Zks ZoZ:=⟨_,_,F17,b17,mg_of X G a17⟩
  have F18:=Zy (st:=Zkr) l18 c18 k18
  have b18:=F18.binds (ps:=ZoY) fun _ _ _ _ _ _=>us1 fun _=>rfl
  have D18:Zm K mg "bytes_ahead_of_sum" Zkr ZoY:=⟨_,_,F18,b18,mg_of X G a18⟩
  have F19:=Zy (st:=Zkq) l19 c19 k19
  have b19:=F19.binds (ps:=ZoX) fun _ _ _ _ _ _=>us1 fun _=>rfl
  have D19:Zm K mg "byte_of_head" Zkq ZoX:=⟨_,_,F19,b19,mg_of X G a19⟩
  have F20:=Zy (st:=Zkp) l20 c20 k20
  have b20:=F20.binds (ps:=ZoW) fun _ _ _ _ _ _=>us1 fun _=>rfl
  have D20:Zm K mg "bytes_of_most" Zkp ZoW:=⟨_,_,F20,b20,mg_of X G a20⟩
  have F21:=Zy (st:=Zko) l21 c21 k21
  have b21:=F21.binds (ps:=ZoV) fun _ _ _ _ _ _=>us1 fun _=>rfl
  have D21:Zm K mg "two_bytes" Zko ZoV:=⟨_,_,F21,b21,mg_of X G a21⟩
  have F22:=Zy (st:=Zkn) l22 c22 k22
  have b22:=F22.binds (ps:=ZoU) fun _ _ _ _ _ _=>us1 fun _=>rfl
  have D22:Zm K mg "four_bytes" Zkn ZoU:=⟨_,_,F22,b22,mg_of X G a22⟩
  have F23:=Zy (st:=Zkm) l23 c23 k23
  have b23:=F23.binds (ps:=ZoT) fun _ _ _ _ _ _=>us1 fun _=>rfl
  have D23:Zm K mg "is_right" Zkm ZoT:=⟨_,_,F23,b23,mg_of X G a23⟩
  have F24:=Zy (st:=Zkl) l24 c24 k24
  have b24:=F24.binds (ps:=ZoS) fun _ _ _ _ _ _=>us1 fun _=>rfl
  have D24:Zm K mg "head_of" Zkl ZoS:=⟨_,_,F24,b24,mg_of X G a24⟩
  have F25:=Zy (st:=Zkk) l25 c25 k25
  have b25:=F25.binds (ps:=ZoR) fun _ _ _ _ _ _=>us1 fun _=>rfl
  have D25:Zm K mg "is_right_long_head" Zkk ZoR:=⟨_,_,F25,b25,mg_of X G a25⟩
  have F26:=Zy (st:=Zkj) l26 c26 k26
  have b26:=F26.binds (ps:=ZoQ) fun _ _ _ _ _ _=>us1 fun _=>rfl
  have D26:Zm K mg "get" Zkj ZoQ:=⟨_,_,F26,b26,mg_of X G a26⟩
  have F27:=Zy (st:=Zki) l27 c27 k27
  have b27:=F27.binds (ps:=ZoP) fun _ _ _ _ _ _=>us2 fun _ _=>rfl
  have D27:Zm K mg "two_at" Zki ZoP:=⟨_,_,F27,b27,mg_of X G a27⟩
  have F28:=Zy (st:=Zkh) l28 c28 k28
  have b28:=F28.binds (ps:=ZoO) fun _ _ _ _ _ _=>us2 fun _ _=>rfl
  have D28:Zm K mg "four_at" Zkh ZoO:=⟨_,_,F28,b28,mg_of X G a28⟩
  have F29:=Zy (st:=Zkg) l29 c29 k29
  have b29:=F29.binds (ps:=ZoN) fun _ _ _ _ _ _=>us1 fun _=>rfl
  have D29:Zm K mg "reset_for" Zkg ZoN:=⟨_,_,F29,b29,mg_of X G a29⟩
  have F30:=Zy (st:=Zkf) l30 c30 k30
  have b30:=F30.binds (ps:=ZoM) fun _ _ _ _ _ _=>us2 fun _ _=>rfl
  have D30:Zm K mg "owe_reset_for" Zkf ZoM:=⟨_,_,F30,b30,mg_of X G a30⟩
  have F31:=Zy (st:=Zke) l31 c31 k31
  have b31:=F31.binds (ps:=ZoL) fun _ _ _ _ _ _=>us2 fun _ _=>rfl
  have D31:Zm K mg "come_to_closed" Zke ZoL:=⟨_,_,F31,b31,mg_of X G a31⟩
  have F32:=Zy (st:=Zkd) l32 c32 k32
  have b32:=F32.binds (ps:=ZoK) fun _ _ _ _ _ _=>us2 fun _ _=>rfl
  have D32:Zm K mg "come_to_listen" Zkd ZoK:=⟨_,_,F32,b32,mg_of X G a32⟩
  have F33:=Zy (st:=Zkc) l33 c33 k33
  have b33:=F33.binds (ps:=ZoJ) fun _ _ _ _ _ _=>us2 fun _ _=>rfl
  have D33:Zm K mg "hear_syn" Zkc ZoJ:=⟨_,_,F33,b33,mg_of X G a33⟩
  have F34:=Zy (st:=Zkb) l34 c34 k34
  have b34:=F34.binds (ps:=ZoI) fun _ _ _ _ _ _=>us3 fun _ _ _=>rfl
  have D34:Zm K mg "come_to_syn_sent" Zkb ZoI:=⟨_,_,F34,b34,mg_of X G a34⟩
  have F35:=Zy (st:=Zka) l35 c35 k35
  have b35:=F35.binds (ps:=ZoH) fun _ _ _ _ _ _=>us2 fun _ _=>rfl
  have D35:Zm K mg "answers_syn" Zka ZoH:=⟨_,_,F35,b35,mg_of X G a35⟩
  have F36:=Zy (st:=Zj9) l36 c36 k36
  have b36:=F36.binds (ps:=ZoG) fun _ _ _ _ _ _=>us2 fun _ _=>rfl
  have D36:Zm K mg "refuse" Zj9 ZoG:=⟨_,_,F36,b36,mg_of X G a36⟩
  have F37:=Zy (st:=Zj8) l37 c37 k37
  have b37:=F37.binds (ps:=ZoF) fun _ _ _ _ _ _=>us3 fun _ _ _=>rfl
  have D37:Zm K mg "go_on_from_syn_sent" Zj8 ZoF:=⟨_,_,F37,b37,mg_of X G a37⟩
  have F38:=Zy (st:=Zj7) l38 c38 k38
  have b38:=F38.binds (ps:=ZoE) fun _ _ _ _ _ _=>us3 fun _ _ _=>rfl
  have D38:Zm K mg "arrive" Zj7 ZoE:=⟨_,_,F38,b38,mg_of X G a38⟩
  have F39:=Zy (st:=Zj6) l39 c39 k39
  have b39:=F39.binds (ps:=ZoD) fun _ _ _ _ _ _=>us2 fun _ _=>rfl
  have D39:Zm K mg "is_for" Zj6 ZoD:=⟨_,_,F39,b39,mg_of X G a39⟩
  have F40:=Zy (st:=Zj5) l40 c40 k40
  have b40:=F40.binds (ps:=ZoC) fun _ _ _ _ _ _=>us3 fun _ _ _=>rfl
  have D40:Zm K mg "come_to_stream" Zj5 ZoC:=⟨_,_,F40,b40,mg_of X G a40⟩
  have F41:=Zy (st:=Zj4) l41 c41 k41
  have b41:=F41.binds (ps:=ZoB) fun _ _ _ _ _ _=>us2 fun _ _=>rfl
  have D41:Zm K mg "fits" Zj4 ZoB:=⟨_,_,F41,b41,mg_of X G a41⟩
  have F42:=Zy (st:=Zj3) l42 c42 k42
  have b42:=F42.binds (ps:=ZoA) fun _ _ _ _ _ _=>us2 fun _ _=>rfl
  have D42:Zm K mg "is_in_window" Zj3 ZoA:=⟨_,_,F42,b42,mg_of X G a42⟩
  have F43:=Zy (st:=Zj2) l43 c43 k43
  have b43:=F43.binds (ps:=Zoz) fun _ _ _ _ _ _=>us3 fun _ _ _=>rfl
  have D43:Zm K mg "turn_away" Zj2 Zoz:=⟨_,_,F43,b43,mg_of X G a43⟩
  have F44:=Zy (st:=Zj1) l44 c44 k44
  have b44:=F44.binds (ps:=Zoy) fun _ _ _ _ _ _=>us2 fun _ _=>rfl
  have D44:Zm K mg "hear_reset" Zj1 Zoy:=⟨_,_,F44,b44,mg_of X G a44⟩
  have F45:=Zy (st:=Zj0) l45 c45 k45
  have b45:=F45.binds (ps:=Zox) fun _ _ _ _ _ _=>us3 fun _ _ _=>rfl
  have D45:Zm K mg "goes_on_behind_answer" Zj0 Zox:=⟨_,_,F45,b45,mg_of X G a45⟩
  have F46:=Zy (st:=ZjZ) l46 c46 k46
  have b46:=F46.binds (ps:=Zow) fun _ _ _ _ _ _=>us2 fun _ _=>rfl
  have D46:Zm K mg "has_answered_syn" ZjZ Zow:=⟨_,_,F46,b46,mg_of X G a46⟩
  have F47:=Zy (st:=ZjY) l47 c47 k47
  have b47:=F47.binds (ps:=Zov) fun _ _ _ _ _ _=>us2 fun _ _=>rfl
  have D47:Zm K mg "take_window" ZjY Zov:=⟨_,_,F47,b47,mg_of X G a47⟩
  have F48:=Zy (st:=ZjX) l48 c48 k48
  have b48:=F48.binds (ps:=Zou) fun _ _ _ _ _ _=>us3 fun _ _ _=>rfl
  have D48:Zm K mg "hear_answer" ZjX Zou:=⟨_,_,F48,b48,mg_of X G a48⟩
  have F49:=Zy (st:=ZjW) l49 c49 k49
  have b49:=F49.binds (ps:=Zot) fun _ _ _ _ _ _=>us2 fun _ _=>rfl
  have D49:Zm K mg "is_newer" ZjW Zot:=⟨_,_,F49,b49,mg_of X G a49⟩
  have F50:=Zy (st:=ZjV) l50 c50 k50
  have b50:=F50.binds (ps:=Zos) fun _ _ _ _ _ _=>us2 fun _ _=>rfl
  have D50:Zm K mg "end_what_is_acknowledged" ZjV Zos:=⟨_,_,F50,b50,mg_of X G a50⟩
  have F51:=Zy (st:=ZjU) l51 c51 k51
  have b51:=F51.binds (ps:=Zor) fun _ _ _ _ _ _=>us3 fun _ _ _=>rfl
  have D51:Zm K mg "hear_stream" ZjU Zor:=⟨_,_,F51,b51,mg_of X G a51⟩
  have F52:=Zy (st:=ZjT) l52 c52 k52
  have b52:=F52.binds (ps:=Zoq) fun _ _ _ _ _ _=>us2 fun _ _=>rfl
  have D52:Zm K mg "keep_data" ZjT Zoq:=⟨_,_,F52,b52,mg_of X G a52⟩
  have F53:=Zy (st:=ZjS) l53 c53 k53
  have b53:=F53.binds (ps:=Zop) fun _ _ _ _ _ _=>us2 fun _ _=>rfl
  have D53:Zm K mg "keep_fin" ZjS Zop:=⟨_,_,F53,b53,mg_of X G a53⟩
  have F54:=Zy (st:=ZjR) l54 c54 k54
  have b54:=F54.binds (ps:=Zoo) fun _ _ _ _ _ _=>us1 fun _=>rfl
  have D54:Zm K mg "draw_in_order" ZjR Zoo:=⟨_,_,F54,b54,mg_of X G a54⟩
  have F55:=Zy (st:=ZjQ) l55 c55 k55
  have b55:=F55.binds (ps:=Zon) fun _ _ _ _ _ _=>us2 fun _ _=>rfl
  have D55:Zm K mg "hear_fin" ZjQ Zon:=⟨_,_,F55,b55,mg_of X G a55⟩
  have F56:=Zy (st:=ZjP) l56 c56 k56
  have b56:=F56.binds (ps:=Zom) fun _ _ _ _ _ _=>us4 fun _ _ _ _=>rfl
  have D56:Zm K mg "opened" ZjP Zom:=⟨_,_,F56,b56,mg_of X G a56⟩
  have F57:=Zy (st:=ZjO) l57 c57 k57
  have b57:=F57.binds (ps:=Zol) fun _ _ _ _ _ _=>us2 fun _ _=>rfl
  have D57:Zm K mg "read" ZjO Zol:=⟨_,_,F57,b57,mg_of X G a57⟩
  have F58:=Zy (st:=ZjN) l58 c58 k58
  have b58:=F58.binds (ps:=Zok) fun _ _ _ _ _ _=>us2 fun _ _=>rfl
  have D58:Zm K mg "send" ZjN Zok:=⟨_,_,F58,b58,mg_of X G a58⟩
  have F59:=Zy (st:=ZjM) l59 c59 k59
  have b59:=F59.binds (ps:=Zoj) fun _ _ _ _ _ _=>us2 fun _ _=>rfl
  have D59:Zm K mg "going" ZjM Zoj:=⟨_,_,F59,b59,mg_of X G a59⟩
  have F60:=Zy (st:=ZjL) l60 c60 k60
  have b60:=F60.binds (ps:=Zoi) fun _ _ _ _ _ _=>us1 fun _=>rfl
  have D60:Zm K mg "paid_reset" ZjL Zoi:=⟨_,_,F60,b60,mg_of X G a60⟩
  have F61:=Zy (st:=ZjK) l61 c61 k61
  have b61:=F61.binds (ps:=Zoh) fun _ _ _ _ _ _=>us2 fun _ _=>rfl
  have D61:Zm K mg "is_due" ZjK Zoh:=⟨_,_,F61,b61,mg_of X G a61⟩
  have F62:=Zy (st:=ZjJ) l62 c62 k62
  have b62:=F62.binds (ps:=Zog) fun _ _ _ _ _ _=>us2 fun _ _=>rfl
  have D62:Zm K mg "again" ZjJ Zog:=⟨_,_,F62,b62,mg_of X G a62⟩
  have F63:=Zy (st:=ZjI) l63 c63 k63
  have b63:=F63.binds (ps:=Zof) fun _ _ _ _ _ _=>us1 fun _=>rfl
  have D63:Zm K mg "most_at_once" ZjI Zof:=⟨_,_,F63,b63,mg_of X G a63⟩
  have F64:=Zy (st:=ZjH) l64 c64 k64
  have b64:=F64.binds (ps:=Zoe) fun _ _ _ _ _ _=>us1 fun _=>rfl
  have D64:Zm K mg "paid_syn" ZjH Zoe:=⟨_,_,F64,b64,mg_of X G a64⟩
  have F65:=Zy (st:=ZjG) l65 c65 k65
  have b65:=F65.binds (ps:=Zod) fun _ _ _ _ _ _=>us4 fun _ _ _ _=>rfl
  have D65:Zm K mg "segment_of" ZjG Zod:=⟨_,_,F65,b65,mg_of X G a65⟩
  have F66:=Zy (st:=ZjF) l66 c66 k66
  have b66:=F66.binds (ps:=Zoc) fun _ _ _ _ _ _=>us2 fun _ _=>rfl
  have D66:Zm K mg "going_as_new" ZjF Zoc:=⟨_,_,F66,b66,mg_of X G a66⟩
  have F67:=Zy (st:=ZjE) l67 c67 k67
  have b67:=F67.binds (ps:=Zob) fun _ _ _ _ _ _=>us2 fun _ _=>rfl
  have D67:Zm K mg "new_syn" ZjE Zob:=⟨_,_,F67,b67,mg_of X G a67⟩
  have F68:=Zy (st:=ZjD) l68 c68 k68
  have b68:=F68.binds (ps:=Zoa) fun _ _ _ _ _ _=>us1 fun _=>rfl
  have D68:Zm K mg "has_more" ZjD Zoa:=⟨_,_,F68,b68,mg_of X G a68⟩
  have F69:=Zy (st:=ZjC) l69 c69 k69
  have b69:=F69.binds (ps:=Zn9) fun _ _ _ _ _ _=>us1 fun _=>rfl
  have D69:Zm K mg "has_new_data" ZjC Zn9:=⟨_,_,F69,b69,mg_of X G a69⟩
  have F70:=Zy (st:=ZjB) l70 c70 k70
  have b70:=F70.binds (ps:=Zn8) fun _ _ _ _ _ _=>us1 fun _=>rfl
  have D70:Zm K mg "unsent" ZjB Zn8:=⟨_,_,F70,b70,mg_of X G a70⟩
  have F71:=Zy (st:=ZjA) l71 c71 k71
  have b71:=F71.binds (ps:=Zn7) fun _ _ _ _ _ _=>us1 fun _=>rfl
  have D71:Zm K mg "has_new_fin" ZjA Zn7:=⟨_,_,F71,b71,mg_of X G a71⟩
  have F72:=Zy (st:=Zjz) l72 c72 k72
  have b72:=F72.binds (ps:=Zn6) fun _ _ _ _ _ _=>us2 fun _ _=>rfl
  have D72:Zm K mg "new_piece" Zjz Zn6:=⟨_,_,F72,b72,mg_of X G a72⟩
  have F73:=Zy (st:=Zjy) l73 c73 k73
  have b73:=F73.binds (ps:=Zn5) fun _ _ _ _ _ _=>us2 fun _ _=>rfl
  have D73:Zm K mg "new_data" Zjy Zn5:=⟨_,_,F73,b73,mg_of X G a73⟩
  have F74:=Zy (st:=Zjx) l74 c74 k74
  have b74:=F74.binds (ps:=Zn4) fun _ _ _ _ _ _=>us1 fun _=>rfl
  have D74:Zm K mg "new_fin" Zjx Zn4:=⟨_,_,F74,b74,mg_of X G a74⟩
  have F75:=Zy (st:=Zjw) l75 c75 k75
  have b75:=F75.binds (ps:=Zn3) fun _ _ _ _ _ _=>us2 fun _ _=>rfl
  have D75:Zm K mg "going_as_probe" Zjw Zn3:=⟨_,_,F75,b75,mg_of X G a75⟩
  have F76:=Zy (st:=Zjv) l76 c76 k76
  have b76:=F76.binds (ps:=Zn2) fun _ _ _ _ _ _=>us1 fun _=>rfl
  have D76:Zm K mg "going_as_answer" Zjv Zn2:=⟨_,_,F76,b76,mg_of X G a76⟩
  have F77:=Zy (st:=Zju) l77 c77 k77
  have b77:=F77.binds (ps:=Zn1) fun _ _ _ _ _ _=>us2 fun _ _=>rfl
  have D77:Zm K mg "_law_cell" Zju Zn1:=⟨_,_,F77,b77,mg_of X G a77⟩
  have F78:=Zy (st:=Zjt) l78 c78 k78
  have b78:=F78.binds (ps:=Zn0) fun _ _ _ _ _ _=>us2 fun _ _=>rfl
  have D78:Zm K mg "_law_mix" Zjt Zn0:=⟨_,_,F78,b78,mg_of X G a78⟩
  have F79:=Zy (st:=Zjs) l79 c79 k79
  have b79:=F79.binds (ps:=ZnZ) fun _ _ _ _ _ _=>us1 fun _=>rfl
  have D79:Zm K mg "_law_two" Zjs ZnZ:=⟨_,_,F79,b79,mg_of X G a79⟩
  have F80:=Zy (st:=Zjr) l80 c80 k80
  have b80:=F80.binds (ps:=ZnY) fun _ _ _ _ _ _=>us1 fun _=>rfl
  have D80:Zm K mg "_law_folded" Zjr ZnY:=⟨_,_,F80,b80,mg_of X G a80⟩
  have F81:=Zy (st:=Zjq) l81 c81 k81
  have b81:=F81.binds (ps:=ZnX) fun _ _ _ _ _ _=>us1 fun _=>rfl
  have D81:Zm K mg "_law_bytes" Zjq ZnX:=⟨_,_,F81,b81,mg_of X G a81⟩
  have F82:=Zy (st:=ZhP) l82 c82 k82
  have b82:=F82.binds (ps:=ZnW) fun _ _ _ _ _ _=>us1 fun _=>rfl
  have D82:Zm K mg "_law_read" ZhP ZnW:=⟨_,_,F82,b82,mg_of X G a82⟩
  have F83:=Zy (st:=Zjp) l83 c83 k83
  have b83:=F83.binds (ps:=ZnV) fun _ _ _ _ _ _=>us1 fun _=>rfl
  have D83:Zm K mg "_law_byte" Zjp ZnV:=⟨_,_,F83,b83,mg_of X G a83⟩
  have F84:=Zy (st:=Zjo) l84 c84 k84
  have b84:=F84.binds (ps:=ZnU) fun _ _ _ _ _ _=>us2 fun _ _=>rfl
  have D84:Zm K mg "_law_plus" Zjo ZnU:=⟨_,_,F84,b84,mg_of X G a84⟩
  have F85:=Zy (st:=Zjn) l85 c85 k85
  have b85:=F85.binds (ps:=ZnT) fun _ _ _ _ _ _=>us1 fun _=>rfl
  have D85:Zm K mg "_law_first" Zjn ZnT:=⟨_,_,F85,b85,mg_of X G a85⟩
  have F86:=Zy (st:=Zjm) l86 c86 k86
  have b86:=F86.binds (ps:=ZnS) fun _ _ _ _ _ _=>us6 fun _ _ _ _ _ _=>rfl
  have D86:Zm K mg "_law_segment" Zjm ZnS:=⟨_,_,F86,b86,mg_of X G a86⟩
  have F87:=Zy (st:=Zjl) l87 c87 k87
  have b87:=F87.binds (ps:=ZnR) fun _ _ _ _ _ _=>us2 fun _ _=>rfl
  have D87:Zm K mg "_law_given" Zjl ZnR:=⟨_,_,F87,b87,mg_of X G a87⟩
  have F88:=Zy (st:=Zjk) l88 c88 k88
  have b88:=F88.binds (ps:=ZnQ) fun _ _ _ _ _ _=>us4 fun _ _ _ _=>rfl
  have D88:Zm K mg "_law_opened" Zjk ZnQ:=⟨_,_,F88,b88,mg_of X G a88⟩
  have F89:=Zy (st:=Zjj) l89 c89 k89
  have b89:=F89.binds (ps:=ZnP) fun _ _ _ _ _ _=>us3 fun _ _ _=>rfl
  have D89:Zm K mg "_law_fill" Zjj ZnP:=⟨_,_,F89,b89,mg_of X G a89⟩
  have F90:=Zy (st:=Zji) l90 c90 k90
  have b90:=F90.binds (ps:=ZnO) fun _ _ _ _ _ _=>us3 fun _ _ _=>rfl
  have D90:Zm K mg "_law_fits" Zji ZnO:=⟨_,_,F90,b90,mg_of X G a90⟩
  have F91:=Zy (st:=Zjh) l91 c91 k91
  have b91:=F91.binds (ps:=ZnN) fun _ _ _ _ _ _=>us4 fun _ _ _ _=>rfl
  have D91:Zm K mg "_law_come" Zjh ZnN:=⟨_,_,F91,b91,mg_of X G a91⟩
  have F92:=Zy (st:=Zf7) l92 c92 k92
  have b92:=F92.binds (ps:=ZnM) fun _ _ _ _ _ _=>us1 fun _=>rfl
  have D92:Zm K mg "law" Zf7 ZnM:=⟨_,_,F92,b92,mg_of X G a92⟩
  refine ⟨fnOf "law" "law" (Zs Zf7) (Zp Zf7) (Zg Zf7) .none kV92 dc92 pm92 an92 cd92 ct92,fun s v=>.of_eq rfl,fun base _ _=>?_⟩
  exact Zr2 law_true (Zt3 F92 D0 D1 D2 D3 D4 D5 D6 D7 D8 D9 D10 D11 D12 D13 D14 D15 D16 D17 D18 D19 D20 D21 D22 D23 D24 D25 D26 D27 D28 D29 D30 D31 D32 D33 D34 D35 D36 D37 D38 D39 D40 D41 D42 D43 D44 D45 D46 D47 D48 D49 D50 D51 D52 D53 D54 D55 D56 D57 D58 D59 D60 D61 D62 D63 D64 D65 D66 D67 D68 D69 D70 D71 D72 D73 D74 D75 D76 D77 D78 D79 D80 D81 D82 D83 D84 D85 D86 D87 D88 D89 D90 D91 g)
theorem ZyH {l:OpenLaw} {q:Program} {loose:List Str} {XP:(Str→Option Value)→Heap→Prop} {YP:World→Heap→Prop} {d:DefRec} {K:Params→Frag} (hn:l.most=some 63) (hdf:d.params.defaults=[])
    (hY:∀(w:World) (h:Heap),YP w h→(K w.params).In h)
    (F:∀(w:World) (mg:Str→Option Value) (fa:Addr) (h:Heap),(K w.params).In h→h.Ns mainGlobals mg→mg d.name=some (.ref fa)→
      ∃fd:FuncData,(∀(s:Shared) (u:Value),BindsTo s fd ⟨[u],[]⟩ [("_law_script",u)])∧∀base:Heap,(K w.params).In base→base.Ns mainGlobals mg→FnOk l.prog w (K w.params) mg base CX0 11 fa fd ["_law_script"] (Zmk (K w.params))) :
    WalkO q loose XP YP l.row.toRowW d [] (fun f vs=>PySem.call f vs):=
  L2.Zq6 (n:=63) (k:=11) (x:="_law_script") (CX:=fun _=>CX0) (sp:=fun w=>Zmk (K w.params)) hn (by decide) hdf ⟨rfl,by decide,by decide⟩ hY F (fun _ H a ns hl hO hS=>⟨a,ns,rfl,hO,hS,hl,fun _=>rfl⟩) fun _ _ _ _ _ z=>z
end My
open PySem PySem.W PyProof.Rows
set_option maxRecDepth 100000 in
set_option maxHeartbeats 0 in
theorem PySem.Challenge.cw_wirestream_k15_what_fits_holds : PySem.Challenge.rw_wirestream_k15_what_fits.Holds := by
  w_on; o_law; k_head; (case hw=>w_witness2)
  k_fill
  refine My.ZyH (l:=PySem.Challenge.rw_wirestream_k15_what_fits) rfl rfl (fun w h Y=>PySem.W.kIn_of Y) ?F
  case F=>
    intro w mg fa h KX G hmg
    refine' My.Zun KX G hmg ?aC_End ?aC_Pile ?a0 ?i0 ?l0 ?c0 ?k0 ?a1 ?l1 ?c1 ?k1 ?a2 ?l2 ?c2 ?k2 ?a3 ?l3 ?c3 ?k3 ?a4 ?l4 ?c4 ?k4 ?a5 ?l5 ?c5 ?k5 ?a6 ?l6 ?c6 ?k6 ?a7 ?i7 ?l7 ?c7 ?k7 ?a8 ?l8 ?c8 ?k8 ?a9 ?l9 ?c9 ?k9 ?a10 ?l10 ?c10 ?k10 ?a11 ?l11 ?c11 ?k11 ?a12 ?l12 ?c12 ?k12 ?a13 ?l13 ?c13 ?k13 ?a14 ?l14 ?c14 ?k14 ?a15 ?l15 ?c15 ?k15 ?a16 ?l16 ?c16 ?k16 ?a17 ?l17 ?c17 ?k17 ?a18 ?l18 ?c18 ?k18 ?a19 ?l19 ?c19 ?k19 ?a20 ?l20 ?c20 ?k20 ?a21 ?l21 ?c21 ?k21 ?a22 ?l22 ?c22 ?k22 ?a23 ?l23 ?c23 ?k23 ?a24 ?l24 ?c24 ?k24 ?a25 ?l25 ?c25 ?k25 ?a26 ?l26 ?c26 ?k26 ?a27 ?l27 ?c27 ?k27 ?a28 ?l28 ?c28 ?k28 ?a29 ?l29 ?c29 ?k29 ?a30 ?l30 ?c30 ?k30 ?a31 ?l31 ?c31 ?k31 ?a32 ?l32 ?c32 ?k32 ?a33 ?l33 ?c33 ?k33 ?a34 ?l34 ?c34 ?k34 ?a35 ?l35 ?c35 ?k35 ?a36 ?l36 ?c36 ?k36 ?a37 ?l37 ?c37 ?k37 ?a38 ?l38 ?c38 ?k38 ?a39 ?l39 ?c39 ?k39 ?a40 ?l40 ?c40 ?k40 ?a41 ?l41 ?c41 ?k41 ?a42 ?l42 ?c42 ?k42 ?a43 ?l43 ?c43 ?k43 ?a44 ?l44 ?c44 ?k44 ?a45 ?l45 ?c45 ?k45 ?a46 ?l46 ?c46 ?k46 ?a47 ?l47 ?c47 ?k47 ?a48 ?l48 ?c48 ?k48 ?a49 ?l49 ?c49 ?k49 ?a50 ?l50 ?c50 ?k50 ?a51 ?l51 ?c51 ?k51 ?a52 ?l52 ?c52 ?k52 ?a53 ?l53 ?c53 ?k53 ?a54 ?l54 ?c54 ?k54 ?a55 ?l55 ?c55 ?k55 ?a56 ?l56 ?c56 ?k56 ?a57 ?l57 ?c57 ?k57 ?a58 ?l58 ?c58 ?k58 ?a59 ?l59 ?c59 ?k59 ?a60 ?l60 ?c60 ?k60 ?a61 ?l61 ?c61 ?k61 ?a62 ?l62 ?c62 ?k62 ?a63 ?l63 ?c63 ?k63 ?a64 ?l64 ?c64 ?k64 ?a65 ?l65 ?c65 ?k65 ?a66 ?l66 ?c66 ?k66 ?a67 ?l67 ?c67 ?k67 ?a68 ?l68 ?c68 ?k68 ?a69 ?l69 ?c69 ?k69 ?a70 ?l70 ?c70 ?k70 ?a71 ?l71 ?c71 ?k71 ?a72 ?l72 ?c72 ?k72 ?a73 ?l73 ?c73 ?k73 ?a74 ?l74 ?c74 ?k74 ?a75 ?l75 ?c75 ?k75 ?a76 ?l76 ?c76 ?k76 ?a77 ?l77 ?c77 ?k77 ?a78 ?l78 ?c78 ?k78 ?a79 ?l79 ?c79 ?k79 ?a80 ?l80 ?c80 ?k80 ?a81 ?l81 ?c81 ?k81 ?a82 ?l82 ?c82 ?k82 ?a83 ?l83 ?c83 ?k83 ?a84 ?l84 ?c84 ?k84 ?a85 ?l85 ?c85 ?k85 ?a86 ?l86 ?c86 ?k86 ?a87 ?l87 ?c87 ?k87 ?a88 ?l88 ?c88 ?k88 ?a89 ?l89 ?c89 ?k89 ?a90 ?l90 ?c90 ?k90 ?a91 ?l91 ?c91 ?k91 ?a92 ?l92 ?c92 ?k92 ?pg_End ?hd_End ?po_End ?sa_End ?mk_End ?kc_End ?pg_Pile ?hd_Pile ?po_Pile ?sa_Pile ?mk_Pile ?kc_Pile ?zA0 ?zA1 ?zA2 ?zA3 ?zA4 ?zA5 ?zA6 ?zA7 ?zA8 ?zA9 ?zA10 ?zA11 ?zA12 ?zA13 ?zA14 ?zA15 ?zA16 ?zA17 ?zA18 ?zA19 ?zA20 ?zA21 ?zA22 ?zA23 ?zA24 ?zA25 ?zg0 ?zg1 ?zg2 ?zg3 ?zg4 ?zg5 ?zg6 ?zg7 ?zg8 ?zg9 ?zg10 ?zg11 ?zg12 ?zg13 ?zg14 ?zg15 ?zg16 ?zg17 ?zg18 ?zg19 ?zg20 ?zg21 ?zg22 ?zg23 ?zg24 ?zg25 ?zg26 ?zg27 ?zg28 ?zg29 ?zg30 ?zg31 ?zg32 ?zg33 ?zg34 ?zg35 ?zg36 ?zg37 ?zg38 ?zg39 ?zg40 ?zg41 ?zg42 ?zg43 ?z_all ?z_bool ?z_enumerate ?z_int ?z_isinstance ?z_len ?z_list ?z_max ?z_min ?z_range ?z_sum ?z_tuple
    case aC_End | aC_Pile | a0 | i0 | l0 | c0 | k0 | a1 | l1 | c1 | k1 | a2 | l2 | c2 | k2 | a3 | l3 | c3 | k3 | a4 | l4 | c4 | k4 | a5 | l5 | c5 | k5 | a6 | l6 | c6 | k6 | a7 | i7 | l7 | c7 | k7 | a8 | l8 | c8 | k8 | a9 | l9 | c9 | k9 | a10 | l10 | c10 | k10 | a11 | l11 | c11 | k11 | a12 | l12 | c12 | k12 | a13 | l13 | c13 | k13 | a14 | l14 | c14 | k14 | a15 | l15 | c15 | k15 | a16 | l16 | c16 | k16 | a17 | l17 | c17 | k17 | a18 | l18 | c18 | k18 | a19 | l19 | c19 | k19 | a20 | l20 | c20 | k20 | a21 | l21 | c21 | k21 | a22 | l22 | c22 | k22 | a23 | l23 | c23 | k23 | a24 | l24 | c24 | k24 | a25 | l25 | c25 | k25 | a26 | l26 | c26 | k26 | a27 | l27 | c27 | k27 | a28 | l28 | c28 | k28 | a29 | l29 | c29 | k29 | a30 | l30 | c30 | k30 | a31 | l31 | c31 | k31 | a32 | l32 | c32 | k32 | a33 | l33 | c33 | k33 | a34 | l34 | c34 | k34 | a35 | l35 | c35 | k35 | a36 | l36 | c36 | k36 | a37 | l37 | c37 | k37 | a38 | l38 | c38 | k38 | a39 | l39 | c39 | k39 | a40 | l40 | c40 | k40 | a41 | l41 | c41 | k41 | a42 | l42 | c42 | k42 | a43 | l43 | c43 | k43 | a44 | l44 | c44 | k44 | a45 | l45 | c45 | k45 | a46 | l46 | c46 | k46 | a47 | l47 | c47 | k47 | a48 | l48 | c48 | k48 | a49 | l49 | c49 | k49 | a50 | l50 | c50 | k50 | a51 | l51 | c51 | k51 | a52 | l52 | c52 | k52 | a53 | l53 | c53 | k53 | a54 | l54 | c54 | k54 | a55 | l55 | c55 | k55 | a56 | l56 | c56 | k56 | a57 | l57 | c57 | k57 | a58 | l58 | c58 | k58 | a59 | l59 | c59 | k59 | a60 | l60 | c60 | k60 | a61 | l61 | c61 | k61 | a62 | l62 | c62 | k62 | a63 | l63 | c63 | k63 | a64 | l64 | c64 | k64 | a65 | l65 | c65 | k65 | a66 | l66 | c66 | k66 | a67 | l67 | c67 | k67 | a68 | l68 | c68 | k68 | a69 | l69 | c69 | k69 | a70 | l70 | c70 | k70 | a71 | l71 | c71 | k71 | a72 | l72 | c72 | k72 | a73 | l73 | c73 | k73 | a74 | l74 | c74 | k74 | a75 | l75 | c75 | k75 | a76 | l76 | c76 | k76 | a77 | l77 | c77 | k77 | a78 | l78 | c78 | k78 | a79 | l79 | c79 | k79 | a80 | l80 | c80 | k80 | a81 | l81 | c81 | k81 | a82 | l82 | c82 | k82 | a83 | l83 | c83 | k83 | a84 | l84 | c84 | k84 | a85 | l85 | c85 | k85 | a86 | l86 | c86 | k86 | a87 | l87 | c87 | k87 | a88 | l88 | c88 | k88 | a89 | l89 | c89 | k89 | a90 | l90 | c90 | k90 | a91 | l91 | c91 | k91 | a92 | l92 | c92 | k92 | pg_End | hd_End | po_End | sa_End | mk_End | kc_End | pg_Pile | hd_Pile | po_Pile | sa_Pile | mk_Pile | kc_Pile | zA0 | zA1 | zA2 | zA3 | zA4 | zA5 | zA6 | zA7 | zA8 | zA9 | zA10 | zA11 | zA12 | zA13 | zA14 | zA15 | zA16 | zA17 | zA18 | zA19 | zA20 | zA21 | zA22 | zA23 | zA24 | zA25 | zg0 | zg1 | zg2 | zg3 | zg4 | zg5 | zg6 | zg7 | zg8 | zg9 | zg10 | zg11 | zg12 | zg13 | zg14 | zg15 | zg16 | zg17 | zg18 | zg19 | zg20 | zg21 | zg22 | zg23 | zg24 | zg25 | zg26 | zg27 | zg28 | zg29 | zg30 | zg31 | zg32 | zg33 | zg34 | zg35 | zg36 | zg37 | zg38 | zg39 | zg40 | zg41 | zg42 | zg43 | z_all | z_bool | z_enumerate | z_int | z_isinstance | z_len | z_list | z_max | z_min | z_range | z_sum | z_tuple=>k_is
#print axioms PySem.Challenge.cw_wirestream_k15_what_fits_holds
